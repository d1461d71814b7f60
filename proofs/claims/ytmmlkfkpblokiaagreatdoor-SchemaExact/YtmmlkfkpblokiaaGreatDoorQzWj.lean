import Derived.Test.YtmmlkfkpblokiaaGreatDoorQzWd
set_option maxRecDepth 100000
set_option maxHeartbeats 16000000
namespace Go.Proofs.YtmmlkfkpblokiaaGreatDoor
open Go Go.RowKit Go.Sort
attribute [local go_sem] setCell_drewN alloc_drewN
def GivesB (w:World) (f:FuncId) (args:Array Value) (v:Value):Prop:=∀W,Below w.heap.size w W→Calls Tryz.prog f args W fun e w'=>e=.returned v∧Below W.heap.size W w'
theorem GivesB.keep {w W:World} {f:FuncId} {args:Array Value} {v:Value} (h:GivesB w f args v) (hb:Below w.heap.size w W):GivesB W f args v:=fun V hV=>h V (Below.after hb hV)
theorem GivesB.re {w:World} {f:FuncId} {args:Array Value} {v:Value} (h:GivesB w f args v) {d:Nat} {os:Array Obj}:Calls Tryz.prog f args (grow (redrawn w d) os) fun e w''=>e=.returned v∧∃p:Regrown,w''=grow (redrawn w p.d) p.os:=Calls.regrown_of (h _ (below_regrown w d os))
theorem GivesB.at {w:World} {f:FuncId} {args:Array Value} {v:Value} (h:GivesB w f args v):Calls Tryz.prog f args w fun e w'=>e=.returned v∧Below w.heap.size w w':=h w (Below.refl _ _)
def itm (p:List B):List B:=en p.length++p
def jn:List (List B)→List B
 |[]=>[]
 |p::l=>itm p++jn l
theorem jn_app (a b:List (List B)):jn (a++b)=jn a++jn b:=by
 induction a with
 |nil=>rfl
 |cons p l ih=>rw[List.cons_append,jn,jn,ih,List.append_assoc]
theorem jn_one (p:List B):jn [p]=itm p:=by rw[jn,jn,List.append_nil]
theorem itm_len (p:List B):(itm p).length=(en p.length).length+p.length:=by rw[itm,List.length_append]
def gp (ps:List (List B)) (i:Nat):List B:=ps.getD i []
theorem take_snoc (ps:List (List B)) (k:Nat) (h:k<ps.length):ps.take (k+1)=ps.take k++[gp ps k]:=by
 rw[List.take_succ_eq_append_getElem h,gp,List.getD_eq_getElem?_getD,List.getElem?_eq_getElem h];rfl
theorem jn_snoc (ps:List (List B)) (k:Nat) (h:k<ps.length):jn (ps.take (k+1))=jn (ps.take k)++itm (gp ps k):=by
 rw[take_snoc ps k h,jn_app,jn_one]
theorem jn_mono (ps:List (List B)) (k:Nat):(jn (ps.take k)).length≤(jn ps).length:=by
 conv=>rhs;rw[←List.take_append_drop k ps,jn_app,List.length_append]
 omega
def PcB (W:World) (v:Value) (ps:List (List B)):Prop:=∃ao cap,v=.slice ao ps.length cap∧ps.length≤5864062014634∧(ao=none→cap=0)∧∀i,i<ps.length→∃b off u,ao=some ⟨b,off,none⟩∧b<W.heap.size∧W.cell? ⟨b,off+i,none⟩=some u∧BysB W u (gp ps i)∧(gp ps i).length≤140737488351232
theorem PcB.keep {W V:World} {v:Value} {ps:List (List B)} (h:PcB W v ps) (hb:Below W.heap.size W V):PcB V v ps:=by
 obtain⟨ao,cap,e,hl,hn,hc⟩:=h
 refine⟨ao,cap,e,hl,hn,fun i hi=>?_⟩
 obtain⟨b,off,u,e1,h1,h2,h3,h4⟩:=hc i hi;exact⟨b,off,u,e1,Nat.lt_of_lt_of_le h1 hb.size,(hb.cell h1).trans h2,h3.keep hb,h4⟩
theorem PcB.form {W:World} {v:Value} {ps:List (List B)} (h:PcB W v ps):∃ao cap,v=.slice ao ps.length cap:=by
 obtain⟨ao,cap,e,_⟩:=h;exact⟨ao,cap,e⟩
theorem PcB.at {W:World} {ao:Option Addr} {l cap:Nat} {ps:List (List B)} (h:PcB W (.slice ao l cap) ps) {i:Nat} (hi:i<ps.length):∃b off u uc,ao=some ⟨b,off,none⟩∧b<W.heap.size∧W.cell? ⟨b,off+i,none⟩=some (.slice u (gp ps i).length uc)∧BysB W (.slice u (gp ps i).length uc) (gp ps i)∧(gp ps i).length≤140737488351232:=by
 obtain⟨ao',cap',e,_,_,hc⟩:=h
 cases e
 obtain⟨b,off,u,e1,h1,h2,h3,h4⟩:=hc i hi;obtain⟨uo,uc,rfl⟩:=h3.form;exact⟨b,off,uo,uc,e1,h1,h2,h3,h4⟩
theorem PcB.len {W:World} {v:Value} {ps:List (List B)} (h:PcB W v ps):ps.length≤5864062014634:=by
 obtain⟨_,_,_,hl,_⟩:=h;exact hl
theorem a_sizeOfItem (p:List B) (ao:Option Addr) (cap:Nat) (hl:p.length≤140737488351232):Gives 103 #[.slice ao p.length cap] (.int .i64 ((itm p).length:Int)):=by
 intro w
 have hten:=en_ten (n:=p.length) (by omega)
 have hS:=a_size p.length (by omega) w
 have hlen:=itm_len p
 generalize (itm p).length=L at *
 generalize (en p.length).length=N at *
 go_enter Tryz.func103,Tryz.ntmps103
 go_wp2_with (fail)
 refine hS.mono ?_;rintro e_ w1 ⟨rfl,hb⟩
 go_wp2
 go_ret
 exact⟨by rw[hlen,Int.natCast_add];rfl,hb⟩
theorem a_addItem (d p:List B) (base:Nat) (w:World) (v u:Value) (hO:Own w base v d) (hu:BysB w u p) (hbl:∀V,Below base w V→BysB V u p) (hb:base≤w.heap.size) (hl:d.length+(itm p).length≤140737488355000):Calls Tryz.prog 106 #[v,u] w fun e w'=>∃x,e=.returned x∧Own w' base x (d++itm p)∧Below base w w':=by
 have hpl:=hu.2.1;have hlen:=itm_len p;obtain⟨uo,uc,rfl⟩:=hu.form
 have cN:=a_addNumber d p.length (by omega) base w v hO hb (by have:=en_pos p.length;have:=en_ten (n:=p.length) (by omega);omega)
 go_enter Tryz.func106,Tryz.ntmps106
 go_wp2_with (fail)
 refine cN.mono ?_;rintro e_ w1 ⟨x,rfl,hx,hb1⟩;clear cN;have hE:=hbl w1 hb1;have hs1:=hb1.size
 have hx2:(d++en p.length).length+p.length≤140737488355328:=by rw[List.length_append];omega
 have hfin:(d++en p.length)++p=d++itm p:=by rw[itm,List.append_assoc]
 generalize hD:d++en p.length=D at *
 go_wp2_with (at_builtin;refine wpList_append_B rfl _ _ rfl base _ D rfl hx _ p rfl hE hx2 (by omega) ?_)
 intro v2 w2 hO2 hgr
 have hw2:Below base w w2:=hb1.grown hgr (by omega) (own_low hx)
 clear hgr hx hb1
 go_wp2
 go_ret;exact⟨v2,rfl,hO2,hw2⟩
theorem jn_bd (ps:List (List B)) (h:∀i,i<ps.length→(gp ps i).length≤140737488351232):∀k,k≤ps.length→(jn (ps.take k)).length≤k*140737488351250
 |0,_=>by simp[jn]
 |k+1,hk=>by
  have h1:=jn_bd ps h k (by omega)
  have h2:=h k (by omega)
  have h3:=en_ten (n:=(gp ps k).length) (by omega)
  rw[jn_snoc ps k (by omega),List.length_append,itm_len]
  omega
def jbad (ps:List (List B)):Prop:=4096<ps.length∨4194304<(jn ps).length
instance (ps:List (List B)):Decidable (jbad ps):=by unfold jbad;exact inferInstance
def jout (ps:List (List B)):List B:=if jbad ps then[] else jn ps
def jer (ps:List (List B)):Int:=if jbad ps then 2 else 0
theorem own_none (W:World) (b:Nat):Own W b nS []:=⟨rfl,.inl ⟨rfl,rfl⟩⟩
theorem a_join (ps:List (List B)) (w:World) (v:Value) (hB:PcB w v ps):Calls Tryz.prog 140 #[v] w fun e w'=>∃u,e=.returned (.tuple #[u,.int .i64 (jer ps)])∧Own w' w.heap.size u (jout ps)∧Below w.heap.size w w':=by
 have hlen:=hB.len
 have hbd:=jn_bd ps (fun i hi=>by obtain⟨_,_,_,_,_,hc⟩:=id hB;obtain⟨_,_,_,_,_,_,_,h⟩:=hc i hi;exact h)
 obtain⟨ao,cap,rfl⟩:=hB.form;obtain⟨i0,hi,hz0,hz1,hz2⟩:=info8
 by_cases h1:4096<ps.length
 ·have d1:decide ((ps.length:Int)>4096)=true:=by simp;omega
  have e1:jer ps=2:=if_pos (.inl h1)
  have e2:jout ps=[]:=if_pos (.inl h1);rw[e1,e2];clear hbd e1 e2
  go_enter Tryz.func140,Tryz.ntmps140
  go_wp2_with (fail)
  go_ret2;exact⟨_,rfl,own_none _ _,Below.refl _ _⟩
 ·have d1:decide ((ps.length:Int)>4096)=false:=by simp;omega
  go_enter Tryz.func140,Tryz.ntmps140
  go_wp2_with (fail)
  go_loopw [4,15] (fun s i wr=>∃k:Nat,k≤ps.length∧i=.int .i64 k∧s=.int .i64 ((jn (ps.take k)).length:Int)∧Below w.heap.size w wr) (fun _ i _=>ps.length-(intOf i).toNat)
  case atStart=>exact⟨0,by omega,rfl,rfl,Below.refl _ _⟩
  case round=>
   obtain⟨k,hk,rfl,rfl,hw⟩:=hrel
   by_cases hlt:k<ps.length
   ·have hd:decide ((k:Int)<(ps.length:Int))=true:=by simp;omega
    obtain⟨b,off,uo,uc,e,hb1,hb2,hb3,hb4⟩:=hB.at hlt
    subst e;replace hb2:=(hw.cell (p:=⟨b,off+k,none⟩) hb1).trans hb2
    have hbk:=hbd (k+1) (by omega)
    rw[jn_snoc ps k hlt,List.length_append] at hbk
    have hsn:Hid ((jn (ps.take (k+1))).length=(jn (ps.take k)).length+(itm (gp ps k)).length):=hide (by rw[jn_snoc ps k hlt,List.length_append])
    have cS:=a_sizeOfItem (gp ps k) uo uc hb4 wr
    have hk1:0≤(k:Int)∧(k:Int)<(ps.length:Int):=by omega
    clear hB hbd hb3
    generalize (jn (ps.take k)).length=S at *
    generalize (itm (gp ps k)).length=I at *
    generalize (gp ps k).length=P at *
    go_wp2_with (fail)
    refine cS.mono ?_;rintro e_ w1 ⟨rfl,hb⟩;replace hw:=Below.after hw hb;clear cS hb
    have hsum:(S:Int)+(I:Int)≤9223372036854775807:=by omega
    go_wp2_with (fail)
    refine⟨⟨k+1,by omega,by go_num,by rw[hsn.out,Int.natCast_add],hw⟩,?_⟩
    simp[intOf];omega
   ·obtain rfl:k=ps.length:=by omega
    have hd:decide ((ps.length:Int)<(ps.length:Int))=false:=by simp
    rw[List.take_length];clear hbd
    by_cases h2:4194304<(jn ps).length
    ·have e1:jer ps=2:=if_pos (.inr h2)
     have e2:jout ps=[]:=if_pos (.inr h2)
     have hfin:Hid (jer ps=2∧jout ps=[]):=hide ⟨e1,e2⟩;clear e1 e2
     generalize (jn ps).length=S at *
     have d2:decide ((S:Int)>4194304)=true:=by simp;omega
     go_wp2_with (fail)
     go_ret2;rw[hfin.out.1,hfin.out.2];exact⟨_,rfl,own_none _ _,hw⟩
    ·have hnb:¬jbad ps:=by unfold jbad;omega
     have e1:jer ps=0:=if_neg hnb
     have e2:jout ps=jn ps:=if_neg hnb;have hfin:Hid (jer ps=0∧jout ps=jn ps):=hide ⟨e1,e2⟩;clear e1 e2;have hmono:=jn_mono ps
     have hmk:=make_lc 0 (jn ps).length (by omega) (by omega) wr
     rw[show((0:Nat):Int)=0 from rfl] at hmk
     have r0:=hp1_0 wr (.cells (irow .u8 (zr (jn ps).length)) 5);have hw0:=hw.alloc hw.size (.cells (irow .u8 (zr (jn ps).length)) 5)
     have hO0:Own (wr.alloc (.cells (irow .u8 (zr (jn ps).length)) 5)) w.heap.size (.slice (some ⟨wr.heap.size,0,none⟩) 0 (jn ps).length) []:=by
      have:=own_of_row (d:=[]) (T:=zr (jn ps).length) (b:=w.heap.size) r0 hw.size (by rw[zr_len];unfold maxLen;simp;omega)
      rw[zr_len] at this
      simpa using this
     clear r0 hnb
     generalize hS:(jn ps).length=S at *
     have d2:decide ((S:Int)>4194304)=false:=by simp;omega
     go_wp2_with (fail)
     generalize wr.alloc (.cells (irow .u8 (zr S)) 5)=w2 at *
     clear hmk
     go_loopw [7,30] (fun s i wr=>∃(k:Nat) (so:Option Addr) (sc:Nat),k≤ps.length∧i=.int .i64 k∧s=.slice so (jn (ps.take k)).length sc∧Own wr w.heap.size (.slice so (jn (ps.take k)).length sc) (jn (ps.take k))∧Below w.heap.size w wr) (fun _ i _=>ps.length-(intOf i).toNat)
     case atStart=>exact⟨0,_,_,by omega,rfl,rfl,hO0,hw0⟩
     case round=>
      clear hO0 hw0 hw;obtain⟨k,so,sc,hk,rfl,rfl,hO,hw⟩:=hrel
      by_cases hlt:k<ps.length
      ·have hd2:decide ((k:Int)<(ps.length:Int))=true:=by simp;omega
       obtain⟨b,off,uo,uc,e,hb1,hb2,hb3,hb4⟩:=hB.at hlt
       subst e;replace hb2:=(hw.cell (p:=⟨b,off+k,none⟩) hb1).trans hb2;have hsn:Hid (jn (ps.take (k+1))=jn (ps.take k)++itm (gp ps k)):=hide (jn_snoc ps k hlt);have hmk:=hmono (k+1);rw[hsn.out,List.length_append] at hmk
       have cA:=a_addItem (jn (ps.take k)) (gp ps k) w.heap.size wr _ _ hO (hb3.keep hw) (fun V hV=>hb3.keep (hw.trans hV)) hw.size (by omega)
       have hk1:0≤(k:Int)∧(k:Int)<(ps.length:Int):=by omega
       clear hb3 hO hmk
       generalize jn (ps.take k)=J at *
       generalize itm (gp ps k)=I at *
       generalize (gp ps k).length=P at *
       go_wp2_with (fail)
       refine cA.mono ?_;rintro e_ w3 ⟨x,rfl,hx,hb⟩;replace hw:=hw.trans hb;obtain⟨xo,xc,rfl⟩:=slen_own hx;clear cA hb
       go_wp2_with (fail)
       refine⟨⟨k+1,xo,xc,by omega,by go_num,by rw[hsn.out,List.length_append],by rw[hsn.out];exact hx,hw⟩,?_⟩
       simp[intOf];omega
      ·obtain rfl:k=ps.length:=by omega
       have hd2:decide ((ps.length:Int)<(ps.length:Int))=false:=by simp
       rw[List.take_length] at hO;rw[List.take_length]
       generalize hJ:jn ps=J at *
       go_wp2_with (fail)
       go_ret2;rw[hfin.out.1,hfin.out.2];exact⟨_,rfl,hO,hw⟩
theorem Gives.toB {f:FuncId} {args:Array Value} {v:Value} (h:Gives f args v) (w:World):GivesB w f args v:=fun W _=>h W
theorem r_join (ps:List (List B)) (w:World) (v:Value) (hB:PcB w v ps):Calls Tryz.prog 55 #[v] w fun e w'=>∃u,e=.returned (.tuple #[u,.int .i64 (jer ps)])∧Own w' w.heap.size u (jout ps)∧Below w.heap.size w w':=by
 have hlen:=hB.len;have hmono:=jn_mono ps;obtain⟨ao,cap,rfl⟩:=hB.form;obtain⟨i0,hi,hz0,hz1,hz2⟩:=info8
 by_cases h1:4096<ps.length
 ·have d1:decide ((ps.length:Int)>4096)=true:=by simp;omega
  have e1:jer ps=2:=if_pos (.inl h1)
  have e2:jout ps=[]:=if_pos (.inl h1);rw[e1,e2];clear e1 e2
  go_enter Tryz.func55,Tryz.ntmps55
  go_wp2_with (fail)
  go_ret2;exact⟨_,rfl,own_none _ _,Below.refl _ _⟩
 ·have d1:decide ((ps.length:Int)>4096)=false:=by simp;omega
  go_enter Tryz.func55,Tryz.ntmps55
  go_wp2_with (fail)
  go_loopw [4,5] (fun s i wr=>∃k:Nat,k≤ps.length∧i=.int .i64 k∧s=.int .i64 ((jn (ps.take k)).length:Int)∧(jn (ps.take k)).length≤4194304∧Below w.heap.size w wr) (fun _ i _=>ps.length-(intOf i).toNat)
  case atStart=>exact⟨0,by omega,rfl,rfl,by simp[jn],Below.refl _ _⟩
  case round=>
   obtain⟨k,hk,rfl,rfl,hsz,hw⟩:=hrel
   by_cases hlt:k<ps.length
   ·have hd:decide ((k:Int)<(ps.length:Int))=true:=by simp;omega
    obtain⟨b,off,uo,uc,e,hb1,hb2,hb3,hb4⟩:=hB.at hlt
    subst e;replace hb2:=(hw.cell (p:=⟨b,off+k,none⟩) hb1).trans hb2
    have hsn:Hid ((jn (ps.take (k+1))).length=(jn (ps.take k)).length+(itm (gp ps k)).length):=hide (by rw[jn_snoc ps k hlt,List.length_append])
    have hit:=itm_len (gp ps k)
    have hten:=en_ten (n:=(gp ps k).length) (by omega)
    have cS:=(r_size (gp ps k).length (by omega)).toB wr
    have hk1:0≤(k:Int)∧(k:Int)<(ps.length:Int):=by omega
    have hmk:Hid ((jn (ps.take (k+1))).length≤(jn ps).length):=hide (hmono (k+1))
    have hbadk:Hid (4194304<(jn (ps.take (k+1))).length→jer ps=2∧jout ps=[]):=hide (fun h=>⟨if_pos (.inr (by have:=hmono (k+1);omega)),if_pos (.inr (by have:=hmono (k+1);omega))⟩)
    clear hB hb3 hmono
    generalize (jn (ps.take k)).length=S at *
    generalize (itm (gp ps k)).length=I at *
    generalize (en (gp ps k).length).length=E at *
    generalize (gp ps k).length=P at *
    go_wp2_with (fail)
    have k1:∀p:Regrown,(grow (redrawn wr p.d) p.os).cell? ⟨b,off+k,none⟩=some (.slice uo P uc):=fun p=>cell_regrown (hb2) p.d p.os
    refine wp_region_quiet_below (by kernel_rfl) (by kernel_rfl) ?_
    go_big_quiet_step (fail);go_big_quiet_step (fail);go_big_quiet_step (fail);go_big_quiet_step (fail);go_big_quiet_step (fail);go_big_quiet_step (fail);go_big_quiet_step (fail);go_big_quiet_step (exact cS.re);go_big_quiet_step (fail);go_big_quiet_step (fail);go_big_quiet_step (fail);go_big_quiet_step (fail);go_big_quiet_step (fail);go_big_quiet_step (fail);go_big_quiet_step (fail);go_big_quiet_step (fail);refine wpQuiet_nil ?_;rintro _ ⟨p,rfl⟩;have hbb:=below_regrown wr p.d p.os
    generalize grow (redrawn wr p.d) p.os=w9 at *
    clear k1 cS;replace hw:=Below.after hw hbb;clear hbb
    by_cases h2:4194304<S+E+P
    ·have d2:decide ((S:Int)+(E:Int)+(P:Int)>4194304)=true:=by simp;omega
     have hfin:=hbadk.out (by rw[hsn.out];omega)
     replace hfin:=hide hfin
     go_wp2_with (fail)
     go_ret2;rw[hfin.out.1,hfin.out.2];exact⟨_,rfl,own_none _ _,hw⟩
    ·have d2:decide ((S:Int)+(E:Int)+(P:Int)>4194304)=false:=by simp;omega
     go_wp2_with (fail)
     refine⟨⟨k+1,by omega,by go_num,by rw[hsn.out,hit];go_num,by rw[hsn.out];omega,hw⟩,?_⟩
     simp[intOf];omega
   ·obtain rfl:k=ps.length:=by omega
    have hd:decide ((ps.length:Int)<(ps.length:Int))=false:=by simp
    rw[List.take_length] at hsz;rw[List.take_length]
    have hnb:¬jbad ps:=by unfold jbad;omega
    have e1:jer ps=0:=if_neg hnb;have e2:jout ps=jn ps:=if_neg hnb;have hfin:Hid (jer ps=0∧jout ps=jn ps):=hide ⟨e1,e2⟩;clear e1 e2
    have hmk:=make_lc 0 (jn ps).length (by omega) (by omega) wr
    rw[show((0:Nat):Int)=0 from rfl] at hmk
    have r0:=hp1_0 wr (.cells (irow .u8 (zr (jn ps).length)) 5);have hw0:=hw.alloc hw.size (.cells (irow .u8 (zr (jn ps).length)) 5)
    have hO0:Own (wr.alloc (.cells (irow .u8 (zr (jn ps).length)) 5)) w.heap.size (.slice (some ⟨wr.heap.size,0,none⟩) 0 (jn ps).length) []:=by
     have:=own_of_row (d:=[]) (T:=zr (jn ps).length) (b:=w.heap.size) r0 hw.size (by rw[zr_len];unfold maxLen;simp;omega)
     rw[zr_len] at this
     simpa using this
    clear r0 hnb
    generalize hS:(jn ps).length=S at *
    go_wp2_with (fail)
    generalize wr.alloc (.cells (irow .u8 (zr S)) 5)=w2 at *
    clear hmk
    go_loopw [6,7] (fun s i wr=>∃(k:Nat) (so:Option Addr) (sc:Nat),k≤ps.length∧i=.int .i64 k∧s=.slice so (jn (ps.take k)).length sc∧Own wr w.heap.size (.slice so (jn (ps.take k)).length sc) (jn (ps.take k))∧Below w.heap.size w wr) (fun _ i _=>ps.length-(intOf i).toNat)
    case atStart=>exact⟨0,_,_,by omega,rfl,rfl,hO0,hw0⟩
    case round=>
     clear hO0 hw0 hw;obtain⟨k,so,sc,hk,rfl,rfl,hO,hw⟩:=hrel
     by_cases hlt:k<ps.length
     ·have hd2:decide ((k:Int)<(ps.length:Int))=true:=by simp;omega
      obtain⟨b,off,uo,uc,e,hb1,hb2,hb3,hb4⟩:=hB.at hlt
      subst e;have hb2k:=hb2;replace hb2:=(hw.cell (p:=⟨b,off+k,none⟩) hb1).trans hb2
      have hsn:Hid (jn (ps.take (k+1))=jn (ps.take k)++en (gp ps k).length++gp ps k):=hide (by rw[jn_snoc ps k hlt,itm,List.append_assoc])
      have hmk:=hmono (k+1);rw[hsn.out,List.length_append,List.length_append] at hmk
      have cP:=r_put [] (gp ps k).length (by omega) wr _ (bys_nil wr)
      rw[List.nil_append] at cP
      have hk1:0≤(k:Int)∧(k:Int)<(ps.length:Int):=by omega
      generalize jn (ps.take k)=J at *
      generalize hE:en (gp ps k).length=E at *
      generalize hP:gp ps k=P at *
      go_wp2_with (fail)
      refine cP.mono ?_;rintro e_ w3 ⟨x,rfl,hx,hb⟩;replace hw:=Below.after hw hb;replace hO:=hO.keep hb;clear cP hb
      have hxB:=hx.bysB (by omega)
      go_wp2_with (at_builtin;refine wpList_append_B rfl (.tmp 42) (.tmp 49) rfl w.heap.size _ J rfl hO _ E rfl hxB (by omega) hw.size ?_)
      intro v4 w4 hO4 hgr;replace hw:=hw.grown hgr hw.size (own_low hO);clear hgr hx hxB hO;obtain⟨ao4,ac4,hv4⟩:=slen_own hO4;have hb2':=(hw.cell (p:=⟨b,off+k,none⟩) hb1).trans hb2k;have hE5:=hb3.keep hw
      have hl5:(J++E).length+P.length≤140737488355328:=by rw[List.length_append];omega
      generalize hJE:J++E=JE at *
      subst hv4
      go_wp2_with (at_builtin;refine wpList_append_B rfl (.tmp 51) (.tmp 55) rfl w.heap.size _ JE rfl hO4 _ P rfl hE5 hl5 hw.size ?_)
      intro v5 w5 hO5 hgr;replace hw:=hw.grown hgr hw.size (own_low hO4);obtain⟨ao5,ac5,rfl⟩:=slen_own hO5;clear hgr hO4
      go_wp2_with (fail)
      refine⟨⟨k+1,ao5,ac5,by omega,by go_num,by rw[hsn.out,List.length_append],by rw[hsn.out];exact hO5,hw⟩,?_⟩
      simp[intOf];omega
     ·obtain rfl:k=ps.length:=by omega
      have hd2:decide ((ps.length:Int)<(ps.length:Int))=false:=by simp
      rw[List.take_length] at hO;rw[List.take_length]
      generalize hJ:jn ps=J at *
      go_wp2_with (fail)
      go_ret2;rw[hfin.out.1,hfin.out.2];exact⟨_,rfl,hO,hw⟩
inductive Slt where
 |mk (no kind:Int) (least most:Nat) (sub:List Slt)
namespace Slt
def no:Slt→Int
 | .mk n _ _ _ _=>n
def kind:Slt→Int
 | .mk _ k _ _ _=>k
def least:Slt→Nat
 | .mk _ _ l _ _=>l
def most:Slt→Nat
 | .mk _ _ _ m _=>m
def sub:Slt→List Slt
 | .mk _ _ _ _ s=>s
end Slt
def s0:Slt:=.mk 0 0 0 0 []
def gs (ts:List Slt) (i:Nat):Slt:=ts.getD i s0
def gvs (us:List Value) (i:Nat):Value:=us.getD i undef
def srow (t:Slt) (u:Value):List Value:=[.int .i64 t.no,.int .i64 t.kind,.int .u64 (t.least:Int),.int .u64 (t.most:Int),u]
def Sok (t:Slt):Prop:=(-9223372036854775808≤t.no∧t.no≤9223372036854775807)∧(-9223372036854775808≤t.kind∧t.kind≤9223372036854775807)∧t.least<18446744073709551616∧t.most<18446744073709551616
inductive Slo (W:World):Value→List Slt→Prop
 |mk (ao:Option Addr) (cap:Nat) (ts:List Slt) (us:List Value) (hl:ts.length≤2932031007317) (hc:ts.length≤cap) (hn:ao=none→cap=0)
  (h:∀i,i<ts.length→∃b off,ao=some ⟨b,off,none⟩∧b<W.heap.size∧W.rangeAt b (off+i*5) (srow (gs ts i) (gvs us i))∧Sok (gs ts i))
  (hs:∀i,i<ts.length→Slo W (gvs us i) (gs ts i).sub):Slo W (.slice ao ts.length cap) ts
theorem rangeS_keep2 {w W V:World} {b o:Nat} {cs:List Value} (h:W.rangeAt b o cs) (hb:Below w.heap.size W V) (hlt:b<w.heap.size):V.rangeAt b o cs:=fun j v hv=>(hb.cell (p:=⟨b,o+j,none⟩) hlt).trans (h j v hv)
theorem Slo.keep {W V:World} {v:Value} {ts:List Slt} (h:Slo W v ts) (hb:Below W.heap.size W V):Slo V v ts:=by
 induction h with
 |mk ao cap ts us hl hc hn h hs ih=>
  refine .mk ao cap ts us hl hc hn (fun i hi=>?_) ih
  obtain⟨b,off,h1,h2,h3,h4⟩:=h i hi;exact⟨b,off,h1,Nat.lt_of_lt_of_le h2 hb.size,rangeS_keep2 h3 hb h2,h4⟩
theorem Slo.form {W:World} {v:Value} {ts:List Slt} (h:Slo W v ts):∃ao cap,v=.slice ao ts.length cap:=by
 cases h
 exact⟨_,_,rfl⟩
theorem sdrop (ts:List Slt) (j:Nat) (h:j<ts.length):ts.drop j=gs ts j::ts.drop (j+1):=by
 rw[List.drop_eq_getElem_cons h,gs,List.getD_eq_getElem?_getD,List.getElem?_eq_getElem h];rfl
def slL:List Slt→Int→Int
 |[],l=>l
 | .mk _ _ _ _ sub::ts,l=>if 0≤l then slL ts (slL sub (l-1)) else l
theorem slL_cons (t:Slt) (ts:List Slt) (l:Int):slL (t::ts) l=if 0≤l then slL ts (slL t.sub (l-1)) else l:=by
 cases t
 rw[slL];rfl
theorem slL_neg (ts:List Slt) (l:Int) (h:l<0):slL ts l=l:=by
 cases ts with
 |nil=>rw[slL]
 |cons t ts=>rw[slL_cons,if_neg (by omega)]
theorem slL_le:∀(ts:List Slt) (l:Int),slL ts l≤l∧(-1≤l→-1≤slL ts l)
 |[],l=>by rw[slL];exact⟨Int.le_refl _,id⟩
 | .mk n k a b sub::ts,l=>by
  rw[slL]
  split
  ·have h1:=slL_le sub (l-1)
   have h2:=slL_le ts (slL sub (l-1))
   exact⟨by omega,fun _=>by omega⟩
  ·exact⟨Int.le_refl _,id⟩
theorem l_slotsLeft {W:World} {v:Value} {ts:List Slt} (h:Slo W v ts):∀(w:World) (l:Int),Below W.heap.size W w→-1≤l→l≤10000→Calls Tryz.prog 23 #[v,.int .i64 l] w fun e w'=>e=.returned (.int .i64 (slL ts l))∧Below w.heap.size w w':=by
 induction h with
 |mk ao cap ts us hl hc hn h hs ih=>
  intro w l hw h1 h2
  go_enter Tryz.func23,Tryz.ntmps23
  go_wp2_with (fail)
  go_loopw [1,5] (fun s i wr=>∃(k:Nat) (m:Int),k≤ts.length∧i=.int .i64 k∧s=.int .i64 m∧-1≤m∧m≤10000∧slL ts l=slL (ts.drop k) m∧Below w.heap.size w wr) (fun _ i _=>ts.length-(intOf i).toNat)
  case atStart=>exact⟨0,l,by omega,rfl,rfl,h1,h2,rfl,Below.refl _ _⟩
  case round=>
   obtain⟨k,m,hk,rfl,rfl,hm1,hm2,he,hb⟩:=hrel;have hww:=Below.after hw hb
   by_cases hlt:k<ts.length
   ·have hd:decide ((k:Int)<(ts.length:Int))=true:=by simp;omega
    by_cases hm0:0≤m
    ·have hd2:decide (m≥0)=true:=by simpa using hm0
     obtain⟨b,off,hao,hbl,hra,hok⟩:=h k hlt
     subst hao;have c4:=rangeS_keep2 hra hww hbl 4 _ rfl
     have hk1:0≤(k:Int)∧(k:Int)<(ts.length:Int):=by omega
     have cR:=ih k hlt wr (m-1) hww (by omega) (by omega)
     rw[sdrop ts k hlt,slL_cons,if_pos hm0] at he;have hle:=slL_le (gs ts k).sub (m-1)
     have hle2:=hle.2 (by omega)
     replace hle:=hle.1;replace he:=hide he
     generalize slL (gs ts k).sub (m-1)=m2 at *
     generalize gvs us k=u at *
     clear h hs ih hra hok
     go_wp2_with (fail)
     refine cR.mono ?_;rintro e_ w1 ⟨rfl,hb1⟩;replace hb:=Below.after hb hb1;clear cR
     go_wp2_with (fail)
     refine⟨⟨k+1,m2,by omega,by go_num,rfl,by omega,by omega,he.out,hb⟩,?_⟩
     simp[intOf];omega
    ·have hd2:decide (m≥0)=false:=by simpa using hm0
     rw[slL_neg (ts.drop k) m (by omega)] at he
     replace he:=hide he;clear h hs ih
     go_wp2_with (fail)
     go_ret
     exact⟨by rw[he.out];rfl,hb⟩
   ·have hd:decide ((k:Int)<(ts.length:Int))=false:=by simp;omega
    rw[List.drop_eq_nil_of_le (by omega),slL] at he
    replace he:=hide he;clear h hs ih
    go_wp2_with (fail)
    go_ret
    exact⟨by rw[he.out];rfl,hb⟩
theorem l_bigSlots {W:World} {v:Value} {ts:List Slt} (h:Slo W v ts):Calls Tryz.prog 7 #[v] W fun e w'=>e=.returned (.bool (decide (slL ts 10000<0)))∧Below W.heap.size W w':=by
 have cS:=l_slotsLeft h W 10000 (Below.refl _ _) (by omega) (by omega)
 generalize slL ts 10000=m at *
 go_enter Tryz.func7,Tryz.ntmps7
 go_wp2_with (fail)
 refine cS.mono ?_;rintro e_ w1 ⟨rfl,hb⟩
 go_wp2_with (fail)
 go_ret;exact⟨rfl,hb⟩
end Go.Proofs.YtmmlkfkpblokiaaGreatDoor
