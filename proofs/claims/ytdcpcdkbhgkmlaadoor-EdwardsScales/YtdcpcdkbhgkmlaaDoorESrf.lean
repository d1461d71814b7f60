import Derived.Test.YtdcpcdkbhgkmlaaDoorProg
import Derived.WalkKit
import Derived.WalkSpells
import Derived.WalkLawsBesides
import Derived.Lib.QuietBelow
import Derived.BigQuiet
import Derived.Deep.Cut
import Derived.Deep.CutRange
import Derived.OwnWalk
import Derived.Test.YtdcpcdkbhgkmlaaDoorEGq
import Derived.Test.YtdcpcdkbhgkmlaaDoorEWdc
import Derived.Test.YtdcpcdkbhgkmlaaDoorEDwc
namespace Go.Proofs.YtdcpcdkbhgkmlaaDoor
set_option maxRecDepth 100000
open Go Go.RowKit Go.Sort
attribute [local go_sem] setCell_drewN alloc_drewN
def marks19 (k:Nat):List Int:=(List.range k).map fun(i:Nat)=>171+(i:Int)
theorem marks_succ19 (k:Nat):marks19 (k+1)=marks19 k++[171+(k:Int)]:=by simp[marks19,List.range_succ]
theorem addr_add19 (b off j:Nat):(⟨b,off,none⟩:Addr).add j=⟨b,off+j,none⟩:=by
 unfold Addr.add
 split
 ·rename_i h;rw[h];rfl
 ·rfl
theorem info819:∃i,Tryd.prog.info? 5=some i∧i.zero=some (.int .u8 0)∧i.size=1∧i.bytes=1:=⟨_,rfl,rfl,rfl,rfl⟩
theorem ints_one19 (l:List Int):∀u∈l.map (Value.int .u8),u.oneCell'=true:=by
 intro u hu;obtain⟨z,_,rfl⟩:=List.mem_map.1 hu;rfl
set_option maxHeartbeats 2000000 in
theorem lent_walk19 (bs:List Int) (w:World) (ev:Value) (hB:Bys w ev bs) (hl:bs.length+32≤281474976710656) (hnil:∀a l c,ev=.slice a l c→a=none→c=0):Calls Tryd.prog 7 #[ev] w fun e w'=>∃v,e=.returned v∧∃g,v=.tuple #[.slice (some ⟨g,0,none⟩) bs.length (bs.length+32),.slice (some ⟨g,0,none⟩) (bs.length+32) (bs.length+32)]∧w.heap.size≤g∧w'.heap[g]? =some (.cells (brow (bs++marks19 32)) 5 (0,0))∧Below w.heap.size w w':=by
 obtain⟨ao,cap,rfl,_,hc,hz⟩:=hB;obtain⟨i0,hi,hz0,hz1,hz2⟩:=info819
 generalize hlen:bs.length=len at *
 go_enter Tryd.func7,Tryd.ntmps7
 go_wp2_with (at_make;refine wpList_make_own _ rfl _ _ 24 rfl w.heap.size 5 i0 (.int .u8 0) 1 Tryd.underlying24 hi hz0 hz1 _ _ _ (len+32) rfl rfl (by omega) ?b2 ?b3 (Nat.le_refl _) ?_)
 case b2=>rw[hz2];omega
 case b3=>unfold maxLen;omega
 intro w0 hown0 hgrow0
 have hnone:ao=none→len=0∧cap=0:=by
  intro h;refine⟨?_,hnil _ _ _ rfl h⟩
  rcases Nat.eq_zero_or_pos len with e|e
  ·exact e
  ·obtain⟨b,off,e',_⟩:=hc 0 e
   rw[h] at e';cases e'
 have hcell:∀ad,ao=some ad→∀j u,(bs.map (Value.int .u8))[j]? =some u→w0.cell? (ad.add j)=some u:=by
  intro ad had j u hu
  have hj:j<len:=by
   have:=(List.getElem?_eq_some_iff.1 hu).1
   simpa[hlen] using this
  obtain⟨b,off,e',hb,hcl⟩:=hc j hj;obtain rfl:ad=⟨b,off,none⟩:=Option.some.inj (had.symm.trans e')
  have:u=.int .u8 (bs.getD j 0):=by
   have hj':j<bs.length:=by omega
   simp only[List.getElem?_map,List.getElem?_eq_getElem hj',Option.map_some,Option.some.injEq] at hu;rw[←hu,List.getD_eq_getElem?_getD,List.getElem?_eq_getElem hj'];rfl
  rw[this];rw[addr_add19]
  exact hgrow0.cell (a:=⟨b,off+j,none⟩) hcl (fun e=>by cases e)
 go_wp2_with (at_builtin;refine wpList_append_fits_any _ rfl (.tmp 10) (.tmp 11) 24 rfl w.heap.size 5 i0 1 Tryd.underlying24 hi hz1 w.heap.size 0 (len+32) [] rfl hown0 ao len cap (bs.map (Value.int .u8)) rfl (by simp[hlen]) hnone hcell (ints_one19 bs) (by omega) ?_)
 intro w1 hown1 hgrow1
 have hw:Below w.heap.size w w1:=((Below.refl _ _).grown hgrow0 (Nat.le_refl _) (fun k h=>by cases h)).grown hgrow1 hgrow0.size (fun k h=>by cases h;exact Nat.le_refl _)
 clear hcell hown0 hgrow0 hgrow1
 go_wp2
 go_loopw [4,5] (fun s i wr=>∃k:Nat,k≤32∧i=.int .i64 k∧s=.slice (some ⟨w.heap.size,0,none⟩) (len+k) (len+32)∧wr.ownsRow w.heap.size 5 1 (.slice (some ⟨w.heap.size,0,none⟩) (len+k) (len+32)) (len+k) ((bs++marks19 k).map (Value.int .u8))∧Below w.heap.size w wr) (fun _ i _=>32-(intOf i).toNat)
 case atStart=>exact⟨0,by omega,rfl,by simp,by simpa[marks19] using hown1,hw⟩
 case round=>
  obtain⟨k,hk,rfl,rfl,hown,hw⟩:=hrel
  by_cases hlt:k<32
  ·have hd:decide ((k:Int)<32)=true:=by simp;omega
   have hown':(wr.alloc (.cells #[.int .u8 (171+(k:Int))] 5)).ownsRow w.heap.size 5 1 (.slice (some ⟨w.heap.size,0,none⟩) (len+k) (len+32)) (len+k) ((bs++marks19 k).map (Value.int .u8)):=hown.kept (World.grownBy_alloc wr _ none) (.inr (by simp[Value.ownBlock]))
   have hnew:∀ad,some (⟨wr.heap.size,0,none⟩:Addr)=some ad→∀j u,[Value.int .u8 (171+(k:Int))][j]? =some u→(wr.alloc (.cells #[.int .u8 (171+(k:Int))] 5)).cell? (ad.add j)=some u:=by
    intro ad had j u hu;obtain rfl:=Option.some.inj had
    have hj:j=0:=by
     have:=(List.getElem?_eq_some_iff.1 hu).1
     simp at this
     exact this
    subst hj
    simp at hu
    subst hu;rw[addr_add19];have hg:(wr.alloc (.cells #[.int .u8 (171+(k:Int))] 5)).heap[wr.heap.size]? =some (.cells #[.int .u8 (171+(k:Int))] 5 (0,0)):=hp1_0 wr _;simp only[World.cell?,hg];rfl
   go_wp2_with (at_builtin;refine wpList_append_fits_any _ rfl (.tmp 17) (.tmp 21) 24 rfl w.heap.size 5 i0 1 Tryd.underlying24 hi hz1 w.heap.size (len+k) (len+32) _ rfl hown' (some ⟨wr.heap.size,0,none⟩) 1 1 [.int .u8 (171+(k:Int))] rfl rfl (by intro h;cases h) hnew (by simp[Value.oneCell']) (by omega) ?_)
   intro w2 hown2 hgrow2
   have hw2:Below w.heap.size w w2:=(hw.alloc hw.size _).grown hgrow2 (by simp;have:=hw.size;omega) (fun k h=>by cases h;exact Nat.le_refl _)
   replace hown2:w2.ownsRow w.heap.size 5 1 (.slice (some ⟨w.heap.size,0,none⟩) (len+(k+1)) (len+32)) (len+(k+1)) ((bs++marks19 (k+1)).map (Value.int .u8)):=by rw[marks_succ19,←Nat.add_assoc];simpa using hown2
   clear hown hown' hnew hgrow2 hw
   go_wp2
   go_roundw
   case rel=>exact⟨k+1,by omega,by go_num,rfl,hown2,hw2⟩
   case measure=>simp[intOf];omega
  ·obtain rfl:k=32:=by omega
   have hd:decide ((32:Int)<32)=false:=by decide
   have hrow:wr.heap[w.heap.size]? =some (.cells (brow (bs++marks19 32)) 5 (0,0)):=by
    obtain⟨hlx,h|⟨g,cp,cur,hv,_,hg,_,_,hs,ht⟩⟩:=hown
    ·cases h.1
    ·cases hv
     rw[hg]
     have:cur=brow (bs++marks19 32):=by
      apply Array.ext'
      rw[brow,←ht]
      symm
      apply List.take_of_length_le
      rw[Array.length_toList];omega
     rw[this]
   clear hown
   go_wp2
   go_ret2;exact⟨_,rfl,_,rfl,Nat.le_refl _,hrow,hw⟩
theorem at_low19 (bs:List Int) (k:Nat) (hk:k<bs.length):(bs++marks19 32).getD k 0=bs.getD k 0:=by
 simp[List.getD_eq_getElem?_getD,List.getElem?_append_left hk]
theorem at_high19 (bs:List Int) (k:Nat) (hk:¬k<bs.length) (hu:k<bs.length+32):(bs++marks19 32).getD k 0=171+(k:Int)-bs.length:=by
 have:k-bs.length<32:=by omega
 rw[List.getD_eq_getElem?_getD,List.getElem?_append_right (by omega)]
 simp[marks19,this]
 omega
set_option maxHeartbeats 2000000 in
theorem kept_walk19 (bs:List Int) (g:Nat) (w:World) (ev:Value) (hB:Bys w ev bs) (hl:bs.length+32≤281474976710656) (hg:w.heap[g]? =some (.cells (brow (bs++marks19 32)) 5 (0,0))):Calls Tryd.prog 12 #[.slice (some ⟨g,0,none⟩) (bs.length+32) (bs.length+32),ev] w fun e w'=>e=.returned (.bool true)∧Below w.heap.size w w':=by
 obtain⟨ao,cap,rfl,_,hc,hz⟩:=hB
 have hall:∀k,k<bs.length+32→w.cell? ⟨g,k,none⟩=some (.int .u8 ((bs++marks19 32).getD k 0)):=fun k hk=>brow_cell hg (by simp[marks19];omega)
 have hgs:=lt_of_row hg;have hlow:=at_low19 bs;have hhigh:=at_high19 bs
 generalize hlen:bs.length=len at *
 go_enter Tryd.func12,Tryd.ntmps12
 go_wp2
 go_loopw [5] (fun i wr=>∃k:Nat,k≤len+32∧i=.int .i64 k∧Below w.heap.size w wr) (fun i _=>len+32-(intOf i).toNat)
 case atStart=>exact⟨0,by omega,rfl,Below.refl _ _⟩
 case round=>
  obtain⟨k,hk,rfl,hw⟩:=hrel
  by_cases hlt:k<len+32
  ·have hd:decide ((k:Int)<(len:Int)+32)=true:=by simp;omega
   have h1:=(hw.cell (p:=⟨g,k,none⟩) hgs).trans (hall k hlt)
   by_cases hin:k<len
   ·obtain⟨b,off,rfl,hb1,hb2⟩:=hc k hin
    replace hb2:=(hw.cell (p:=⟨b,off+k,none⟩) hb1).trans hb2
    rw[hlow k hin] at h1
    have hd2:decide ((k:Int)<(len:Int))=true:=by simp;omega
    have hd3:decide (len≤k)=false:=decide_eq_false (by omega)
    generalize bs.getD k 0=z at *
    have k1:∀p:Regrown,(grow (redrawn wr p.d) p.os).cell? ⟨g,k,none⟩=some (.int .u8 z):=fun p=>cell_regrown h1 p.d p.os
    have k2:∀p:Regrown,(grow (redrawn wr p.d) p.os).cell? ⟨b,off+k,none⟩=some (.int .u8 z):=fun p=>cell_regrown hb2 p.d p.os
    clear h1 hb2 hall hc hlow hhigh
    go_wp2
    refine wp_region_quiet_below (by kernel_rfl) (by kernel_rfl) ?_
    go_big_quiet_step (fail);go_big_quiet_step (fail);go_big_quiet_step (fail);go_big_quiet_step (fail);go_big_quiet_step (fail);go_big_quiet_step (fail);go_big_quiet_step (fail);go_big_quiet_step (fail);go_big_quiet_step (fail);go_big_quiet_step (fail);go_big_quiet_step (fail);go_big_quiet_step (fail);go_big_quiet_step (fail);go_big_quiet_step (fail);go_big_quiet_step (fail);go_big_quiet_step (fail);go_big_quiet_step (fail);go_big_quiet_step (fail);go_big_quiet_step (fail);go_big_quiet_step (fail);go_big_quiet_step (fail);go_big_quiet_step (fail);go_big_quiet_step (fail);go_big_quiet_step (fail);go_big_quiet_step (fail);go_big_quiet_step (fail);go_big_quiet_step (fail);go_big_quiet_step (fail);go_big_quiet_step (fail);go_big_quiet_step (fail);go_big_quiet_step (fail);go_big_quiet_step (fail);go_big_quiet_step (fail);go_big_quiet_step (fail);refine wpQuiet_nil ?_;rintro _ ⟨p,rfl⟩;have hb:=below_regrown wr p.d p.os;clear k1 k2
    generalize grow (redrawn wr p.d) p.os=w2 at *
    replace hw:=Below.after hw hb;clear hb
    go_wp2
    go_roundw
    case rel=>exact⟨k+1,by omega,by go_num,hw⟩
    case measure=>simp[intOf];omega
   ·rw[hhigh k hin hlt] at h1
    have hd2:decide ((k:Int)<(len:Int))=false:=by simp;omega
    have hd3:decide (len≤k)=true:=decide_eq_true (by omega)
    have k1:∀p:Regrown,(grow (redrawn wr p.d) p.os).cell? ⟨g,k,none⟩=some (.int .u8 (171+(k:Int)-len)):=fun p=>cell_regrown h1 p.d p.os
    clear h1 hall hc hlow hhigh
    go_wp2
    refine wp_region_quiet_below (by kernel_rfl) (by kernel_rfl) ?_
    go_big_quiet_step (fail);go_big_quiet_step (fail);go_big_quiet_step (fail);go_big_quiet_step (fail);go_big_quiet_step (fail);go_big_quiet_step (fail);go_big_quiet_step (fail);go_big_quiet_step (fail);go_big_quiet_step (fail);go_big_quiet_step (fail);go_big_quiet_step (fail);go_big_quiet_step (fail);go_big_quiet_step (fail);go_big_quiet_step (fail);go_big_quiet_step (fail);go_big_quiet_step (fail);go_big_quiet_step (fail);go_big_quiet_step (fail);go_big_quiet_step (fail);go_big_quiet_step (fail);go_big_quiet_step (fail);go_big_quiet_step (fail);go_big_quiet_step (fail);go_big_quiet_step (fail);go_big_quiet_step (fail);go_big_quiet_step (fail);go_big_quiet_step (fail);go_big_quiet_step (fail);go_big_quiet_step (fail);go_big_quiet_step (fail);go_big_quiet_step (fail);go_big_quiet_step (fail);go_big_quiet_step (fail);go_big_quiet_step (fail);refine wpQuiet_nil ?_;rintro _ ⟨p,rfl⟩;have hb:=below_regrown wr p.d p.os;clear k1
    generalize grow (redrawn wr p.d) p.os=w2 at *
    replace hw:=Below.after hw hb;clear hb
    go_wp2
    go_roundw
    case rel=>exact⟨k+1,by omega,by go_num,hw⟩
    case measure=>simp[intOf];omega
  ·obtain rfl:k=len+32:=by omega
   have hd:decide (((len+32:Nat):Int)<(len:Int)+32)=false:=by simp
   go_wp2
   go_ret;exact⟨rfl,hw⟩
theorem bys_prefix19 {W:World} {g:Nat} {l m:List Int} {t:TypeId} (hg:W.heap[g]? =some (.cells (brow (l++m)) t (0,0))) (hl:l.length≤9223372036854775807) (hz:∀z∈l,0≤z∧z<256) (cap:Nat):Bys W (.slice (some ⟨g,0,none⟩) l.length cap) l:=by
 refine⟨_,cap,rfl,hl,fun j hj=>⟨g,0,rfl,lt_of_row hg,?_⟩,hz⟩
 rw[Nat.zero_add,brow_cell hg (by rw[List.length_append];omega),List.getD_eq_getElem?_getD,List.getElem?_append_left hj,←List.getD_eq_getElem?_getD]
theorem bysK_l18 {W:World} {g n:Nat} {l:List Int} {t:TypeId} (r:W.heap[g]? =some (.cells (Wi.irow .u8 l) t (0,0))) (hn:l.length=n) (hz:∀z∈l,0≤z∧z<256) (hl:n≤1000):BysK W (.slice (some ⟨g,0,none⟩) n n) l:=by
 subst hn
 exact⟨Wi.Bys.of_row r (by omega) hz _,fun a l c h=>by cases h;exact Nat.le_refl _,by omega⟩
set_option maxRecDepth 100000 in
set_option maxHeartbeats 8000000 in
theorem scales_walk {bs:List Int} {t1 t2 s1 s2 b1 b2 d1 d2:Array Value} {P Q:E1} {N E e f:Int} (h1:PtO t1 P) (h2:ReO t2 P) (hs1:PtO s1 Q) (w:World) {ao:Option Addr} {la ca:Nat} (hS:Edw w) (hB0:BysK w (.slice ao la ca) bs) (hl:bs.length+32≤281474976710656) (hlen:bs.length≤9223372036854775807) (hz:∀z∈bs,0≤z∧z<256) (hnil:∀a l c,Value.slice ao la ca=.slice a l c→a=none→c=0)
 (c1:Gives5 5 #[.agg (kb N)] (.tuple #[.agg t1,.int .i64 E])) (c2:Gives 6 #[.agg (kb N)] (.tuple #[.agg t2,.int .i64 E])) (cS1:∀W v,Four W→Bys W v bs→Calls Tryd.prog 8 #[.agg t1,v] W fun e w'=>e=.returned (.agg s1)∧Below W.heap.size W w') (cS2:∀W v,Bys W v bs→Calls Tryd.prog 10 #[.agg t2,v] W fun e w'=>e=.returned (.agg s2)∧Below W.heap.size W w') (cB1:Gives 9 #[.agg s1] (.agg (kb e))) (cB2:Gives 11 #[.agg s2] (.agg (kb e)))
 (cBa:GivesE 13 #[] (.agg b1)) (cD1:∀W v,Four W→Bys W v [2]→Calls Tryd.prog 8 #[.agg b1,v] W fun e w'=>e=.returned (.agg d1)∧Below W.heap.size W w') (cB3:Gives 9 #[.agg d1] (.agg (kb f))) (cRb:Gives 14 #[] (.agg b2)) (cRd:Gives 15 #[.agg b2] (.agg d2)) (cB4:Gives 11 #[.agg d2] (.agg (kb f))) (qe:∀W,(Op.equalIn 10000 23 (.agg (kb e)) (.agg (kb e))).run Tryd.prog W=.ok true W) (qf:∀W,(Op.equalIn 10000 23 (.agg (kb f)) (.agg (kb f))).run Tryd.prog W=.ok true W):Calls Tryd.prog 3 #[.agg (kb N),.slice ao la ca] w fun e w'=>e=.returned (.bool true)∧Below w.heap.size w w':=by
 have rp0:=hp1_0 w (.cells (kb N) 23);have hw:Below w.heap.size w (w.alloc (.cells (kb N) 23)):=((Below.refl _ _).alloc (Nat.le_refl _) _)
 have f4:=hS.below (show Below w.heap.size w (w.alloc (.cells (kb N) 23)) from hw)
 have hB:=hB0.keep (show Below w.heap.size w (w.alloc (.cells (kb N) 23)) from hw)
 go_enter Tryd.func3,Tryd.ntmps3
 iterate 6 go_step
 generalize (w.alloc (.cells (kb N) 23))=w0 at *
 go_wp2_with (first|(refine wpList_load_want rfl 23 _ rfl (w.heap.size) rfl 23 (kb N) (0,0) _ rp0 Tryd.underlying23 rfl (kb_info _) ?_)|fail)
 refine(c1.at f4.1).mono ?_;rintro e_ w1 ⟨rfl,hb⟩;replace rp0:=keep hb rp0;replace f4:=f4.below hb;replace hB:=hB.keep hb;replace hw:=Below.after hw hb;clear hb
 go_wp2_with (first|(refine wpList_store_row rfl 30 _ _ rfl (w1.heap.size) t1 rfl rfl 30 q20 (hp1_0 w1 _) h1.info ((show _=20 from rfl).trans h1.size.symm) h1.one ?_;rw[setRow_alloc_new _ _ _ _ _ _ (by simp)];refine wpList_stay ?_)|fail)
 unfold WpStay
 try simp only[Act.put]
 have rl5:(w1.alloc (.cells t1 30)).heap[w1.heap.size]? =some (.cells t1 30 (0,0)):=hp1_0 w1 _;have hb:Below w1.heap.size w1 (w1.alloc (.cells t1 30)):=((Below.refl _ _).alloc (Nat.le_refl _) _)
 generalize (w1.alloc (.cells t1 30))=w2 at *
 have lt_g5_0:=lt_of_row rp0;have sz_g5:=hw.size;replace rp0:=keep hb rp0;replace f4:=f4.below hb;replace hB:=hB.keep hb;replace hw:=Below.after hw hb;clear hb
 generalize w1.heap.size=g5 at *
 clear w1
 go_wp2_with (first|(refine wpList_load_want rfl 23 _ rfl (w.heap.size) rfl 23 (kb N) (0,0) _ rp0 Tryd.underlying23 rfl (kb_info _) ?_)|(refine wpList_load_want rfl 30 _ rfl (g5) rfl 30 t1 (0,0) _ rl5 Tryd.underlying30 rfl h1.info ?_)|fail)
 refine(c2.at _).mono ?_;rintro e_ w3 ⟨rfl,hb⟩;replace rp0:=keep hb rp0;replace rl5:=keep hb rl5;replace f4:=f4.below hb;replace hB:=hB.keep hb;replace hw:=Below.after hw hb;clear hb
 go_wp2_with (first|(refine wpList_store_row rfl 38 _ _ rfl (w3.heap.size) t2 rfl rfl 38 z48 (hp1_0 w3 _) h2.info (z48_size.trans h2.size.symm) h2.one ?_;rw[setRow_alloc_new _ _ _ _ _ _ (by simp)];refine wpList_stay ?_)|fail)
 unfold WpStay
 try simp only[Act.put]
 have rl7:(w3.alloc (.cells t2 38)).heap[w3.heap.size]? =some (.cells t2 38 (0,0)):=hp1_0 w3 _;have hb:Below w3.heap.size w3 (w3.alloc (.cells t2 38)):=((Below.refl _ _).alloc (Nat.le_refl _) _)
 generalize (w3.alloc (.cells t2 38))=w4 at *
 have lt_g7_0:=lt_of_row rp0;have lt_g7_1:=lt_of_row rl5;have sz_g7:=hw.size;replace rp0:=keep hb rp0;replace rl5:=keep hb rl5;replace f4:=f4.below hb;replace hB:=hB.keep hb;replace hw:=Below.after hw hb;clear hb
 generalize w3.heap.size=g7 at *
 clear w3
 go_wp2_with (fail)
 refine(lent_walk19 bs _ _ hB.1 hl hnil).mono ?_;rintro e_ w5 ⟨_,rfl,gl,rfl,hge,hrow,hb⟩;replace rp0:=keep hb rp0;replace rl5:=keep hb rl5;replace rl7:=keep hb rl7;replace f4:=f4.below hb;replace hB:=hB.keep hb;replace hw:=Below.after hw hb;clear hb;have hpre:=bys_prefix19 (l:=bs) hrow hlen hz (bs.length+32)
 go_wp2_with (first|(refine wpList_load_want rfl 23 _ rfl (w.heap.size) rfl 23 (kb N) (0,0) _ rp0 Tryd.underlying23 rfl (kb_info _) ?_)|(refine wpList_load_want rfl 30 _ rfl (g5) rfl 30 t1 (0,0) _ rl5 Tryd.underlying30 rfl h1.info ?_)|(refine wpList_load_want rfl 38 _ rfl (g7) rfl 38 t2 (0,0) _ rl7 Tryd.underlying38 rfl h2.info ?_)|fail)
 refine(cS1 _ _ f4.1.1 hpre).mono ?_;clear hpre;rintro e_ w6 ⟨rfl,hb⟩;replace rp0:=keep hb rp0;replace rl5:=keep hb rl5;replace rl7:=keep hb rl7;replace hrow:=keep hb hrow;replace f4:=f4.below hb;replace hB:=hB.keep hb;replace hw:=Below.after hw hb;clear hb
 go_wp2_with (first|(refine wpList_store_row rfl 30 _ _ rfl (w6.heap.size) s1 rfl rfl 30 q20 (hp1_0 w6 _) hs1.info ((show _=20 from rfl).trans hs1.size.symm) hs1.one ?_;rw[setRow_alloc_new _ _ _ _ _ _ (by simp)];refine wpList_stay ?_)|fail)
 unfold WpStay
 try simp only[Act.put]
 have rl11:(w6.alloc (.cells s1 30)).heap[w6.heap.size]? =some (.cells s1 30 (0,0)):=hp1_0 w6 _;have hb:Below w6.heap.size w6 (w6.alloc (.cells s1 30)):=((Below.refl _ _).alloc (Nat.le_refl _) _)
 generalize (w6.alloc (.cells s1 30))=w7 at *
 have lt_g11_0:=lt_of_row rp0;have lt_g11_1:=lt_of_row rl5;have lt_g11_2:=lt_of_row rl7;have lt_g11_3:=lt_of_row hrow;have sz_g11:=hw.size;replace rp0:=keep hb rp0;replace rl5:=keep hb rl5;replace rl7:=keep hb rl7;replace hrow:=keep hb hrow;replace f4:=f4.below hb;replace hB:=hB.keep hb;replace hw:=Below.after hw hb;clear hb
 generalize w6.heap.size=g11 at *
 clear w6
 go_wp2_with (fail)
 have hb:Below w7.heap.size w7 w7.drew:=below_drN (Below.refl _ _) 1;replace rp0:=keep hb rp0;replace rl5:=keep hb rl5;replace rl7:=keep hb rl7;replace hrow:=keep hb hrow;replace rl11:=keep hb rl11;replace f4:=f4.below hb;replace hB:=hB.keep hb;replace hw:=Below.after hw hb;clear hb;refine wp_region_noPanic ?_
 refine wp_region_held (S:=fun W_=>W_.heap[g11]? =some (.cells s1 30 (0,0))∧W_.heap[g7]? =some (.cells t2 38 (0,0))) (by kernel_rfl) ?_
 change wpAnyH _ _ _ _ _ _ _ _ (World.drew _)
 generalize w7.drew=wd1 at *
 refine wpAnyH_take (i:=0) (v:=.agg s1) rfl (by kernel_rfl) (by kernel_rfl) (by kernel_rfl) (fun _ _ _ h=>h) (Or.inl ⟨by rfl,?y2⟩) (⟨rl11,rl7⟩) ?r2
 case y2=>
  intro w_ hS_;simp only[List.getElem_toArray,List.getElem_cons_zero]
  exact e_load_part 30 _ (by rfl) (g11) 0 (by rfl) 30 s1 (0,0) s1 _ (hS_.1) (all_rowe _) Tryd.underlying30 rfl hs1.info
 simp only[Act.put,ZPa,ZPc,ZPd,ZPe,ZPf]
 refine wpAnyH_take (i:=2) (v:=.agg t2) rfl (by kernel_rfl) (by kernel_rfl) (by kernel_rfl) (fun _ _ _ h=>h) (Or.inl ⟨by rfl,?y3⟩) (⟨rl11,rl7⟩) ?r3
 case y3=>
  intro w_ hS_;simp only[List.getElem_toArray,List.getElem_cons_succ,List.getElem_cons_zero]
  exact e_load_part 38 _ (by rfl) (g7) 0 (by rfl) 38 t2 (0,0) t2 _ (hS_.2) (all_rowe _) Tryd.underlying38 rfl h2.info
 simp only[Act.put,ZPa,ZPb,ZPc,ZPd,ZPe,ZPf]
 refine wpAnyH_take (i:=3) (v:=?v4) rfl (by kernel_rfl) (by kernel_rfl) (by kernel_rfl) (fun _ _ _ h=>h) (Or.inl ⟨by rfl,?y4⟩) (⟨rl11,rl7⟩) ?r4
 case y4=>
  intro w_ hS_;go_simp
  try with_reducible rfl
 simp only[Act.put,ZPa,ZPb,ZPc,ZPd,ZPe,ZPf]
 refine eH_one (k:=1) (fuel:=19) (by kernel_rfl) rfl (by kernel_rfl) (fun K_ hK_=>?_)
 refine wp_call_ex (f:=9) (by kernel_rfl) (ex1e (cB1.at _)) (fun v_ wq5 hX_=>?_)
 obtain⟨rfl,hb⟩:=hX_;replace rp0:=keep hb rp0;replace rl5:=keep hb rl5;replace rl7:=keep hb rl7;replace hrow:=keep hb hrow;replace rl11:=keep hb rl11;replace f4:=f4.below hb;replace hB:=hB.keep hb;replace hw:=Below.after hw hb;clear hb;refine hK_ _ _ (⟨rl11,rl7⟩) ?_;simp only[Act.put,ZPa,ZPb,ZPc,ZPd,ZPe,ZPf];clear hK_
 refine eH_one (k:=4) (fuel:=18) (by kernel_rfl) rfl (by kernel_rfl) (fun K_ hK_=>?_)
 refine wp_call_ex (f:=10) (by kernel_rfl) (ex1e (cS2 _ _ hB.1)) (fun v_ wq6 hX_=>?_)
 obtain⟨rfl,hb⟩:=hX_;replace rp0:=keep hb rp0;replace rl5:=keep hb rl5;replace rl7:=keep hb rl7;replace hrow:=keep hb hrow;replace rl11:=keep hb rl11;replace f4:=f4.below hb;replace hB:=hB.keep hb;replace hw:=Below.after hw hb;clear hb;refine hK_ _ _ (⟨rl11,rl7⟩) ?_;simp only[Act.put,ZPa,ZPb,ZPc,ZPd,ZPe,ZPf];clear hK_
 refine eH_one (k:=5) (fuel:=17) (by kernel_rfl) rfl (by kernel_rfl) (fun K_ hK_=>?_)
 refine wp_call_ex (f:=11) (by kernel_rfl) (ex1e (cB2.at _)) (fun v_ wq7 hX_=>?_)
 obtain⟨rfl,hb⟩:=hX_;replace rp0:=keep hb rp0;replace rl5:=keep hb rl5;replace rl7:=keep hb rl7;replace hrow:=keep hb hrow;replace rl11:=keep hb rl11;replace f4:=f4.below hb;replace hB:=hB.keep hb;replace hw:=Below.after hw hb;clear hb;refine hK_ _ _ (⟨rl11,rl7⟩) ?_;simp only[Act.put,ZPa,ZPb,ZPc,ZPd,ZPe,ZPf];clear hK_
 refine wpAnyH_take (i:=6) (v:=?v8) rfl (by kernel_rfl) (by kernel_rfl) (by kernel_rfl) (fun _ _ _ h=>h) (Or.inl ⟨by rfl,?y8⟩) (⟨rl11,rl7⟩) ?r8
 case y8=>
  intro w_ hS_;go_simp
  try with_reducible rfl
 simp only[Act.put,ZPa,ZPb,ZPc,ZPd,ZPe,ZPf]
 refine wpAnyH_take (i:=7) (v:=?v9) rfl (by kernel_rfl) (by kernel_rfl) (by kernel_rfl) (fun _ _ _ h=>h) (Or.inl ⟨by rfl,?y9⟩) (⟨rl11,rl7⟩) ?r9
 case y9=>
  intro w_ hS_;go_simp
  try with_reducible rfl
 simp only[Act.put,ZPa,ZPb,ZPc,ZPd,ZPe,ZPf]
 refine wpAnyH_take (i:=8) (v:=?v10) rfl (by kernel_rfl) (by kernel_rfl) (by kernel_rfl) (fun _ _ _ h=>h) (Or.inl ⟨by rfl,?y10⟩) (⟨rl11,rl7⟩) ?r10
 case y10=>
  intro w_ hS_;go_simp
  try with_reducible rfl
 simp only[Act.put,ZPa,ZPb,ZPc,ZPd,ZPe,ZPf]
 refine wpAnyH_take (i:=9) (v:=?v11) rfl (by kernel_rfl) (by kernel_rfl) (by kernel_rfl) (fun _ _ _ h=>h) (Or.inl ⟨by rfl,?y11⟩) (⟨rl11,rl7⟩) ?r11
 case y11=>
  intro w_ hS_;go_simp
  try with_reducible rfl
 simp only[Act.put,ZPa,ZPb,ZPc,ZPd,ZPe,ZPf]
 refine eH_one (k:=10) (fuel:=12) (by kernel_rfl) rfl (by kernel_rfl) (fun K_ hK_=>?_)
 refine wp_call_ex (f:=12) (by kernel_rfl) (ex1e (kept_walk19 bs gl _ _ hB.1 hl hrow)) (fun v_ wq12 hX_=>?_)
 obtain⟨rfl,hb⟩:=hX_;replace rp0:=keep hb rp0;replace rl5:=keep hb rl5;replace rl7:=keep hb rl7;replace hrow:=keep hb hrow;replace rl11:=keep hb rl11;replace f4:=f4.below hb;replace hB:=hB.keep hb;replace hw:=Below.after hw hb;clear hb;refine hK_ _ _ (⟨rl11,rl7⟩) ?_;simp only[Act.put,ZPa,ZPb,ZPc,ZPd,ZPe,ZPf];clear hK_
 refine wpAnyH_take (i:=11) (v:=?v13) rfl (by kernel_rfl) (by kernel_rfl) (by kernel_rfl) (fun _ _ _ h=>h) (Or.inl ⟨by rfl,?y13⟩) (⟨rl11,rl7⟩) ?r13
 case y13=>
  intro w_ hS_;go_simp
  try with_reducible rfl
 simp only[Act.put,ZPa,ZPb,ZPc,ZPd,ZPe,ZPf]
 refine wpAnyH_take (i:=12) (v:=?v14) rfl (by kernel_rfl) (by kernel_rfl) (by kernel_rfl) (fun _ _ _ h=>h) (Or.inl ⟨by rfl,?y14⟩) (⟨rl11,rl7⟩) ?r14
 case y14=>
  intro w_ hS_;go_simp
  try with_reducible rfl
 simp only[Act.put,ZPa,ZPb,ZPc,ZPd,ZPe,ZPf]
 refine eH_two (j:=13) (k:=14) (fuel:=9) (by kernel_rfl) rfl rfl (by kernel_rfl) (by kernel_rfl) (fun K_ hK_=>?_) (fun K_ hK_=>?_)
 ·skip
  refine wp_call_ex (f:=13) (by kernel_rfl) (ex1e (cBa.at f4)) (fun v_ wq15 hX_=>?_)
  obtain⟨rfl,hb⟩:=hX_;replace rp0:=keep hb rp0;replace rl5:=keep hb rl5;replace rl7:=keep hb rl7;replace hrow:=keep hb hrow;replace rl11:=keep hb rl11;replace f4:=f4.below hb;replace hB:=hB.keep hb;replace hw:=Below.after hw hb;clear hb;refine hK_ _ _ (⟨rl11,rl7⟩) ?_;simp only[Act.put,ZPa,ZPb,ZPc,ZPd,ZPe,ZPf];clear hK_
  refine eH_one (k:=14) (fuel:=8) (by kernel_rfl) rfl (by kernel_rfl) (fun K_ hK_=>?_)
  refine e_world_op (.slice (some ⟨wq15.heap.size,0,none⟩) 1 1) (wq15.alloc (.cells #[.int .u8 2] 5)) (by kernel_rfl) ?_
  have hb:Below wq15.heap.size wq15 (wq15.alloc (.cells #[.int .u8 2] 5)):=(Below.refl _ _).alloc (Nat.le_refl _) _;have rg16:=hp1_0 wq15 (.cells #[.int .u8 2] 5);have lt_g16_0:=lt_of_row rp0;have lt_g16_1:=lt_of_row rl5;have lt_g16_2:=lt_of_row rl7;have lt_g16_3:=lt_of_row hrow;have lt_g16_4:=lt_of_row rl11;have sz_g16:=hw.size;replace rp0:=keep hb rp0;replace rl5:=keep hb rl5;replace rl7:=keep hb rl7;replace hrow:=keep hb hrow;replace rl11:=keep hb rl11;replace f4:=f4.below hb;replace hB:=hB.keep hb;replace hw:=Below.after hw hb;clear hb;refine hK_ _ _ (⟨rl11,rl7⟩) ?_;simp only[Act.put,ZPa,ZPb,ZPc,ZPd,ZPe,ZPf];clear hK_
  generalize (wq15.alloc (.cells #[.int .u8 2] 5))=wq16 at *
  generalize wq15.heap.size=g16 at *
  have h2k:=bysK_l18 (l:=[2]) (n:=1) (show wq16.heap[g16]? =some (.cells (Wi.irow .u8 [2]) 5 (0,0)) from rg16) rfl (by decide) (by decide)
  refine eH_one (k:=15) (fuel:=7) (by kernel_rfl) rfl (by kernel_rfl) (fun K_ hK_=>?_)
  refine wp_call_ex (f:=8) (by kernel_rfl) (ex1e (cD1 _ _ f4.1.1 h2k.1)) (fun v_ wq17 hX_=>?_)
  obtain⟨rfl,hb⟩:=hX_;replace rp0:=keep hb rp0;replace rl5:=keep hb rl5;replace rl7:=keep hb rl7;replace hrow:=keep hb hrow;replace rl11:=keep hb rl11;replace rg16:=keep hb rg16;replace f4:=f4.below hb;replace hB:=hB.keep hb;replace h2k:=h2k.keep hb;replace hw:=Below.after hw hb;clear hb;refine hK_ _ _ (⟨rl11,rl7⟩) ?_;simp only[Act.put,ZPa,ZPb,ZPc,ZPd,ZPe,ZPf];clear hK_
  refine eH_one (k:=16) (fuel:=6) (by kernel_rfl) rfl (by kernel_rfl) (fun K_ hK_=>?_)
  refine wp_call_ex (f:=9) (by kernel_rfl) (ex1e (cB3.at _)) (fun v_ wq18 hX_=>?_)
  obtain⟨rfl,hb⟩:=hX_;replace rp0:=keep hb rp0;replace rl5:=keep hb rl5;replace rl7:=keep hb rl7;replace hrow:=keep hb hrow;replace rl11:=keep hb rl11;replace rg16:=keep hb rg16;replace f4:=f4.below hb;replace hB:=hB.keep hb;replace h2k:=h2k.keep hb;replace hw:=Below.after hw hb;clear hb;refine hK_ _ _ (⟨rl11,rl7⟩) ?_;simp only[Act.put,ZPa,ZPb,ZPc,ZPd,ZPe,ZPf];clear hK_
  refine eH_one (k:=17) (fuel:=5) (by kernel_rfl) rfl (by kernel_rfl) (fun K_ hK_=>?_)
  refine wp_call_ex (f:=14) (by kernel_rfl) (ex1e (cRb.at _)) (fun v_ wq19 hX_=>?_)
  obtain⟨rfl,hb⟩:=hX_;replace rp0:=keep hb rp0;replace rl5:=keep hb rl5;replace rl7:=keep hb rl7;replace hrow:=keep hb hrow;replace rl11:=keep hb rl11;replace rg16:=keep hb rg16;replace f4:=f4.below hb;replace hB:=hB.keep hb;replace h2k:=h2k.keep hb;replace hw:=Below.after hw hb;clear hb;refine hK_ _ _ (⟨rl11,rl7⟩) ?_;simp only[Act.put,ZPa,ZPb,ZPc,ZPd,ZPe,ZPf];clear hK_
  refine eH_one (k:=18) (fuel:=4) (by kernel_rfl) rfl (by kernel_rfl) (fun K_ hK_=>?_)
  refine wp_call_ex (f:=15) (by kernel_rfl) (ex1e (cRd.at _)) (fun v_ wq20 hX_=>?_)
  obtain⟨rfl,hb⟩:=hX_;replace rp0:=keep hb rp0;replace rl5:=keep hb rl5;replace rl7:=keep hb rl7;replace hrow:=keep hb hrow;replace rl11:=keep hb rl11;replace rg16:=keep hb rg16;replace f4:=f4.below hb;replace hB:=hB.keep hb;replace h2k:=h2k.keep hb;replace hw:=Below.after hw hb;clear hb;refine hK_ _ _ (⟨rl11,rl7⟩) ?_;simp only[Act.put,ZPa,ZPb,ZPc,ZPd,ZPe,ZPf];clear hK_
  refine eH_one (k:=19) (fuel:=3) (by kernel_rfl) rfl (by kernel_rfl) (fun K_ hK_=>?_)
  refine wp_call_ex (f:=11) (by kernel_rfl) (ex1e (cB4.at _)) (fun v_ wq21 hX_=>?_)
  obtain⟨rfl,hb⟩:=hX_;replace rp0:=keep hb rp0;replace rl5:=keep hb rl5;replace rl7:=keep hb rl7;replace hrow:=keep hb hrow;replace rl11:=keep hb rl11;replace rg16:=keep hb rg16;replace f4:=f4.below hb;replace hB:=hB.keep hb;replace h2k:=h2k.keep hb;replace hw:=Below.after hw hb;clear hb;refine hK_ _ _ (⟨rl11,rl7⟩) ?_;simp only[Act.put,ZPa,ZPb,ZPc,ZPd,ZPe,ZPf];clear hK_
  refine wpAnyH_take (i:=20) (v:=?v22) rfl (by kernel_rfl) (by kernel_rfl) (by kernel_rfl) (fun _ _ _ h=>h) (Or.inl ⟨by rfl,?y22⟩) (⟨rl11,rl7⟩) ?r22
  case y22=>
   intro w_ hS_;go_simp
   try with_reducible rfl
  simp only[Act.put,ZPa,ZPb,ZPc,ZPd,ZPe,ZPf]
  refine wpAnyH_take (i:=21) (v:=?v23) rfl (by kernel_rfl) (by kernel_rfl) (by kernel_rfl) (fun _ _ _ h=>h) (Or.inl ⟨by rfl,?y23⟩) (⟨rl11,rl7⟩) ?r23
  case y23=>
   intro w_ hS_;go_simp
   try with_reducible rfl
  simp only[Act.put,ZPa,ZPb,ZPc,ZPd,ZPe,ZPf]
  refine wpAnyH_take (i:=22) (v:=?v24) rfl (by kernel_rfl) (by kernel_rfl) (by kernel_rfl) (fun _ _ _ h=>h) (Or.inl ⟨by rfl,?y24⟩) (⟨rl11,rl7⟩) ?r24
  case y24=>
   intro w_ hS_;go_simp
   try with_reducible rfl
  simp only[Act.put,ZPa,ZPb,ZPc,ZPd,ZPe,ZPf]
  refine wpAnyH_done (by kernel_rfl) ?_ _
  refine NoPanic.normal ?_
  go_wp2_with (fail)
  go_ret;exact⟨rfl,hw⟩
 ·skip
  refine e_world_op (.slice (some ⟨wq12.heap.size,0,none⟩) 1 1) (wq12.alloc (.cells #[.int .u8 2] 5)) (by kernel_rfl) ?_
  have hb:Below wq12.heap.size wq12 (wq12.alloc (.cells #[.int .u8 2] 5)):=(Below.refl _ _).alloc (Nat.le_refl _) _;have rg25:=hp1_0 wq12 (.cells #[.int .u8 2] 5);have lt_g25_0:=lt_of_row rp0;have lt_g25_1:=lt_of_row rl5;have lt_g25_2:=lt_of_row rl7;have lt_g25_3:=lt_of_row hrow;have lt_g25_4:=lt_of_row rl11;have sz_g25:=hw.size;replace rp0:=keep hb rp0;replace rl5:=keep hb rl5;replace rl7:=keep hb rl7;replace hrow:=keep hb hrow;replace rl11:=keep hb rl11;replace f4:=f4.below hb;replace hB:=hB.keep hb;replace hw:=Below.after hw hb;clear hb;refine hK_ _ _ (⟨rl11,rl7⟩) ?_;simp only[Act.put,ZPa,ZPb,ZPc,ZPd,ZPe,ZPf];clear hK_
  generalize (wq12.alloc (.cells #[.int .u8 2] 5))=wq25 at *
  generalize wq12.heap.size=g25 at *
  have h2k:=bysK_l18 (l:=[2]) (n:=1) (show wq25.heap[g25]? =some (.cells (Wi.irow .u8 [2]) 5 (0,0)) from rg25) rfl (by decide) (by decide)
  refine eH_one (k:=13) (fuel:=8) (by kernel_rfl) rfl (by kernel_rfl) (fun K_ hK_=>?_)
  refine wp_call_ex (f:=13) (by kernel_rfl) (ex1e (cBa.at f4)) (fun v_ wq26 hX_=>?_)
  obtain⟨rfl,hb⟩:=hX_;replace rp0:=keep hb rp0;replace rl5:=keep hb rl5;replace rl7:=keep hb rl7;replace hrow:=keep hb hrow;replace rl11:=keep hb rl11;replace rg25:=keep hb rg25;replace f4:=f4.below hb;replace hB:=hB.keep hb;replace h2k:=h2k.keep hb;replace hw:=Below.after hw hb;clear hb;refine hK_ _ _ (⟨rl11,rl7⟩) ?_;simp only[Act.put,ZPa,ZPb,ZPc,ZPd,ZPe,ZPf];clear hK_
  refine eH_one (k:=15) (fuel:=7) (by kernel_rfl) rfl (by kernel_rfl) (fun K_ hK_=>?_)
  refine wp_call_ex (f:=8) (by kernel_rfl) (ex1e (cD1 _ _ f4.1.1 h2k.1)) (fun v_ wq27 hX_=>?_)
  obtain⟨rfl,hb⟩:=hX_;replace rp0:=keep hb rp0;replace rl5:=keep hb rl5;replace rl7:=keep hb rl7;replace hrow:=keep hb hrow;replace rl11:=keep hb rl11;replace rg25:=keep hb rg25;replace f4:=f4.below hb;replace hB:=hB.keep hb;replace h2k:=h2k.keep hb;replace hw:=Below.after hw hb;clear hb;refine hK_ _ _ (⟨rl11,rl7⟩) ?_;simp only[Act.put,ZPa,ZPb,ZPc,ZPd,ZPe,ZPf];clear hK_
  refine eH_one (k:=16) (fuel:=6) (by kernel_rfl) rfl (by kernel_rfl) (fun K_ hK_=>?_)
  refine wp_call_ex (f:=9) (by kernel_rfl) (ex1e (cB3.at _)) (fun v_ wq28 hX_=>?_)
  obtain⟨rfl,hb⟩:=hX_;replace rp0:=keep hb rp0;replace rl5:=keep hb rl5;replace rl7:=keep hb rl7;replace hrow:=keep hb hrow;replace rl11:=keep hb rl11;replace rg25:=keep hb rg25;replace f4:=f4.below hb;replace hB:=hB.keep hb;replace h2k:=h2k.keep hb;replace hw:=Below.after hw hb;clear hb;refine hK_ _ _ (⟨rl11,rl7⟩) ?_;simp only[Act.put,ZPa,ZPb,ZPc,ZPd,ZPe,ZPf];clear hK_
  refine eH_one (k:=17) (fuel:=5) (by kernel_rfl) rfl (by kernel_rfl) (fun K_ hK_=>?_)
  refine wp_call_ex (f:=14) (by kernel_rfl) (ex1e (cRb.at _)) (fun v_ wq29 hX_=>?_)
  obtain⟨rfl,hb⟩:=hX_;replace rp0:=keep hb rp0;replace rl5:=keep hb rl5;replace rl7:=keep hb rl7;replace hrow:=keep hb hrow;replace rl11:=keep hb rl11;replace rg25:=keep hb rg25;replace f4:=f4.below hb;replace hB:=hB.keep hb;replace h2k:=h2k.keep hb;replace hw:=Below.after hw hb;clear hb;refine hK_ _ _ (⟨rl11,rl7⟩) ?_;simp only[Act.put,ZPa,ZPb,ZPc,ZPd,ZPe,ZPf];clear hK_
  refine eH_one (k:=18) (fuel:=4) (by kernel_rfl) rfl (by kernel_rfl) (fun K_ hK_=>?_)
  refine wp_call_ex (f:=15) (by kernel_rfl) (ex1e (cRd.at _)) (fun v_ wq30 hX_=>?_)
  obtain⟨rfl,hb⟩:=hX_;replace rp0:=keep hb rp0;replace rl5:=keep hb rl5;replace rl7:=keep hb rl7;replace hrow:=keep hb hrow;replace rl11:=keep hb rl11;replace rg25:=keep hb rg25;replace f4:=f4.below hb;replace hB:=hB.keep hb;replace h2k:=h2k.keep hb;replace hw:=Below.after hw hb;clear hb;refine hK_ _ _ (⟨rl11,rl7⟩) ?_;simp only[Act.put,ZPa,ZPb,ZPc,ZPd,ZPe,ZPf];clear hK_
  refine eH_one (k:=19) (fuel:=3) (by kernel_rfl) rfl (by kernel_rfl) (fun K_ hK_=>?_)
  refine wp_call_ex (f:=11) (by kernel_rfl) (ex1e (cB4.at _)) (fun v_ wq31 hX_=>?_)
  obtain⟨rfl,hb⟩:=hX_;replace rp0:=keep hb rp0;replace rl5:=keep hb rl5;replace rl7:=keep hb rl7;replace hrow:=keep hb hrow;replace rl11:=keep hb rl11;replace rg25:=keep hb rg25;replace f4:=f4.below hb;replace hB:=hB.keep hb;replace h2k:=h2k.keep hb;replace hw:=Below.after hw hb;clear hb;refine hK_ _ _ (⟨rl11,rl7⟩) ?_;simp only[Act.put,ZPa,ZPb,ZPc,ZPd,ZPe,ZPf];clear hK_
  refine wpAnyH_take (i:=20) (v:=?v32) rfl (by kernel_rfl) (by kernel_rfl) (by kernel_rfl) (fun _ _ _ h=>h) (Or.inl ⟨by rfl,?y32⟩) (⟨rl11,rl7⟩) ?r32
  case y32=>
   intro w_ hS_;go_simp
   try with_reducible rfl
  simp only[Act.put,ZPa,ZPb,ZPc,ZPd,ZPe,ZPf]
  refine wpAnyH_take (i:=21) (v:=?v33) rfl (by kernel_rfl) (by kernel_rfl) (by kernel_rfl) (fun _ _ _ h=>h) (Or.inl ⟨by rfl,?y33⟩) (⟨rl11,rl7⟩) ?r33
  case y33=>
   intro w_ hS_;go_simp
   try with_reducible rfl
  simp only[Act.put,ZPa,ZPb,ZPc,ZPd,ZPe,ZPf]
  refine wpAnyH_take (i:=22) (v:=?v34) rfl (by kernel_rfl) (by kernel_rfl) (by kernel_rfl) (fun _ _ _ h=>h) (Or.inl ⟨by rfl,?y34⟩) (⟨rl11,rl7⟩) ?r34
  case y34=>
   intro w_ hS_;go_simp
   try with_reducible rfl
  simp only[Act.put,ZPa,ZPb,ZPc,ZPd,ZPe,ZPf]
  refine wpAnyH_done (by kernel_rfl) ?_ _
  refine NoPanic.normal ?_
  go_wp2_with (fail)
  go_ret;exact⟨rfl,hw⟩
theorem scales_any {bs:List Int} {k:Array Value} {N:Int} {v:Value} (hk:KeyOf k N) (w:World) (hS:Edw w) (hB:BysK w v bs) (hl:bs.length+32≤281474976710656) (hz:∀z∈bs,0≤z∧z<256) (hnil:∀a l c,v=.slice a l c→a=none→c=0):Calls Tryd.prog 3 #[.agg k,v] w fun e w'=>e=.returned (.bool true)∧Below w.heap.size w w':=by
 have hK:KeyOf (kb N) N:=by rw[←key_is hk];exact hk
 rw[key_is hk];obtain⟨ao,ca,rfl,_⟩:=id hB.1;obtain⟨t1,h1,c1⟩:=a_Parse hK;obtain⟨t2,h2,c2⟩:=r_Parse19 hK;obtain⟨s1,hs1,cS1⟩:=a_Scale h1 bs hz;obtain⟨s2,hs2,cS2⟩:=r_Scale19 h2 bs hz;obtain⟨b1,hb1,cBa⟩:=a_Base
 obtain⟨d1,hd1,cD1⟩:=a_Scale hb1 [2] (by decide)
 obtain⟨b2,hb2,cRb⟩:=r_Base19;obtain⟨d2,hd2,cRd⟩:=r_Double19 hb2
 rw[show pl bp bp=ml (bval [2]) bp by rw[show bval [2]=2*1 from rfl,←ml_two,ml_one]] at hd2
 exact scales_walk h1 h2 hs1 w hS hB hl (by omega) hz hnil c1 c2 cS1 cS2 (a_Bytes hs1) (r_Bytes19 hs2) cBa cD1 (a_Bytes hd1) cRb cRd (r_Bytes19 hd2) (eq_pb _) (eq_pb _)
end Go.Proofs.YtdcpcdkbhgkmlaaDoor
