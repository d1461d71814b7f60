import Derived.Test.YtmmlkfkpblokiaaGreatDoorQdKye
import Derived.Test.YtmmlkfkpblokiaaGreatDoorQdUc
import Derived.Test.YtmmlkfkpblokiaaGreatDoorProg
import Derived.WalkKit
import Derived.WalkSpells
import Derived.WalkLawsBesides
import Derived.Lib.QuietBelow
import Derived.Laws.BitsAllLaws
import Derived.BigQuiet
import Derived.WalkMore
import Derived.Test.YtmmlkfkpblokiaaGreatDoorQdOpen
import Derived.Test.YtmmlkfkpblokiaaGreatDoorQdIrb
import Derived.Test.YtmmlkfkpblokiaaGreatDoorQdXdc
import Derived.OwnWalk
import Derived.Deep.Cut
import Derived.Deep.RegionHeld3
namespace Go.Proofs.YtmmlkfkpblokiaaGreatDoor
set_option maxRecDepth 100000
open Go Go.RowKit Go.Sort
attribute [local go_sem] setCell_drewN alloc_drewN
inductive HSx (W:World):Nat→Nat→Value→List Slt→Prop
 |mk (lo hi:Nat) (ts:List Slt) (us:List Value) (p:Nat→Nat) (hl:ts.length≤10000) (hG:lo<W.heap.size) (hh:hi≤W.heap.size) (hp0:lo<hi)
  (hp:∀i,i<ts.length→lo<p i∧p i≤p (i+1)∧p (i+1)≤hi)
  (hcs:∃cs T,W.heap[lo]? =some (.cells cs T (0,0))∧cs.size=(ts.length+3)*5)
  (h:∀i,i<ts.length→W.rangeAt lo (i*5) (srow (gs ts i) (gvs us i))∧Sok (gs ts i))
  (hm:∀i,ts.length≤i→i<ts.length+3→W.rangeAt lo (i*5) hmk)
  (hs:∀i,i<ts.length→HSx W (p i) (p (i+1)) (gvs us i) (gs ts i).sub):HSx W lo hi (.slice (some ⟨lo,0,none⟩) ts.length (ts.length+3)) ts
theorem HSx.sl {W:World} {lo hi:Nat} {v:Value} {ts:List Slt} (h:HSx W lo hi v ts):HSl W (fun b=>lo≤b∧b<hi) v ts:=by
 induction h with
 |mk lo hi ts us p hl hG hh hp0 hp hcs h hm hs ih=>
  refine .mk lo ts us hl hG ⟨Nat.le_refl _,hp0⟩ h hm (fun i hi=>(ih i hi).keep (Nat.le_refl _) fun b _ hb=>⟨rfl,?_⟩)
  have:=hp i hi;omega
theorem HSx.keep {W V:World} {lo hi:Nat} {v:Value} {ts:List Slt} (h:HSx W lo hi v ts) (hs:W.heap.size≤V.heap.size):(∀b,lo≤b→b<hi→V.heap[b]? =W.heap[b]?)→HSx V lo hi v ts:=by
 induction h with
 |mk lo hi ts us p hl hG hh hp0 hp hcs h hm _ ih=>
  intro hb;have h0:=hb lo (Nat.le_refl _) hp0
  refine .mk lo hi ts us p hl (by omega) (by omega) hp0 hp (by rw[h0];exact hcs) (fun i hi=>⟨range_same (h i hi).1 h0,(h i hi).2⟩) (fun i h1 h2=>range_same (hm i h1 h2) h0) (fun i hi=>ih i hi fun b h1 h2=>hb b (by have:=hp i hi;omega) (by have:=hp i hi;omega))
theorem HSx.form {W:World} {lo hi:Nat} {v:Value} {ts:List Slt} (h:HSx W lo hi v ts):v=.slice (some ⟨lo,0,none⟩) ts.length (ts.length+3)∧lo<hi:=by
 cases h with
 |mk lo hi _ us p hl hG hh hp0 hp hcs h hm hs=>exact⟨rfl,hp0⟩
set_option maxRecDepth 100000 in
set_option maxHeartbeats 16000000 in
theorem l_handx {W:World} {v:Value} {ts:List Slt} (h:Slo W v ts):∀(l:Int),l≤10000→0≤slL ts l→∀(w:World),Below W.heap.size W w→Calls Tryz.prog 25 #[v] w fun e w'=>∃v',e=.returned v'∧Below w.heap.size w w'∧HSx w' w.heap.size w'.heap.size v' ts:=by
 induction h with
 |mk ao cap ts us hl hc hn h hs ih=>
  intro l hl1 hl2 w hw;have hlen:=slL_len ts l hl2
  have h4:ts.length≤10000:=by omega
  obtain⟨cs,hmk,hcs1,hcs2⟩:=make_sl (ts.length+3) (by omega) w
  have hmk':(Instr.makeSlice 22 (.int .i64 ((ts.length:Int)+3)) (.int .i64 ((ts.length:Int)+3))).run Tryz.prog w=.ok (.slice (some ⟨w.heap.size,0,none⟩) (ts.length+3) (ts.length+3)) (w.alloc (.cells cs 88)):=hmk
  have hR0:Hrw (w.alloc (.cells cs 88)) w.heap.size ts [] 0:=⟨cs,hp1_0 w _,hcs1,fun i c h1 h2=>by unfold hrow;rw[if_neg (by omega)];exact hcs2 i c h1 h2⟩
  have hba:Below w.heap.size w (w.alloc (.cells cs 88)):=(Below.refl _ _).alloc (Nat.le_refl _) _;have hsz:(w.alloc (.cells cs 88)).heap.size=w.heap.size+1:=size_alloc1 _ _;clear hmk hcs1 hcs2
  go_enter Tryz.func25,Tryz.ntmps25
  go_wp2_with (fail)
  generalize w.alloc (.cells cs 88)=w0 at *
  clear hmk'
  generalize hG:w.heap.size=G at *
  replace hG:=hide hG
  go_loopw [4] (fun i wr=>∃(k:Nat) (vs:List Value) (p:Nat→Nat),k≤ts.length+3∧i=.int .i64 k∧Below G w wr∧G<wr.heap.size∧vs.length=min k ts.length∧Hrw wr G ts vs k∧G<p (min k ts.length)∧p (min k ts.length)=wr.heap.size∧∀i,i<min k ts.length→(G<p i∧p i≤p (i+1)∧p (i+1)≤wr.heap.size)∧HSx wr (p i) (p (i+1)) (gvs vs i) (gs ts i).sub) (fun i _=>ts.length+3-(intOf i).toNat)
  case atStart=>exact⟨0,[],fun _=>w0.heap.size,by omega,rfl,hba,by omega,by simp,hR0,by show G<w0.heap.size;omega,rfl,fun i hi=>by omega⟩
  case round=>
   clear hR0 hba hsz;obtain⟨k,vs,p,hk,rfl,hB,hGl,hvl,hR,hpG,hpk,hN⟩:=hrel
   have hww:Below W.heap.size W wr:=hw.trans (hB.mono (by rw[←hG.out];exact hw.size))
   by_cases hlt:k<ts.length+3
   ·have hd:decide ((k:Int)<(ts.length:Int)+3)=true:=by simp;omega
    have hd':((k:Int)<(ts.length:Int)+3):=by omega
    have hk1:0≤(k:Int)∧(k:Int)<(ts.length:Int)+3:=by omega
    obtain⟨cc,hcc,hcz,hcv⟩:=id hR
    have fz:wr.frozen? ⟨G,k*5,none⟩=false:=by simp[World.frozen?,hcc]
    have fc:wr.cell? ⟨G,k*5,none⟩=some (.int .i64 0):=by
     rw[cell_of_row _ _ _ _ _ _ hcc]
     have:=hcv k 0 hlt (by omega)
     rw[Nat.add_zero] at this
     rw[this];unfold hrow;rw[if_neg (by omega)];rfl
    by_cases hkn:k<ts.length
    ·have hd2:decide ((k:Int)<(ts.length:Int))=true:=by simp;omega
     obtain⟨b,off,hao,hbl,hra,hok⟩:=h k hkn
     have hSl:=hs k hkn;obtain⟨l',hl3,hl4⟩:=slL_at ts l k hl2 hkn
     have hih:=ih k hkn l' (by omega) hl4
     subst hao
     have hGb:W.heap.size≤G:=by rw[←hG.out];exact hw.size
     have hbG:b≠G:=by omega
     obtain⟨ua,uc,hue⟩:=hSl.form
     rw[Nat.min_eq_left (by omega)] at hvl hN hpG hpk
     have hB1:Below G w (wr.setCell ⟨G,k*5,none⟩ (.int .i64 (-77))):=hB.setCell (Nat.le_refl _) _
     have hsz1:(wr.setCell ⟨G,k*5,none⟩ (.int .i64 (-77))).heap.size=wr.heap.size:=by simp
     have hra1:(wr.setCell ⟨G,k*5,none⟩ (.int .i64 (-77))).rangeAt b (off+k*5) (srow (gs ts k) (gvs us k)):=range_same (rangeS_keep2 hra hww hbl) (heap_setCell_other _ _ b _ hbG)
     have hth:(wr.setCell ⟨G,k*5,none⟩ (.int .i64 (-77))).there G (k*5) 5:=there_of_row (heap_setCell_same wr G (k*5) cc _ _ hcc) (by simp;omega)
     have hR1:=fun(V:World) (u v:Value) hV=>hR.slot (V:=V) (u:=u) (v:=v) hkn hvl hV
     generalize hgt:gs ts k=t at *
     replace hgt:=hide hgt
     generalize hu:gvs us k=u at *
     subst hue;clear hu h hs ih hR;have hra':=hra;clear hra;obtain⟨cs2,hcs2,hcz2⟩:=setCells_row (g:=G) [.int .i64 t.no,.int .i64 t.kind,.int .u64 (t.least:Int),.int .u64 (t.most:Int),.slice ua t.sub.length uc] (k*5) _ _ (heap_setCell_same wr G (k*5) cc _ (.int .i64 (-77)) hcc)
     have hcz3:cs2.size=(ts.length+3)*5:=by rw[hcz2];simp[hcz]
     have hcs2':((((((wr.setCell ⟨G,k*5,none⟩ (.int .i64 (-77))).setCell ⟨G,k*5,none⟩ (.int .i64 t.no)).setCell ⟨G,k*5+1,none⟩ (.int .i64 t.kind)).setCell ⟨G,k*5+2,none⟩ (.int .u64 (t.least:Int))).setCell ⟨G,k*5+3,none⟩ (.int .u64 (t.most:Int))).setCell ⟨G,k*5+4,none⟩ (.slice ua t.sub.length uc)).heap[G]? =some (.cells cs2 88 (0,0)):=hcs2;have hB2:Below G w ((((((wr.setCell ⟨G,k*5,none⟩ (.int .i64 (-77))).setCell ⟨G,k*5,none⟩ (.int .i64 t.no)).setCell ⟨G,k*5+1,none⟩ (.int .i64 t.kind)).setCell ⟨G,k*5+2,none⟩ (.int .u64 (t.least:Int))).setCell ⟨G,k*5+3,none⟩ (.int .u64 (t.most:Int))).setCell ⟨G,k*5+4,none⟩ (.slice ua t.sub.length uc)):=below_setCells (Nat.le_refl _) [.int .i64 t.no,.int .i64 t.kind,.int .u64 (t.least:Int),.int .u64 (t.most:Int),.slice ua t.sub.length uc] (k*5) _ hB1;have hsz2:((((((wr.setCell ⟨G,k*5,none⟩ (.int .i64 (-77))).setCell ⟨G,k*5,none⟩ (.int .i64 t.no)).setCell ⟨G,k*5+1,none⟩ (.int .i64 t.kind)).setCell ⟨G,k*5+2,none⟩ (.int .u64 (t.least:Int))).setCell ⟨G,k*5+3,none⟩ (.int .u64 (t.most:Int))).setCell ⟨G,k*5+4,none⟩ (.slice ua t.sub.length uc)).heap.size=wr.heap.size:=(size_setCells (g:=G) [.int .i64 t.no,.int .i64 t.kind,.int .u64 (t.least:Int),.int .u64 (t.most:Int),.slice ua t.sub.length uc] (k*5) _).trans hsz1
     have hel2:∀q,q≠G→((((((wr.setCell ⟨G,k*5,none⟩ (.int .i64 (-77))).setCell ⟨G,k*5,none⟩ (.int .i64 t.no)).setCell ⟨G,k*5+1,none⟩ (.int .i64 t.kind)).setCell ⟨G,k*5+2,none⟩ (.int .u64 (t.least:Int))).setCell ⟨G,k*5+3,none⟩ (.int .u64 (t.most:Int))).setCell ⟨G,k*5+4,none⟩ (.slice ua t.sub.length uc)).heap[q]? =wr.heap[q]? :=fun q hq=>(heap_setCells_else hq [.int .i64 t.no,.int .i64 t.kind,.int .u64 (t.least:Int),.int .u64 (t.most:Int),.slice ua t.sub.length uc] (k*5) _).trans (heap_setCell_other _ _ q _ hq)
     have hww2:Below W.heap.size W ((((((wr.setCell ⟨G,k*5,none⟩ (.int .i64 (-77))).setCell ⟨G,k*5,none⟩ (.int .i64 t.no)).setCell ⟨G,k*5+1,none⟩ (.int .i64 t.kind)).setCell ⟨G,k*5+2,none⟩ (.int .u64 (t.least:Int))).setCell ⟨G,k*5+3,none⟩ (.int .u64 (t.most:Int))).setCell ⟨G,k*5+4,none⟩ (.slice ua t.sub.length uc)):=hw.trans (hB2.mono hGb);have hV0:((((((wr.setCell ⟨G,k*5,none⟩ (.int .i64 (-77))).setCell ⟨G,k*5,none⟩ (.int .i64 t.no)).setCell ⟨G,k*5+1,none⟩ (.int .i64 t.kind)).setCell ⟨G,k*5+2,none⟩ (.int .u64 (t.least:Int))).setCell ⟨G,k*5+3,none⟩ (.int .u64 (t.most:Int))).setCell ⟨G,k*5+4,none⟩ (.slice ua t.sub.length uc)).heap[G]? =((wr.setCell ⟨G,k*5,none⟩ (.int .i64 (-77))).setCells G (k*5) (srow t (.slice ua t.sub.length uc))).heap[G]? :=rfl;have hra0:=rangeS_keep2 hra' hww hbl;have b0:=hra0 0 _ rfl;have b1:=hra0 1 _ rfl;have b2:=hra0 2 _ rfl;have b3:=hra0 3 _ rfl;have b4:=hra0 4 _ rfl
     have f1:wr.cell? ⟨G,k*5+1,none⟩=some (.int .i64 0):=by rw[cell_of_row _ _ _ _ _ _ hcc,hcv k 1 hlt (by omega)];unfold hrow;rw[if_neg (by omega)];rfl
     have f2:wr.cell? ⟨G,k*5+2,none⟩=some (.int .u64 0):=by rw[cell_of_row _ _ _ _ _ _ hcc,hcv k 2 hlt (by omega)];unfold hrow;rw[if_neg (by omega)];rfl
     have f3:wr.cell? ⟨G,k*5+3,none⟩=some (.int .u64 0):=by rw[cell_of_row _ _ _ _ _ _ hcc,hcv k 3 hlt (by omega)];unfold hrow;rw[if_neg (by omega)];rfl
     have f4:wr.cell? ⟨G,k*5+4,none⟩=some (.slice none 0 0):=by rw[cell_of_row _ _ _ _ _ _ hcc,hcv k 4 hlt (by omega)];unfold hrow;rw[if_neg (by omega)];rfl
     have fz1:wr.frozen? ⟨G,k*5+1,none⟩=false:=by simp[World.frozen?,hcc]
     have fz2:wr.frozen? ⟨G,k*5+2,none⟩=false:=by simp[World.frozen?,hcc]
     have fz3:wr.frozen? ⟨G,k*5+3,none⟩=false:=by simp[World.frozen?,hcc]
     have fz4:wr.frozen? ⟨G,k*5+4,none⟩=false:=by simp[World.frozen?,hcc]
     rw[Nat.add_zero] at b0;have A2:=hide hB2;have A4:=hide hsz2;have A5:=hide hel2;have A6:=hide hww2;have A7:=hide hV0;have A8:=hide hcs2';have A9:=hide hR1;have AN:=hide hN
     have hbG':¬G=b:=fun e=>hbG e.symm
     clear hB1 hB2 hsz1 hsz2 hel2 hww2 hV0 hcs2 hcs2' hR1 hN hcz2 hcc hB hww hl hc hn hra1 hra' hra0 hth hcv;have cH:=hih ((((((wr.setCell ⟨G,k*5,none⟩ (.int .i64 (-77))).setCell ⟨G,k*5,none⟩ (.int .i64 t.no)).setCell ⟨G,k*5+1,none⟩ (.int .i64 t.kind)).setCell ⟨G,k*5+2,none⟩ (.int .u64 (t.least:Int))).setCell ⟨G,k*5+3,none⟩ (.int .u64 (t.most:Int))).setCell ⟨G,k*5+4,none⟩ (.slice ua t.sub.length uc)) A6.out;clear hih
     go_wp2_with (fail)
     generalize ((((((wr.setCell ⟨G,k*5,none⟩ (.int .i64 (-77))).setCell ⟨G,k*5,none⟩ (.int .i64 t.no)).setCell ⟨G,k*5+1,none⟩ (.int .i64 t.kind)).setCell ⟨G,k*5+2,none⟩ (.int .u64 (t.least:Int))).setCell ⟨G,k*5+3,none⟩ (.int .u64 (t.most:Int))).setCell ⟨G,k*5+4,none⟩ (.slice ua t.sub.length uc))=w2 at *
     refine cH.mono ?_;rintro e_ w3 ⟨v',rfl,hb3,hv'⟩;clear cH b0 b1 b2 b3 b4 f1 f2 f3 f4 fz1 fz2 fz3 fz4 fz fc;obtain⟨rfl,hG'⟩:=hv'.form;have hs2:=A4.out
     have hG2:G<w2.heap.size:=by omega
     have r3:w3.heap[G]? =some (.cells cs2 88 (0,0)):=keep hb3 A8.out;have hR2:=A9.out w3 (.slice ua t.sub.length uc) (.slice (some ⟨w2.heap.size,0,none⟩) t.sub.length (t.sub.length+3)) ((hb3.block G hG2).trans A7.out)
     have hB3:Below G w (w3.setCell ⟨G,k*5+4,none⟩ (.slice (some ⟨w2.heap.size,0,none⟩) t.sub.length (t.sub.length+3))):=(A2.out.trans (hb3.mono (by omega))).setCell (Nat.le_refl _) _
     have hs3:=hb3.size
     have hs4:(w3.setCell ⟨G,k*5+4,none⟩ (.slice (some ⟨w2.heap.size,0,none⟩) t.sub.length (t.sub.length+3))).heap.size=w3.heap.size:=by simp
     have hN2:∀i,i<min (k+1) ts.length→(G<(if i≤k then p i else w3.heap.size)∧(if i≤k then p i else w3.heap.size)≤(if i+1≤k then p (i+1) else w3.heap.size)∧(if i+1≤k then p (i+1) else w3.heap.size)≤(w3.setCell ⟨G,k*5+4,none⟩ (.slice (some ⟨w2.heap.size,0,none⟩) t.sub.length (t.sub.length+3))).heap.size)∧HSx (w3.setCell ⟨G,k*5+4,none⟩ (.slice (some ⟨w2.heap.size,0,none⟩) t.sub.length (t.sub.length+3))) (if i≤k then p i else w3.heap.size) (if i+1≤k then p (i+1) else w3.heap.size) (gvs (vs++[.slice (some ⟨w2.heap.size,0,none⟩) t.sub.length (t.sub.length+3)]) i) (gs ts i).sub:=fun i hi=>by
      rcases Nat.lt_or_ge i k with h6|h6
      ·rw[gvs_low _ _ _ (by omega),if_pos (by omega),if_pos (by omega)]
       obtain⟨h9,h10⟩:=AN.out i h6
       exact⟨by omega,h10.keep (by omega) fun q h7 h8=>(heap_setCell_other _ _ q _ (by show q≠G;omega)).trans ((hb3.block q (by omega)).trans (A5.out q (by omega)))⟩
      ·have h7:i=k:=by omega
       subst h7
       rw[gvs_top _ _ _ hvl,hgt.out,if_pos (Nat.le_refl _),if_neg (by omega),hpk,←hs2]
       exact⟨by omega,hv'.keep (by omega) fun q h7 h8=>heap_setCell_other _ _ q _ (by show q≠G;omega)⟩
     have fz5:w3.frozen? ⟨G,k*5+4,none⟩=false:=by simp[World.frozen?,r3]
     obtain⟨y5,fc5⟩:∃y,w3.cell? ⟨G,k*5+4,none⟩=some y:=by
      rw[cell_of_row _ _ _ _ _ _ r3]
      exact⟨_,Array.getElem?_eq_getElem (by omega)⟩
     have A10:=hide hR2;have A11:=hide hB3;have A12:=hide hN2;have A13:=hide hs4;clear hs2 hR2 hB3 hN2 hs4 hv' hb3 r3 A2 A4 A5 A6 A7 A8 A9 AN
     go_wp2_with (fail)
     refine⟨⟨k+1,vs++[.slice (some ⟨w2.heap.size,0,none⟩) t.sub.length (t.sub.length+3)],fun i=>if i≤k then p i else w3.heap.size,by omega,by go_num,A11.out,by rw[A13.out];omega,by simp;omega,A10.out,?_,?_,A12.out⟩,?_⟩
     ·rw[Nat.min_eq_left (by omega)];show G<if k+1≤k then p (k+1) else w3.heap.size;rw[if_neg (by omega)];omega
     ·rw[Nat.min_eq_left (by omega)];show(if k+1≤k then p (k+1) else w3.heap.size)=_;rw[if_neg (by omega),A13.out]
     simp[intOf];omega
    ·have hd2:decide ((k:Int)<(ts.length:Int))=false:=by simp;omega
     have hR2:=hR.mark (by omega) hlt
     have hB2:Below G w (wr.setCell ⟨G,k*5,none⟩ (.int .i64 (-77))):=hB.setCell (Nat.le_refl _) _
     have hsz2:(wr.setCell ⟨G,k*5,none⟩ (.int .i64 (-77))).heap.size=wr.heap.size:=by simp
     have hN2:∀i,i<min (k+1) ts.length→(G<p i∧p i≤p (i+1)∧p (i+1)≤(wr.setCell ⟨G,k*5,none⟩ (.int .i64 (-77))).heap.size)∧HSx (wr.setCell ⟨G,k*5,none⟩ (.int .i64 (-77))) (p i) (p (i+1)) (gvs vs i) (gs ts i).sub:=fun i hi=>by
      obtain⟨h5,h6⟩:=hN i (by omega)
      exact⟨by omega,h6.keep (by omega) fun q h7 _=>heap_setCell_other _ _ q _ (by show q≠G;omega)⟩
     rw[show min k ts.length=min (k+1) ts.length by omega] at hpG hpk
     rw[←hsz2] at hpk;clear h hs ih hR hN hcc hcz hcv
     go_wp2_with (fail)
     generalize (wr.setCell ⟨G,k*5,none⟩ (.int .i64 (-77)))=w1 at *
     refine⟨⟨k+1,vs,p,by omega,by go_num,hB2,by omega,by rw[hvl];omega,hR2,hpG,hpk,hN2⟩,?_⟩
     simp[intOf];omega
   ·have hd:decide ((k:Int)<(ts.length:Int)+3)=false:=by simp;omega
    have hke:k=ts.length+3:=by omega
    subst hke
    rw[Nat.min_eq_right (by omega)] at hvl hN hpG hpk
    have hfin:HSx wr G wr.heap.size (.slice (some ⟨G,0,none⟩) ts.length (ts.length+3)) ts:=by
     refine .mk G wr.heap.size ts vs p h4 hGl (Nat.le_refl _) hGl (fun i hi=>(hN i hi).1) (hR.elim fun cs q=>⟨cs,_,q.1,q.2.1⟩) (fun i hi=>⟨?_,(h i hi).elim fun _ q=>q.elim fun _ q=>q.2.2.2⟩) (fun i h1 h2=>?_) (fun i hi=>(hN i hi).2)
     ·have:=hR.range (i:=i) (by omega) (hrow_len ..)
      rwa [show hrow ts vs (ts.length+3) i=srow (gs ts i) (gvs vs i) by unfold hrow;rw[if_pos (by omega),if_pos hi]] at this
     ·have:=hR.range (i:=i) h2 (hrow_len ..)
      rwa [show hrow ts vs (ts.length+3) i=hmk by unfold hrow;rw[if_pos (by omega),if_neg (by omega)]] at this
    clear h hs ih hR hN
    go_wp2_with (fail)
    go_ret
    exact⟨_,rfl,by rw[hG.out];exact hB,by rw[hG.out];exact hfin⟩
end Go.Proofs.YtmmlkfkpblokiaaGreatDoor
namespace Go.Proofs.YtmmlkfkpblokiaaGreatDoor
set_option maxRecDepth 100000
open Go Go.RowKit Go.Sort
attribute [local go_sem] setCell_drewN alloc_drewN
set_option maxRecDepth 100000 in
set_option maxHeartbeats 4000000 in
theorem r_Compile {W:World} {v:Value} {ts:List Slt} (h:Slo W v ts) (hbig:0≤slL ts 10000) (w:World) (hw:Below W.heap.size W w):Calls Tryz.prog 27 #[v] w fun e w'=>Below w.heap.size w w'∧((vld ts=0∧∃g u,e=.returned (.tuple #[.pointer (some ⟨g,0,none⟩),.int .i64 0])∧w.heap.size≤g∧w'.heap[g]? =some (.cells #[u] 81 (0,0))∧SlL w' (fun b=>w.heap.size≤b) u ts)∨(vld ts≠0∧e=.returned (.tuple #[.pointer none,.int .i64 (vld ts)]))):=by
 have cV:=r_valid h w hw
 have cT:=fun V hV=>r_twin h 10000 (by omega) hbig V hV
 obtain⟨ao,cap,rfl⟩:=h.form
 generalize hx:vld ts=x at *
 replace hx:=hide hx
 by_cases h0:x=0
 ·subst h0
  go_enter Tryz.func27,Tryz.ntmps27
  go_wp2_with (fail)
  refine cV.mono ?_;rintro e_ w1 ⟨rfl,hb1⟩;clear cV
  go_wp2_with (fail)
  refine(cT w1 (Below.after hw hb1)).mono ?_;rintro e_ w2 ⟨u,rfl,hb2,hu⟩;clear cT;obtain⟨ua,uc,rfl⟩:=hu.form;have r1:=hp1_0 w2 (.cells #[.slice ua ts.length uc] 81);have hba:Below w2.heap.size w2 (w2.alloc (.cells #[.slice ua ts.length uc] 81)):=(Below.refl _ _).alloc (Nat.le_refl _) _;have hs1:=hb1.size;have hs2:=hb2.size
  have hu2:SlL (w2.alloc (.cells #[.slice ua ts.length uc] 81)) (fun b=>w.heap.size≤b) (.slice ua ts.length uc) ts:=hu.keep hba.size fun q h1 h2=>⟨hba.block q h1,by omega⟩
  have A1:=hide r1;have A2:=hide (Below.after (Below.after hb1 hb2) hba);have A3:=hide hu2;clear r1 hba hu hu2 hb1 hb2
  go_wp2_with (fail)
  go_ret2
  exact⟨A2.out,.inl ⟨trivial,_,_,rfl,by omega,A1.out,A3.out⟩⟩
 ·have hx':(x==0)=false:=beq_eq_false_iff_ne.2 h0
  go_enter Tryz.func27,Tryz.ntmps27
  go_wp2_with (fail)
  refine cV.mono ?_;rintro e_ w1 ⟨rfl,hb1⟩;clear cV cT
  go_wp2_with (fail)
  go_ret2;exact⟨hb1,.inr ⟨h0,rfl⟩⟩
structure Out (lo hi:Nat) (w w':World):Prop where
 os:w'.os=w.os
 tape:w'.tape=w.tape
 output:w'.output=w.output
 size:w'.heap.size=w.heap.size
 block:∀k,(k<lo∨hi≤k)→w'.heap[k]? =w.heap[k]?
theorem Out.refl (lo hi:Nat) (w:World):Out lo hi w w:=⟨rfl,rfl,rfl,rfl,fun _ _=>rfl⟩
theorem Out.trans {lo hi lo' hi':Nat} {a b c:World} (h:Out lo hi a b) (k:Out lo' hi' b c) (h1:lo≤lo') (h2:hi'≤hi):Out lo hi a c:=
 ⟨k.os.trans h.os,k.tape.trans h.tape,k.output.trans h.output,k.size.trans h.size,fun i hi=>(k.block i (by omega)).trans (h.block i hi)⟩
theorem Out.set {lo hi o:Nat} {a b:World} {v:Value} (h:Out lo hi a b) (h1:lo<hi):Out lo hi a (b.setCell ⟨lo,o,none⟩ v):=
 ⟨h.os,h.tape,h.output,by rw[←h.size];simp,fun i hi=>(heap_setCell_other b _ i v (by show i≠lo;omega)).trans (h.block i hi)⟩
set_option maxRecDepth 100000 in
set_option maxHeartbeats 16000000 in
theorem l_wipe {W:World} {lo hi:Nat} {v:Value} {ts:List Slt} (h:HSx W lo hi v ts):∀(w:World),(∀b,lo≤b→b<hi→w.heap[b]? =W.heap[b]?)→Calls Tryz.prog 29 #[v] w fun e w'=>(∃u,e=.returned u)∧Out lo hi w w':=by
 induction h with
 |mk lo hi ts us p hl hG hh hp0 hp hcs h hm hs ih=>
  intro w hw;obtain⟨cs0,T,hc0,hz0⟩:=hcs
  have hv0:∀j c,j<ts.length→c<5→cs0[j*5+c]? =(srow (gs ts j) (gvs us j))[c]? :=fun j c hj hc=>by
   have hx:∃x,(srow (gs ts j) (gvs us j))[c]? =some x:=⟨_,List.getElem?_eq_getElem (by show c<5;exact hc)⟩
   obtain⟨x,hx⟩:=hx;have:=(h j hj).1 c x hx;rw[cell_of_row _ _ _ _ _ _ hc0] at this;rw[hx,this]
  have hpm:∀i j,i≤j→j<ts.length→p i≤p j:=fun i j hij hj=>by
   induction j with
   |zero=>
    have:i=0:=by omega
    rw[this];exact Nat.le_refl _
   |succ j ihj=>
    rcases Nat.lt_or_ge i (j+1) with q|q
    ·exact Nat.le_trans (ihj (by omega) (by omega)) (hp j (by omega)).2.1
    ·have:i=j+1:=by omega
     rw[this];exact Nat.le_refl _
  have hc1:=(hw lo (Nat.le_refl _) hp0).trans hc0
  go_enter Tryz.func29,Tryz.ntmps29
  go_wp2_with (fail)
  go_loopw [2] (fun i wr=>∃(k:Nat) (cs:Array Value),k≤ts.length∧i=.int .i64 k∧Out lo hi w wr∧wr.heap[lo]? =some (.cells cs T (0,0))∧cs.size=(ts.length+3)*5∧(∀j c,k≤j→j<ts.length→c<5→cs[j*5+c]? =(srow (gs ts j) (gvs us j))[c]?)∧∀j b,k≤j→j<ts.length→p j≤b→b<p (j+1)→wr.heap[b]? =W.heap[b]?) (fun i _=>ts.length-(intOf i).toNat)
  case atStart=>exact⟨0,cs0,by omega,rfl,Out.refl _ _ _,hc1,hz0,fun j c _ hj hc=>hv0 j c hj hc,fun j b _ hj h1 h2=>hw b (by have:=hp j hj;omega) (by have:=hp j hj;omega)⟩
  case round=>
   obtain⟨k,cs,hk,rfl,hO,hc,hz,hv,hN⟩:=hrel
   by_cases hlt:k<ts.length
   ·have hd:decide ((k:Int)<(ts.length:Int))=true:=by simp;omega
    have hk1:0≤(k:Int)∧(k:Int)<(ts.length:Int):=by omega
    have hpk:=hp k hlt
    have y4:wr.cell? ⟨lo,k*5+4,none⟩=some (gvs us k):=by
     rw[cell_of_row _ _ _ _ _ _ hc,hv k 4 (Nat.le_refl _) hlt (by omega)];rfl
    have cW:=ih k hlt wr (fun b h1 h2=>hN k b (Nat.le_refl _) hlt h1 h2)
    have hfm:=(hs k hlt).form.1
    generalize gvs us k=u at *
    subst hfm;have A1:=hide hO;have A2:=hide hc;have A3:=hide hv;have A4:=hide hN;clear h hs ih hm hO hc hv hN hv0 hc0 hc1 hw
    go_wp2_with (fail)
    refine cW.mono ?_;rintro e_ w2 ⟨⟨u0,rfl⟩,hO2⟩;clear cW y4
    have r2:=(hO2.block lo (by omega)).trans A2.out
    obtain⟨z0,n0⟩:∃z,w2.cell? ⟨lo,k*5,none⟩=some z:=by
     rw[cell_of_row _ _ _ _ _ _ r2]
     exact⟨_,Array.getElem?_eq_getElem (by omega)⟩
    have f0:w2.frozen? ⟨lo,k*5,none⟩=false:=by simp[World.frozen?,r2]
    obtain⟨z1,n1⟩:∃z,w2.cell? ⟨lo,k*5+1,none⟩=some z:=by
     rw[cell_of_row _ _ _ _ _ _ r2]
     exact⟨_,Array.getElem?_eq_getElem (by omega)⟩
    have f1:w2.frozen? ⟨lo,k*5+1,none⟩=false:=by simp[World.frozen?,r2]
    obtain⟨z2,n2⟩:∃z,w2.cell? ⟨lo,k*5+2,none⟩=some z:=by
     rw[cell_of_row _ _ _ _ _ _ r2]
     exact⟨_,Array.getElem?_eq_getElem (by omega)⟩
    have f2:w2.frozen? ⟨lo,k*5+2,none⟩=false:=by simp[World.frozen?,r2]
    obtain⟨z3,n3⟩:∃z,w2.cell? ⟨lo,k*5+3,none⟩=some z:=by
     rw[cell_of_row _ _ _ _ _ _ r2]
     exact⟨_,Array.getElem?_eq_getElem (by omega)⟩
    have f3:w2.frozen? ⟨lo,k*5+3,none⟩=false:=by simp[World.frozen?,r2]
    obtain⟨z4,n4⟩:∃z,w2.cell? ⟨lo,k*5+4,none⟩=some z:=by
     rw[cell_of_row _ _ _ _ _ _ r2]
     exact⟨_,Array.getElem?_eq_getElem (by omega)⟩
    have f4:w2.frozen? ⟨lo,k*5+4,none⟩=false:=by simp[World.frozen?,r2]
    have hO3:=A1.out.trans hO2 (by omega) (by omega)
    have hO4:Out lo hi w (((((w2.setCell ⟨lo,k*5,none⟩ (.int .i64 1)).setCell ⟨lo,k*5+1,none⟩ (.int .i64 1)).setCell ⟨lo,k*5+2,none⟩ (.int .u64 0)).setCell ⟨lo,k*5+3,none⟩ (.int .u64 3)).setCell ⟨lo,k*5+4,none⟩ (.slice none 0 0)):=((((hO3.set hp0).set hp0).set hp0).set hp0).set hp0;have r3:=(heap_setCell_same _ lo (k*5+4) _ _ (.slice none 0 0) (heap_setCell_same _ lo (k*5+3) _ _ (.int .u64 3) (heap_setCell_same _ lo (k*5+2) _ _ (.int .u64 0) (heap_setCell_same _ lo (k*5+1) _ _ (.int .i64 1) (heap_setCell_same _ lo (k*5) _ _ (.int .i64 1) r2)))))
    have hel:∀q,q≠lo→(((((w2.setCell ⟨lo,k*5,none⟩ (.int .i64 1)).setCell ⟨lo,k*5+1,none⟩ (.int .i64 1)).setCell ⟨lo,k*5+2,none⟩ (.int .u64 0)).setCell ⟨lo,k*5+3,none⟩ (.int .u64 3)).setCell ⟨lo,k*5+4,none⟩ (.slice none 0 0)).heap[q]? =w2.heap[q]? :=fun q hq=>((((heap_setCell_other _ _ q _ hq).trans (heap_setCell_other _ _ q _ hq)).trans (heap_setCell_other _ _ q _ hq)).trans (heap_setCell_other _ _ q _ hq)).trans (heap_setCell_other _ _ q _ hq)
    have B1:=hide hO4;have B2:=hide r3;have B3:=hide hel;have B4:=hide hO2;clear hO4 r3 hel r2 hO2 hO3 A1 A2
    go_wp2_with (fail)
    generalize (((((w2.setCell ⟨lo,k*5,none⟩ (.int .i64 1)).setCell ⟨lo,k*5+1,none⟩ (.int .i64 1)).setCell ⟨lo,k*5+2,none⟩ (.int .u64 0)).setCell ⟨lo,k*5+3,none⟩ (.int .u64 3)).setCell ⟨lo,k*5+4,none⟩ (.slice none 0 0))=w3 at *
    refine⟨⟨k+1,_,by omega,by go_num,B1.out,B2.out,by simp[hz],fun j c h1 h2 h3=>?_,fun j b h1 h2 h3 h4=>?_⟩,?_⟩
    ·simp only[Array.getElem?_setIfInBounds]
     rw[if_neg (by omega),if_neg (by omega),if_neg (by omega),if_neg (by omega),if_neg (by omega)]
     exact A3.out j c (by omega) h2 h3
    ·have hj:=hp j h2
     have hmono:p (k+1)≤p j:=hpm (k+1) j (by omega) (by omega)
     rw[B3.out b (by omega),B4.out.block b (by omega)]
     exact A4.out j b (by omega) h2 h3 h4
    ·simp[intOf];omega
   ·have hd:decide ((k:Int)<(ts.length:Int))=false:=by simp;omega
    clear h hs ih hm
    go_wp2_with (fail)
    go_end0;exact⟨⟨_,rfl⟩,hO⟩
end Go.Proofs.YtmmlkfkpblokiaaGreatDoor
namespace Go.Proofs.YtmmlkfkpblokiaaGreatDoor
set_option maxRecDepth 100000
open Go Go.RowKit Go.Sort
attribute [local go_sem] setCell_drewN alloc_drewN
def Rdc (W:World) (g:Nat) (ts:List Slt):Prop:=∃u,W.heap[g]? =some (.cells #[u] 81 (0,0))∧Slo W u ts
end Go.Proofs.YtmmlkfkpblokiaaGreatDoor
namespace Go.Proofs.YtmmlkfkpblokiaaGreatDoor
set_option maxRecDepth 100000
open Go Go.RowKit Go.Sort
attribute [local go_sem] setCell_drewN alloc_drewN
end Go.Proofs.YtmmlkfkpblokiaaGreatDoor
namespace Go.Proofs.YtmmlkfkpblokiaaGreatDoor
set_option maxRecDepth 100000
open Go Go.RowKit Go.Sort
attribute [local go_sem] setCell_drewN alloc_drewN
set_option maxHeartbeats 1000000 in
theorem r_known (t:Int):Gives 80 #[.int .i64 t] (.bool (decide (known t))):=by
 intro w
 by_cases hk:known t
 ·rw[decide_eq_true hk]
  rcases hk with rfl|rfl|rfl|rfl
  all_goals
   go_enter Tryz.func80,Tryz.ntmps80
   go_wp2_with (fail)
   go_ret;exact⟨rfl,Below.refl _ _⟩
 ·rw[decide_eq_false hk]
  have q0:(t==0)=false:=by unfold known at hk;simp;omega
  have q1:(t==1)=false:=by unfold known at hk;simp;omega
  have q2:(t==2)=false:=by unfold known at hk;simp;omega
  have q5:(t==5)=false:=by unfold known at hk;simp;omega
  clear hk
  go_enter Tryz.func80,Tryz.ntmps80
  go_wp2_with (fail)
  go_ret;exact⟨rfl,Below.refl _ _⟩
end Go.Proofs.YtmmlkfkpblokiaaGreatDoor
namespace Go.Proofs.YtmmlkfkpblokiaaGreatDoor
set_option maxRecDepth 100000
open Go Go.RowKit Go.Sort
attribute [local go_sem] setCell_drewN alloc_drewN
end Go.Proofs.YtmmlkfkpblokiaaGreatDoor
namespace Go.Proofs.YtmmlkfkpblokiaaGreatDoor
set_option maxRecDepth 100000
open Go Go.RowKit Go.Sort
attribute [local go_sem] setCell_drewN alloc_drewN
end Go.Proofs.YtmmlkfkpblokiaaGreatDoor
namespace Go.Proofs.YtmmlkfkpblokiaaGreatDoor
set_option maxRecDepth 100000
open Go Go.RowKit Go.Sort
attribute [local go_sem] setCell_drewN alloc_drewN
end Go.Proofs.YtmmlkfkpblokiaaGreatDoor
namespace Go.Proofs.YtmmlkfkpblokiaaGreatDoor
set_option maxRecDepth 100000
open Go Go.RowKit Go.Sort
attribute [local go_sem] setCell_drewN alloc_drewN
theorem r_sizeX (n:Nat) (hn:n<18446744073709551616) (w:World):Calls Tryz.prog 64 #[.int .u64 (n:Int)] w fun e w'=>∃u,e=.returned u∧u=.int .i64 ((en n).length:Int)∧Below w.heap.size w w':=(r_size n hn w).mono fun _ _ h=>⟨_,h.1,rfl,h.2⟩
theorem bFld (cs:Array Value) (W:World):(Instr.box 118 (.agg cs)).run Tryz.prog W=.ok (.pointer (some ⟨W.heap.size,0,none⟩)) (W.alloc (.cells cs 118)):=by kernel_rfl
set_option maxRecDepth 100000 in
set_option maxHeartbeats 8000000 in
theorem r_at (p e:Int) (w:World):Calls Tryz.prog 61 #[.int .i64 p,.int .i64 e] w fun x w'=>x=.returned (.agg #[.int .i64 0,.int .i64 p,.int .i64 e])∧Below w.heap.size w w':=by
 have hb:Below w.heap.size w (w.alloc (.cells #[.int .i64 0,.int .i64 0,.int .i64 0] 41)):=(Below.refl _ _).alloc (Nat.le_refl _) _;have r1:=hp1_0 w (.cells #[.int .i64 0,.int .i64 0,.int .i64 0] 41);have hb2:=below_setRow (g:=w.heap.size) hb (Nat.le_refl _) #[.int .i64 0,.int .i64 p,.int .i64 e];have r2:=setRow_heap _ w.heap.size _ (#[.int .i64 0,.int .i64 p,.int .i64 e]) _ _ r1
 have hone:(#[Value.int .i64 0,.int .i64 p,.int .i64 e]:Array Value).all (·.oneCell')=true:=by simp[Value.oneCell']
 have A1:=hide hb2;have A2:=hide r2;clear hb hb2 r2
 go_enter Tryz.func61,Tryz.ntmps61
 go_wp2_with (first|(refine wpList_store_row rfl 41 _ _ rfl w.heap.size #[.int .i64 0,.int .i64 p,.int .i64 e] rfl rfl 41 _ r1 infoFt rfl hone ?_)|fail)
 exact bodyPost_ret (v:=.agg #[.int .i64 0,.int .i64 p,.int .i64 e]) (results_cell_row Tryz.results61 _ _ w.heap.size _ _ _ _ rfl A2.out Tryz.underlying41 rfl infoFt) rfl ⟨rfl,A1.out⟩
set_option maxRecDepth 100000 in
set_option maxHeartbeats 8000000 in
theorem r_wide (f:Fd) (ao:Option Addr) (cap:Nat) (hf:Fok f) (h0:0≤f.no) (h1:f.no≤536870911) (hk:known f.ty) (w:World):Calls Tryz.prog 62 #[.agg #[.int .i64 f.no,.int .i64 f.ty,.int .u64 (f.num:Int),.slice ao f.dat.length cap]] w fun e w'=>∃u,e=.returned u∧u=.int .i64 ((fby f).length:Int)∧Below w.heap.size w w':=by
 have ht:=known_lt hk;obtain⟨hf1,hf2,_,_⟩:=hf
 have hhd:(fhd f:Int)=8*f.no+f.ty:=by unfold fhd;omega
 have hhl:fhd f<18446744073709551616:=by omega
 have cS:=r_size (fhd f) hhl;have cN:=r_size f.num hf1
 have cD:=r_sizeX f.dat.length (by omega)
 have hten:=en_ten hhl;have hten2:=en_ten hf1
 have hten3:=en_ten (n:=f.dat.length) (by omega)
 have hl:(fby f).length=(en (fhd f)).length+(fvl f).length:=by rw[fby,List.length_append]
 have hvl:fvl f=if f.ty=0 then en f.num else if f.ty=1 then fx 8 f.num else if f.ty=5 then fx 4 f.num else itm f.dat:=rfl
 have hL0:f.ty=0→(fby f).length=(en (fhd f)).length+(en f.num).length:=fun t=>by rw[hl,hvl,if_pos t]
 have hL1:f.ty=1→(fby f).length=(en (fhd f)).length+8:=fun t=>by rw[hl,hvl,if_neg (by omega),if_pos t,fx_len]
 have hL5:f.ty=5→(fby f).length=(en (fhd f)).length+4:=fun t=>by rw[hl,hvl,if_neg (by omega),if_neg (by omega),if_pos t,fx_len]
 have hL2:f.ty=2→(fby f).length=(en (fhd f)).length+(en f.dat.length).length+f.dat.length:=fun t=>by rw[hl,hvl,if_neg (by omega),if_neg (by omega),if_neg (by omega),itm_len];omega
 unfold known at hk
 generalize (fby f).length=L at *
 clear hvl hl
 generalize (en (fhd f)).length=H at *
 generalize fhd f=HD at *
 generalize f.no=fno at *
 generalize f.ty=fty at *
 generalize f.num=num at *
 generalize f.dat.length=dl at *
 generalize (en dl).length=DL at *
 generalize (en num).length=NL at *
 clear f;rw[hhd] at cS;clear hhd hhl HD;have R0:=hp1_0 w (.cells #[.int .i64 fno,.int .i64 fty,.int .u64 (num:Int),.slice ao dl cap] 118);have hw:Below w.heap.size w (w.alloc (.cells #[.int .i64 fno,.int .i64 fty,.int .u64 (num:Int),.slice ao dl cap] 118)):=(Below.refl _ _).alloc (Nat.le_refl _) _
 go_enter Tryz.func62,Tryz.ntmps62
 go_upto_region 1 with(first|(refine wpList_box rfl 118 _ rfl _ rfl (bFld _) ?_)|fail)
 generalize w.alloc (.cells #[.int .i64 fno,.int .i64 fty,.int .u64 (num:Int),.slice ao dl cap] 118)=w1 at *
 have c0:=cell_of_row _ _ 0 _ _ _ R0;have c1:=cell_of_row _ _ 1 _ _ _ R0;have cS1:=hide (cS w1);clear cS
 go_wp2_with (fail)
 refine cS1.out.mono ?_;rintro e_ w2 ⟨rfl,hb_⟩;replace R0:=keep hb_ R0;replace hw:=Below.after hw hb_;clear hb_ cS1 c0 c1
 rcases hk with t|t|t|t
 ·have e:=hide (hL0 t)
  subst t
  have cN3:=hide (cN w2);have c1:=cell_of_row _ _ 1 _ _ _ R0;have c2:=cell_of_row _ _ 2 _ _ _ R0;clear hL0 hL1 hL2 hL5 cN cD
  go_wp2_with (fail)
  refine cN3.out.mono ?_;rintro e_ w4 ⟨rfl,hb_⟩;replace hw:=Below.after hw hb_;clear hb_ cN3
  go_wp2_with (fail)
  go_ret
  exact⟨_,rfl,by rw[e.out];go_num,hw⟩
 ·have e:=hide (hL1 t)
  subst t
  have c1:=cell_of_row _ _ 1 _ _ _ R0;clear hL0 hL1 hL2 hL5 cN cD
  go_wp2_with (fail)
  go_ret
  exact⟨_,rfl,by rw[e.out];go_num,hw⟩
 ·have e:=hide (hL2 t)
  subst t
  have c1:=cell_of_row _ _ 1 _ _ _ R0;clear hL0 hL1 hL2 hL5 cN
  go_upto_region 9 with(fail)
  clear c1;have hbd:Below w2.heap.size w2 w2.drew:=below_drN (Below.refl _ _) 1;replace R0:=keep hbd R0;replace hw:=Below.after hw hbd;clear hbd
  have q0:IntKind.wrap .u64 (dl:Int)=(dl:Int):=by show(dl:Int)%18446744073709551616=dl;omega
  have q1:IntKind.wrap .i64 ((H:Int)+(DL:Int))=(H:Int)+(DL:Int):=by rw[IntKind.wrap_i64];omega
  have q2:IntKind.wrap .i64 ((H:Int)+(DL:Int)+(dl:Int))=(H:Int)+(DL:Int)+(dl:Int):=by rw[IntKind.wrap_i64];omega
  refine wp_region_noPanic ?_
  refine wp_region_held (S:=fun W=>W.heap[w.heap.size]? =some (.cells #[.int .i64 fno,.int .i64 2,.int .u64 (num:Int),.slice ao dl cap] 118 (0,0))) (by kernel_rfl) ?_
  change wpAnyH _ _ _ _ _ _ _ _ (World.drew _)
  generalize w2.drew=y1 at *
  refine wpAnyH_take (i:=0) (v:=?v1) rfl (by kernel_rfl) (by kernel_rfl) (by kernel_rfl) (fun _ _ _ h=>h) (Or.inl ⟨by rfl,?y1⟩) R0 ?r1
  case y1=>
   intro w_ hS_;go_simp
   try with_reducible rfl
  simp only[Act.put,List.getElem_toArray,List.getElem_cons_zero,List.setIfInBounds_toArray,List.set_cons_succ,List.set_cons_zero]
  refine wpAnyH_take (i:=1) (v:=?v2) rfl (by kernel_rfl) (by kernel_rfl) (by kernel_rfl) (fun _ _ _ h=>h) (Or.inl ⟨by rfl,?y2⟩) R0 ?r2
  case y2=>
   intro w_ hS_;go_simp
   try with_reducible rfl
  simp only[Act.put,List.getElem_toArray,List.getElem_cons_succ,List.getElem_cons_zero,List.setIfInBounds_toArray,List.set_cons_succ,List.set_cons_zero]
  refine wpAnyH_take (i:=2) (v:=.slice ao dl cap) rfl (by kernel_rfl) (by kernel_rfl) (by kernel_rfl) (fun _ _ _ h=>h) (Or.inl ⟨by rfl,?y3⟩) R0 ?r3
  case y3=>
   intro w_ hS_;have c_:=cell_of_row _ _ 3 _ _ _ hS_;go_simp
   try with_reducible rfl
  simp only[Act.put,List.getElem_toArray,List.getElem_cons_succ,List.getElem_cons_zero,List.setIfInBounds_toArray,List.set_cons_succ,List.set_cons_zero]
  refine wpAnyH_take (i:=3) (v:=?v4) rfl (by kernel_rfl) (by kernel_rfl) (by kernel_rfl) (fun _ _ _ h=>h) (Or.inl ⟨by rfl,?y4⟩) R0 ?r4
  case y4=>
   intro w_ hS_;go_simp
   try with_reducible rfl
  simp only[Act.put,List.getElem_toArray,List.getElem_cons_succ,List.getElem_cons_zero,List.setIfInBounds_toArray,List.set_cons_succ,List.set_cons_zero]
  refine wpAnyH_take (i:=4) (v:=.int .u64 (dl:Int)) rfl (by kernel_rfl) (by kernel_rfl) (by kernel_rfl) (fun _ _ _ h=>h) (Or.inl ⟨by rfl,?y5⟩) R0 ?r5
  case y5=>
   intro w_ hS_;go_simp
   try with_reducible rfl
  simp only[Act.put,List.getElem_toArray,List.getElem_cons_succ,List.getElem_cons_zero,List.setIfInBounds_toArray,List.set_cons_succ,List.set_cons_zero]
  refine wpAnyH_take (i:=7) (v:=?v6) rfl (by kernel_rfl) (by kernel_rfl) (by kernel_rfl) (fun _ _ _ h=>h) (Or.inl ⟨by rfl,?y6⟩) R0 ?r6
  case y6=>
   intro w_ hS_;go_simp
   try with_reducible rfl
  simp only[Act.put,List.getElem_toArray,List.getElem_cons_succ,List.getElem_cons_zero,List.setIfInBounds_toArray,List.set_cons_succ,List.set_cons_zero]
  refine wpAnyH_take (i:=8) (v:=.slice ao dl cap) rfl (by kernel_rfl) (by kernel_rfl) (by kernel_rfl) (fun _ _ _ h=>h) (Or.inl ⟨by rfl,?y7⟩) R0 ?r7
  case y7=>
   intro w_ hS_;have c_:=cell_of_row _ _ 3 _ _ _ hS_;go_simp
   try with_reducible rfl
  simp only[Act.put,List.getElem_toArray,List.getElem_cons_succ,List.getElem_cons_zero,List.setIfInBounds_toArray,List.set_cons_succ,List.set_cons_zero]
  refine wpAnyH_take (i:=9) (v:=?v8) rfl (by kernel_rfl) (by kernel_rfl) (by kernel_rfl) (fun _ _ _ h=>h) (Or.inl ⟨by rfl,?y8⟩) R0 ?r8
  case y8=>
   intro w_ hS_;go_simp
   try with_reducible rfl
  simp only[Act.put,List.getElem_toArray,List.getElem_cons_succ,List.getElem_cons_zero,List.setIfInBounds_toArray,List.set_cons_succ,List.set_cons_zero]
  refine wpAnyH_one (k:=5) (fuel:=3) (by kernel_rfl) rfl (by kernel_rfl) (fun K_ hK=>?_)
  refine wp_call_ex (f:=64) (by kernel_rfl) (cD y1) (fun v_ y2 hX_=>?_)
  obtain⟨rfl,hb_⟩:=hX_;replace R0:=keep hb_ R0;replace hw:=Below.after hw hb_;clear hb_;refine hK _ _ R0 ?_;simp only[Act.put,List.getElem_toArray,List.getElem_cons_succ,List.getElem_cons_zero,List.setIfInBounds_toArray,List.set_cons_succ,List.set_cons_zero];clear hK
  refine wpAnyH_take (i:=6) (v:=.int .i64 ((H:Int)+(DL:Int))) rfl (by kernel_rfl) (by kernel_rfl) (by kernel_rfl) (fun _ _ _ h=>h) (Or.inl ⟨by rfl,?y9⟩) R0 ?r9
  case y9=>
   intro w_ hS_;go_simp
   try with_reducible rfl
  simp only[Act.put,List.getElem_toArray,List.getElem_cons_succ,List.getElem_cons_zero,List.setIfInBounds_toArray,List.set_cons_succ,List.set_cons_zero]
  refine wpAnyH_take (i:=10) (v:=.int .i64 ((H:Int)+(DL:Int)+(dl:Int))) rfl (by kernel_rfl) (by kernel_rfl) (by kernel_rfl) (fun _ _ _ h=>h) (Or.inl ⟨by rfl,?y10⟩) R0 ?r10
  case y10=>
   intro w_ hS_;go_simp
   try with_reducible rfl
  simp only[Act.put,List.getElem_toArray,List.getElem_cons_succ,List.getElem_cons_zero,List.setIfInBounds_toArray,List.set_cons_succ,List.set_cons_zero]
  refine wpAnyH_take (i:=11) (v:=?v11) rfl (by kernel_rfl) (by kernel_rfl) (by kernel_rfl) (fun _ _ _ h=>h) (Or.inl ⟨by rfl,?y11⟩) R0 ?r11
  case y11=>
   intro w_ hS_;go_simp
   try with_reducible rfl
  simp only[Act.put,List.getElem_toArray,List.getElem_cons_succ,List.getElem_cons_zero,List.setIfInBounds_toArray,List.set_cons_succ,List.set_cons_zero]
  refine wpAnyH_done (by kernel_rfl) ?_ _
  refine NoPanic.normal ?_
  go_wp2_with (fail)
  go_ret
  exact⟨_,rfl,by rw[e.out];show Value.int .i64 ((H:Int)+(DL:Int)+(dl:Int))=_;congr 1,hw⟩
 ·have e:=hide (hL5 t)
  subst t
  have c1:=cell_of_row _ _ 1 _ _ _ R0;clear hL0 hL1 hL2 hL5 cN cD
  go_wp2_with (fail)
  go_ret
  exact⟨_,rfl,by rw[e.out];go_num,hw⟩
end Go.Proofs.YtmmlkfkpblokiaaGreatDoor
namespace Go.Proofs.YtmmlkfkpblokiaaGreatDoor
set_option maxRecDepth 100000
open Go Go.RowKit Go.Sort
attribute [local go_sem] setCell_drewN alloc_drewN
theorem results_cell_cell {P:Program} {fn:Func} {p q:Tmp} {ty tz:TypeId} (h:fn.results=#[.cell p ty,.cell q tz]) (tmps:Array Value) (w:World) (g g2:Nat) (t t2:TypeId) (cs cs2:Array Value) (fr fr2:Nat×Nat) (d d2:TypeDesc)
 (hp:tmps.getD p undef=.pointer (some ⟨g,0,none⟩)) (hg:w.heap[g]? =some (.cells cs t fr)) (hu:P.underlying ty=some d) (hd:(match d with| .struct _| .array _ _=>true|_=>false)=true) (hi:(P.info? ty).map (·.size)=some cs.size)
 (hp2:tmps.getD q undef=.pointer (some ⟨g2,0,none⟩)) (hg2:w.heap[g2]? =some (.cells cs2 t2 fr2)) (hu2:P.underlying tz=some d2) (hd2:(match d2 with| .struct _| .array _ _=>true|_=>false)=true) (hi2:(P.info? tz).map (·.size)=some cs2.size):
 (results fn tmps).run P w=.ok (.tuple #[.agg cs,.agg cs2]) w:=by
 have hp':tmps[p]?.getD undef=.pointer (some ⟨g,0,none⟩):=by simpa using hp
 have hp2':tmps[q]?.getD undef=.pointer (some ⟨g2,0,none⟩):=by simpa using hp2
 simp[results,h,hp',hp2',asAddr,run_loadVar_row w g t ty cs fr d hg hu hd hi,run_loadVar_row w g2 t2 tz cs2 fr2 d2 hg2 hu2 hd2 hi2]
theorem builtZvR:Tryz.prog.built 27 []=some #[.int .u64 0,.slice none 0 0,.slice none 0 0]:=by kernel_rfl
theorem builtZeR:Tryz.prog.built 41 []=some #[.int .i64 0,.int .i64 0,.int .i64 0]:=by kernel_rfl
end Go.Proofs.YtmmlkfkpblokiaaGreatDoor
