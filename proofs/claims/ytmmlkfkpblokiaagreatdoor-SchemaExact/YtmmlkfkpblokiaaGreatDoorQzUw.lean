import Derived.Test.YtmmlkfkpblokiaaGreatDoorQzKyg
set_option maxRecDepth 100000
set_option maxHeartbeats 16000000
namespace Go.Proofs.YtmmlkfkpblokiaaGreatDoor
open Go Go.RowKit Go.Sort
attribute [local go_sem] setCell_drewN alloc_drewN
inductive HSx (W:World):Nat→Nat→Value→List Slt→Prop
 |mk (lo hi:Nat) (ts:List Slt) (us:List Value) (p:Nat→Nat) (hl:ts.length≤10000) (hG:lo<W.heap.size) (hh:hi≤W.heap.size) (hp0:lo<hi)
  (hp:∀i,i<ts.length→lo<p i∧p i≤p (i+1)∧p (i+1)≤hi)
  (hcs:∃cs T,W.heap[lo]? =some (.cells cs T (0,0))∧cs.size=(ts.length+3)*5)
  (h:∀i,i<ts.length→W.rangeAt lo (i*5) (srow (gs ts i) (gvs us i))∧Sok (gs ts i))
  (hm:∀i,ts.length≤i→i<ts.length+3→W.rangeAt lo (i*5) hmk)
  (hs:∀i,i<ts.length→HSx W (p i) (p (i+1)) (gvs us i) (gs ts i).sub):HSx W lo hi (.slice (some ⟨lo,0,none⟩) ts.length (ts.length+3)) ts
theorem HSx.sl {W:World} {lo hi:Nat} {v:Value} {ts:List Slt} (h:HSx W lo hi v ts):HSl W (fun b=>lo≤b∧b<hi) v ts:=by
 induction h with
 |mk lo hi ts us p hl hG hh hp0 hp hcs h hm hs ih=>
  refine .mk lo ts us hl hG ⟨Nat.le_refl _,hp0⟩ h hm (fun i hi=>(ih i hi).keep (Nat.le_refl _) fun b _ hb=>⟨rfl,?_⟩)
  have:=hp i hi;omega
theorem HSx.keep {W V:World} {lo hi:Nat} {v:Value} {ts:List Slt} (h:HSx W lo hi v ts) (hs:W.heap.size≤V.heap.size):(∀b,lo≤b→b<hi→V.heap[b]? =W.heap[b]?)→HSx V lo hi v ts:=by
 induction h with
 |mk lo hi ts us p hl hG hh hp0 hp hcs h hm _ ih=>
  intro hb;have h0:=hb lo (Nat.le_refl _) hp0
  refine .mk lo hi ts us p hl (by omega) (by omega) hp0 hp (by rw[h0];exact hcs) (fun i hi=>⟨range_same (h i hi).1 h0,(h i hi).2⟩) (fun i h1 h2=>range_same (hm i h1 h2) h0) (fun i hi=>ih i hi fun b h1 h2=>hb b (by have:=hp i hi;omega) (by have:=hp i hi;omega))
theorem HSx.form {W:World} {lo hi:Nat} {v:Value} {ts:List Slt} (h:HSx W lo hi v ts):v=.slice (some ⟨lo,0,none⟩) ts.length (ts.length+3)∧lo<hi:=by
 cases h with
 |mk lo hi _ us p hl hG hh hp0 hp hcs h hm hs=>exact⟨rfl,hp0⟩
theorem l_handx {W:World} {v:Value} {ts:List Slt} (h:Slo W v ts):∀(l:Int),l≤10000→0≤slL ts l→∀(w:World),Below W.heap.size W w→Calls Tryz.prog 25 #[v] w fun e w'=>∃v',e=.returned v'∧Below w.heap.size w w'∧HSx w' w.heap.size w'.heap.size v' ts:=by
 induction h with
 |mk ao cap ts us hl hc hn h hs ih=>
  intro l hl1 hl2 w hw;have hlen:=slL_len ts l hl2
  have h4:ts.length≤10000:=by omega
  obtain⟨cs,hmk,hcs1,hcs2⟩:=make_sl (ts.length+3) (by omega) w
  have hmk':(Instr.makeSlice 22 (.int .i64 ((ts.length:Int)+3)) (.int .i64 ((ts.length:Int)+3))).run Tryz.prog w=.ok (.slice (some ⟨w.heap.size,0,none⟩) (ts.length+3) (ts.length+3)) (w.alloc (.cells cs 88)):=hmk
  have hR0:Hrw (w.alloc (.cells cs 88)) w.heap.size ts [] 0:=⟨cs,hp1_0 w _,hcs1,fun i c h1 h2=>by unfold hrow;rw[if_neg (by omega)];exact hcs2 i c h1 h2⟩
  have hba:Below w.heap.size w (w.alloc (.cells cs 88)):=(Below.refl _ _).alloc (Nat.le_refl _) _;have hsz:(w.alloc (.cells cs 88)).heap.size=w.heap.size+1:=size_alloc1 _ _;clear hmk hcs1 hcs2
  go_enter Tryz.func25,Tryz.ntmps25
  go_wp2_with (fail)
  generalize w.alloc (.cells cs 88)=w0 at *
  clear hmk'
  generalize hG:w.heap.size=G at *
  replace hG:=hide hG
  go_loopw [4] (fun i wr=>∃(k:Nat) (vs:List Value) (p:Nat→Nat),k≤ts.length+3∧i=.int .i64 k∧Below G w wr∧G<wr.heap.size∧vs.length=min k ts.length∧Hrw wr G ts vs k∧G<p (min k ts.length)∧p (min k ts.length)=wr.heap.size∧∀i,i<min k ts.length→(G<p i∧p i≤p (i+1)∧p (i+1)≤wr.heap.size)∧HSx wr (p i) (p (i+1)) (gvs vs i) (gs ts i).sub) (fun i _=>ts.length+3-(intOf i).toNat)
  case atStart=>exact⟨0,[],fun _=>w0.heap.size,by omega,rfl,hba,by omega,by simp,hR0,by show G<w0.heap.size;omega,rfl,fun i hi=>by omega⟩
  case round=>
   clear hR0 hba hsz;obtain⟨k,vs,p,hk,rfl,hB,hGl,hvl,hR,hpG,hpk,hN⟩:=hrel
   have hww:Below W.heap.size W wr:=hw.trans (hB.mono (by rw[←hG.out];exact hw.size))
   by_cases hlt:k<ts.length+3
   ·have hd:decide ((k:Int)<(ts.length:Int)+3)=true:=by simp;omega
    have hd':((k:Int)<(ts.length:Int)+3):=by omega
    have hk1:0≤(k:Int)∧(k:Int)<(ts.length:Int)+3:=by omega
    obtain⟨cc,hcc,hcz,hcv⟩:=id hR
    have fz:wr.frozen? ⟨G,k*5,none⟩=false:=by simp[World.frozen?,hcc]
    have fc:wr.cell? ⟨G,k*5,none⟩=some (.int .i64 0):=by
     rw[cell_of_row _ _ _ _ _ _ hcc]
     have:=hcv k 0 hlt (by omega)
     rw[Nat.add_zero] at this
     rw[this];unfold hrow;rw[if_neg (by omega)];rfl
    by_cases hkn:k<ts.length
    ·have hd2:decide ((k:Int)<(ts.length:Int))=true:=by simp;omega
     obtain⟨b,off,hao,hbl,hra,hok⟩:=h k hkn
     have hSl:=hs k hkn;obtain⟨l',hl3,hl4⟩:=slL_at ts l k hl2 hkn
     have hih:=ih k hkn l' (by omega) hl4
     subst hao
     have hGb:W.heap.size≤G:=by rw[←hG.out];exact hw.size
     have hbG:b≠G:=by omega
     obtain⟨ua,uc,hue⟩:=hSl.form
     rw[Nat.min_eq_left (by omega)] at hvl hN hpG hpk
     have hB1:Below G w (wr.setCell ⟨G,k*5,none⟩ (.int .i64 (-77))):=hB.setCell (Nat.le_refl _) _
     have hsz1:(wr.setCell ⟨G,k*5,none⟩ (.int .i64 (-77))).heap.size=wr.heap.size:=by simp
     have hra1:(wr.setCell ⟨G,k*5,none⟩ (.int .i64 (-77))).rangeAt b (off+k*5) (srow (gs ts k) (gvs us k)):=range_same (rangeS_keep2 hra hww hbl) (heap_setCell_other _ _ b _ hbG)
     have hth:(wr.setCell ⟨G,k*5,none⟩ (.int .i64 (-77))).there G (k*5) 5:=there_of_row (heap_setCell_same wr G (k*5) cc _ _ hcc) (by simp;omega)
     have hR1:=fun(V:World) (u v:Value) hV=>hR.slot (V:=V) (u:=u) (v:=v) hkn hvl hV
     generalize hgt:gs ts k=t at *
     replace hgt:=hide hgt
     generalize hu:gvs us k=u at *
     subst hue;clear hu h hs ih hR;have hra':=hra;clear hra;obtain⟨cs2,hcs2,hcz2⟩:=setCells_row (g:=G) [.int .i64 t.no,.int .i64 t.kind,.int .u64 (t.least:Int),.int .u64 (t.most:Int),.slice ua t.sub.length uc] (k*5) _ _ (heap_setCell_same wr G (k*5) cc _ (.int .i64 (-77)) hcc)
     have hcz3:cs2.size=(ts.length+3)*5:=by rw[hcz2];simp[hcz]
     have hcs2':((((((wr.setCell ⟨G,k*5,none⟩ (.int .i64 (-77))).setCell ⟨G,k*5,none⟩ (.int .i64 t.no)).setCell ⟨G,k*5+1,none⟩ (.int .i64 t.kind)).setCell ⟨G,k*5+2,none⟩ (.int .u64 (t.least:Int))).setCell ⟨G,k*5+3,none⟩ (.int .u64 (t.most:Int))).setCell ⟨G,k*5+4,none⟩ (.slice ua t.sub.length uc)).heap[G]? =some (.cells cs2 88 (0,0)):=hcs2;have hB2:Below G w ((((((wr.setCell ⟨G,k*5,none⟩ (.int .i64 (-77))).setCell ⟨G,k*5,none⟩ (.int .i64 t.no)).setCell ⟨G,k*5+1,none⟩ (.int .i64 t.kind)).setCell ⟨G,k*5+2,none⟩ (.int .u64 (t.least:Int))).setCell ⟨G,k*5+3,none⟩ (.int .u64 (t.most:Int))).setCell ⟨G,k*5+4,none⟩ (.slice ua t.sub.length uc)):=below_setCells (Nat.le_refl _) [.int .i64 t.no,.int .i64 t.kind,.int .u64 (t.least:Int),.int .u64 (t.most:Int),.slice ua t.sub.length uc] (k*5) _ hB1;have hsz2:((((((wr.setCell ⟨G,k*5,none⟩ (.int .i64 (-77))).setCell ⟨G,k*5,none⟩ (.int .i64 t.no)).setCell ⟨G,k*5+1,none⟩ (.int .i64 t.kind)).setCell ⟨G,k*5+2,none⟩ (.int .u64 (t.least:Int))).setCell ⟨G,k*5+3,none⟩ (.int .u64 (t.most:Int))).setCell ⟨G,k*5+4,none⟩ (.slice ua t.sub.length uc)).heap.size=wr.heap.size:=(size_setCells (g:=G) [.int .i64 t.no,.int .i64 t.kind,.int .u64 (t.least:Int),.int .u64 (t.most:Int),.slice ua t.sub.length uc] (k*5) _).trans hsz1
     have hel2:∀q,q≠G→((((((wr.setCell ⟨G,k*5,none⟩ (.int .i64 (-77))).setCell ⟨G,k*5,none⟩ (.int .i64 t.no)).setCell ⟨G,k*5+1,none⟩ (.int .i64 t.kind)).setCell ⟨G,k*5+2,none⟩ (.int .u64 (t.least:Int))).setCell ⟨G,k*5+3,none⟩ (.int .u64 (t.most:Int))).setCell ⟨G,k*5+4,none⟩ (.slice ua t.sub.length uc)).heap[q]? =wr.heap[q]? :=fun q hq=>(heap_setCells_else hq [.int .i64 t.no,.int .i64 t.kind,.int .u64 (t.least:Int),.int .u64 (t.most:Int),.slice ua t.sub.length uc] (k*5) _).trans (heap_setCell_other _ _ q _ hq)
     have hww2:Below W.heap.size W ((((((wr.setCell ⟨G,k*5,none⟩ (.int .i64 (-77))).setCell ⟨G,k*5,none⟩ (.int .i64 t.no)).setCell ⟨G,k*5+1,none⟩ (.int .i64 t.kind)).setCell ⟨G,k*5+2,none⟩ (.int .u64 (t.least:Int))).setCell ⟨G,k*5+3,none⟩ (.int .u64 (t.most:Int))).setCell ⟨G,k*5+4,none⟩ (.slice ua t.sub.length uc)):=hw.trans (hB2.mono hGb);have hV0:((((((wr.setCell ⟨G,k*5,none⟩ (.int .i64 (-77))).setCell ⟨G,k*5,none⟩ (.int .i64 t.no)).setCell ⟨G,k*5+1,none⟩ (.int .i64 t.kind)).setCell ⟨G,k*5+2,none⟩ (.int .u64 (t.least:Int))).setCell ⟨G,k*5+3,none⟩ (.int .u64 (t.most:Int))).setCell ⟨G,k*5+4,none⟩ (.slice ua t.sub.length uc)).heap[G]? =((wr.setCell ⟨G,k*5,none⟩ (.int .i64 (-77))).setCells G (k*5) (srow t (.slice ua t.sub.length uc))).heap[G]? :=rfl;have hra0:=rangeS_keep2 hra' hww hbl;have b0:=hra0 0 _ rfl;have b1:=hra0 1 _ rfl;have b2:=hra0 2 _ rfl;have b3:=hra0 3 _ rfl;have b4:=hra0 4 _ rfl
     have f1:wr.cell? ⟨G,k*5+1,none⟩=some (.int .i64 0):=by rw[cell_of_row _ _ _ _ _ _ hcc,hcv k 1 hlt (by omega)];unfold hrow;rw[if_neg (by omega)];rfl
     have f2:wr.cell? ⟨G,k*5+2,none⟩=some (.int .u64 0):=by rw[cell_of_row _ _ _ _ _ _ hcc,hcv k 2 hlt (by omega)];unfold hrow;rw[if_neg (by omega)];rfl
     have f3:wr.cell? ⟨G,k*5+3,none⟩=some (.int .u64 0):=by rw[cell_of_row _ _ _ _ _ _ hcc,hcv k 3 hlt (by omega)];unfold hrow;rw[if_neg (by omega)];rfl
     have f4:wr.cell? ⟨G,k*5+4,none⟩=some nS:=by rw[cell_of_row _ _ _ _ _ _ hcc,hcv k 4 hlt (by omega)];unfold hrow;rw[if_neg (by omega)];rfl
     have fz1:wr.frozen? ⟨G,k*5+1,none⟩=false:=by simp[World.frozen?,hcc]
     have fz2:wr.frozen? ⟨G,k*5+2,none⟩=false:=by simp[World.frozen?,hcc]
     have fz3:wr.frozen? ⟨G,k*5+3,none⟩=false:=by simp[World.frozen?,hcc]
     have fz4:wr.frozen? ⟨G,k*5+4,none⟩=false:=by simp[World.frozen?,hcc]
     rw[Nat.add_zero] at b0;have A2:=hide hB2;have A4:=hide hsz2;have A5:=hide hel2;have A6:=hide hww2;have A7:=hide hV0;have A8:=hide hcs2';have A9:=hide hR1;have AN:=hide hN
     have hbG':¬G=b:=fun e=>hbG e.symm
     clear hB1 hB2 hsz1 hsz2 hel2 hww2 hV0 hcs2 hcs2' hR1 hN hcz2 hcc hB hww hl hc hn hra1 hra' hra0 hth hcv;have cH:=hih ((((((wr.setCell ⟨G,k*5,none⟩ (.int .i64 (-77))).setCell ⟨G,k*5,none⟩ (.int .i64 t.no)).setCell ⟨G,k*5+1,none⟩ (.int .i64 t.kind)).setCell ⟨G,k*5+2,none⟩ (.int .u64 (t.least:Int))).setCell ⟨G,k*5+3,none⟩ (.int .u64 (t.most:Int))).setCell ⟨G,k*5+4,none⟩ (.slice ua t.sub.length uc)) A6.out;clear hih
     go_wp2_with (fail)
     generalize ((((((wr.setCell ⟨G,k*5,none⟩ (.int .i64 (-77))).setCell ⟨G,k*5,none⟩ (.int .i64 t.no)).setCell ⟨G,k*5+1,none⟩ (.int .i64 t.kind)).setCell ⟨G,k*5+2,none⟩ (.int .u64 (t.least:Int))).setCell ⟨G,k*5+3,none⟩ (.int .u64 (t.most:Int))).setCell ⟨G,k*5+4,none⟩ (.slice ua t.sub.length uc))=w2 at *
     refine cH.mono ?_;rintro e_ w3 ⟨v',rfl,hb3,hv'⟩;clear cH b0 b1 b2 b3 b4 f1 f2 f3 f4 fz1 fz2 fz3 fz4 fz fc;obtain⟨rfl,hG'⟩:=hv'.form;have hs2:=A4.out
     have hG2:G<w2.heap.size:=by omega
     have r3:w3.heap[G]? =some (.cells cs2 88 (0,0)):=keep hb3 A8.out;have hR2:=A9.out w3 (.slice ua t.sub.length uc) (.slice (some ⟨w2.heap.size,0,none⟩) t.sub.length (t.sub.length+3)) ((hb3.block G hG2).trans A7.out)
     have hB3:Below G w (w3.setCell ⟨G,k*5+4,none⟩ (.slice (some ⟨w2.heap.size,0,none⟩) t.sub.length (t.sub.length+3))):=(A2.out.trans (hb3.mono (by omega))).setCell (Nat.le_refl _) _
     have hs3:=hb3.size
     have hs4:(w3.setCell ⟨G,k*5+4,none⟩ (.slice (some ⟨w2.heap.size,0,none⟩) t.sub.length (t.sub.length+3))).heap.size=w3.heap.size:=by simp
     have hN2:∀i,i<min (k+1) ts.length→(G<(if i≤k then p i else w3.heap.size)∧(if i≤k then p i else w3.heap.size)≤(if i+1≤k then p (i+1) else w3.heap.size)∧(if i+1≤k then p (i+1) else w3.heap.size)≤(w3.setCell ⟨G,k*5+4,none⟩ (.slice (some ⟨w2.heap.size,0,none⟩) t.sub.length (t.sub.length+3))).heap.size)∧HSx (w3.setCell ⟨G,k*5+4,none⟩ (.slice (some ⟨w2.heap.size,0,none⟩) t.sub.length (t.sub.length+3))) (if i≤k then p i else w3.heap.size) (if i+1≤k then p (i+1) else w3.heap.size) (gvs (vs++[.slice (some ⟨w2.heap.size,0,none⟩) t.sub.length (t.sub.length+3)]) i) (gs ts i).sub:=fun i hi=>by
      rcases Nat.lt_or_ge i k with h6|h6
      ·rw[gvs_low _ _ _ (by omega),if_pos (by omega),if_pos (by omega)]
       obtain⟨h9,h10⟩:=AN.out i h6
       exact⟨by omega,h10.keep (by omega) fun q h7 h8=>(heap_setCell_other _ _ q _ (by show q≠G;omega)).trans ((hb3.block q (by omega)).trans (A5.out q (by omega)))⟩
      ·have h7:i=k:=by omega
       subst h7
       rw[gvs_top _ _ _ hvl,hgt.out,if_pos (Nat.le_refl _),if_neg (by omega),hpk,←hs2]
       exact⟨by omega,hv'.keep (by omega) fun q h7 h8=>heap_setCell_other _ _ q _ (by show q≠G;omega)⟩
     have fz5:w3.frozen? ⟨G,k*5+4,none⟩=false:=by simp[World.frozen?,r3]
     obtain⟨y5,fc5⟩:∃y,w3.cell? ⟨G,k*5+4,none⟩=some y:=by
      rw[cell_of_row _ _ _ _ _ _ r3]
      exact⟨_,Array.getElem?_eq_getElem (by omega)⟩
     have A10:=hide hR2;have A11:=hide hB3;have A12:=hide hN2;have A13:=hide hs4;clear hs2 hR2 hB3 hN2 hs4 hv' hb3 r3 A2 A4 A5 A6 A7 A8 A9 AN
     go_wp2_with (fail)
     refine⟨⟨k+1,vs++[.slice (some ⟨w2.heap.size,0,none⟩) t.sub.length (t.sub.length+3)],fun i=>if i≤k then p i else w3.heap.size,by omega,by go_num,A11.out,by rw[A13.out];omega,by simp;omega,A10.out,?_,?_,A12.out⟩,?_⟩
     ·rw[Nat.min_eq_left (by omega)];show G<if k+1≤k then p (k+1) else w3.heap.size;rw[if_neg (by omega)];omega
     ·rw[Nat.min_eq_left (by omega)];show(if k+1≤k then p (k+1) else w3.heap.size)=_;rw[if_neg (by omega),A13.out]
     simp[intOf];omega
    ·have hd2:decide ((k:Int)<(ts.length:Int))=false:=by simp;omega
     have hR2:=hR.mark (by omega) hlt
     have hB2:Below G w (wr.setCell ⟨G,k*5,none⟩ (.int .i64 (-77))):=hB.setCell (Nat.le_refl _) _
     have hsz2:(wr.setCell ⟨G,k*5,none⟩ (.int .i64 (-77))).heap.size=wr.heap.size:=by simp
     have hN2:∀i,i<min (k+1) ts.length→(G<p i∧p i≤p (i+1)∧p (i+1)≤(wr.setCell ⟨G,k*5,none⟩ (.int .i64 (-77))).heap.size)∧HSx (wr.setCell ⟨G,k*5,none⟩ (.int .i64 (-77))) (p i) (p (i+1)) (gvs vs i) (gs ts i).sub:=fun i hi=>by
      obtain⟨h5,h6⟩:=hN i (by omega)
      exact⟨by omega,h6.keep (by omega) fun q h7 _=>heap_setCell_other _ _ q _ (by show q≠G;omega)⟩
     rw[show min k ts.length=min (k+1) ts.length by omega] at hpG hpk
     rw[←hsz2] at hpk;clear h hs ih hR hN hcc hcz hcv
     go_wp2_with (fail)
     generalize (wr.setCell ⟨G,k*5,none⟩ (.int .i64 (-77)))=w1 at *
     refine⟨⟨k+1,vs,p,by omega,by go_num,hB2,by omega,by rw[hvl];omega,hR2,hpG,hpk,hN2⟩,?_⟩
     simp[intOf];omega
   ·have hd:decide ((k:Int)<(ts.length:Int)+3)=false:=by simp;omega
    have hke:k=ts.length+3:=by omega
    subst hke
    rw[Nat.min_eq_right (by omega)] at hvl hN hpG hpk
    have hfin:HSx wr G wr.heap.size (.slice (some ⟨G,0,none⟩) ts.length (ts.length+3)) ts:=by
     refine .mk G wr.heap.size ts vs p h4 hGl (Nat.le_refl _) hGl (fun i hi=>(hN i hi).1) (hR.elim fun cs q=>⟨cs,_,q.1,q.2.1⟩) (fun i hi=>⟨?_,(h i hi).elim fun _ q=>q.elim fun _ q=>q.2.2.2⟩) (fun i h1 h2=>?_) (fun i hi=>(hN i hi).2)
     ·have:=hR.range (i:=i) (by omega) (hrow_len ..)
      rwa [show hrow ts vs (ts.length+3) i=srow (gs ts i) (gvs vs i) by unfold hrow;rw[if_pos (by omega),if_pos hi]] at this
     ·have:=hR.range (i:=i) h2 (hrow_len ..)
      rwa [show hrow ts vs (ts.length+3) i=hmk by unfold hrow;rw[if_pos (by omega),if_neg (by omega)]] at this
    clear h hs ih hR hN
    go_wp2_with (fail)
    go_ret
    exact⟨_,rfl,by rw[hG.out];exact hB,by rw[hG.out];exact hfin⟩
theorem r_Compile {W:World} {v:Value} {ts:List Slt} (h:Slo W v ts) (hbig:0≤slL ts 10000) (w:World) (hw:Below W.heap.size W w):Calls Tryz.prog 27 #[v] w fun e w'=>Below w.heap.size w w'∧((vld ts=0∧∃g u,e=.returned (.tuple #[.pointer (some ⟨g,0,none⟩),.int .i64 0])∧w.heap.size≤g∧w'.heap[g]? =some (.cells #[u] 81 (0,0))∧SlL w' (fun b=>w.heap.size≤b) u ts)∨(vld ts≠0∧e=.returned (.tuple #[.pointer none,.int .i64 (vld ts)]))):=by
 have cV:=r_valid h w hw
 have cT:=fun V hV=>r_twin h 10000 (by omega) hbig V hV
 obtain⟨ao,cap,rfl⟩:=h.form
 generalize hx:vld ts=x at *
 replace hx:=hide hx
 by_cases h0:x=0
 ·subst h0
  go_enter Tryz.func27,Tryz.ntmps27
  go_wp2_with (fail)
  refine cV.mono ?_;rintro e_ w1 ⟨rfl,hb1⟩;clear cV
  go_wp2_with (fail)
  refine(cT w1 (Below.after hw hb1)).mono ?_;rintro e_ w2 ⟨u,rfl,hb2,hu⟩;clear cT;obtain⟨ua,uc,rfl⟩:=hu.form;have r1:=hp1_0 w2 (.cells #[.slice ua ts.length uc] 81);have hba:Below w2.heap.size w2 (w2.alloc (.cells #[.slice ua ts.length uc] 81)):=(Below.refl _ _).alloc (Nat.le_refl _) _;have hs1:=hb1.size;have hs2:=hb2.size
  have hu2:SlL (w2.alloc (.cells #[.slice ua ts.length uc] 81)) (fun b=>w.heap.size≤b) (.slice ua ts.length uc) ts:=hu.keep hba.size fun q h1 h2=>⟨hba.block q h1,by omega⟩
  have A1:=hide r1;have A2:=hide (Below.after (Below.after hb1 hb2) hba);have A3:=hide hu2;clear r1 hba hu hu2 hb1 hb2
  go_wp2_with (fail)
  go_ret2
  exact⟨A2.out,.inl ⟨trivial,_,_,rfl,by omega,A1.out,A3.out⟩⟩
 ·have hx':(x==0)=false:=beq_eq_false_iff_ne.2 h0
  go_enter Tryz.func27,Tryz.ntmps27
  go_wp2_with (fail)
  refine cV.mono ?_;rintro e_ w1 ⟨rfl,hb1⟩;clear cV cT
  go_wp2_with (fail)
  go_ret2;exact⟨hb1,.inr ⟨h0,rfl⟩⟩
theorem r_Range {ts:List Slt} {g:Nat} {u:Value} (hg:gd ts) (w:World) (h:w.heap[g]? =some (.cells #[u] 81 (0,0))) (hu:Slo w u ts):Calls Tryz.prog 22 #[.pointer (some ⟨g,0,none⟩)] w fun e w'=>e=.returned (.tuple #[.int .i64 ((spL ts 0 0).1:Int),.int .i64 ((spL ts 0 0).2:Int)])∧Below w.heap.size w w':=by
 have c0:w.cell? ⟨g,0,none⟩=some u:=cell_of_row _ _ _ _ _ _ h;have cS:=r_span hu hg w (Below.refl _ _);obtain⟨ao,cap,rfl⟩:=hu.form
 generalize (spL ts 0 0).1=A at *
 generalize (spL ts 0 0).2=Bm at *
 clear h hu hg
 go_enter Tryz.func22,Tryz.ntmps22
 go_wp2_with (fail)
 refine cS.mono ?_;rintro e_ w1 ⟨rfl,hb⟩
 go_wp2_with (fail)
 go_ret2;exact⟨rfl,hb⟩
structure Out (lo hi:Nat) (w w':World):Prop where
 os:w'.os=w.os
 tape:w'.tape=w.tape
 output:w'.output=w.output
 size:w'.heap.size=w.heap.size
 block:∀k,(k<lo∨hi≤k)→w'.heap[k]? =w.heap[k]?
theorem Out.refl (lo hi:Nat) (w:World):Out lo hi w w:=⟨rfl,rfl,rfl,rfl,fun _ _=>rfl⟩
theorem Out.trans {lo hi lo' hi':Nat} {a b c:World} (h:Out lo hi a b) (k:Out lo' hi' b c) (h1:lo≤lo') (h2:hi'≤hi):Out lo hi a c:=
 ⟨k.os.trans h.os,k.tape.trans h.tape,k.output.trans h.output,k.size.trans h.size,fun i hi=>(k.block i (by omega)).trans (h.block i hi)⟩
theorem Out.set {lo hi o:Nat} {a b:World} {v:Value} (h:Out lo hi a b) (h1:lo<hi):Out lo hi a (b.setCell ⟨lo,o,none⟩ v):=
 ⟨h.os,h.tape,h.output,by rw[←h.size];simp,fun i hi=>(heap_setCell_other b _ i v (by show i≠lo;omega)).trans (h.block i hi)⟩
theorem l_wipe {W:World} {lo hi:Nat} {v:Value} {ts:List Slt} (h:HSx W lo hi v ts):∀(w:World),(∀b,lo≤b→b<hi→w.heap[b]? =W.heap[b]?)→Calls Tryz.prog 29 #[v] w fun e w'=>(∃u,e=.returned u)∧Out lo hi w w':=by
 induction h with
 |mk lo hi ts us p hl hG hh hp0 hp hcs h hm hs ih=>
  intro w hw;obtain⟨cs0,T,hc0,hz0⟩:=hcs
  have hv0:∀j c,j<ts.length→c<5→cs0[j*5+c]? =(srow (gs ts j) (gvs us j))[c]? :=fun j c hj hc=>by
   have hx:∃x,(srow (gs ts j) (gvs us j))[c]? =some x:=⟨_,List.getElem?_eq_getElem (by show c<5;exact hc)⟩
   obtain⟨x,hx⟩:=hx;have:=(h j hj).1 c x hx;rw[cell_of_row _ _ _ _ _ _ hc0] at this;rw[hx,this]
  have hpm:∀i j,i≤j→j<ts.length→p i≤p j:=fun i j hij hj=>by
   induction j with
   |zero=>
    have:i=0:=by omega
    rw[this];exact Nat.le_refl _
   |succ j ihj=>
    rcases Nat.lt_or_ge i (j+1) with q|q
    ·exact Nat.le_trans (ihj (by omega) (by omega)) (hp j (by omega)).2.1
    ·have:i=j+1:=by omega
     rw[this];exact Nat.le_refl _
  have hc1:=(hw lo (Nat.le_refl _) hp0).trans hc0
  go_enter Tryz.func29,Tryz.ntmps29
  go_wp2_with (fail)
  go_loopw [2] (fun i wr=>∃(k:Nat) (cs:Array Value),k≤ts.length∧i=.int .i64 k∧Out lo hi w wr∧wr.heap[lo]? =some (.cells cs T (0,0))∧cs.size=(ts.length+3)*5∧(∀j c,k≤j→j<ts.length→c<5→cs[j*5+c]? =(srow (gs ts j) (gvs us j))[c]?)∧∀j b,k≤j→j<ts.length→p j≤b→b<p (j+1)→wr.heap[b]? =W.heap[b]?) (fun i _=>ts.length-(intOf i).toNat)
  case atStart=>exact⟨0,cs0,by omega,rfl,Out.refl _ _ _,hc1,hz0,fun j c _ hj hc=>hv0 j c hj hc,fun j b _ hj h1 h2=>hw b (by have:=hp j hj;omega) (by have:=hp j hj;omega)⟩
  case round=>
   obtain⟨k,cs,hk,rfl,hO,hc,hz,hv,hN⟩:=hrel
   by_cases hlt:k<ts.length
   ·have hd:decide ((k:Int)<(ts.length:Int))=true:=by simp;omega
    have hk1:0≤(k:Int)∧(k:Int)<(ts.length:Int):=by omega
    have hpk:=hp k hlt
    have y4:wr.cell? ⟨lo,k*5+4,none⟩=some (gvs us k):=by
     rw[cell_of_row _ _ _ _ _ _ hc,hv k 4 (Nat.le_refl _) hlt (by omega)];rfl
    have cW:=ih k hlt wr (fun b h1 h2=>hN k b (Nat.le_refl _) hlt h1 h2)
    have hfm:=(hs k hlt).form.1
    generalize gvs us k=u at *
    subst hfm;have A1:=hide hO;have A2:=hide hc;have A3:=hide hv;have A4:=hide hN;clear h hs ih hm hO hc hv hN hv0 hc0 hc1 hw
    go_wp2_with (fail)
    refine cW.mono ?_;rintro e_ w2 ⟨⟨u0,rfl⟩,hO2⟩;clear cW y4
    have r2:=(hO2.block lo (by omega)).trans A2.out
    obtain⟨z0,n0⟩:∃z,w2.cell? ⟨lo,k*5,none⟩=some z:=by
     rw[cell_of_row _ _ _ _ _ _ r2]
     exact⟨_,Array.getElem?_eq_getElem (by omega)⟩
    have f0:w2.frozen? ⟨lo,k*5,none⟩=false:=by simp[World.frozen?,r2]
    obtain⟨z1,n1⟩:∃z,w2.cell? ⟨lo,k*5+1,none⟩=some z:=by
     rw[cell_of_row _ _ _ _ _ _ r2]
     exact⟨_,Array.getElem?_eq_getElem (by omega)⟩
    have f1:w2.frozen? ⟨lo,k*5+1,none⟩=false:=by simp[World.frozen?,r2]
    obtain⟨z2,n2⟩:∃z,w2.cell? ⟨lo,k*5+2,none⟩=some z:=by
     rw[cell_of_row _ _ _ _ _ _ r2]
     exact⟨_,Array.getElem?_eq_getElem (by omega)⟩
    have f2:w2.frozen? ⟨lo,k*5+2,none⟩=false:=by simp[World.frozen?,r2]
    obtain⟨z3,n3⟩:∃z,w2.cell? ⟨lo,k*5+3,none⟩=some z:=by
     rw[cell_of_row _ _ _ _ _ _ r2]
     exact⟨_,Array.getElem?_eq_getElem (by omega)⟩
    have f3:w2.frozen? ⟨lo,k*5+3,none⟩=false:=by simp[World.frozen?,r2]
    obtain⟨z4,n4⟩:∃z,w2.cell? ⟨lo,k*5+4,none⟩=some z:=by
     rw[cell_of_row _ _ _ _ _ _ r2]
     exact⟨_,Array.getElem?_eq_getElem (by omega)⟩
    have f4:w2.frozen? ⟨lo,k*5+4,none⟩=false:=by simp[World.frozen?,r2]
    have hO3:=A1.out.trans hO2 (by omega) (by omega)
    have hO4:Out lo hi w (((((w2.setCell ⟨lo,k*5,none⟩ (.int .i64 1)).setCell ⟨lo,k*5+1,none⟩ (.int .i64 1)).setCell ⟨lo,k*5+2,none⟩ (.int .u64 0)).setCell ⟨lo,k*5+3,none⟩ (.int .u64 3)).setCell ⟨lo,k*5+4,none⟩ nS):=((((hO3.set hp0).set hp0).set hp0).set hp0).set hp0;have r3:=(heap_setCell_same _ lo (k*5+4) _ _ nS (heap_setCell_same _ lo (k*5+3) _ _ (.int .u64 3) (heap_setCell_same _ lo (k*5+2) _ _ (.int .u64 0) (heap_setCell_same _ lo (k*5+1) _ _ (.int .i64 1) (heap_setCell_same _ lo (k*5) _ _ (.int .i64 1) r2)))))
    have hel:∀q,q≠lo→(((((w2.setCell ⟨lo,k*5,none⟩ (.int .i64 1)).setCell ⟨lo,k*5+1,none⟩ (.int .i64 1)).setCell ⟨lo,k*5+2,none⟩ (.int .u64 0)).setCell ⟨lo,k*5+3,none⟩ (.int .u64 3)).setCell ⟨lo,k*5+4,none⟩ nS).heap[q]? =w2.heap[q]? :=fun q hq=>((((heap_setCell_other _ _ q _ hq).trans (heap_setCell_other _ _ q _ hq)).trans (heap_setCell_other _ _ q _ hq)).trans (heap_setCell_other _ _ q _ hq)).trans (heap_setCell_other _ _ q _ hq)
    have B1:=hide hO4;have B2:=hide r3;have B3:=hide hel;have B4:=hide hO2;clear hO4 r3 hel r2 hO2 hO3 A1 A2
    go_wp2_with (fail)
    generalize (((((w2.setCell ⟨lo,k*5,none⟩ (.int .i64 1)).setCell ⟨lo,k*5+1,none⟩ (.int .i64 1)).setCell ⟨lo,k*5+2,none⟩ (.int .u64 0)).setCell ⟨lo,k*5+3,none⟩ (.int .u64 3)).setCell ⟨lo,k*5+4,none⟩ nS)=w3 at *
    refine⟨⟨k+1,_,by omega,by go_num,B1.out,B2.out,by simp[hz],fun j c h1 h2 h3=>?_,fun j b h1 h2 h3 h4=>?_⟩,?_⟩
    ·simp only[Array.getElem?_setIfInBounds]
     rw[if_neg (by omega),if_neg (by omega),if_neg (by omega),if_neg (by omega),if_neg (by omega)]
     exact A3.out j c (by omega) h2 h3
    ·have hj:=hp j h2
     have hmono:p (k+1)≤p j:=hpm (k+1) j (by omega) (by omega)
     rw[B3.out b (by omega),B4.out.block b (by omega)]
     exact A4.out j b (by omega) h2 h3 h4
    ·simp[intOf];omega
   ·have hd:decide ((k:Int)<(ts.length:Int))=false:=by simp;omega
    clear h hs ih hm
    go_wp2_with (fail)
    go_end0;exact⟨⟨_,rfl⟩,hO⟩
def Rdc (W:World) (g:Nat) (ts:List Slt):Prop:=∃u,W.heap[g]? =some (.cells #[u] 81 (0,0))∧Slo W u ts
theorem flr_form (f:Option Flt3):∃a b c:Int,flr f=#[.int .i64 a,.int .i64 b,.int .i64 c]:=by
 cases f with
 |none=>exact⟨0,0,0,rfl⟩
 |some x=>exact⟨_,_,_,rfl⟩
theorem r_known (t:Int):Gives 80 #[.int .i64 t] (.bool (decide (known t))):=by
 intro w
 by_cases hk:known t
 ·rw[decide_eq_true hk]
  rcases hk with rfl|rfl|rfl|rfl
  all_goals
   go_enter Tryz.func80,Tryz.ntmps80
   go_wp2_with (fail)
   go_ret;exact⟨rfl,Below.refl _ _⟩
 ·rw[decide_eq_false hk]
  have q0:(t==0)=false:=by unfold known at hk;simp;omega
  have q1:(t==1)=false:=by unfold known at hk;simp;omega
  have q2:(t==2)=false:=by unfold known at hk;simp;omega
  have q5:(t==5)=false:=by unfold known at hk;simp;omega
  clear hk
  go_enter Tryz.func80,Tryz.ntmps80
  go_wp2_with (fail)
  go_ret;exact⟨rfl,Below.refl _ _⟩
theorem fits_iff (f:Fd):fits f↔if f.ty=2 then f.num=0 else f.dat=[]∧(f.ty=5→f.num≤4294967295):=Iff.rfl
theorem r_fits (f:Fd) (ao:Option Addr) (cap:Nat):Gives 81 #[fagg f (.slice ao f.dat.length cap)] (.bool (decide (fits f))):=by
 intro w;have hf2:=fits_iff f;obtain⟨u,hue⟩:∃u,Value.slice ao f.dat.length cap=u:=⟨_,rfl⟩;rw[hue];unfold fagg;have R0:=hp1_0 w (.cells #[.int .i64 f.no,.int .i64 f.ty,.int .u64 (f.num:Int),u] 118);have hw:Below w.heap.size w (w.alloc (.cells #[.int .i64 f.no,.int .i64 f.ty,.int .u64 (f.num:Int),u] 118)):=(Below.refl _ _).alloc (Nat.le_refl _) _;have c0:(w.alloc (.cells #[.int .i64 f.no,.int .i64 f.ty,.int .u64 (f.num:Int),u] 118)).cell? ⟨w.heap.size,0,none⟩=some (.int .i64 f.no):=cell_of_row _ _ _ _ _ _ R0;have c1:(w.alloc (.cells #[.int .i64 f.no,.int .i64 f.ty,.int .u64 (f.num:Int),u] 118)).cell? ⟨w.heap.size,1,none⟩=some (.int .i64 f.ty):=cell_of_row _ _ _ _ _ _ R0;have c2:(w.alloc (.cells #[.int .i64 f.no,.int .i64 f.ty,.int .u64 (f.num:Int),u] 118)).cell? ⟨w.heap.size,2,none⟩=some (.int .u64 (f.num:Int)):=cell_of_row _ _ _ _ _ _ R0;have c3:(w.alloc (.cells #[.int .i64 f.no,.int .i64 f.ty,.int .u64 (f.num:Int),u] 118)).cell? ⟨w.heap.size,3,none⟩=some (u):=cell_of_row _ _ _ _ _ _ R0
 go_enter Tryz.func81,Tryz.ntmps81
 subst hue;clear R0
 by_cases t2:f.ty=2
 ·rw[if_pos t2] at hf2
  have q2:(f.ty==2)=true:=by simpa using t2
  by_cases q:f.num=0
  ·have hd:decide (fits f)=true:=decide_eq_true (hf2.2 q)
   have d2:((f.num:Int)==0)=true:=by simpa using q
   replace hd:=hide hd;replace q:=hide q;replace t2:=hide t2;clear hf2
   go_wp2_with (fail)
   go_ret
   exact⟨by rw[hd.out];rfl,hw⟩
  ·have hd:decide (fits f)=false:=decide_eq_false (fun h=>q (hf2.1 h))
   have d2:((f.num:Int)==0)=false:=by simpa using q
   replace hd:=hide hd;replace q:=hide q;replace t2:=hide t2;clear hf2
   go_wp2_with (fail)
   go_ret
   exact⟨by rw[hd.out];rfl,hw⟩
 ·rw[if_neg t2] at hf2
  have q2:(f.ty==2)=false:=by simpa using t2
  by_cases q:f.dat=[]
  ·have hl:((f.dat.length:Int)==0)=true:=by rw[q];rfl
   by_cases t5:f.ty=5
   ·have q5:(f.ty==5)=true:=by simpa using t5
    by_cases qn:f.num≤4294967295
    ·have hd:decide (fits f)=true:=decide_eq_true (hf2.2 ⟨q,fun _=>qn⟩)
     have d2:decide ((f.num:Int)≤4294967295)=true:=by simp;omega
     replace hd:=hide hd;replace t5:=hide t5;replace q:=hide q;clear hf2
     go_wp2_with (fail)
     go_ret
     exact⟨by rw[hd.out];rfl,by first|exact hw|(rw[t5.out] at hw;exact hw)⟩
    ·have hd:decide (fits f)=false:=decide_eq_false (fun h=>qn ((hf2.1 h).2 t5))
     have d2:decide ((f.num:Int)≤4294967295)=false:=by simp;omega
     replace hd:=hide hd;replace t5:=hide t5;replace q:=hide q;clear hf2
     go_wp2_with (fail)
     go_ret
     exact⟨by rw[hd.out];rfl,by first|exact hw|(rw[t5.out] at hw;exact hw)⟩
   ·have hd:decide (fits f)=true:=decide_eq_true (hf2.2 ⟨q,fun h=>absurd h t5⟩)
    have q5:(f.ty==5)=false:=by simpa using t5
    replace hd:=hide hd;replace q:=hide q;clear hf2
    go_wp2_with (fail)
    go_ret
    exact⟨by rw[hd.out];rfl,hw⟩
  ·have hd:decide (fits f)=false:=decide_eq_false (fun h=>q (hf2.1 h).1)
   have hl:((f.dat.length:Int)==0)=false:=by
    have:f.dat.length≠0:=fun h=>q (List.eq_nil_of_length_eq_zero h)
    simp;omega
   replace hd:=hide hd;clear hf2 q
   go_wp2_with (fail)
   go_ret
   exact⟨by rw[hd.out];rfl,hw⟩
theorem by_rem (n:Nat):(n:Int)%256=bv (BitVec.ofNat 8 (n%256)):=by_mod n
theorem r_low (n k:Nat) (hn:n<18446744073709551616) (hk:k≤8) (w:World):Calls Tryz.prog 107 #[.int .u64 (n:Int),.int .i64 (k:Int)] w fun e w'=>∃u,e=.returned u∧Own w' w.heap.size u (fx k n)∧Below w.heap.size w w':=by
 have hO0:=own_nil w;have hw0:Below w.heap.size w (w.alloc (.cells #[] 5)):=(Below.refl _ _).alloc (Nat.le_refl _) _
 go_enter Tryz.func107,Tryz.ntmps107
 go_wp2_with (fail)
 generalize w.alloc (.cells #[] 5)=w0 at *
 go_loopw [0,5,6] (fun m s i wr=>∃(j:Nat) (ao:Option Addr) (ac:Nat),j≤k∧i=.int .i64 (j:Int)∧m=.int .u64 ((n/256^j:Nat):Int)∧s=.slice ao j ac∧Own wr w.heap.size (.slice ao j ac) (fx j n)∧Below w.heap.size w wr) (fun _ _ i _=>k-(intOf i).toNat)
 case atStart=>exact⟨0,_,_,by omega,rfl,by rw[Nat.pow_zero,Nat.div_one],rfl,hO0,hw0⟩
 case round=>
  clear hO0 hw0;obtain⟨j,ao,ac,hj,rfl,rfl,rfl,hO,hw⟩:=hrel;have hws:=hw.size
  by_cases hlt:j<k
  ·have hd:decide ((j:Int)<(k:Int))=true:=by simp;omega
   have hsn:Hid (fx (j+1) n=fx j n++[BitVec.ofNat 8 (n/256^j%256)]):=hide (fx_snoc j n)
   have hdv:Hid (n/256^(j+1)=n/256^j/256):=hide (by rw[Nat.div_div_eq_div_mul,Nat.pow_succ])
   have hml:n/256^j<18446744073709551616:=Nat.lt_of_le_of_lt (Nat.div_le_self _ _) hn;have hfl:(fx j n).length=j:=fx_len j n;replace hfl:=hide hfl
   generalize n/256^j=M at *
   go_wp2_with (at_builtin;suffices h9:True∧_ from h9.2)
   refine⟨trivial,?_⟩
   refine wpList_append_B rfl (.tmp 13) (.tmp 17) rfl w.heap.size _ (fx j n) rfl (own_alloc hO _) _ [BitVec.ofNat 8 (M%256)] rfl (by first|(rw[by_rem];exact bys_one _ _)) (by rw[hfl.out];simp only[List.length_singleton];omega) (by rw[size_alloc1];omega) ?_
   intro v2 w2 hO2 hgr
   have hw2:Below w.heap.size w w2:=(hw.alloc (by omega) _).grown hgr (by rw[size_alloc1];omega) (own_low hO)
   rw[←hsn.out] at hO2;obtain⟨ao2,ac2,hv2⟩:=slen_own hO2;rw[fx_len] at hv2;subst hv2;clear hgr hO hw
   go_wp2_with (fail)
   refine⟨⟨j+1,ao2,ac2,by omega,by go_num,by rw[hdv.out];rfl,rfl,hO2,hw2⟩,?_⟩
   simp[intOf];omega
  ·obtain rfl:j=k:=by omega
   have hd:decide ((j:Int)<(j:Int))=false:=by simp
   go_wp2_with (fail)
   go_ret;exact⟨_,rfl,hO,hw⟩
theorem r_one (f:Fd) (w:World) (ao:Option Addr) (cap:Nat) (hu:BysB w (.slice ao f.dat.length cap) f.dat) (hf:Fok f) (h0:0≤f.no) (h1:f.no≤536870911) (hk:known f.ty):Calls Tryz.prog 82 #[fagg f (.slice ao f.dat.length cap)] w fun e w'=>∃x,e=.returned x∧Own w' w.heap.size x (fby f)∧Below w.heap.size w w':=by
 have ht:=known_lt hk;have hhl:=Fok.hd h1 ht.2;have hten:=en_ten hhl
 have hvl:fvl f=if f.ty=0 then en f.num else if f.ty=1 then fx 8 f.num else if f.ty=5 then fx 4 f.num else itm f.dat:=rfl
 have hfb:fby f=en (fhd f)++fvl f:=rfl;have hfd:=hf.2.1;have hnum:=hf.1
 have hhd:8*f.no+f.ty=((fhd f:Nat):Int):=by unfold fhd;omega
 have ht9:=en_ten hnum;obtain⟨u,hue⟩:∃u,Value.slice ao f.dat.length cap=u:=⟨_,rfl⟩;rw[hue];unfold fagg;have R0:=hp1_0 w (.cells #[.int .i64 f.no,.int .i64 f.ty,.int .u64 (f.num:Int),u] 118);have hw:Below w.heap.size w (w.alloc (.cells #[.int .i64 f.no,.int .i64 f.ty,.int .u64 (f.num:Int),u] 118)):=(Below.refl _ _).alloc (Nat.le_refl _) _;have c0:(w.alloc (.cells #[.int .i64 f.no,.int .i64 f.ty,.int .u64 (f.num:Int),u] 118)).cell? ⟨w.heap.size,0,none⟩=some (.int .i64 f.no):=cell_of_row _ _ _ _ _ _ R0;have c1:(w.alloc (.cells #[.int .i64 f.no,.int .i64 f.ty,.int .u64 (f.num:Int),u] 118)).cell? ⟨w.heap.size,1,none⟩=some (.int .i64 f.ty):=cell_of_row _ _ _ _ _ _ R0;have c2:(w.alloc (.cells #[.int .i64 f.no,.int .i64 f.ty,.int .u64 (f.num:Int),u] 118)).cell? ⟨w.heap.size,2,none⟩=some (.int .u64 (f.num:Int)):=cell_of_row _ _ _ _ _ _ R0;have c3:(w.alloc (.cells #[.int .i64 f.no,.int .i64 f.ty,.int .u64 (f.num:Int),u] 118)).cell? ⟨w.heap.size,3,none⟩=some (u):=cell_of_row _ _ _ _ _ _ R0
 go_enter Tryz.func82,Tryz.ntmps82
 have cP:=r_put [] (fhd f) hhl (w.alloc (.cells #[.int .i64 f.no,.int .i64 f.ty,.int .u64 (f.num:Int),u] 118)) _ (bys_nil _);rw[List.nil_append] at cP
 have hm1:8*f.no<18446744073709551616:=by omega
 have hm2:0≤8*f.no:=by omega
 have l0:=lt_of_row R0
 generalize hE:en (fhd f)=E at *
 go_wp2_with (fail)
 generalize (w.alloc (.cells #[.int .i64 f.no,.int .i64 f.ty,.int .u64 (f.num:Int),u] 118))=w0 at *
 refine cP.mono ?_;rintro e_ w1 ⟨r,rfl,hr,hb⟩;have s0:=hw.size;have sw:=hb.size;replace hw:=hw.trans (hb.mono hw.size);replace c1:=(hb.cell (p:=⟨w.heap.size,1,none⟩) l0).trans c1;replace c2:=(hb.cell (p:=⟨w.heap.size,2,none⟩) l0).trans c2;replace c3:=(hb.cell (p:=⟨w.heap.size,3,none⟩) l0).trans c3;clear hb cP R0 c0
 have hrB:=hr.bysB (by omega)
 obtain⟨ro,rc,hre⟩:=slen_own hr;unfold known at hk
 rcases hk with t|t|t|t
 ·rw[t] at c1
  rw[if_pos t] at hvl
  have cX:=r_put E f.num hnum w1 r hrB
  have hfin:Hid (fby f=E++en f.num):=hide (by rw[hfb,hvl])
  subst hre;clear hvl hfb t hr hrB
  generalize hZ:en f.num=Z at *
  go_wp2_with (fail)
  refine cX.mono ?_;rintro e_ w2 ⟨x,rfl,hx,hb⟩;replace hw:=hw.trans (hb.mono hw.size);clear hb cX
  go_wp2_with (fail)
  go_ret
  exact⟨x,rfl,by rw[hfin.out];exact own_down hx (by omega),hw⟩
 ·rw[t] at c1
  rw[if_neg (by omega),if_pos t] at hvl
  have cX:=r_low f.num 8 hnum (by omega) w1
  have hfin:Hid (fby f=E++fx 8 f.num):=hide (by rw[hfb,hvl])
  have hxl:(fx 8 f.num).length≤8:=by rw[fx_len];omega
  subst hre;clear hvl hfb t hrB
  generalize hZ:fx 8 f.num=Z at *
  go_wp2_with (fail)
  refine cX.mono ?_;rintro e_ w2 ⟨x,rfl,hx,hb⟩;have s2:=hb.size;replace hw:=hw.trans (hb.mono hw.size);replace hr:=hr.keep hb
  have hxB:=hx.bysB (by omega)
  clear hb cX
  go_wp2_with (at_builtin;suffices h9:True∧_ from h9.2)
  refine⟨trivial,?_⟩
  refine wpList_append_B rfl (.tmp 23) (.tmp 26) rfl w0.heap.size _ E rfl hr _ Z rfl hxB (by omega) (by omega) ?_
  intro v3 w3 hO3 hgr
  have hw3:=hw.grown hgr (by omega) (fun k e=>by have:=own_low hr k e;omega)
  clear hgr
  go_wp2_with (fail)
  go_ret
  exact⟨v3,rfl,by rw[hfin.out];exact own_down hO3 (by omega),hw3⟩
 ·rw[t] at c1
  rw[if_neg (by omega),if_neg (by omega),if_neg (by omega)] at hvl
  have cX:=r_put E f.dat.length (by omega) w1 r hrB
  have hfin:Hid (fby f=E++en f.dat.length++f.dat):=hide (by rw[hfb,hvl,itm,List.append_assoc])
  have hten3:=en_ten (n:=f.dat.length) (by omega)
  subst hre;clear hvl hfb t hrB hr;subst hue
  generalize hZ:en f.dat.length=Z at *
  go_wp2_with (fail)
  refine cX.mono ?_;rintro e_ w2 ⟨x,rfl,hx,hb⟩;have s2:=hb.size;replace hw:=hw.trans (hb.mono hw.size)
  replace c3:=(hb.cell (p:=⟨w.heap.size,3,none⟩) (show w.heap.size<w1.heap.size by omega)).trans c3
  have hE2:=hu.keep hw;obtain⟨xo,xc,hxe⟩:=slen_own hx;have hll:(E++Z).length=E.length+Z.length:=List.length_append;clear hb cX
  generalize hEZ:E++Z=EZ at *
  subst hxe;replace hll:=hide hll
  go_wp2_with (at_builtin;suffices h9:True∧_ from h9.2)
  refine⟨trivial,?_⟩
  refine wpList_append_B rfl (.tmp 41) (.tmp 43) rfl w1.heap.size _ EZ rfl hx _ f.dat rfl hE2 (by have:=hll.out;omega) s2 ?_
  intro v3 w3 hO3 hgr
  have hw3:=hw.grown hgr (by omega) (fun k e=>by have:=own_low hx k e;omega)
  clear hgr
  go_wp2_with (fail)
  go_ret
  exact⟨v3,rfl,by rw[hfin.out];exact own_down hO3 (by omega),hw3⟩
 ·rw[t] at c1
  rw[if_neg (by omega),if_neg (by omega),if_pos t] at hvl
  have cX:=r_low f.num 4 hnum (by omega) w1
  have hfin:Hid (fby f=E++fx 4 f.num):=hide (by rw[hfb,hvl])
  have hxl:(fx 4 f.num).length≤8:=by rw[fx_len];omega
  subst hre;clear hvl hfb t hrB
  generalize hZ:fx 4 f.num=Z at *
  go_wp2_with (fail)
  refine cX.mono ?_;rintro e_ w2 ⟨x,rfl,hx,hb⟩;have s2:=hb.size;replace hw:=hw.trans (hb.mono hw.size);replace hr:=hr.keep hb
  have hxB:=hx.bysB (by omega)
  clear hb cX
  go_wp2_with (at_builtin;suffices h9:True∧_ from h9.2)
  refine⟨trivial,?_⟩
  refine wpList_append_B rfl (.tmp 30) (.tmp 33) rfl w0.heap.size _ E rfl hr _ Z rfl hxB (by omega) (by omega) ?_
  intro v3 w3 hO3 hgr
  have hw3:=hw.grown hgr (by omega) (fun k e=>by have:=own_low hr k e;omega)
  clear hgr
  go_wp2_with (fail)
  go_ret
  exact⟨v3,rfl,by rw[hfin.out];exact own_down hO3 (by omega),hw3⟩
end Go.Proofs.YtmmlkfkpblokiaaGreatDoor
