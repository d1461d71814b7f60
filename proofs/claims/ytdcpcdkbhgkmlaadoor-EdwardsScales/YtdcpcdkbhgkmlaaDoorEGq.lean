import Derived.Test.YtdcpcdkbhgkmlaaDoorProg
import Derived.WalkKit
import Derived.WalkSpells
import Derived.WalkLawsBesides
import Derived.Lib.QuietBelow
import Derived.BigQuiet
import Derived.Test.YtdcpcdkbhgkmlaaDoorEKa
import Derived.Test.YtdcpcdkbhgkmlaaDoorEDwc
import Derived.Deep.Cut
import Derived.Deep.CutRange
import Derived.Test.YtdcpcdkbhgkmlaaDoorEDrb
import Derived.Test.YtdcpcdkbhgkmlaaDoorERp
import Derived.Test.YtdcpcdkbhgkmlaaDoorEFc
import Derived.Test.YtdcpcdkbhgkmlaaDoorEGs
import Derived.Shelf.Spec.BitsCarry
import Derived.Test.YtdcpcdkbhgkmlaaDoorEDwe
import Derived.Test.YtdcpcdkbhgkmlaaDoorEDwf
import Derived.Test.YtdcpcdkbhgkmlaaDoorEDwa
import Derived.ChangeKeysEq
import Derived.Laws.StructEq
import Derived.Deep.OwnRows
import Derived.Laws.CopyOwn
import Derived.OwnWalk
import Derived.Laws.Bits64b
namespace Go.Proofs.YtdcpcdkbhgkmlaaDoor
set_option maxRecDepth 100000
open Go.RowKit Go.Sort
attribute [local go_sem] setCell_drewN alloc_drewN
theorem and8 (x:Int) (h0:0≤x) (h1:x<256):bits .and .u8 x 1=x%2:=by
 rw[u8_and x 1 h0 h1 (by decide) (by decide)]
 have e:(1:Int).toNat=1:=by decide
 rw[e,nat_mask1];omega
theorem bit_at (z:Int) (j:Nat) (h0:0≤z) (h1:z<256):(bits .and .u8 (z/2^j) 1==1)=decide (z.toNat/2^j%2=1):=by
 obtain⟨m,rfl⟩:=Int.eq_ofNat_of_zero_le h0
 have e:(m:Int)/2^j=((m/2^j:Nat):Int):=by simp
 have hle:=Nat.div_le_self m (2^j);rw[e,Int.toNat_natCast]
 generalize m/2^j=q at *
 rw[and8 _ (by omega) (by omega)]
 by_cases h:q%2=1
 ·rw[decide_eq_true h,beq_iff_eq];omega
 ·rw[decide_eq_false h,beq_eq_false_iff_ne];omega
end Go.Proofs.YtdcpcdkbhgkmlaaDoor
namespace Go.Proofs.YtdcpcdkbhgkmlaaDoor
set_option maxRecDepth 100000
open Go Go.RowKit Go.Sort
attribute [local go_sem] setCell_drewN alloc_drewN
theorem rd_inj {m k:Int} (h:inP m) (g:inP k) (e:rd m=rd k):m=k:=dg_inj h g fun j hj=>by
 have:=congrArg (fun a:Array Value=>a[j]?) e
 simp only[rd_cell _ j hj] at this
 injection this with this
 injection this
theorem r3_inj {a b c a' b' c':Array Value} (h:r3 a b c=r3 a' b' c') (ha:a.size=16) (hb:b.size=16) (hc:c.size=16) (ha':a'.size=16) (hb':b'.size=16) (hc':c'.size=16):a=a'∧b=b'∧c=c':=by
 have e0:(r3 a b c).extract 0 (0+16)=(r3 a' b' c').extract 0 (0+16):=by rw[h]
 have e1:(r3 a b c).extract 16 (16+16)=(r3 a' b' c').extract 16 (16+16):=by rw[h]
 have e2:(r3 a b c).extract 32 (32+16)=(r3 a' b' c').extract 32 (32+16):=by rw[h]
 have q0:=q3_0 (a:=a) (b:=b) (c:=c);have q0':=q3_0 (a:=a') (b:=b') (c:=c');have q1:=q3_1 (b:=b) (c:=c) ha;have q1':=q3_1 (b:=b') (c:=c') ha';have q2:=q3_2 (c:=c) ha hb;have q2':=q3_2 (c:=c') ha' hb';rw[ha] at q0;rw[ha'] at q0';rw[hb] at q1;rw[hb'] at q1';rw[hc] at q2;rw[hc'] at q2'
 exact⟨by rw[←q0,←q0',e0],by rw[←q1,←q1',e1],by rw[←q2,←q2',e2]⟩
theorem reo_inj {r:Array Value} {P Q:E1} (h:ReO r P) (g:ReO r Q):P=Q:=by
 obtain⟨xr,yr,zr,X,Y,Z,rfl,hx,hy,hz,hP⟩:=h;obtain⟨ur,vr,wr,X2,Y2,Z2,he,hu,hv,hww,hQ⟩:=g;obtain⟨rfl,rfl,rfl⟩:=r3_inj he hx.size hy.size hz.size hu.size hv.size hww.size;obtain⟨m1,e1,i1,q1⟩:=hx;obtain⟨m2,e2,i2,q2⟩:=hy;obtain⟨m3,e3,i3,q3⟩:=hz;obtain⟨k1,f1,j1,p1⟩:=hu;obtain⟨k2,f2,j2,p2⟩:=hv;obtain⟨k3,f3,j3,p3⟩:=hww;obtain rfl:=rd_inj i1 j1 (e1.symm.trans f1);obtain rfl:=rd_inj i2 j2 (e2.symm.trans f2);obtain rfl:=rd_inj i3 j3 (e3.symm.trans f3);have zX:Zp (X-X2):=zp_sub.2 (q1.symm.trans p1);have zY:Zp (Y-Y2):=zp_sub.2 (q2.symm.trans p2);have zZ:Zp (Z-Z2):=zp_sub.2 (q3.symm.trans p3)
 have hQ':Rp Q X Y Z:=⟨fun hz=>hQ.1 (zp_lin2 1 (-1) hz zZ (by grind)),zp_lin3 1 1 (-(tx Q)) hQ.2.1 zX zZ (by grind),zp_lin3 1 1 (-Q.y) hQ.2.2 zY zZ (by grind)⟩
 refine pb_inj ?_;unfold pb;rw[←rp_x hP,←rp_y hP,rp_x hQ',rp_y hQ']
noncomputable def nAd (dr r s:Array Value):Array Value:=open Classical in if h:(∃D,RNum dr D∧Zp (D+ec1))∧(∃P,ReO r P)∧∃Q,ReO s Q then Classical.choose (r_add19 (Classical.choose_spec h.1).1 (Classical.choose_spec h.1).2 (Classical.choose_spec h.2.1) (Classical.choose_spec h.2.2)) else r
theorem nAd_spec {dr r s:Array Value} {P Q:E1} {D:Int} (hd:RNum dr D) (hde:Zp (D+ec1)) (h:ReO r P) (g:ReO s Q):ReO (nAd dr r s) (pl P Q)∧Gives 45 #[.agg r,.agg s,.agg dr] (.agg (nAd dr r s)):=by
 have hx:(∃D,RNum dr D∧Zp (D+ec1))∧(∃P,ReO r P)∧∃Q,ReO s Q:=⟨⟨D,hd,hde⟩,⟨P,h⟩,⟨Q,g⟩⟩
 have e:nAd dr r s=Classical.choose (r_add19 (Classical.choose_spec hx.1).1 (Classical.choose_spec hx.1).2 (Classical.choose_spec hx.2.1) (Classical.choose_spec hx.2.2)):=by unfold nAd;exact dif_pos hx
 have sp:=Classical.choose_spec (r_add19 (Classical.choose_spec hx.1).1 (Classical.choose_spec hx.1).2 (Classical.choose_spec hx.2.1) (Classical.choose_spec hx.2.2));rw[←e,reo_inj (Classical.choose_spec hx.2.1) h,reo_inj (Classical.choose_spec hx.2.2) g] at sp;exact sp
noncomputable def bitsR (dr p s:Array Value) (z:Nat):Nat→Array Value
 |0=>s
 |j+1=>if z/2^(7-j)%2=1 then nAd dr (nAd dr (bitsR dr p s z j) (bitsR dr p s z j)) p else nAd dr (bitsR dr p s z j) (bitsR dr p s z j)
theorem bitsR_spec {dr p s:Array Value} {P:E1} {e z:Nat} {D:Int} (hd:RNum dr D) (hde:Zp (D+ec1)) (h:ReO p P) (g:ReO s (ml e P)) (hz:z<256):∀j,j≤8→ReO (bitsR dr p s z j) (ml (e*2^j+z/2^(8-j)) P)
 |0,_=>by
  rw[show z/2^(8-0)=0 by omega,Nat.pow_zero,Nat.mul_one,Nat.add_zero];exact g
 |j+1,hj=>by
  have ih:=bitsR_spec hd hde h g hz j (by omega)
  have sq:=(nAd_spec hd hde ih ih).1;have m:=(nAd_spec hd hde sq h).1
  have hq:z/2^(8-j)=z/2^(7-j)/2:=by
   rw[Nat.div_div_eq_div_mul,←Nat.pow_succ,show(7-j).succ=8-j by omega]
  have h2:2^(j+1)=2*2^j:=by rw[Nat.pow_succ,Nat.mul_comm]
  have h3:e*2^(j+1)=e*2^j+e*2^j:=by rw[h2,Nat.mul_left_comm];omega
  unfold bitsR
  rw[show 8-(j+1)=7-j by omega,h3]
  rw[ml_two,ml_next] at m;rw[ml_two] at sq
  by_cases hb:z/2^(7-j)%2=1
  ·rw[if_pos hb,show e*2^j+e*2^j+z/2^(7-j)=2*(e*2^j+z/2^(8-j))+1 by omega]
   exact m
  ·rw[if_neg hb,show e*2^j+e*2^j+z/2^(7-j)=2*(e*2^j+z/2^(8-j)) by omega]
   exact sq
noncomputable def bytesR (dr p o:Array Value) (bs:List Int):Nat→Array Value
 |0=>o
 |k+1=>bitsR dr p (bytesR dr p o bs k) (bat bs k).toNat 8
theorem bytesR_spec {dr p o:Array Value} {P:E1} {bs:List Int} {D:Int} (hd:RNum dr D) (hde:Zp (D+ec1)) (h:ReO p P) (g:ReO o ze) (hz:∀z∈bs,0≤z∧z<256):∀k,k≤bs.length→ReO (bytesR dr p o bs k) (ml (topv bs k) P)
 |0,_=>by rw[topv_zero];exact g
 |k+1,hk=>by
  have b:=bat_bd hz (k:=k) (by omega)
  have:=bitsR_spec hd hde h (bytesR_spec hd hde h g hz k (by omega)) (z:=(bat bs k).toNat) (by omega) 8 (by omega)
  rw[Nat.sub_self,Nat.pow_zero,Nat.div_one] at this
  rw[topv_succ (by omega)]
  exact this
def z48:Array Value:=#[.int .u64 0,.int .u64 0,.int .u64 0,.int .u64 0,.int .u64 0,.int .u64 0,.int .u64 0,.int .u64 0,.int .u64 0,.int .u64 0,.int .u64 0,.int .u64 0,.int .u64 0,.int .u64 0,.int .u64 0,.int .u64 0,.int .u64 0,.int .u64 0,.int .u64 0,.int .u64 0,.int .u64 0,.int .u64 0,.int .u64 0,.int .u64 0,.int .u64 0,.int .u64 0,.int .u64 0,.int .u64 0,.int .u64 0,.int .u64 0,.int .u64 0,.int .u64 0,.int .u64 0,.int .u64 0,.int .u64 0,.int .u64 0,.int .u64 0,.int .u64 0,.int .u64 0,.int .u64 0,.int .u64 0,.int .u64 0,.int .u64 0,.int .u64 0,.int .u64 0,.int .u64 0,.int .u64 0,.int .u64 0]
theorem z48e:(#[.int .u64 0,.int .u64 0,.int .u64 0,.int .u64 0,.int .u64 0,.int .u64 0,.int .u64 0,.int .u64 0,.int .u64 0,.int .u64 0,.int .u64 0,.int .u64 0,.int .u64 0,.int .u64 0,.int .u64 0,.int .u64 0,.int .u64 0,.int .u64 0,.int .u64 0,.int .u64 0,.int .u64 0,.int .u64 0,.int .u64 0,.int .u64 0,.int .u64 0,.int .u64 0,.int .u64 0,.int .u64 0,.int .u64 0,.int .u64 0,.int .u64 0,.int .u64 0,.int .u64 0,.int .u64 0,.int .u64 0,.int .u64 0,.int .u64 0,.int .u64 0,.int .u64 0,.int .u64 0,.int .u64 0,.int .u64 0,.int .u64 0,.int .u64 0,.int .u64 0,.int .u64 0,.int .u64 0,.int .u64 0]:Array Value)=z48:=rfl
theorem z48_size:z48.size=48:=by kernel_rfl
set_option maxRecDepth 100000 in
set_option maxHeartbeats 8000000 in
theorem scaleR_walk {p dr o:Array Value} {P:E1} {D:Int} (hp:ReO p P) (hd:RNum dr D) (hde:Zp (D+ec1)) (ho:ReO o ze) (cD:Gives 44 #[] (.agg dr)) (cN:Gives 35 #[] (.agg o)) (bs:List Int) (w:World) (ev:Value) (hB:Bys w ev bs):Calls Tryd.prog 10 #[.agg p,ev] w fun e w'=>e=.returned (.agg (bytesR dr p o bs bs.length))∧Below w.heap.size w w':=by
 obtain⟨ao,cap,rfl,hl,hc,hz⟩:=hB;have hP:=bytesR_spec hd hde hp ho hz
 generalize hlen:bs.length=len at *
 have rp0:=hp2_0 w (.cells p 38) (.cells z48 38);have rp1:=hp2_1 w (.cells p 38) (.cells z48 38)
 have hw:Below w.heap.size w ((w.alloc (.cells p 38)).alloc (.cells z48 38)):=(((Below.refl _ _).alloc (Nat.le_refl _) _).alloc (by simp) _)
 go_enter Tryd.func10,Tryd.ntmps10
 iterate 9 go_step
 try rw[z48e]
 generalize ((w.alloc (.cells p 38)).alloc (.cells z48 38))=w0 at *
 go_wp2_with (fail)
 refine(cD.at _).mono ?_;rintro e_ w1 ⟨rfl,hb⟩;replace rp0:=keep hb rp0;replace rp1:=keep hb rp1;replace hw:=Below.after hw hb;clear hb
 go_wp2_with (first|(refine wpList_store_row rfl 36 _ _ rfl (w1.heap.size) dr rfl rfl 36 #[.int .u64 0,.int .u64 0,.int .u64 0,.int .u64 0,.int .u64 0,.int .u64 0,.int .u64 0,.int .u64 0,.int .u64 0,.int .u64 0,.int .u64 0,.int .u64 0,.int .u64 0,.int .u64 0,.int .u64 0,.int .u64 0] (hp1_0 w1 _) hd.info ((show _=16 from rfl).trans hd.size.symm) hd.one ?_;rw[setRow_alloc_new _ _ _ _ _ _ (by simp)];refine wpList_stay ?_)|fail)
 unfold WpStay
 try simp only[Act.put]
 have rl5:(w1.alloc (.cells dr 36)).heap[w1.heap.size]? =some (.cells dr 36 (0,0)):=hp1_0 w1 _;have hb:Below w1.heap.size w1 (w1.alloc (.cells dr 36)):=((Below.refl _ _).alloc (Nat.le_refl _) _)
 generalize (w1.alloc (.cells dr 36))=w2 at *
 have lt_g5_0:=lt_of_row rp0;have lt_g5_1:=lt_of_row rp1;have sz_g5:=hw.size;replace rp0:=keep hb rp0;replace rp1:=keep hb rp1;replace hw:=Below.after hw hb;clear hb
 generalize w1.heap.size=g5 at *
 clear w1
 go_wp2_with (fail)
 refine(cN.at _).mono ?_;rintro e_ w3 ⟨rfl,hb⟩;replace rp0:=keep hb rp0;replace rp1:=keep hb rp1;replace rl5:=keep hb rl5;replace hw:=Below.after hw hb;clear hb
 go_wp2_with (first|(refine wpList_store_row rfl 38 _ _ rfl (w3.heap.size) o rfl rfl 38 z48 (hp1_0 w3 _) ho.info (z48_size.trans ho.size.symm) ho.one ?_;rw[setRow_alloc_new _ _ _ _ _ _ (by simp)];refine wpList_stay ?_)|fail)
 unfold WpStay
 try simp only[Act.put]
 have rl6:(w3.alloc (.cells o 38)).heap[w3.heap.size]? =some (.cells o 38 (0,0)):=hp1_0 w3 _;have hb:Below w3.heap.size w3 (w3.alloc (.cells o 38)):=((Below.refl _ _).alloc (Nat.le_refl _) _)
 generalize (w3.alloc (.cells o 38))=w4 at *
 have lt_g6_0:=lt_of_row rp0;have lt_g6_1:=lt_of_row rp1;have lt_g6_2:=lt_of_row rl5;have sz_g6:=hw.size;replace rp0:=keep hb rp0;replace rp1:=keep hb rp1;replace rl5:=keep hb rl5;replace hw:=Below.after hw hb;clear hb
 generalize w3.heap.size=g6 at *
 clear w3
 go_wp2_with (fail)
 go_loopw [7] (fun i wr=>∃k:Nat,k≤len∧i=.int .i64 ((len:Int)-1-k)∧wr.heap[w.heap.size]? =some (.cells p 38 (0,0))∧wr.heap[w.heap.size+1]? =some (.cells z48 38 (0,0))∧wr.heap[g5]? =some (.cells dr 36 (0,0))∧wr.heap[g6]? =some (.cells (bytesR dr p o bs k) 38 (0,0))∧Below w.heap.size w wr) (fun i _=>(intOf i+1).toNat)
 case atStart=>exact⟨0,by omega,by go_num,rp0,rp1,rl5,rl6,hw⟩
 case round=>
  clear rp0 rp1 rl5 rl6 hw;obtain⟨k,hk,rfl,rp0,rp1,rl5,rl6,hw⟩:=hrel;have hn:=hP k hk
  by_cases hlt:k<len
  ·have hi:(len:Int)-1-k=((len-1-k:Nat):Int):=by omega
   rw[hi]
   obtain⟨bb_,off,rfl,hb1,hb2⟩:=hc (len-1-k) (by omega)
   replace hb2:=(hw.cell hb1).trans hb2
   have hbat:=bat_bd hz (k:=k) (by omega)
   rw[show bs.getD (len-1-k) 0=bat bs k by unfold bat;rw[hlen]] at hb2
   have hby:bytesR dr p o bs (k+1)=bitsR dr p (bytesR dr p o bs k) (bat bs k).toNat 8:=rfl;replace hby:=hide hby
   generalize bytesR dr p o bs k=r0 at *
   generalize bat bs k=z at *
   go_wp2_with (fail)
   go_loopw [8,9] (fun x i wv=>∃j:Nat,j≤8∧i=.int .i64 j∧x=.int .u8 (z*2^j%256)∧wv.heap[w.heap.size]? =some (.cells p 38 (0,0))∧wv.heap[w.heap.size+1]? =some (.cells z48 38 (0,0))∧wv.heap[g5]? =some (.cells dr 36 (0,0))∧wv.heap[g6]? =some (.cells (bitsR dr p r0 z.toNat j) 38 (0,0))∧Below w.heap.size w wv) (fun _ i _=>8-(intOf i).toNat)
   case atStart=>
    refine⟨0,by omega,rfl,?_,rp0,rp1,rl5,rl6,hw⟩
    rw[Int.pow_zero,Int.mul_one,Int.emod_eq_of_lt hbat.1 hbat.2]
   case round=>
    clear rp0 rp1 rl5 rl6 hw hb2;obtain⟨j,hj,rfl,rfl,rp0,rp1,rl5,rl6,hw⟩:=hrel
    have hbn:=bitsR_spec hd hde hp hn (z:=z.toNat) (by omega) j hj
    by_cases hlj:j<8
    ·have hdj:decide ((j:Int)<8)=true:=by simp;omega
     obtain⟨hbit,hnext,hhalf,h7⟩:=bit8 z j hbat.1 hbat.2 hlj
     obtain⟨h2s,cs⟩:=nAd_spec hd hde hbn hbn;obtain⟨h3s,cm⟩:=nAd_spec hd hde h2s hp
     have hstep:bitsR dr p r0 z.toNat (j+1)=if z.toNat/2^(7-j)%2=1 then nAd dr (nAd dr (bitsR dr p r0 z.toNat j) (bitsR dr p r0 z.toNat j)) p else nAd dr (bitsR dr p r0 z.toNat j) (bitsR dr p r0 z.toNat j):=rfl
     have hx0:0≤z*2^j%256∧z*2^j%256<256:=by omega
     generalize hx1:z*2^(j+1)%256=x1 at *
     generalize z*2^j%256=x0 at *
     generalize hX4:bitsR dr p r0 z.toNat (j+1)=X4 at *
     generalize bitsR dr p r0 z.toNat j=X1 at *
     generalize nAd dr (nAd dr X1 X1) p=X3 at *
     generalize nAd dr X1 X1=X2 at *
     go_wp2_with (first|(refine wpList_load_want rfl 38 _ rfl (g6) rfl 38 X1 (0,0) _ rl6 Tryd.underlying38 rfl hbn.info ?_)|(refine wpList_load_want rfl 36 _ rfl (g5) rfl 36 dr (0,0) _ rl5 Tryd.underlying36 rfl hd.info ?_)|fail)
     refine(cs.at _).mono ?_;rintro e w1 ⟨rfl,hb⟩;replace rp0:=keep hb rp0;replace rp1:=keep hb rp1;replace rl5:=keep hb rl5;replace rl6:=keep hb rl6;replace hw:=Below.after hw hb;clear hb;clear cs
     by_cases hge:128≤x0
     ·have hg:decide (128≤x0)=true:=decide_eq_true hge
      rw[if_pos (hbit.1 hge)] at hstep
      replace hstep:=hide (hX4.trans hstep);clear hX4
      go_wp2_with (first|(refine wpList_store_row rfl 38 _ _ rfl g6 X2 rfl rfl 38 _ rl6 h2s.info (hbn.size.trans h2s.size.symm) h2s.one ?_)|(refine wpList_load_want rfl 38 _ rfl (g6) rfl 38 X2 (0,0) _ (setRow_heap w1 g6 _ X2 _ _ rl6) Tryd.underlying38 rfl h2s.info ?_)|(refine wpList_load_want rfl 38 _ rfl (w.heap.size) rfl 38 p (0,0) _ ((setRow_other w1 g6 (w.heap.size) X2 (by omega)).trans rp0) Tryd.underlying38 rfl hp.info ?_)|(refine wpList_load_want rfl 36 _ rfl (g5) rfl 36 dr (0,0) _ ((setRow_other w1 g6 (g5) X2 (by omega)).trans rl5) Tryd.underlying36 rfl hd.info ?_)|fail)
      replace rp0:=(setRow_other w1 g6 (w.heap.size) X2 (by omega)).trans rp0
      replace rp1:=(setRow_other w1 g6 (w.heap.size+1) X2 (by omega)).trans rp1
      replace rl5:=(setRow_other w1 g6 (g5) X2 (by omega)).trans rl5
      replace rl6:=setRow_heap w1 g6 _ X2 _ _ rl6
      replace hw:=below_setRow hw (show w.heap.size≤g6 by omega) X2
      generalize w1.setRow g6 X2=w2 at *
      refine(cm.at _).mono ?_;rintro e w3 ⟨rfl,hb⟩;replace rp0:=keep hb rp0;replace rp1:=keep hb rp1;replace rl5:=keep hb rl5;replace rl6:=keep hb rl6;replace hw:=Below.after hw hb;clear hb
      go_wp2_with (first|(refine wpList_store_row rfl 38 _ _ rfl g6 X3 rfl rfl 38 _ rl6 h3s.info (h2s.size.trans h3s.size.symm) h3s.one ?_)|fail)
      replace rp0:=(setRow_other w3 g6 (w.heap.size) X3 (by omega)).trans rp0
      replace rp1:=(setRow_other w3 g6 (w.heap.size+1) X3 (by omega)).trans rp1
      replace rl5:=(setRow_other w3 g6 (g5) X3 (by omega)).trans rl5
      replace rl6:=setRow_heap w3 g6 _ X3 _ _ rl6
      replace hw:=below_setRow hw (show w.heap.size≤g6 by omega) X3
      generalize w3.setRow g6 X3=w4 at *
      go_roundw
      case rel=>exact⟨j+1,by omega,by go_num,by rw[hx1,←hnext],rp0,rp1,rl5,by rw[hstep.out];exact rl6,hw⟩
      case measure=>simp[intOf];omega
     ·have hg:decide (128≤x0)=false:=decide_eq_false hge
      rw[if_neg (fun q=>hge (hbit.2 q))] at hstep
      replace hstep:=hide (hX4.trans hstep);clear hX4 cm
      go_wp2_with (first|(refine wpList_store_row rfl 38 _ _ rfl g6 X2 rfl rfl 38 _ rl6 h2s.info (hbn.size.trans h2s.size.symm) h2s.one ?_)|fail)
      replace rp0:=(setRow_other w1 g6 (w.heap.size) X2 (by omega)).trans rp0
      replace rp1:=(setRow_other w1 g6 (w.heap.size+1) X2 (by omega)).trans rp1
      replace rl5:=(setRow_other w1 g6 (g5) X2 (by omega)).trans rl5
      replace rl6:=setRow_heap w1 g6 _ X2 _ _ rl6
      replace hw:=below_setRow hw (show w.heap.size≤g6 by omega) X2
      generalize w1.setRow g6 X2=w2 at *
      go_roundw
      case rel=>exact⟨j+1,by omega,by go_num,by rw[hx1,←hnext],rp0,rp1,rl5,by rw[hstep.out];exact rl6,hw⟩
      case measure=>simp[intOf];omega
    ·obtain rfl:j=8:=by omega
     have hdj:decide ((8:Int)<8)=false:=by decide
     go_wp2_with (fail)
     go_roundw
     case rel=>exact⟨k+1,by omega,by go_num,rp0,rp1,rl5,by rw[hby.out];exact rl6,hw⟩
     case measure=>simp[intOf]
  ·obtain rfl:k=len:=by omega
   have hi:(k:Int)-1-k= -1:=by omega
   rw[hi]
   generalize hR:bytesR dr p o bs k=R at *
   replace hR:=hide hR
   go_wp2_with (first|(refine wpList_load_want rfl 38 _ rfl (g6) rfl 38 R (0,0) _ rl6 Tryd.underlying38 rfl hn.info ?_)|(refine wpList_store_row rfl 38 _ _ rfl (w.heap.size+1) R rfl rfl 38 _ rp1 hn.info (z48_size.trans hn.size.symm) hn.one ?_)|fail)
   exact bodyPost_ret (v:=.agg R) (results_cell_row Tryd.results10 _ _ (w.heap.size+1) _ R _ _ rfl (setRow_heap _ _ _ _ _ _ rp1) Tryd.underlying38 rfl hn.info) rfl ⟨by rw[hR.out],below_setRow hw (by omega) _⟩
theorem r_Scale19 {p:Array Value} {P:E1} (h:ReO p P) (bs:List Int) (hz:∀z∈bs,0≤z∧z<256):∃s,ReO s (ml (bval bs) P)∧∀(w:World) (ev:Value),Bys w ev bs→Calls Tryd.prog 10 #[.agg p,ev] w fun e w'=>e=.returned (.agg s)∧Below w.heap.size w w':=by
 obtain⟨dr,hd,cD⟩:=r_D;obtain⟨o,ho,cN⟩:=r_Neutral
 refine⟨bytesR dr p o bs bs.length,?_,fun w ev hB=>scaleR_walk h hd D_ec ho cD cN bs w ev hB⟩
 rw[←topv_all];exact bytesR_spec hd D_ec h ho hz _ (Nat.le_refl _)
end Go.Proofs.YtdcpcdkbhgkmlaaDoor
namespace Go.Proofs.YtdcpcdkbhgkmlaaDoor
set_option maxRecDepth 100000
def L19:Int:=7237005577332262213973186563042994240857116359379907606001950938285454250989
def wd (n:Int):Array Value:=#[.int .u64 (n%18446744073709551616),.int .u64 (n/18446744073709551616%18446744073709551616),.int .u64 (n/340282366920938463463374607431768211456%18446744073709551616),.int .u64 (n/6277101735386680763835789423207666416102355444464034512896%18446744073709551616)]
def w4 (a b c d:Int):Int:=a+18446744073709551616*b+340282366920938463463374607431768211456*c+6277101735386680763835789423207666416102355444464034512896*d
end Go.Proofs.YtdcpcdkbhgkmlaaDoor
namespace Go.Proofs.YtdcpcdkbhgkmlaaDoor
set_option maxRecDepth 100000
open Go.RowKit Go.Sort
attribute [local go_sem] setCell_drewN alloc_drewN
end Go.Proofs.YtdcpcdkbhgkmlaaDoor
namespace Go.Proofs.YtdcpcdkbhgkmlaaDoor
set_option maxRecDepth 100000
open Go.RowKit Go.Sort
attribute [local go_sem] setCell_drewN alloc_drewN
end Go.Proofs.YtdcpcdkbhgkmlaaDoor
namespace Go.Proofs.YtdcpcdkbhgkmlaaDoor
set_option maxRecDepth 100000
open Go.RowKit Go.Sort
attribute [local go_sem] setCell_drewN alloc_drewN
end Go.Proofs.YtdcpcdkbhgkmlaaDoor
namespace Go.Proofs.YtdcpcdkbhgkmlaaDoor
set_option maxRecDepth 100000
open Go.RowKit Go.Sort
attribute [local go_sem] setCell_drewN alloc_drewN
def Ord (w:World):Prop:=∃t fr,w.heap[2]? =some (.cells (wd L19) t fr)
theorem Ord.sz {w:World} (h:Ord w):2<w.heap.size:=by
 obtain⟨t,fr,h⟩:=h;exact(Array.getElem?_eq_some_iff.1 h).1
theorem Ord.belowN {w w':World} {m:Nat} (h:Ord w) (hm:2<m) (hb:Below m w w'):Ord w':=by
 obtain⟨t,fr,h⟩:=h;exact⟨t,fr,(hb.block _ hm).trans h⟩
theorem Ord.below {w w':World} (h:Ord w) (hb:Below w.heap.size w w'):Ord w':=h.belowN h.sz hb
theorem Ord.alloc {w:World} (h:Ord w) (o:Obj):Ord (w.alloc o):=h.below ((Below.refl _ _).alloc (Nat.le_refl _) _)
theorem Ord.setRow {w:World} {g:Nat} (h:Ord w) (hg:2<g) (cs:Array Value):Ord (w.setRow g cs):=h.belowN (Nat.lt_succ_self _) (below_setRow (Below.refl _ _) hg cs)
theorem Ord.cell {w:World} (h:Ord w) (i:Nat):w.cell? ⟨2,i,none⟩=(wd L19)[i]? :=by
 obtain⟨t,fr,h⟩:=h;exact cell_of_row w _ i _ _ _ h
def GivesO (f:FuncId) (args:Array Value) (v:Value):Prop:=∀W,Ord W→Calls Tryd.prog f args W fun e w'=>e=.returned v∧Below W.heap.size W w'
theorem GivesO.at {f:FuncId} {args:Array Value} {v:Value} (h:GivesO f args v) {W:World} (hW:Ord W):Calls Tryd.prog f args W fun e w'=>e=.returned v∧Below W.heap.size W w':=h W hW
theorem GivesO.re {f:FuncId} {args:Array Value} {v:Value} (h:GivesO f args v) {w:World} {d:Nat} {os:Array Obj} (hw:Ord w):Calls Tryd.prog f args (grow (redrawn w d) os) fun e w''=>e=.returned v∧∃p:Regrown,w''=grow (redrawn w p.d) p.os:=Calls.regrown_of (h _ (hw.below (below_regrown w d os)))
end Go.Proofs.YtdcpcdkbhgkmlaaDoor
namespace Go.Proofs.YtdcpcdkbhgkmlaaDoor
set_option maxRecDepth 100000
open Go.RowKit Go.Sort
attribute [local go_sem] setCell_drewN alloc_drewN
end Go.Proofs.YtdcpcdkbhgkmlaaDoor
namespace Go.Proofs.YtdcpcdkbhgkmlaaDoor
set_option maxRecDepth 100000
open Go.RowKit Go.Sort
attribute [local go_sem] setCell_drewN alloc_drewN
def WdO (r:Array Value):Prop:=r.size=4∧r.all (·.oneCell')=true
theorem WdO.part {r:Array Value} (_h:WdO r):r.extract 0 (0+r.size)=r:=by simp
theorem WdO.fits {r s:Array Value} (h:WdO r) (g:WdO s):r.size=s.size:=h.1.trans g.1.symm
end Go.Proofs.YtdcpcdkbhgkmlaaDoor
namespace Go.Proofs.YtdcpcdkbhgkmlaaDoor
set_option maxRecDepth 100000
open Go.RowKit Go.Sort
attribute [local go_sem] setCell_drewN alloc_drewN
theorem r4_inj {a b c d a' b' c' d':Array Value} (h:r4 a b c d=r4 a' b' c' d') (ha:a.size=5) (hb:b.size=5) (hc:c.size=5) (ha':a'.size=5) (hb':b'.size=5) (hc':c'.size=5) (hd:d.size=5) (hd':d'.size=5):a=a'∧b=b'∧c=c'∧d=d':=by
 have e0:(r4 a b c d).extract 0 (0+5)=(r4 a' b' c' d').extract 0 (0+5):=by rw[h]
 have e1:(r4 a b c d).extract 5 (5+5)=(r4 a' b' c' d').extract 5 (5+5):=by rw[h]
 have e2:(r4 a b c d).extract 10 (10+5)=(r4 a' b' c' d').extract 10 (10+5):=by rw[h]
 have e3:(r4 a b c d).extract 15 (15+5)=(r4 a' b' c' d').extract 15 (15+5):=by rw[h]
 have q0:=p_0 (a:=a) (b:=b) (c:=c) (d:=d);have q0':=p_0 (a:=a') (b:=b') (c:=c') (d:=d');have q1:=p5_1 (a:=a) (b:=b) (c:=c) (d:=d) ha;have q1':=p5_1 (a:=a') (b:=b') (c:=c') (d:=d') ha';have q2:=p5_2 (a:=a) (b:=b) (c:=c) (d:=d) ha hb;have q2':=p5_2 (a:=a') (b:=b') (c:=c') (d:=d') ha' hb';have q3:=p5_3 (a:=a) (b:=b) (c:=c) (d:=d) ha hb hc;have q3':=p5_3 (a:=a') (b:=b') (c:=c') (d:=d') ha' hb' hc';rw[ha] at q0;rw[ha'] at q0';rw[hb] at q1;rw[hb'] at q1';rw[hc] at q2;rw[hc'] at q2';rw[hd] at q3;rw[hd'] at q3'
 exact⟨by rw[←q0,←q0',e0],by rw[←q1,←q1',e1],by rw[←q2,←q2',e2],by rw[←q3,←q3',e3]⟩
theorem spo_inj {r:Array Value} {P Q:E1} (h:SpO r P) (g:SpO r Q):P=Q:=by
 obtain⟨xr,yr,zr,tr,X,Y,Z,T,rfl,hx,hy,hz,ht,hP⟩:=h;obtain⟨ur,vr,wr,sr,X2,Y2,Z2,T2,he,hu,hv,hww,hs,hQ⟩:=g;obtain⟨rfl,rfl,rfl,rfl⟩:=r4_inj he hx.size hy.size hz.size hu.size hv.size hww.size ht.size hs.size;have a:=num_inj hx hu;have b:=num_inj hy hv;have c:=num_inj hz hww;refine(sp_eq hP hQ).1 ⟨?_,?_⟩
 ·rw[Int.mul_emod,a,←c,←Int.mul_emod]
 ·rw[Int.mul_emod,b,←c,←Int.mul_emod]
theorem ado_inj {r:Array Value} {P Q:E1} (h:AdO r P) (g:AdO r Q):P=Q:=by
 obtain⟨xr,yr,zr,tr,X,Y,Z,T,rfl,hx,hy,hz,ht,hP⟩:=h;obtain⟨ur,vr,wr,sr,X2,Y2,Z2,T2,he,hu,hv,hww,hs,hQ⟩:=g;obtain⟨rfl,rfl,rfl,rfl⟩:=r4_inj he hx.size hy.size hz.size hu.size hv.size hww.size ht.size hs.size;have a:=zp_sub.2 (num_inj hx hu);have b:=zp_sub.2 (num_inj hy hv);have c:=zp_sub.2 (num_inj hz hww)
 have hX:Zp (X-X2):=zp_cancel (a:=243332) (zp_lin2 (-1) 1 a b (by grind)) n243332
 have hY:Zp (Y-Y2):=zp_cancel (a:=243332) (zp_lin2 1 1 a b (by grind)) n243332
 have hZ:Zp (Z-Z2):=zp_cancel (a:=243332) (zp_lin1 1 c (by grind)) n243332
 refine(sp_eq hP hQ).1 ⟨?_,?_⟩
 ·rw[←zp_sub];exact zp_lin2 Z2 (-X2) hX hZ (by grind)
 ·rw[←zp_sub];exact zp_lin2 Z2 (-Y2) hY hZ (by grind)
noncomputable def nTw (r:Array Value):Array Value:=open Classical in if h:∃P,SpO r P then Classical.choose (a_twice (Classical.choose_spec h)) else r
theorem nTw_spec {r:Array Value} {P:E1} (h:SpO r P):SpO (nTw r) (pl P P)∧Gives4 75 #[.agg r] (.agg (nTw r)):=by
 have hx:∃P,SpO r P:=⟨P,h⟩
 have e:nTw r=Classical.choose (a_twice (Classical.choose_spec hx)):=by unfold nTw;exact dif_pos hx
 have sp:=Classical.choose_spec (a_twice (Classical.choose_spec hx));rw[←e,spo_inj (Classical.choose_spec hx) h] at sp;exact sp
noncomputable def nPl (r s:Array Value):Array Value:=open Classical in if h:(∃P,SpO r P)∧∃Q,AdO s Q then Classical.choose (a_plus (Classical.choose_spec h.1) (Classical.choose_spec h.2)) else r
theorem nPl_spec {r s:Array Value} {P Q:E1} (h:SpO r P) (g:AdO s Q):SpO (nPl r s) (pl P Q)∧Gives4 77 #[.agg r,.agg s] (.agg (nPl r s)):=by
 have hx:(∃P,SpO r P)∧∃Q,AdO s Q:=⟨⟨P,h⟩,⟨Q,g⟩⟩
 have e:nPl r s=Classical.choose (a_plus (Classical.choose_spec hx.1) (Classical.choose_spec hx.2)):=by unfold nPl;exact dif_pos hx
 have sp:=Classical.choose_spec (a_plus (Classical.choose_spec hx.1) (Classical.choose_spec hx.2));rw[←e,spo_inj (Classical.choose_spec hx.1) h,ado_inj (Classical.choose_spec hx.2) g] at sp;exact sp
noncomputable def nOr (r s:Array Value) (on:Bool):Array Value:=open Classical in if h:(∃P,SpO r P)∧∃Q,SpO s Q then Classical.choose (a_or (Classical.choose_spec h.1) (Classical.choose_spec h.2) on) else r
theorem nOr_spec {r s:Array Value} {P Q:E1} (h:SpO r P) (g:SpO s Q) (on:Bool):SpO (nOr r s on) (if on=true then Q else P)∧Gives 76 #[.agg r,.agg s,.bool on] (.agg (nOr r s on)):=by
 have hx:(∃P,SpO r P)∧∃Q,SpO s Q:=⟨⟨P,h⟩,⟨Q,g⟩⟩
 have e:nOr r s on=Classical.choose (a_or (Classical.choose_spec hx.1) (Classical.choose_spec hx.2) on):=by unfold nOr;exact dif_pos hx
 have sp:=Classical.choose_spec (a_or (Classical.choose_spec hx.1) (Classical.choose_spec hx.2) on);rw[←e,spo_inj (Classical.choose_spec hx.1) h,spo_inj (Classical.choose_spec hx.2) g] at sp;exact sp
noncomputable def bitsS (a s:Array Value) (z:Nat):Nat→Array Value
 |0=>s
 |j+1=>nOr (nTw (bitsS a s z j)) (nPl (nTw (bitsS a s z j)) a) (decide (z/2^(7-j)%2=1))
theorem bitsS_spec {a s:Array Value} {P:E1} {e z:Nat} (h:AdO a P) (g:SpO s (ml e P)) (hz:z<256):∀j,j≤8→SpO (bitsS a s z j) (ml (e*2^j+z/2^(8-j)) P)
 |0,_=>by
  rw[show z/2^(8-0)=0 by omega,Nat.pow_zero,Nat.mul_one,Nat.add_zero];exact g
 |j+1,hj=>by
  have ih:=bitsS_spec h g hz j (by omega)
  have sq:=(nTw_spec ih).1;have m:=(nPl_spec sq h).1;have o:=(nOr_spec sq m (decide (z/2^(7-j)%2=1))).1
  have hd:z/2^(8-j)=z/2^(7-j)/2:=by
   rw[Nat.div_div_eq_div_mul,←Nat.pow_succ,show(7-j).succ=8-j by omega]
  have h2:2^(j+1)=2*2^j:=by rw[Nat.pow_succ,Nat.mul_comm]
  have h3:e*2^(j+1)=e*2^j+e*2^j:=by rw[h2,Nat.mul_left_comm];omega
  unfold bitsS
  rw[show 8-(j+1)=7-j by omega,h3]
  rw[ml_two,ml_next] at o
  by_cases hb:z/2^(7-j)%2=1
  ·rw[decide_eq_true hb,if_pos rfl] at o
   rw[decide_eq_true hb,show e*2^j+e*2^j+z/2^(7-j)=2*(e*2^j+z/2^(8-j))+1 by omega]
   exact o
  ·rw[decide_eq_false hb,if_neg (by decide)] at o
   rw[decide_eq_false hb,show e*2^j+e*2^j+z/2^(7-j)=2*(e*2^j+z/2^(8-j)) by omega]
   exact o
noncomputable def bytesS (a o:Array Value) (bs:List Int):Nat→Array Value
 |0=>o
 |k+1=>bitsS a (bytesS a o bs k) (bat bs k).toNat 8
theorem bytesS_spec {a o:Array Value} {P:E1} {bs:List Int} (h:AdO a P) (g:SpO o ze) (hz:∀z∈bs,0≤z∧z<256):∀k,k≤bs.length→SpO (bytesS a o bs k) (ml (topv bs k) P)
 |0,_=>by rw[topv_zero];exact g
 |k+1,hk=>by
  have b:=bat_bd hz (k:=k) (by omega)
  have:=bitsS_spec h (bytesS_spec h g hz k (by omega)) (z:=(bat bs k).toNat) (by omega) 8 (by omega)
  rw[Nat.sub_self,Nat.pow_zero,Nat.div_one] at this
  rw[topv_succ (by omega)]
  exact this
set_option maxHeartbeats 8000000 in
set_option maxRecDepth 100000 in
theorem times_walk {r a o:Array Value} {P:E1} {bs:List Int} (h:SpO r P) (ha:AdO a P) (ho:SpO o ze) (cA:Gives4 74 #[.agg r] (.agg a)) (cO:Gives 38 #[.agg q20] (.agg o)) (w:World) (ev:Value) (hF:Four w) (hB:Bys w ev bs):
 Calls Tryd.prog 39 #[.agg r,ev] w fun e w'=>e=.returned (.agg (bytesS a o bs bs.length))∧Below w.heap.size w w':=by
 obtain⟨ao,cap,rfl,hl,hc,hz⟩:=hB;have hP:=bytesS_spec ha ho hz
 generalize hlen:bs.length=len at *
 have rp0:((w.alloc (.cells r 75)).alloc (.cells q20 75)).heap[w.heap.size]? =some (.cells r 75 (0,0)):=hp2_0 w _ _;have rp1:((w.alloc (.cells r 75)).alloc (.cells q20 75)).heap[w.heap.size+1]? =some (.cells q20 75 (0,0)):=hp2_1 w _ _
 have hw:Below w.heap.size w ((w.alloc (.cells r 75)).alloc (.cells q20 75)):=(((Below.refl _ _).alloc (Nat.le_refl _) _).alloc (by simp) _)
 have hz0:=hF.1;have f4:Four ((w.alloc (.cells r 75)).alloc (.cells q20 75)):=((hF.alloc _).alloc _)
 go_enter Tryd.func39,Tryd.ntmps39
 iterate 9 go_step
 generalize ((w.alloc (.cells r 75)).alloc (.cells q20 75))=w0 at *
 go_wp2_with (first|(refine wpList_load_want rfl 75 _ rfl (w.heap.size) rfl 75 r (0,0) _ rp0 Tryd.underlying75 rfl h.info ?_)|(refine wpList_load_want rfl 75 _ rfl (w.heap.size+1) rfl 75 q20 (0,0) _ rp1 Tryd.underlying75 rfl (by kernel_rfl) ?_)|fail)
 refine(cA.at f4).mono ?_;rintro e w2 ⟨rfl,hb⟩;replace rp0:=keep hb rp0;replace rp1:=keep hb rp1;replace hw:=Below.after hw hb;replace f4:=f4.below hb;clear hb
 go_wp2_with (first|(refine wpList_store_row rfl 104 _ _ rfl (w2.heap.size) a rfl rfl 104 q20 (hp1_0 w2 _) ha.info (ha.size).symm ha.one ?_;rw[setRow_alloc_new _ _ _ _ _ _ (by simp)];refine wpList_stay ?_)|fail)
 unfold WpStay
 try simp only[Act.put]
 have rl5:(w2.alloc (.cells a 104)).heap[w2.heap.size]? =some (.cells a 104 (0,0)):=hp1_0 w2 _;have hb:Below w2.heap.size w2 (w2.alloc (.cells a 104)):=((Below.refl _ _).alloc (Nat.le_refl _) _)
 generalize (w2.alloc (.cells a 104))=wa at *
 have yg5_0:=lt_of_row rp0;have yg5_1:=lt_of_row rp1;have yg5:=hw.size;have zg5:=f4.1;replace rp0:=keep hb rp0;replace rp1:=keep hb rp1;replace hw:=Below.after hw hb;replace f4:=f4.below hb;clear hb
 generalize w2.heap.size=g5 at *
 clear w2
 go_wp2_with (first|(refine wpList_build_as rfl 30 _ rfl [] rfl q20 (by kernel_rfl) ?_)|fail)
 refine(cO.at _).mono ?_;rintro e wo0 ⟨rfl,hb⟩;replace rp0:=keep hb rp0;replace rp1:=keep hb rp1;replace rl5:=keep hb rl5;replace hw:=Below.after hw hb;replace f4:=f4.below hb;clear hb
 go_wp2_with (first|(refine wpList_store_row rfl 75 _ _ rfl (wo0.heap.size) o rfl rfl 75 q20 (hp1_0 wo0 _) ho.info (ho.size).symm ho.one ?_;rw[setRow_alloc_new _ _ _ _ _ _ (by simp)];refine wpList_stay ?_)|fail)
 unfold WpStay
 try simp only[Act.put]
 have rl6:(wo0.alloc (.cells o 75)).heap[wo0.heap.size]? =some (.cells o 75 (0,0)):=hp1_0 wo0 _;have hb:Below wo0.heap.size wo0 (wo0.alloc (.cells o 75)):=((Below.refl _ _).alloc (Nat.le_refl _) _)
 generalize (wo0.alloc (.cells o 75))=wb at *
 have yg6_0:=lt_of_row rp0;have yg6_1:=lt_of_row rp1;have yg6_2:=lt_of_row rl5;have yg6:=hw.size;have zg6:=f4.1;replace rp0:=keep hb rp0;replace rp1:=keep hb rp1;replace rl5:=keep hb rl5;replace hw:=Below.after hw hb;replace f4:=f4.below hb;clear hb
 generalize wo0.heap.size=g6 at *
 clear wo0
 go_wp2_with (fail)
 go_loopw [16] (fun i wr=>∃k:Nat,k≤len∧i=.int .i64 k∧wr.heap[w.heap.size]? =some (.cells r 75 (0,0))∧wr.heap[w.heap.size+1]? =some (.cells q20 75 (0,0))∧wr.heap[g5]? =some (.cells a 104 (0,0))∧wr.heap[g6]? =some (.cells (bytesS a o bs k) 75 (0,0))∧Below w.heap.size w wr∧Four wr) (fun i _=>len-(intOf i).toNat)
 case atStart=>exact⟨0,by omega,rfl,rp0,rp1,rl5,rl6,hw,f4⟩
 case round=>
  clear rp0 rp1 rl5 rl6 hw f4;obtain⟨k,hk,rfl,rp0,rp1,rl5,rl6,hw,f4⟩:=hrel;have hn:=hP k hk
  by_cases hlt:k<len
  ·have hd:decide ((k:Int)<(len:Int))=true:=by simp;omega
   obtain⟨b,off,rfl,hb1,hb2⟩:=hc (len-1-k) (by omega)
   replace hb2:=(hw.cell hb1).trans hb2
   have hbat:=bat_bd hz (k:=k) (by omega)
   rw[show bs.getD (len-1-k) 0=bat bs k by unfold bat;rw[hlen]] at hb2
   generalize hzz:bat bs k=z at *
   go_wp2
   go_loopw [27] (fun i wv=>∃j:Nat,j≤8∧i=.int .i64 j∧wv.heap[w.heap.size]? =some (.cells r 75 (0,0))∧wv.heap[w.heap.size+1]? =some (.cells q20 75 (0,0))∧wv.heap[g5]? =some (.cells a 104 (0,0))∧wv.heap[g6]? =some (.cells (bitsS a (bytesS a o bs k) z.toNat j) 75 (0,0))∧Below w.heap.size w wv∧Four wv) (fun i _=>8-(intOf i).toNat)
   case atStart=>exact⟨0,by omega,rfl,rp0,rp1,rl5,rl6,hw,f4⟩
   case round=>
    clear rp0 rp1 rl5 rl6 hw f4 hb2;obtain⟨j,hj,rfl,rp0,rp1,rl5,rl6,hw,f4⟩:=hrel
    have hbn:=bitsS_spec ha hn (z:=z.toNat) (by omega) j hj
    by_cases hlj:j<8
    ·have hdj:decide ((j:Int)<8)=true:=by simp;omega
     obtain⟨hs,cs⟩:=nTw_spec hbn
     obtain⟨hm,cm⟩:=nPl_spec hs ha;have hstep:bitsS a (bytesS a o bs k) z.toNat (j+1)=nOr (nTw (bitsS a (bytesS a o bs k) z.toNat j)) (nPl (nTw (bitsS a (bytesS a o bs k) z.toNat j)) a) (decide (z.toNat/2^(7-j)%2=1)):=rfl
     have hs3:=bitsS_spec ha hn (z:=z.toNat) (by omega) (j+1) (by omega)
     rw[hstep] at hs3
     generalize bitsS a (bytesS a o bs k) z.toNat j=s0 at *
     have csw:=fun on=>(nOr_spec hs hm on).2
     generalize nPl (nTw s0) a=s2 at *
     generalize nTw s0=s1 at *
     go_wp2_with (first|(refine wpList_load_want rfl 75 _ rfl (g6) rfl 75 s0 (0,0) _ rl6 Tryd.underlying75 rfl hbn.info ?_)|fail)
     refine(cs.at f4).mono ?_;rintro e w1 ⟨rfl,hb⟩;replace rp0:=keep hb rp0;replace rp1:=keep hb rp1;replace rl5:=keep hb rl5;replace rl6:=keep hb rl6;replace hw:=Below.after hw hb;replace f4:=f4.below hb;clear hb
     go_wp2_with (first|(refine wpList_store_row rfl 75 _ _ rfl (g6) s1 rfl rfl 75 _ rl6 hs.info (hbn.size.trans hs.size.symm) hs.one ?_)|fail)
     replace rp0:=(setRow_other w1 g6 (w.heap.size) s1 (by omega)).trans rp0
     replace rp1:=(setRow_other w1 g6 (w.heap.size+1) s1 (by omega)).trans rp1
     replace rl5:=(setRow_other w1 g6 (g5) s1 (by omega)).trans rl5
     replace rl6:=setRow_heap w1 g6 _ s1 _ _ rl6
     replace hw:=below_setRow hw (show w.heap.size≤g6 by omega) s1
     replace f4:=f4.setRow (show 3<g6 by omega) s1
     generalize w1.setRow g6 s1=w2 at *
     have Hrl5:=keepr rl5;have Hrl6:=keepr rl6
     refine wp_region_tail (C:=fun w'=>∃p:Regrown,w'=grow (redrawn w2 p.d) p.os) 11 _ rfl rfl rfl (by kernel_rfl) (by kernel_rfl) (by kernel_rfl) (by kernel_rfl) ⟨⟨w2.drawn+1,#[]⟩,by rw[grow_empty];rfl⟩ ?_
     dsimp only[List.set,idle];refine wpQuiet_load_row rfl 75 _ rfl (g6) rfl 75 s1 (0,0) _ Hrl6.out Tryd.underlying75 rfl hs.info ?_;simp only[Act.put,ZPd,ZPe,ZPf];refine wpQuiet_load_row rfl 75 _ rfl (g6) rfl 75 s1 (0,0) _ Hrl6.out Tryd.underlying75 rfl hs.info ?_;simp only[Act.put,ZPd,ZPe,ZPf];refine wpQuiet_load_row rfl 104 _ rfl (g5) rfl 104 a (0,0) _ Hrl5.out Tryd.underlying104 rfl ha.info ?_;simp only[Act.put,ZPd,ZPe,ZPf];go_big_quiet_step (exact cm.re f4);go_big_quiet_step (fail);go_big_quiet_step (fail);go_big_quiet_step (fail);go_big_quiet_step (fail);go_big_quiet_step (fail);go_big_quiet_step (fail);go_big_quiet_step (exact(csw _).re);refine wpQuiet_idle rfl rfl rfl ?_;rintro _ ⟨p,rfl⟩;have hb:=below_regrown w2 p.d p.os
     generalize grow (redrawn w2 p.d) p.os=w3 at *
     replace rp0:=keep hb rp0;replace rp1:=keep hb rp1;replace rl5:=keep hb rl5;replace rl6:=keep hb rl6;replace hw:=Below.after hw hb;replace f4:=f4.below hb;clear hb Hrl5 Hrl6;simp only[bit_at z (7-j) hbat.1 hbat.2]
     rw[←hstep] at hs3⊢
     generalize hs3e:bitsS a (bytesS a o bs k) z.toNat (j+1)=s3 at *
     clear hstep
     go_wp2_with (first|(refine wpList_store_row rfl 75 _ _ rfl (g6) s3 rfl rfl 75 _ rl6 hs3.info (hs.size.trans hs3.size.symm) hs3.one ?_)|fail)
     go_roundw
     case rel=>exact⟨j+1,by omega,by go_num,(setRow_other w3 g6 (w.heap.size) s3 (by omega)).trans rp0,(setRow_other w3 g6 (w.heap.size+1) s3 (by omega)).trans rp1,(setRow_other w3 g6 g5 s3 (by omega)).trans rl5,by rw[hs3e];exact setRow_heap w3 g6 _ s3 _ _ rl6,below_setRow hw (show w.heap.size≤g6 by omega) s3,f4.setRow (show 3<g6 by omega) s3⟩
     case measure=>simp[intOf];omega
    ·obtain rfl:j=8:=by omega
     have hdj:decide ((8:Int)<8)=false:=by decide
     go_wp2
     go_roundw
     case rel=>exact⟨k+1,by omega,by go_num,rp0,rp1,rl5,by rw[show bytesS a o bs (k+1)=bitsS a (bytesS a o bs k) z.toNat 8 by rw[←hzz];rfl];exact rl6,hw,f4⟩
     case measure=>simp[intOf];omega
  ·obtain rfl:k=len:=by omega
   have hd:decide ((k:Int)<(k:Int))=false:=by simp
   go_wp2_with (first|(refine wpList_load_want rfl 75 _ rfl (g6) rfl 75 (bytesS a o bs k) (0,0) _ rl6 Tryd.underlying75 rfl hn.info ?_)|(refine wpList_store_row rfl 75 _ _ rfl (w.heap.size+1) (bytesS a o bs k) rfl rfl 75 _ rp1 hn.info ((show _=20 from rfl).trans hn.size.symm) hn.one ?_)|fail)
   exact bodyPost_ret (v:=.agg (bytesS a o bs k)) (results_cell_row Tryd.results39 _ _ (w.heap.size+1) _ (bytesS a o bs k) _ _ rfl (setRow_heap _ _ _ _ _ _ rp1) Tryd.underlying75 rfl hn.info) rfl ⟨rfl,below_setRow hw (by omega) _⟩
theorem a_times19 {r:Array Value} {P:E1} (h:SpO r P) (bs:List Int) (hz:∀z∈bs,0≤z∧z<256):∃s,SpO s (ml (bval bs) P)∧∀(w:World) (ev:Value),Four w→Bys w ev bs→Calls Tryd.prog 39 #[.agg r,ev] w fun e w'=>e=.returned (.agg s)∧Below w.heap.size w w':=by
 obtain⟨a,ha,cA⟩:=a_ready h;obtain⟨o,ho,cO⟩:=a_spot pt_zero
 refine⟨bytesS a o bs bs.length,?_,fun w ev hF hB=>times_walk h ha ho cA cO w ev hF hB⟩
 rw[←topv_all];exact bytesS_spec ha ho hz _ (Nat.le_refl _)
set_option maxRecDepth 100000 in
set_option maxHeartbeats 8000000 in
theorem a_Scale {r:Array Value} {P:E1} (h:PtO r P) (bs:List Int) (hz:∀z∈bs,0≤z∧z<256):∃s,PtO s (ml (bval bs) P)∧∀(w:World) (ev:Value),Four w→Bys w ev bs→Calls Tryd.prog 8 #[.agg r,ev] w fun e w'=>e=.returned (.agg s)∧Below w.heap.size w w':=by
 obtain⟨xs,hxs,cs⟩:=a_spot h;obtain⟨xt,hxt,ct⟩:=a_times19 hxs bs hz;obtain⟨xp,hxp,cp⟩:=a_point hxt
 refine⟨xp,hxp,fun w ev hF hB=>?_⟩
 have rp0:((w.alloc (.cells r 30)).alloc (.cells q20 30)).heap[w.heap.size]? =some (.cells r 30 (0,0)):=hp2_0 w _ _;have rp1:((w.alloc (.cells r 30)).alloc (.cells q20 30)).heap[w.heap.size+1]? =some (.cells q20 30 (0,0)):=hp2_1 w _ _
 have hw:Below w.heap.size w ((w.alloc (.cells r 30)).alloc (.cells q20 30)):=(((Below.refl _ _).alloc (Nat.le_refl _) _).alloc (by simp) _)
 have hz0:=hF.1;have f4:Four ((w.alloc (.cells r 30)).alloc (.cells q20 30)):=((hF.alloc _).alloc _)
 go_enter Tryd.func8,Tryd.ntmps8
 iterate 9 go_step
 generalize ((w.alloc (.cells r 30)).alloc (.cells q20 30))=w0 at *
 go_wp2_with (first|(refine wpList_load_want rfl 30 _ rfl (w.heap.size) rfl 30 r (0,0) _ rp0 Tryd.underlying30 rfl h.info ?_)|(refine wpList_load_want rfl 30 _ rfl (w.heap.size+1) rfl 30 q20 (0,0) _ rp1 Tryd.underlying30 rfl (by kernel_rfl) ?_)|fail)
 refine(cs.at _).mono ?_;rintro e w1 ⟨rfl,hb⟩;replace hB:=hB.keep (Below.after hw hb);replace rp0:=keep hb rp0;replace rp1:=keep hb rp1;replace hw:=Below.after hw hb;replace f4:=f4.below hb;clear hb
 go_wp2_with (fail)
 refine(ct _ _ f4 hB).mono ?_;rintro e w2 ⟨rfl,hb⟩;replace rp0:=keep hb rp0;replace rp1:=keep hb rp1;replace hw:=Below.after hw hb;replace f4:=f4.below hb;clear hb
 go_wp2_with (fail)
 refine(cp.at f4).mono ?_;rintro e w3 ⟨rfl,hb⟩;replace rp0:=keep hb rp0;replace rp1:=keep hb rp1;replace hw:=Below.after hw hb;replace f4:=f4.below hb;clear hb
 go_wp2_with (first|(refine wpList_store_row rfl 30 _ _ rfl (w.heap.size+1) xp rfl rfl 30 _ rp1 hxp.info ((show _=20 from rfl).trans hxp.size.symm) hxp.one ?_)|fail)
 exact bodyPost_ret (v:=.agg xp) (results_cell_row Tryd.results8 _ _ (w.heap.size+1) _ xp _ _ rfl (setRow_heap _ _ _ _ _ _ rp1) Tryd.underlying30 rfl hxp.info) rfl ⟨rfl,below_setRow hw (by omega) _⟩
end Go.Proofs.YtdcpcdkbhgkmlaaDoor
namespace Go.Proofs.YtdcpcdkbhgkmlaaDoor
set_option maxRecDepth 100000
open Go Go.RowKit Go.Sort
def b32 (N:Int):List Int:=[byt N 0,byt N 1,byt N 2,byt N 3,byt N 4,byt N 5,byt N 6,byt N 7,byt N 8,byt N 9,byt N 10,byt N 11,byt N 12,byt N 13,byt N 14,byt N 15,byt N 16,byt N 17,byt N 18,byt N 19,byt N 20,byt N 21,byt N 22,byt N 23,byt N 24,byt N 25,byt N 26,byt N 27,byt N 28,byt N 29,byt N 30,byt N 31]
end Go.Proofs.YtdcpcdkbhgkmlaaDoor
namespace Go.Proofs.YtdcpcdkbhgkmlaaDoor
set_option maxRecDepth 100000
open Go.RowKit Go.Sort
attribute [local go_sem] setCell_drewN alloc_drewN
end Go.Proofs.YtdcpcdkbhgkmlaaDoor
namespace Go.Proofs.YtdcpcdkbhgkmlaaDoor
set_option maxRecDepth 100000
open Go.RowKit Go.Sort
attribute [local go_sem] setCell_drewN alloc_drewN
end Go.Proofs.YtdcpcdkbhgkmlaaDoor
namespace Go.Proofs.YtdcpcdkbhgkmlaaDoor
set_option maxRecDepth 100000
open Go.RowKit Go.Sort
attribute [local go_sem] setCell_drewN alloc_drewN
end Go.Proofs.YtdcpcdkbhgkmlaaDoor
namespace Go.Proofs.YtdcpcdkbhgkmlaaDoor
set_option maxRecDepth 100000
open Go.RowKit Go.Sort
attribute [local go_sem] setCell_drewN alloc_drewN
end Go.Proofs.YtdcpcdkbhgkmlaaDoor
namespace Go.Proofs.YtdcpcdkbhgkmlaaDoor.Wi
set_option maxRecDepth 100000
open Go Go.RowKit Go.Sort
section
variable {P : Program}
theorem run_part_int {e:TypeId} {k:IntKind} {i0:TypeInfo} (w:World) (hu:P.underlying e=some (.int k)) (_hi:P.info? e=some i0) (l:List Int) (i:Nat) (h:i<l.length):
 (part e (l.map (Value.int k)).toArray i).run P w=.ok (.int k l[i]) w:=by
 have hagg:(isAgg e).run P w=.ok false w:=by
  unfold isAgg;rw[Sem.run_bind,run_underlying hu w];rfl
 simp[part,Sem.run_bind,hagg,h]
theorem run_eqItems_int {e:TypeId} {k:IntKind} {i0:TypeInfo} (d:Nat) (w:World) (hu:P.underlying e=some (.int k)) (hi:P.info? e=some i0) (l l':List Int):∀(is:List Nat),(∀i∈is,i<l.length∧i<l'.length)→
 (Op.eqItems (d+1) e 1 (l.map (Value.int k)).toArray (l'.map (Value.int k)).toArray is).run P w=.ok (is.all fun i=>l.getD i 0==l'.getD i 0) w
 |[],_=>by simp[Op.eqItems]
 |i::is,h=>by
  have h1:=h i (by simp)
  have h2:=run_eqItems_int d w hu hi l l' is (fun j hj=>h j (by simp[hj]))
  have e1:l.getD i 0=l[i]'h1.1:=by simp[h1.1]
  have e2:l'.getD i 0=l'[i]'h1.2:=by simp[h1.2]
  simp only[Op.eqItems,Sem.run_bind,Nat.mul_one,run_part_int w hu hi l i h1.1,run_part_int w hu hi l' i h1.2,Result.andThen_ok,run_equalIn_int w d e k k _ _ hu,List.all_cons,e1,e2]
  cases hb:(l[i]'h1.1==l'[i]'h1.2)
  ·simp
  ·simpa using h2
theorem run_equal_ints {t e:TypeId} {k:IntKind} {i0:TypeInfo} {n:Nat} (w:World) (ht:P.underlying t=some (.array n e)) (hu:P.underlying e=some (.int k)) (hi:P.info? e=some i0) (hc:P.cellsOf e=1)
 (l l':List Int) (hl:l.length=n) (hl':l'.length=n):
 (Op.equalIn 10000 t (.agg (l.map (Value.int k)).toArray) (.agg (l'.map (Value.int k)).toArray)).run P w=.ok (decide (l=l')) w:=by
 rw[run_equalIn_array w 9999 _ _ ht hi,hc,run_eqItems_int 9998 w hu hi l l' (List.range n) (fun i h=>by simp at h;omega)]
 congr 1
 rw[Bool.eq_iff_iff];simp only[List.all_eq_true,List.mem_range,beq_iff_eq,decide_eq_true_eq]
 constructor
 ·intro h
  apply List.ext_getElem (by omega)
  intro i h1 h2
  have:=h i (by omega)
  simpa[h1,h2] using this
 ·rintro rfl i _
  rfl
end
def Gives (f:FuncId) (args:Array Value) (v:Value):Prop:=∀W,Calls Tryd.prog f args W fun e w'=>e=.returned v∧Below W.heap.size W w'
theorem Gives.at {f:FuncId} {args:Array Value} {v:Value} (h:Gives f args v) (W:World):Calls Tryd.prog f args W fun e w'=>e=.returned v∧Below W.heap.size W w':=h W
theorem Gives.re {f:FuncId} {args:Array Value} {v:Value} (h:Gives f args v) {w:World} {d:Nat} {os:Array Obj}:Calls Tryd.prog f args (grow (redrawn w d) os) fun e w''=>e=.returned v∧∃p:Regrown,w''=grow (redrawn w p.d) p.os:=Calls.regrown_of (h _)
theorem hide {p:Prop} (h:p):Hid p:=h
theorem Hid.out {p:Prop} (h:Hid p):p:=h
theorem keep {w W:World} (hb:Below w.heap.size w W) {g:Nat} {o:Obj} (h:w.heap[g]? =some o):W.heap[g]? =some o:=
 (hb.block _ (Array.getElem?_eq_some_iff.1 h).1).trans h
theorem keepr {w:World} {g:Nat} {o:Obj} (h:w.heap[g]? =some o):Hid (∀W,(∃p:Regrown,W=grow (redrawn w p.d) p.os)→W.heap[g]? =some o):=by
 rintro _ ⟨p,rfl⟩;exact keep (below_regrown w p.d p.os) h
theorem lt_of_row {w:World} {g:Nat} {o:Obj} (h:w.heap[g]? =some o):g<w.heap.size:=(Array.getElem?_eq_some_iff.1 h).1
theorem Below.after {w w1 w2:World} (h:Below w.heap.size w w1) (hb:Below w1.heap.size w1 w2):Below w.heap.size w w2:=h.trans (hb.mono h.size)
theorem wpList_load_want {P:Program} {ops:Array Oper} {rest:List Oper} {o:Oper} {a:Act} {w:World} {Q:Exit→Act→World→Prop} (hw:Region.wanted o (yielded ops a.tmps)=true) (ty:TypeId) (x:Operand) (ho:o.op=.load ty x)
 (g:Nat) (hx:a.eval x=.pointer (some ⟨g,0,none⟩)) (t:TypeId) (cs:Array Value) (fr:Nat×Nat) (d:TypeDesc) (hg:w.heap[g]? =some (.cells cs t fr))
 (hu:P.underlying ty=some d) (hd:(match d with| .struct _| .array _ _=>true|_=>false)=true) (hi:(P.info? ty).map (·.size)=some cs.size)
 (h:wpList P ops Q rest (a.put o.dst (.agg cs)) w):wpList P ops Q (o::rest) a w:=
 BigFrame.wpList_want hw fun _ hK=>wp_load_row ty x ho g hx t cs fr d hg hu hd hi (hK _ _ h)
def irow (k:IntKind) (l:List Int):Array Value:=(l.map (Value.int k)).toArray
theorem irow_get (k:IntKind) (l:List Int) (j:Nat) (hj:j<l.length):(irow k l)[j]? =some (.int k (l.getD j 0)):=by
 simp[irow,List.getElem?_eq_getElem hj,List.getD_eq_getElem?_getD]
theorem irow_cell {W:World} {g:Nat} {k:IntKind} {l:List Int} {t:TypeId} (hg:W.heap[g]? =some (.cells (irow k l) t (0,0))) {j:Nat} (hj:j<l.length):W.cell? ⟨g,j,none⟩=some (.int k (l.getD j 0)):=by
 simp only[World.cell?,hg]
 simpa using irow_get k l j hj
def zr (k:Nat):List Int:=List.replicate k 0
def Bys (W:World) (v:Value) (bs:List Int):Prop:=∃ao cap,v=.slice ao bs.length cap∧bs.length≤9223372036854775807∧(∀j,j<bs.length→∃b off,ao=some ⟨b,off,none⟩∧b<W.heap.size∧W.cell? ⟨b,off+j,none⟩=some (.int .u8 (bs.getD j 0)))∧(∀z∈bs,0≤z∧z<256)
theorem Bys.keep {W W':World} {v:Value} {bs:List Int} (h:Bys W v bs) (hb:Below W.heap.size W W'):Bys W' v bs:=by
 obtain⟨ao,cap,e,hl,hc,hz⟩:=h
 refine⟨ao,cap,e,hl,fun j hj=>?_,hz⟩
 obtain⟨b,off,e1,h1,h2⟩:=hc j hj;exact⟨b,off,e1,Nat.lt_of_lt_of_le h1 hb.size,(hb.cell h1).trans h2⟩
theorem Bys.of_row {W:World} {g:Nat} {l:List Int} {t:TypeId} (hg:W.heap[g]? =some (.cells (irow .u8 l) t (0,0))) (hl:l.length≤9223372036854775807) (hz:∀z∈l,0≤z∧z<256) (cap:Nat):Bys W (.slice (some ⟨g,0,none⟩) l.length cap) l:=by
 refine⟨_,cap,rfl,hl,fun j hj=>⟨g,0,rfl,lt_of_row hg,?_⟩,hz⟩
 rw[Nat.zero_add];exact irow_cell hg hj
end Go.Proofs.YtdcpcdkbhgkmlaaDoor.Wi
namespace Go.Proofs.YtdcpcdkbhgkmlaaDoor.Wi
set_option maxRecDepth 100000
open Go Go.RowKit Go.Sort
attribute [local go_sem] setCell_drewN alloc_drewN
def rot (x:Int) (n:Nat):Int:=bits .or .u64 (x/2^n) (x*2^(64-n)%18446744073709551616)
def lo0 (x:Int):Int:=bits .xor .u64 (bits .xor .u64 (rot x 1) (rot x 8)) (x/128)
def lo1 (x:Int):Int:=bits .xor .u64 (bits .xor .u64 (rot x 19) (rot x 61)) (x/64)
def up0 (x:Int):Int:=bits .xor .u64 (bits .xor .u64 (rot x 28) (rot x 34)) (rot x 39)
def up1 (x:Int):Int:=bits .xor .u64 (bits .xor .u64 (rot x 14) (rot x 18)) (rot x 41)
theorem or_comm (x y:Int):bits .or .u64 x y=bits .or .u64 y x:=by
 unfold bits;simp only[BitVec.or_comm]
end Go.Proofs.YtdcpcdkbhgkmlaaDoor.Wi
namespace Go.Proofs.YtdcpcdkbhgkmlaaDoor.Wi
set_option maxRecDepth 100000
open Go Go.RowKit Go.Sort
attribute [local go_sem] setCell_drewN alloc_drewN
def hor (l:List Int) (o:Nat):Nat→Int
 |0=>0
 |j+1=>hor l o j*256+l.getD (o+j) 0
def wrd (b:List Int) (t:Nat):Int:=hor b (8*t) 8
def wds (b:List Int) (t:Nat):Int:=if t<16 then wrd b t else IntKind.u64.wrap (IntKind.u64.wrap (IntKind.u64.wrap (lo1 (wds b (t-2))+wds b (t-7))+lo0 (wds b (t-15)))+wds b (t-16))
termination_by t
def prt (W:Nat→Int) (t:Nat):List Int:=(List.range 80).map fun j=>if j<t then W j else 0
theorem prt_zero (W:Nat→Int):prt W 0=zr 80:=rfl
end Go.Proofs.YtdcpcdkbhgkmlaaDoor.Wi
