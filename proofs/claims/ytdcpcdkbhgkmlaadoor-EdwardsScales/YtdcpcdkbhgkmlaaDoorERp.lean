import Derived.Test.YtdcpcdkbhgkmlaaDoorProg
import Derived.WalkKit
import Derived.WalkSpells
import Derived.WalkLawsBesides
import Derived.Lib.QuietBelow
import Derived.BigQuiet
import Derived.Test.YtdcpcdkbhgkmlaaDoorEKa
import Derived.Test.YtdcpcdkbhgkmlaaDoorEDwc
import Derived.Test.YtdcpcdkbhgkmlaaDoorERc
import Derived.Test.YtdcpcdkbhgkmlaaDoorERa
import Derived.Test.YtdcpcdkbhgkmlaaDoorEGb
import Derived.RegionTactic
import Derived.Test.YtdcpcdkbhgkmlaaDoorEGu
namespace Go.Proofs.YtdcpcdkbhgkmlaaDoor
set_option maxRecDepth 100000
open Go.RowKit Go.Sort
attribute [local go_sem] setCell_drewN alloc_drewN
theorem sq_pow (m:Int) (e:Nat):m^e%prm*(m^e%prm)%prm=m^(e+e)%prm:=by rw[←Int.mul_emod,←Int.pow_add]
theorem mul_pow1 (m:Int) (e:Nat):m^e%prm*m%prm=m^(e+1)%prm:=by rw[Int.mul_emod,Int.emod_emod,←Int.mul_emod,←Int.pow_succ]
theorem bit8 (z:Int) (j:Nat) (h0:0≤z) (h1:z<256) (hj:j<8):(128≤z*2^j%256↔z.toNat/2^(7-j)%2=1)∧z*2^j%256%128*2=z*2^(j+1)%256∧z.toNat/2^(7-j)/2=z.toNat/2^(8-j)∧8-(j+1)=7-j:=by
 rcases(by omega:j=0∨j=1∨j=2∨j=3∨j=4∨j=5∨j=6∨j=7) with rfl|rfl|rfl|rfl|rfl|rfl|rfl|rfl<;>simp<;>omega
set_option maxHeartbeats 4000000 in
set_option maxRecDepth 10000 in
theorem r_power {m:Int} (h:inP m) (bs:List Int) (w:World) (ev:Value) (hB:Bys w ev bs):
 Calls Tryd.prog 84 #[.agg (rd m),ev] w fun e w'=>e=.returned (.agg (rd (m^bval bs%prm)))∧Below w.heap.size w w':=by
 obtain⟨ao,cap,rfl,hl,hc,hz⟩:=hB;have hall:=topv_all bs
 have co:=r_small 1 (by decide) (by decide)
 have zinfo:(Tryd.prog.info? 36).map (·.size)=some (#[.int .u64 0,.int .u64 0,.int .u64 0,.int .u64 0,.int .u64 0,.int .u64 0,.int .u64 0,.int .u64 0,.int .u64 0,.int .u64 0,.int .u64 0,.int .u64 0,.int .u64 0,.int .u64 0,.int .u64 0,.int .u64 0]:Array Value).size:=rd_info 0
 generalize hlen:bs.length=len at *
 go_enter Tryd.func84,Tryd.ntmps84
 go_wp2_with (first|(refine wpList_load_want rfl 36 _ rfl (w.heap.size) rfl 36 (rd m) (0,0) _ (hp2_0 w _ _) Tryd.underlying36 rfl (rd_info m) ?_)|(refine wpList_load_want rfl 36 _ rfl (w.heap.size+1) rfl 36 #[.int .u64 0,.int .u64 0,.int .u64 0,.int .u64 0,.int .u64 0,.int .u64 0,.int .u64 0,.int .u64 0,.int .u64 0,.int .u64 0,.int .u64 0,.int .u64 0,.int .u64 0,.int .u64 0,.int .u64 0,.int .u64 0] (0,0) _ (hp2_1 w _ _) Tryd.underlying36 rfl zinfo ?_)|fail)
 have rp0:((w.alloc (.cells (rd m) 36)).alloc (.cells #[.int .u64 0,.int .u64 0,.int .u64 0,.int .u64 0,.int .u64 0,.int .u64 0,.int .u64 0,.int .u64 0,.int .u64 0,.int .u64 0,.int .u64 0,.int .u64 0,.int .u64 0,.int .u64 0,.int .u64 0,.int .u64 0] 36)).heap[w.heap.size]? =some (.cells (rd m) 36 (0,0)):=hp2_0 w _ _;have rp1:((w.alloc (.cells (rd m) 36)).alloc (.cells #[.int .u64 0,.int .u64 0,.int .u64 0,.int .u64 0,.int .u64 0,.int .u64 0,.int .u64 0,.int .u64 0,.int .u64 0,.int .u64 0,.int .u64 0,.int .u64 0,.int .u64 0,.int .u64 0,.int .u64 0,.int .u64 0] 36)).heap[w.heap.size+1]? =some (.cells #[.int .u64 0,.int .u64 0,.int .u64 0,.int .u64 0,.int .u64 0,.int .u64 0,.int .u64 0,.int .u64 0,.int .u64 0,.int .u64 0,.int .u64 0,.int .u64 0,.int .u64 0,.int .u64 0,.int .u64 0,.int .u64 0] 36 (0,0)):=hp2_1 w _ _
 have hw:Below w.heap.size w ((w.alloc (.cells (rd m) 36)).alloc (.cells #[.int .u64 0,.int .u64 0,.int .u64 0,.int .u64 0,.int .u64 0,.int .u64 0,.int .u64 0,.int .u64 0,.int .u64 0,.int .u64 0,.int .u64 0,.int .u64 0,.int .u64 0,.int .u64 0,.int .u64 0,.int .u64 0] 36)):=(((Below.refl _ _).alloc (Nat.le_refl _) _).alloc (by simp) _)
 generalize ((w.alloc (.cells (rd m) 36)).alloc (.cells #[.int .u64 0,.int .u64 0,.int .u64 0,.int .u64 0,.int .u64 0,.int .u64 0,.int .u64 0,.int .u64 0,.int .u64 0,.int .u64 0,.int .u64 0,.int .u64 0,.int .u64 0,.int .u64 0,.int .u64 0,.int .u64 0] 36))=w0 at *
 refine(co.at _).mono ?_;rintro e w2 ⟨rfl,hb⟩;replace rp0:=keep hb rp0;replace rp1:=keep hb rp1;replace hw:=Below.after hw hb;clear hb
 go_wp2_with (first|(refine wpList_store_row rfl 36 _ _ rfl (w2.heap.size) (rd 1) rfl rfl 36 #[.int .u64 0,.int .u64 0,.int .u64 0,.int .u64 0,.int .u64 0,.int .u64 0,.int .u64 0,.int .u64 0,.int .u64 0,.int .u64 0,.int .u64 0,.int .u64 0,.int .u64 0,.int .u64 0,.int .u64 0,.int .u64 0] (hp1_0 w2 _) (rd_info 1) rfl (rd_one 1) ?_;rw[setRow_alloc_new _ _ _ _ _ _ (by simp)])|fail|fail)
 have rl5:(w2.alloc (.cells (rd 1) 36)).heap[w2.heap.size]? =some (.cells (rd 1) 36 (0,0)):=hp1_0 w2 _;have hb:Below w2.heap.size w2 (w2.alloc (.cells (rd 1) 36)):=((Below.refl _ _).alloc (Nat.le_refl _) _)
 generalize (w2.alloc (.cells (rd 1) 36))=wa at *
 have yg5_0:=lt_of_row rp0;have yg5_1:=lt_of_row rp1;have yg5:=hw.size;replace rp0:=keep hb rp0;replace rp1:=keep hb rp1;replace hw:=Below.after hw hb;clear hb
 generalize w2.heap.size=g5 at *
 clear w2
 go_loopw [6] (fun i wr=>∃k:Nat,k≤len∧i=.int .i64 ((len:Int)-1-k)∧wr.heap[w.heap.size]? =some (.cells (rd m) 36 (0,0))∧wr.heap[w.heap.size+1]? =some (.cells #[.int .u64 0,.int .u64 0,.int .u64 0,.int .u64 0,.int .u64 0,.int .u64 0,.int .u64 0,.int .u64 0,.int .u64 0,.int .u64 0,.int .u64 0,.int .u64 0,.int .u64 0,.int .u64 0,.int .u64 0,.int .u64 0] 36 (0,0))∧wr.heap[g5]? =some (.cells (rd (m^topv bs k%prm)) 36 (0,0))∧Below w.heap.size w wr) (fun i _=>(intOf i+1).toNat)
 case atStart=>exact⟨0,by omega,by go_num,rp0,rp1,by rw[topv_zero,Int.pow_zero,show(1:Int)%prm=1 by decide];exact rl5,hw⟩
 case round=>
  clear rp0 rp1 rl5 hw;obtain⟨k,hk,rfl,rp0,rp1,rl5,hw⟩:=hrel
  by_cases hlt:k<len
  ·have hi:(len:Int)-1-k=((len-1-k:Nat):Int):=by omega
   rw[hi]
   obtain⟨b,off,rfl,hb1,hb2⟩:=hc (len-1-k) (by omega)
   replace hb2:=(hw.cell hb1).trans hb2
   have hbat:=bat_bd hz (k:=k) (by omega)
   have htop:=topv_succ (bs:=bs) (k:=k) (by omega)
   rw[show bs.getD (len-1-k) 0=bat bs k by unfold bat;rw[hlen]] at hb2
   generalize bat bs k=z at *
   generalize topv bs k=E at *
   go_wp2
   go_loopw [7,8] (fun x i wv=>∃j:Nat,j≤8∧i=.int .i64 j∧x=.int .u8 (z*2^j%256)∧wv.heap[w.heap.size]? =some (.cells (rd m) 36 (0,0))∧wv.heap[w.heap.size+1]? =some (.cells #[.int .u64 0,.int .u64 0,.int .u64 0,.int .u64 0,.int .u64 0,.int .u64 0,.int .u64 0,.int .u64 0,.int .u64 0,.int .u64 0,.int .u64 0,.int .u64 0,.int .u64 0,.int .u64 0,.int .u64 0,.int .u64 0] 36 (0,0))∧wv.heap[g5]? =some (.cells (rd (m^(E*2^j+z.toNat/2^(8-j))%prm)) 36 (0,0))∧Below w.heap.size w wv) (fun _ i _=>8-(intOf i).toNat)
   case atStart=>
    refine⟨0,by omega,rfl,?_,rp0,rp1,?_,hw⟩
    ·rw[Int.pow_zero,Int.mul_one,Int.emod_eq_of_lt hbat.1 hbat.2]
    ·rw[show E*2^0+z.toNat/2^(8-0)=E by omega];exact rl5
   case round=>
    clear rp0 rp1 rl5 hw hb2;obtain⟨j,hj,rfl,rfl,rp0,rp1,rl5,hw⟩:=hrel
    by_cases hlj:j<8
    ·have hdj:decide ((j:Int)<8)=true:=by simp;omega
     obtain⟨hbit,hnext,hhalf,h7⟩:=bit8 z j hbat.1 hbat.2 hlj
     have cs:=r_square (inP_mod (m^(E*2^j+z.toNat/2^(8-j))));rw[sq_pow] at cs;have cm:=r_mul (inP_mod (m^(E*2^j+z.toNat/2^(8-j)+(E*2^j+z.toNat/2^(8-j))))) h;rw[mul_pow1] at cm
     have h2:E*2^(j+1)=E*2^j+E*2^j:=by rw[Nat.pow_succ,←Nat.mul_assoc];omega
     have hst:E*2^(j+1)+z.toNat/2^(8-(j+1))=if z.toNat/2^(7-j)%2=1 then E*2^j+z.toNat/2^(8-j)+(E*2^j+z.toNat/2^(8-j))+1 else E*2^j+z.toNat/2^(8-j)+(E*2^j+z.toNat/2^(8-j)):=by
      rw[h7,h2,←hhalf]
      split<;>omega
     have hx0:0≤z*2^j%256∧z*2^j%256<256:=by omega
     generalize he2:E*2^(j+1)+z.toNat/2^(8-(j+1))=e2 at *
     generalize E*2^j+z.toNat/2^(8-j)=e1 at *
     generalize hx1:z*2^(j+1)%256=x1 at *
     generalize z*2^j%256=x0 at *
     go_wp2_with (first|(refine wpList_load_want rfl 36 _ rfl (g5) rfl 36 (rd (m^e1%prm)) (0,0) _ rl5 Tryd.underlying36 rfl (rd_info _) ?_)|fail)
     refine(cs.at _).mono ?_;rintro e w1 ⟨rfl,hb⟩;replace rp0:=keep hb rp0;replace rp1:=keep hb rp1;replace rl5:=keep hb rl5;replace hw:=Below.after hw hb;clear hb
     by_cases hge:128≤x0
     ·have hg:decide (128≤x0)=true:=decide_eq_true hge
      rw[if_pos (hbit.1 hge)] at hst
      go_wp2_with (first|(refine wpList_store_row rfl 36 _ _ rfl (g5) (rd (m^(e1+e1)%prm)) rfl rfl 36 _ rl5 (rd_info _) rfl (rd_one _) ?_)|(refine wpList_load_want rfl 36 _ rfl (g5) rfl 36 (rd (m^(e1+e1)%prm)) (0,0) _ (setRow_heap w1 g5 _ (rd (m^(e1+e1)%prm)) _ _ rl5) Tryd.underlying36 rfl (rd_info _) ?_)|(refine wpList_load_want rfl 36 _ rfl (w.heap.size) rfl 36 (rd m) (0,0) _ ((setRow_other w1 g5 (w.heap.size) (rd (m^(e1+e1)%prm)) (by omega)).trans rp0) Tryd.underlying36 rfl (rd_info _) ?_)|fail)
      replace rp0:=(setRow_other w1 g5 (w.heap.size) (rd (m^(e1+e1)%prm)) (by omega)).trans rp0
      replace rp1:=(setRow_other w1 g5 (w.heap.size+1) (rd (m^(e1+e1)%prm)) (by omega)).trans rp1
      replace rl5:=setRow_heap w1 g5 _ (rd (m^(e1+e1)%prm)) _ _ rl5
      replace hw:=below_setRow hw (show w.heap.size≤g5 by omega) (rd (m^(e1+e1)%prm))
      generalize w1.setRow g5 (rd (m^(e1+e1)%prm))=w2 at *
      refine(cm.at _).mono ?_;rintro e w3 ⟨rfl,hb⟩;replace rp0:=keep hb rp0;replace rp1:=keep hb rp1;replace rl5:=keep hb rl5;replace hw:=Below.after hw hb;clear hb
      go_wp2_with (first|(refine wpList_store_row rfl 36 _ _ rfl (g5) (rd (m^(e1+e1+1)%prm)) rfl rfl 36 _ rl5 (rd_info _) rfl (rd_one _) ?_)|fail)
      replace rp0:=(setRow_other w3 g5 (w.heap.size) (rd (m^(e1+e1+1)%prm)) (by omega)).trans rp0
      replace rp1:=(setRow_other w3 g5 (w.heap.size+1) (rd (m^(e1+e1+1)%prm)) (by omega)).trans rp1
      replace rl5:=setRow_heap w3 g5 _ (rd (m^(e1+e1+1)%prm)) _ _ rl5
      replace hw:=below_setRow hw (show w.heap.size≤g5 by omega) (rd (m^(e1+e1+1)%prm))
      generalize w3.setRow g5 (rd (m^(e1+e1+1)%prm))=w4 at *
      go_roundw
      case rel=>exact⟨j+1,by omega,by go_num,by rw[hx1,←hnext],rp0,rp1,by rw[he2,hst];exact rl5,hw⟩
      case measure=>simp[intOf];omega
     ·have hg:decide (128≤x0)=false:=decide_eq_false hge
      rw[if_neg (fun q=>hge (hbit.2 q))] at hst
      go_wp2_with (first|(refine wpList_store_row rfl 36 _ _ rfl (g5) (rd (m^(e1+e1)%prm)) rfl rfl 36 _ rl5 (rd_info _) rfl (rd_one _) ?_)|fail)
      replace rp0:=(setRow_other w1 g5 (w.heap.size) (rd (m^(e1+e1)%prm)) (by omega)).trans rp0
      replace rp1:=(setRow_other w1 g5 (w.heap.size+1) (rd (m^(e1+e1)%prm)) (by omega)).trans rp1
      replace rl5:=setRow_heap w1 g5 _ (rd (m^(e1+e1)%prm)) _ _ rl5
      replace hw:=below_setRow hw (show w.heap.size≤g5 by omega) (rd (m^(e1+e1)%prm))
      generalize w1.setRow g5 (rd (m^(e1+e1)%prm))=w2 at *
      go_roundw
      case rel=>exact⟨j+1,by omega,by go_num,by rw[hx1,←hnext],rp0,rp1,by rw[he2,hst];exact rl5,hw⟩
      case measure=>simp[intOf];omega
    ·obtain rfl:j=8:=by omega
     have hdj:decide ((8:Int)<8)=false:=by decide
     go_wp2
     go_roundw
     case rel=>exact⟨k+1,by omega,by go_num,rp0,rp1,by rw[htop,show E*256+z.toNat=E*2^8+z.toNat/2^(8-8) by omega];exact rl5,hw⟩
     case measure=>simp[intOf]
  ·obtain rfl:k=len:=by omega
   have hi:(k:Int)-1-k= -1:=by omega
   rw[hi]
   go_wp2_with (first|(refine wpList_load_want rfl 36 _ rfl (g5) rfl 36 (rd (m^topv bs k%prm)) (0,0) _ rl5 Tryd.underlying36 rfl (rd_info _) ?_)|(refine wpList_store_row rfl 36 _ _ rfl (w.heap.size+1) (rd (m^topv bs k%prm)) rfl rfl 36 _ rp1 (rd_info _) rfl (rd_one _) ?_)|fail)
   rw[hall] at *
   exact bodyPost_ret (v:=.agg (rd (m^bval bs%prm))) (results_cell_row Tryd.results84 _ _ (w.heap.size+1) _ (rd (m^bval bs%prm)) _ _ rfl (setRow_heap _ _ _ _ _ _ rp1) Tryd.underlying36 rfl (rd_info _)) rfl ⟨rfl,below_setRow hw (by omega) _⟩
end Go.Proofs.YtdcpcdkbhgkmlaaDoor
namespace Go.Proofs.YtdcpcdkbhgkmlaaDoor
set_option maxRecDepth 100000
open Go.RowKit Go.Sort
attribute [local go_sem] setCell_drewN alloc_drewN
set_option maxHeartbeats 4000000 in
theorem refAdd_any (x0 x1 x2 x3 x4 x5 x6 x7 x8 x9 x10 x11 x12 x13 x14 x15 y0 y1 y2 y3 y4 y5 y6 y7 y8 y9 y10 y11 y12 y13 y14 y15:Int) (l0:0≤x0) (u0:x0<65536) (l1:0≤x1) (u1:x1<65536) (l2:0≤x2) (u2:x2<65536) (l3:0≤x3) (u3:x3<65536) (l4:0≤x4) (u4:x4<65536) (l5:0≤x5) (u5:x5<65536) (l6:0≤x6) (u6:x6<65536) (l7:0≤x7) (u7:x7<65536) (l8:0≤x8) (u8:x8<65536) (l9:0≤x9) (u9:x9<65536) (l10:0≤x10) (u10:x10<65536) (l11:0≤x11) (u11:x11<65536) (l12:0≤x12) (u12:x12<65536) (l13:0≤x13) (u13:x13<65536) (l14:0≤x14) (u14:x14<65536) (l15:0≤x15) (u15:x15<65536) (ly0:0≤y0) (uy0:y0<65536) (ly1:0≤y1) (uy1:y1<65536) (ly2:0≤y2) (uy2:y2<65536) (ly3:0≤y3) (uy3:y3<65536) (ly4:0≤y4) (uy4:y4<65536) (ly5:0≤y5) (uy5:y5<65536) (ly6:0≤y6) (uy6:y6<65536) (ly7:0≤y7) (uy7:y7<65536) (ly8:0≤y8) (uy8:y8<65536) (ly9:0≤y9) (uy9:y9<65536) (ly10:0≤y10) (uy10:y10<65536) (ly11:0≤y11) (uy11:y11<65536) (ly12:0≤y12) (uy12:y12<65536) (ly13:0≤y13) (uy13:y13<65536) (ly14:0≤y14) (uy14:y14<65536) (ly15:0≤y15) (uy15:y15<65536) (w:World):
 Calls Tryd.prog 67 #[.agg #[.int .u64 x0,.int .u64 x1,.int .u64 x2,.int .u64 x3,.int .u64 x4,.int .u64 x5,.int .u64 x6,.int .u64 x7,.int .u64 x8,.int .u64 x9,.int .u64 x10,.int .u64 x11,.int .u64 x12,.int .u64 x13,.int .u64 x14,.int .u64 x15],.agg #[.int .u64 y0,.int .u64 y1,.int .u64 y2,.int .u64 y3,.int .u64 y4,.int .u64 y5,.int .u64 y6,.int .u64 y7,.int .u64 y8,.int .u64 y9,.int .u64 y10,.int .u64 y11,.int .u64 y12,.int .u64 y13,.int .u64 y14,.int .u64 y15]] w fun e w'=>e=.returned (.agg #[.int .u64 (dg ((v16 x0 x1 x2 x3 x4 x5 x6 x7 x8 x9 x10 x11 x12 x13 x14 x15+v16 y0 y1 y2 y3 y4 y5 y6 y7 y8 y9 y10 y11 y12 y13 y14 y15)%prm) 0),.int .u64 (dg ((v16 x0 x1 x2 x3 x4 x5 x6 x7 x8 x9 x10 x11 x12 x13 x14 x15+v16 y0 y1 y2 y3 y4 y5 y6 y7 y8 y9 y10 y11 y12 y13 y14 y15)%prm) 1),.int .u64 (dg ((v16 x0 x1 x2 x3 x4 x5 x6 x7 x8 x9 x10 x11 x12 x13 x14 x15+v16 y0 y1 y2 y3 y4 y5 y6 y7 y8 y9 y10 y11 y12 y13 y14 y15)%prm) 2),.int .u64 (dg ((v16 x0 x1 x2 x3 x4 x5 x6 x7 x8 x9 x10 x11 x12 x13 x14 x15+v16 y0 y1 y2 y3 y4 y5 y6 y7 y8 y9 y10 y11 y12 y13 y14 y15)%prm) 3),.int .u64 (dg ((v16 x0 x1 x2 x3 x4 x5 x6 x7 x8 x9 x10 x11 x12 x13 x14 x15+v16 y0 y1 y2 y3 y4 y5 y6 y7 y8 y9 y10 y11 y12 y13 y14 y15)%prm) 4),.int .u64 (dg ((v16 x0 x1 x2 x3 x4 x5 x6 x7 x8 x9 x10 x11 x12 x13 x14 x15+v16 y0 y1 y2 y3 y4 y5 y6 y7 y8 y9 y10 y11 y12 y13 y14 y15)%prm) 5),.int .u64 (dg ((v16 x0 x1 x2 x3 x4 x5 x6 x7 x8 x9 x10 x11 x12 x13 x14 x15+v16 y0 y1 y2 y3 y4 y5 y6 y7 y8 y9 y10 y11 y12 y13 y14 y15)%prm) 6),.int .u64 (dg ((v16 x0 x1 x2 x3 x4 x5 x6 x7 x8 x9 x10 x11 x12 x13 x14 x15+v16 y0 y1 y2 y3 y4 y5 y6 y7 y8 y9 y10 y11 y12 y13 y14 y15)%prm) 7),.int .u64 (dg ((v16 x0 x1 x2 x3 x4 x5 x6 x7 x8 x9 x10 x11 x12 x13 x14 x15+v16 y0 y1 y2 y3 y4 y5 y6 y7 y8 y9 y10 y11 y12 y13 y14 y15)%prm) 8),.int .u64 (dg ((v16 x0 x1 x2 x3 x4 x5 x6 x7 x8 x9 x10 x11 x12 x13 x14 x15+v16 y0 y1 y2 y3 y4 y5 y6 y7 y8 y9 y10 y11 y12 y13 y14 y15)%prm) 9),.int .u64 (dg ((v16 x0 x1 x2 x3 x4 x5 x6 x7 x8 x9 x10 x11 x12 x13 x14 x15+v16 y0 y1 y2 y3 y4 y5 y6 y7 y8 y9 y10 y11 y12 y13 y14 y15)%prm) 10),.int .u64 (dg ((v16 x0 x1 x2 x3 x4 x5 x6 x7 x8 x9 x10 x11 x12 x13 x14 x15+v16 y0 y1 y2 y3 y4 y5 y6 y7 y8 y9 y10 y11 y12 y13 y14 y15)%prm) 11),.int .u64 (dg ((v16 x0 x1 x2 x3 x4 x5 x6 x7 x8 x9 x10 x11 x12 x13 x14 x15+v16 y0 y1 y2 y3 y4 y5 y6 y7 y8 y9 y10 y11 y12 y13 y14 y15)%prm) 12),.int .u64 (dg ((v16 x0 x1 x2 x3 x4 x5 x6 x7 x8 x9 x10 x11 x12 x13 x14 x15+v16 y0 y1 y2 y3 y4 y5 y6 y7 y8 y9 y10 y11 y12 y13 y14 y15)%prm) 13),.int .u64 (dg ((v16 x0 x1 x2 x3 x4 x5 x6 x7 x8 x9 x10 x11 x12 x13 x14 x15+v16 y0 y1 y2 y3 y4 y5 y6 y7 y8 y9 y10 y11 y12 y13 y14 y15)%prm) 14),.int .u64 (dg ((v16 x0 x1 x2 x3 x4 x5 x6 x7 x8 x9 x10 x11 x12 x13 x14 x15+v16 y0 y1 y2 y3 y4 y5 y6 y7 y8 y9 y10 y11 y12 y13 y14 y15)%prm) 15)])∧Below w.heap.size w w':=by
 have c:=fun W=>settle_any (x0+y0) (x1+y1) (x2+y2) (x3+y3) (x4+y4) (x5+y5) (x6+y6) (x7+y7) (x8+y8) (x9+y9) (x10+y10) (x11+y11) (x12+y12) (x13+y13) (x14+y14) (x15+y15) (by omega) (by omega) (by omega) (by omega) (by omega) (by omega) (by omega) (by omega) (by omega) (by omega) (by omega) (by omega) (by omega) (by omega) (by omega) (by omega) (by omega) (by omega) (by omega) (by omega) (by omega) (by omega) (by omega) (by omega) (by omega) (by omega) (by omega) (by omega) (by omega) (by omega) (by omega) (by omega) W
 have ev:v16 (x0+y0) (x1+y1) (x2+y2) (x3+y3) (x4+y4) (x5+y5) (x6+y6) (x7+y7) (x8+y8) (x9+y9) (x10+y10) (x11+y11) (x12+y12) (x13+y13) (x14+y14) (x15+y15)=v16 x0 x1 x2 x3 x4 x5 x6 x7 x8 x9 x10 x11 x12 x13 x14 x15+v16 y0 y1 y2 y3 y4 y5 y6 y7 y8 y9 y10 y11 y12 y13 y14 y15:=by simp only[v16,valL];omega
 rw[ev] at c;have C:=hide c;clear c ev
 generalize (v16 x0 x1 x2 x3 x4 x5 x6 x7 x8 x9 x10 x11 x12 x13 x14 x15+v16 y0 y1 y2 y3 y4 y5 y6 y7 y8 y9 y10 y11 y12 y13 y14 y15)%prm=q at *
 go_enter Tryd.func67,Tryd.ntmps67
 go_wp2
 refine wp_loop_rounds 17 ?_;rw[rounds_succ]
 go_wp2
 refine wp_region_tail (C:=fun w'=>∃n,w'=World.drewN _ n) 11 _ rfl rfl rfl (by kernel_rfl) (by kernel_rfl) (by kernel_rfl) (by kernel_rfl) ⟨1,rfl⟩ ?_
 dsimp only[List.set,idle]
 repeat (go_big_quiet_step (fail))
 first|refine wpQuiet_nil ?_|refine wpQuiet_idle rfl rfl rfl ?_
 rintro _ ⟨n0,rfl⟩
 go_wp2
 rw[rounds_succ]
 go_wp2
 refine wp_region_tail (C:=fun w'=>∃n,w'=World.drewN _ n) 11 _ rfl rfl rfl (by kernel_rfl) (by kernel_rfl) (by kernel_rfl) (by kernel_rfl) ⟨1,rfl⟩ ?_
 dsimp only[List.set,idle]
 repeat (go_big_quiet_step (fail))
 first|refine wpQuiet_nil ?_|refine wpQuiet_idle rfl rfl rfl ?_
 rintro _ ⟨n1,rfl⟩
 go_wp2
 rw[rounds_succ]
 go_wp2
 refine wp_region_tail (C:=fun w'=>∃n,w'=World.drewN _ n) 11 _ rfl rfl rfl (by kernel_rfl) (by kernel_rfl) (by kernel_rfl) (by kernel_rfl) ⟨1,rfl⟩ ?_
 dsimp only[List.set,idle]
 repeat (go_big_quiet_step (fail))
 first|refine wpQuiet_nil ?_|refine wpQuiet_idle rfl rfl rfl ?_
 rintro _ ⟨n2,rfl⟩
 go_wp2
 rw[rounds_succ]
 go_wp2
 refine wp_region_tail (C:=fun w'=>∃n,w'=World.drewN _ n) 11 _ rfl rfl rfl (by kernel_rfl) (by kernel_rfl) (by kernel_rfl) (by kernel_rfl) ⟨1,rfl⟩ ?_
 dsimp only[List.set,idle]
 repeat (go_big_quiet_step (fail))
 first|refine wpQuiet_nil ?_|refine wpQuiet_idle rfl rfl rfl ?_
 rintro _ ⟨n3,rfl⟩
 go_wp2
 rw[rounds_succ]
 go_wp2
 refine wp_region_tail (C:=fun w'=>∃n,w'=World.drewN _ n) 11 _ rfl rfl rfl (by kernel_rfl) (by kernel_rfl) (by kernel_rfl) (by kernel_rfl) ⟨1,rfl⟩ ?_
 dsimp only[List.set,idle]
 repeat (go_big_quiet_step (fail))
 first|refine wpQuiet_nil ?_|refine wpQuiet_idle rfl rfl rfl ?_
 rintro _ ⟨n4,rfl⟩
 go_wp2
 rw[rounds_succ]
 go_wp2
 refine wp_region_tail (C:=fun w'=>∃n,w'=World.drewN _ n) 11 _ rfl rfl rfl (by kernel_rfl) (by kernel_rfl) (by kernel_rfl) (by kernel_rfl) ⟨1,rfl⟩ ?_
 dsimp only[List.set,idle]
 repeat (go_big_quiet_step (fail))
 first|refine wpQuiet_nil ?_|refine wpQuiet_idle rfl rfl rfl ?_
 rintro _ ⟨n5,rfl⟩
 go_wp2
 rw[rounds_succ]
 go_wp2
 refine wp_region_tail (C:=fun w'=>∃n,w'=World.drewN _ n) 11 _ rfl rfl rfl (by kernel_rfl) (by kernel_rfl) (by kernel_rfl) (by kernel_rfl) ⟨1,rfl⟩ ?_
 dsimp only[List.set,idle]
 repeat (go_big_quiet_step (fail))
 first|refine wpQuiet_nil ?_|refine wpQuiet_idle rfl rfl rfl ?_
 rintro _ ⟨n6,rfl⟩
 go_wp2
 rw[rounds_succ]
 go_wp2
 refine wp_region_tail (C:=fun w'=>∃n,w'=World.drewN _ n) 11 _ rfl rfl rfl (by kernel_rfl) (by kernel_rfl) (by kernel_rfl) (by kernel_rfl) ⟨1,rfl⟩ ?_
 dsimp only[List.set,idle]
 repeat (go_big_quiet_step (fail))
 first|refine wpQuiet_nil ?_|refine wpQuiet_idle rfl rfl rfl ?_
 rintro _ ⟨n7,rfl⟩
 go_wp2
 rw[rounds_succ]
 go_wp2
 refine wp_region_tail (C:=fun w'=>∃n,w'=World.drewN _ n) 11 _ rfl rfl rfl (by kernel_rfl) (by kernel_rfl) (by kernel_rfl) (by kernel_rfl) ⟨1,rfl⟩ ?_
 dsimp only[List.set,idle]
 repeat (go_big_quiet_step (fail))
 first|refine wpQuiet_nil ?_|refine wpQuiet_idle rfl rfl rfl ?_
 rintro _ ⟨n8,rfl⟩
 go_wp2
 rw[rounds_succ]
 go_wp2
 refine wp_region_tail (C:=fun w'=>∃n,w'=World.drewN _ n) 11 _ rfl rfl rfl (by kernel_rfl) (by kernel_rfl) (by kernel_rfl) (by kernel_rfl) ⟨1,rfl⟩ ?_
 dsimp only[List.set,idle]
 repeat (go_big_quiet_step (fail))
 first|refine wpQuiet_nil ?_|refine wpQuiet_idle rfl rfl rfl ?_
 rintro _ ⟨n9,rfl⟩
 go_wp2
 rw[rounds_succ]
 go_wp2
 refine wp_region_tail (C:=fun w'=>∃n,w'=World.drewN _ n) 11 _ rfl rfl rfl (by kernel_rfl) (by kernel_rfl) (by kernel_rfl) (by kernel_rfl) ⟨1,rfl⟩ ?_
 dsimp only[List.set,idle]
 repeat (go_big_quiet_step (fail))
 first|refine wpQuiet_nil ?_|refine wpQuiet_idle rfl rfl rfl ?_
 rintro _ ⟨n10,rfl⟩
 go_wp2
 rw[rounds_succ]
 go_wp2
 refine wp_region_tail (C:=fun w'=>∃n,w'=World.drewN _ n) 11 _ rfl rfl rfl (by kernel_rfl) (by kernel_rfl) (by kernel_rfl) (by kernel_rfl) ⟨1,rfl⟩ ?_
 dsimp only[List.set,idle]
 repeat (go_big_quiet_step (fail))
 first|refine wpQuiet_nil ?_|refine wpQuiet_idle rfl rfl rfl ?_
 rintro _ ⟨n11,rfl⟩
 go_wp2
 rw[rounds_succ]
 go_wp2
 refine wp_region_tail (C:=fun w'=>∃n,w'=World.drewN _ n) 11 _ rfl rfl rfl (by kernel_rfl) (by kernel_rfl) (by kernel_rfl) (by kernel_rfl) ⟨1,rfl⟩ ?_
 dsimp only[List.set,idle]
 repeat (go_big_quiet_step (fail))
 first|refine wpQuiet_nil ?_|refine wpQuiet_idle rfl rfl rfl ?_
 rintro _ ⟨n12,rfl⟩
 go_wp2
 rw[rounds_succ]
 go_wp2
 refine wp_region_tail (C:=fun w'=>∃n,w'=World.drewN _ n) 11 _ rfl rfl rfl (by kernel_rfl) (by kernel_rfl) (by kernel_rfl) (by kernel_rfl) ⟨1,rfl⟩ ?_
 dsimp only[List.set,idle]
 repeat (go_big_quiet_step (fail))
 first|refine wpQuiet_nil ?_|refine wpQuiet_idle rfl rfl rfl ?_
 rintro _ ⟨n13,rfl⟩
 go_wp2
 rw[rounds_succ]
 go_wp2
 refine wp_region_tail (C:=fun w'=>∃n,w'=World.drewN _ n) 11 _ rfl rfl rfl (by kernel_rfl) (by kernel_rfl) (by kernel_rfl) (by kernel_rfl) ⟨1,rfl⟩ ?_
 dsimp only[List.set,idle]
 repeat (go_big_quiet_step (fail))
 first|refine wpQuiet_nil ?_|refine wpQuiet_idle rfl rfl rfl ?_
 rintro _ ⟨n14,rfl⟩
 go_wp2
 rw[rounds_succ]
 go_wp2
 refine wp_region_tail (C:=fun w'=>∃n,w'=World.drewN _ n) 11 _ rfl rfl rfl (by kernel_rfl) (by kernel_rfl) (by kernel_rfl) (by kernel_rfl) ⟨1,rfl⟩ ?_
 dsimp only[List.set,idle]
 repeat (go_big_quiet_step (fail))
 first|refine wpQuiet_nil ?_|refine wpQuiet_idle rfl rfl rfl ?_
 rintro _ ⟨n15,rfl⟩
 go_wp2
 rw[rounds_succ]
 go_wp2_with (first|(refine wpList_load_row rfl 34 _ rfl (w.heap.size+1+1+1) rfl 34 #[.int .u64 (x0+y0),.int .u64 (x1+y1),.int .u64 (x2+y2),.int .u64 (x3+y3),.int .u64 (x4+y4),.int .u64 (x5+y5),.int .u64 (x6+y6),.int .u64 (x7+y7),.int .u64 (x8+y8),.int .u64 (x9+y9),.int .u64 (x10+y10),.int .u64 (x11+y11),.int .u64 (x12+y12),.int .u64 (x13+y13),.int .u64 (x14+y14),.int .u64 (x15+y15)] (0,0) _ (by rw[World.heap_drewN,hp4_3]) Tryd.underlying34 rfl (by kernel_rfl) ?_)|fail)
 refine(C.out _).mono ?_;rintro e w1 ⟨rfl,hb⟩
 have rZ:w1.heap[w.heap.size+1+1]? =some (.cells #[.int .u64 0,.int .u64 0,.int .u64 0,.int .u64 0,.int .u64 0,.int .u64 0,.int .u64 0,.int .u64 0,.int .u64 0,.int .u64 0,.int .u64 0,.int .u64 0,.int .u64 0,.int .u64 0,.int .u64 0,.int .u64 0] 36 (0,0)):=(hb.block _ (by simp)).trans (by rw[World.heap_drewN,hp4_2])
 have hbw:Below w.heap.size w w1:=(below_drN (((((Below.refl _ _).alloc (Nat.le_refl _) _).alloc (by simp) _).alloc (by simp;omega) _).alloc (by simp;omega) _) _).trans (hb.mono (by simp;omega))
 clear hb
 go_wp2_with (first|(refine wpList_store_row rfl 36 _ _ rfl (w.heap.size+1+1) (rd q) rfl rfl 36 _ rZ (rd_info q) rfl (rd_one q) ?_)|fail)
 exact bodyPost_ret (v:=.agg (rd q)) (results_cell_row Tryd.results67 _ _ (w.heap.size+1+1) _ (rd q) _ _ rfl (setRow_heap _ _ _ _ _ _ rZ) Tryd.underlying36 rfl (rd_info q)) rfl ⟨rfl,below_setRow hbw (by omega) _⟩
theorem v16_dg (m:Int) (h:inP m):v16 (dg m 0) (dg m 1) (dg m 2) (dg m 3) (dg m 4) (dg m 5) (dg m 6) (dg m 7) (dg m 8) (dg m 9) (dg m 10) (dg m 11) (dg m 12) (dg m 13) (dg m 14) (dg m 15)=m:=by
 obtain⟨h0,h1⟩:=h;rw[←sumN_v16]
 exact sumN_dg m h0 (by unfold prm at h1;omega)
theorem r_add {m q:Int} (h:inP m) (g:inP q):Gives 67 #[.agg (rd m),.agg (rd q)] (.agg (rd ((m+q)%prm))):=fun W=>by
 have c:=refAdd_any (dg m 0) (dg m 1) (dg m 2) (dg m 3) (dg m 4) (dg m 5) (dg m 6) (dg m 7) (dg m 8) (dg m 9) (dg m 10) (dg m 11) (dg m 12) (dg m 13) (dg m 14) (dg m 15) (dg q 0) (dg q 1) (dg q 2) (dg q 3) (dg q 4) (dg q 5) (dg q 6) (dg q 7) (dg q 8) (dg q 9) (dg q 10) (dg q 11) (dg q 12) (dg q 13) (dg q 14) (dg q 15) (dg_bd m 0).1 (dg_bd m 0).2 (dg_bd m 1).1 (dg_bd m 1).2 (dg_bd m 2).1 (dg_bd m 2).2 (dg_bd m 3).1 (dg_bd m 3).2 (dg_bd m 4).1 (dg_bd m 4).2 (dg_bd m 5).1 (dg_bd m 5).2 (dg_bd m 6).1 (dg_bd m 6).2 (dg_bd m 7).1 (dg_bd m 7).2 (dg_bd m 8).1 (dg_bd m 8).2 (dg_bd m 9).1 (dg_bd m 9).2 (dg_bd m 10).1 (dg_bd m 10).2 (dg_bd m 11).1 (dg_bd m 11).2 (dg_bd m 12).1 (dg_bd m 12).2 (dg_bd m 13).1 (dg_bd m 13).2 (dg_bd m 14).1 (dg_bd m 14).2 (dg_bd m 15).1 (dg_bd m 15).2 (dg_bd q 0).1 (dg_bd q 0).2 (dg_bd q 1).1 (dg_bd q 1).2 (dg_bd q 2).1 (dg_bd q 2).2 (dg_bd q 3).1 (dg_bd q 3).2 (dg_bd q 4).1 (dg_bd q 4).2 (dg_bd q 5).1 (dg_bd q 5).2 (dg_bd q 6).1 (dg_bd q 6).2 (dg_bd q 7).1 (dg_bd q 7).2 (dg_bd q 8).1 (dg_bd q 8).2 (dg_bd q 9).1 (dg_bd q 9).2 (dg_bd q 10).1 (dg_bd q 10).2 (dg_bd q 11).1 (dg_bd q 11).2 (dg_bd q 12).1 (dg_bd q 12).2 (dg_bd q 13).1 (dg_bd q 13).2 (dg_bd q 14).1 (dg_bd q 14).2 (dg_bd q 15).1 (dg_bd q 15).2 W;rw[v16_dg m h,v16_dg q g] at c;exact c
end Go.Proofs.YtdcpcdkbhgkmlaaDoor
namespace Go.Proofs.YtdcpcdkbhgkmlaaDoor
set_option maxRecDepth 100000
open Go.RowKit Go.Sort
attribute [local go_sem] setCell_drewN alloc_drewN
theorem r_minusP {m:Int} (h:inP m):Gives 96 #[.agg #[.int .u64 65517,.int .u64 65535,.int .u64 65535,.int .u64 65535,.int .u64 65535,.int .u64 65535,.int .u64 65535,.int .u64 65535,.int .u64 65535,.int .u64 65535,.int .u64 65535,.int .u64 65535,.int .u64 65535,.int .u64 65535,.int .u64 65535,.int .u64 32767],.agg (rd m)] (.agg (rd (prm-m))):=fun W=>by
 have e:v16 65517 65535 65535 65535 65535 65535 65535 65535 65535 65535 65535 65535 65535 65535 65535 32767=prm:=by decide
 have c:=minus_dg 65517 65535 65535 65535 65535 65535 65535 65535 65535 65535 65535 65535 65535 65535 65535 32767 (dg m 0) (dg m 1) (dg m 2) (dg m 3) (dg m 4) (dg m 5) (dg m 6) (dg m 7) (dg m 8) (dg m 9) (dg m 10) (dg m 11) (dg m 12) (dg m 13) (dg m 14) (dg m 15) (by decide) (by decide) (by decide) (by decide) (by decide) (by decide) (by decide) (by decide) (by decide) (by decide) (by decide) (by decide) (by decide) (by decide) (by decide) (by decide) (by decide) (by decide) (by decide) (by decide) (by decide) (by decide) (by decide) (by decide) (by decide) (by decide) (by decide) (by decide) (by decide) (by decide) (by decide) (by decide) (dg_bd m 0).1 (dg_bd m 0).2 (dg_bd m 1).1 (dg_bd m 1).2 (dg_bd m 2).1 (dg_bd m 2).2 (dg_bd m 3).1 (dg_bd m 3).2 (dg_bd m 4).1 (dg_bd m 4).2 (dg_bd m 5).1 (dg_bd m 5).2 (dg_bd m 6).1 (dg_bd m 6).2 (dg_bd m 7).1 (dg_bd m 7).2 (dg_bd m 8).1 (dg_bd m 8).2 (dg_bd m 9).1 (dg_bd m 9).2 (dg_bd m 10).1 (dg_bd m 10).2 (dg_bd m 11).1 (dg_bd m 11).2 (dg_bd m 12).1 (dg_bd m 12).2 (dg_bd m 13).1 (dg_bd m 13).2 (dg_bd m 14).1 (dg_bd m 14).2 (dg_bd m 15).1 (dg_bd m 15).2 (by rw[v16_dg m h,e];exact Int.le_of_lt h.2) W
 rw[v16_dg m h,e] at c;exact c
theorem r_settleP {m:Int} (h:inP m):Gives 65 #[.agg (rd (prm-m))] (.agg (rd (-m%prm))):=fun W=>by
 have e:v16 (dg (prm-m) 0) (dg (prm-m) 1) (dg (prm-m) 2) (dg (prm-m) 3) (dg (prm-m) 4) (dg (prm-m) 5) (dg (prm-m) 6) (dg (prm-m) 7) (dg (prm-m) 8) (dg (prm-m) 9) (dg (prm-m) 10) (dg (prm-m) 11) (dg (prm-m) 12) (dg (prm-m) 13) (dg (prm-m) 14) (dg (prm-m) 15)=prm-m:=by
  rw[←sumN_v16]
  exact sumN_dg _ (by have:=h.2;omega) (by have:=h.1;unfold prm;omega)
 have c:=settle_any (dg (prm-m) 0) (dg (prm-m) 1) (dg (prm-m) 2) (dg (prm-m) 3) (dg (prm-m) 4) (dg (prm-m) 5) (dg (prm-m) 6) (dg (prm-m) 7) (dg (prm-m) 8) (dg (prm-m) 9) (dg (prm-m) 10) (dg (prm-m) 11) (dg (prm-m) 12) (dg (prm-m) 13) (dg (prm-m) 14) (dg (prm-m) 15) (dg_bd (prm-m) 0).1 (Int.le_trans (Int.le_of_lt (dg_bd (prm-m) 0).2) (by decide)) (dg_bd (prm-m) 1).1 (Int.le_trans (Int.le_of_lt (dg_bd (prm-m) 1).2) (by decide)) (dg_bd (prm-m) 2).1 (Int.le_trans (Int.le_of_lt (dg_bd (prm-m) 2).2) (by decide)) (dg_bd (prm-m) 3).1 (Int.le_trans (Int.le_of_lt (dg_bd (prm-m) 3).2) (by decide)) (dg_bd (prm-m) 4).1 (Int.le_trans (Int.le_of_lt (dg_bd (prm-m) 4).2) (by decide)) (dg_bd (prm-m) 5).1 (Int.le_trans (Int.le_of_lt (dg_bd (prm-m) 5).2) (by decide)) (dg_bd (prm-m) 6).1 (Int.le_trans (Int.le_of_lt (dg_bd (prm-m) 6).2) (by decide)) (dg_bd (prm-m) 7).1 (Int.le_trans (Int.le_of_lt (dg_bd (prm-m) 7).2) (by decide)) (dg_bd (prm-m) 8).1 (Int.le_trans (Int.le_of_lt (dg_bd (prm-m) 8).2) (by decide)) (dg_bd (prm-m) 9).1 (Int.le_trans (Int.le_of_lt (dg_bd (prm-m) 9).2) (by decide)) (dg_bd (prm-m) 10).1 (Int.le_trans (Int.le_of_lt (dg_bd (prm-m) 10).2) (by decide)) (dg_bd (prm-m) 11).1 (Int.le_trans (Int.le_of_lt (dg_bd (prm-m) 11).2) (by decide)) (dg_bd (prm-m) 12).1 (Int.le_trans (Int.le_of_lt (dg_bd (prm-m) 12).2) (by decide)) (dg_bd (prm-m) 13).1 (Int.le_trans (Int.le_of_lt (dg_bd (prm-m) 13).2) (by decide)) (dg_bd (prm-m) 14).1 (Int.le_trans (Int.le_of_lt (dg_bd (prm-m) 14).2) (by decide)) (dg_bd (prm-m) 15).1 (Int.le_trans (Int.le_of_lt (dg_bd (prm-m) 15).2) (by decide)) W
 have e2:(prm-m)%prm= -m%prm:=by rw[show prm-m= -m+prm*1 by omega,Int.add_mul_emod_self_left]
 rw[e,e2] at c;exact c
set_option maxHeartbeats 2000000 in
theorem r_neg {m:Int} (h:inP m):Gives 71 #[.agg (rd m)] (.agg (rd (-m%prm))):=by
 have c1:=r_minusP h;have c2:=r_settleP h
 generalize prm-m=z at *
 generalize-m%prm=q at *
 intro w
 have hB:∀W,(∃p:Regrown,W=grow (redrawn ((w.alloc (.cells (rd m) 36)).alloc (.cells #[.int .u64 0,.int .u64 0,.int .u64 0,.int .u64 0,.int .u64 0,.int .u64 0,.int .u64 0,.int .u64 0,.int .u64 0,.int .u64 0,.int .u64 0,.int .u64 0,.int .u64 0,.int .u64 0,.int .u64 0,.int .u64 0] 36)) p.d) p.os)→W.heap[w.heap.size]? =some (.cells (rd m) 36 (0,0)):=by
  rintro _ ⟨p,rfl⟩;exact((below_regrown _ p.d p.os).block _ (by simp;omega)).trans (hp2_0 w _ _)
 have HB:=hide hB;clear hB
 go_enter Tryd.func71,Tryd.ntmps71
 go_wp2
 refine wp_region_tail (C:=fun w'=>∃p:Regrown,w'=grow (redrawn ((w.alloc (.cells (rd m) 36)).alloc (.cells #[.int .u64 0,.int .u64 0,.int .u64 0,.int .u64 0,.int .u64 0,.int .u64 0,.int .u64 0,.int .u64 0,.int .u64 0,.int .u64 0,.int .u64 0,.int .u64 0,.int .u64 0,.int .u64 0,.int .u64 0,.int .u64 0] 36)) p.d) p.os) 5 _ rfl rfl rfl (by kernel_rfl) (by kernel_rfl) (by kernel_rfl) (by kernel_rfl) ⟨⟨((w.alloc (.cells (rd m) 36)).alloc (.cells #[.int .u64 0,.int .u64 0,.int .u64 0,.int .u64 0,.int .u64 0,.int .u64 0,.int .u64 0,.int .u64 0,.int .u64 0,.int .u64 0,.int .u64 0,.int .u64 0,.int .u64 0,.int .u64 0,.int .u64 0,.int .u64 0] 36)).drawn+1,#[]⟩,by rw[grow_empty];rfl⟩ ?_
 dsimp only[List.set,idle];go_big_quiet_step (exact Calls.regrown_of (allPrime_any _));go_big_quiet_step (fail)
 refine wpQuiet_load_row rfl 34 _ rfl w.heap.size rfl 36 (rd m) (0,0) _ HB.out Tryd.underlying34 rfl (by kernel_rfl) ?_
 simp only[Act.put,ZPd,ZPe,ZPf];go_big_quiet_step (exact c1.re);go_big_quiet_step (exact c2.re);refine wpQuiet_idle rfl rfl rfl ?_;rintro _ ⟨p,rfl⟩;have hb:=below_regrown ((w.alloc (.cells (rd m) 36)).alloc (.cells #[.int .u64 0,.int .u64 0,.int .u64 0,.int .u64 0,.int .u64 0,.int .u64 0,.int .u64 0,.int .u64 0,.int .u64 0,.int .u64 0,.int .u64 0,.int .u64 0,.int .u64 0,.int .u64 0,.int .u64 0,.int .u64 0] 36)) p.d p.os;clear HB
 generalize grow (redrawn ((w.alloc (.cells (rd m) 36)).alloc (.cells #[.int .u64 0,.int .u64 0,.int .u64 0,.int .u64 0,.int .u64 0,.int .u64 0,.int .u64 0,.int .u64 0,.int .u64 0,.int .u64 0,.int .u64 0,.int .u64 0,.int .u64 0,.int .u64 0,.int .u64 0,.int .u64 0] 36)) p.d) p.os=W1 at *
 have rZ:W1.heap[w.heap.size+1]? =some (.cells #[.int .u64 0,.int .u64 0,.int .u64 0,.int .u64 0,.int .u64 0,.int .u64 0,.int .u64 0,.int .u64 0,.int .u64 0,.int .u64 0,.int .u64 0,.int .u64 0,.int .u64 0,.int .u64 0,.int .u64 0,.int .u64 0] 36 (0,0)):=(hb.block _ (by simp)).trans (hp2_1 w _ _)
 have hbw:Below w.heap.size w W1:=(((Below.refl _ _).alloc (Nat.le_refl _) _).alloc (by simp) _).trans (hb.mono (by simp;omega))
 clear hb
 go_wp2_with (first|(refine wpList_store_row rfl 36 _ _ rfl (w.heap.size+1) (rd q) rfl rfl 36 _ rZ (rd_info q) rfl (rd_one q) ?_)|fail)
 exact bodyPost_ret (v:=.agg (rd q)) (results_cell_row Tryd.results71 _ _ (w.heap.size+1) _ (rd q) _ _ rfl (setRow_heap _ _ _ _ _ _ rZ) Tryd.underlying36 rfl (rd_info q)) rfl ⟨rfl,below_setRow hbw (by omega) _⟩
set_option maxHeartbeats 2000000 in
theorem r_sub {m k:Int} (h:inP m) (g:inP k):Gives 68 #[.agg (rd m),.agg (rd k)] (.agg (rd ((m-k)%prm))):=by
 have c1:=r_neg g;have c2:=r_add h (inP_mod (-k))
 have e:(m+ -k%prm)%prm=(m-k)%prm:=by rw[Int.add_emod_emod,Int.sub_eq_add_neg]
 rw[e] at c2;clear e
 generalize-k%prm=z at *
 generalize (m-k)%prm=q at *
 intro w;have H0:Hid (∀W,(∃p:Regrown,W=grow (redrawn (((w.alloc (.cells (rd m) 36)).alloc (.cells (rd k) 36)).alloc (.cells #[.int .u64 0,.int .u64 0,.int .u64 0,.int .u64 0,.int .u64 0,.int .u64 0,.int .u64 0,.int .u64 0,.int .u64 0,.int .u64 0,.int .u64 0,.int .u64 0,.int .u64 0,.int .u64 0,.int .u64 0,.int .u64 0] 36)) p.d) p.os)→W.heap[w.heap.size]? =some (.cells (rd m) 36 (0,0))):=keepr (hp3_0 w _ _ _);have H1:Hid (∀W,(∃p:Regrown,W=grow (redrawn (((w.alloc (.cells (rd m) 36)).alloc (.cells (rd k) 36)).alloc (.cells #[.int .u64 0,.int .u64 0,.int .u64 0,.int .u64 0,.int .u64 0,.int .u64 0,.int .u64 0,.int .u64 0,.int .u64 0,.int .u64 0,.int .u64 0,.int .u64 0,.int .u64 0,.int .u64 0,.int .u64 0,.int .u64 0] 36)) p.d) p.os)→W.heap[w.heap.size+1]? =some (.cells (rd k) 36 (0,0))):=keepr (hp3_1 w _ _ _)
 go_enter Tryd.func68,Tryd.ntmps68
 go_wp2
 refine wp_region_tail (C:=fun w'=>∃p:Regrown,w'=grow (redrawn (((w.alloc (.cells (rd m) 36)).alloc (.cells (rd k) 36)).alloc (.cells #[.int .u64 0,.int .u64 0,.int .u64 0,.int .u64 0,.int .u64 0,.int .u64 0,.int .u64 0,.int .u64 0,.int .u64 0,.int .u64 0,.int .u64 0,.int .u64 0,.int .u64 0,.int .u64 0,.int .u64 0,.int .u64 0] 36)) p.d) p.os) 4 _ rfl rfl rfl (by kernel_rfl) (by kernel_rfl) (by kernel_rfl) (by kernel_rfl) ⟨⟨(((w.alloc (.cells (rd m) 36)).alloc (.cells (rd k) 36)).alloc (.cells #[.int .u64 0,.int .u64 0,.int .u64 0,.int .u64 0,.int .u64 0,.int .u64 0,.int .u64 0,.int .u64 0,.int .u64 0,.int .u64 0,.int .u64 0,.int .u64 0,.int .u64 0,.int .u64 0,.int .u64 0,.int .u64 0] 36)).drawn+1,#[]⟩,by rw[grow_empty];rfl⟩ ?_
 dsimp only[List.set,idle];refine wpQuiet_load_row rfl 36 _ rfl w.heap.size rfl 36 (rd m) (0,0) _ H0.out Tryd.underlying36 rfl (rd_info m) ?_;simp only[Act.put,ZPd,ZPe,ZPf];refine wpQuiet_load_row rfl 36 _ rfl (w.heap.size+1) rfl 36 (rd k) (0,0) _ H1.out Tryd.underlying36 rfl (rd_info k) ?_;simp only[Act.put,ZPd,ZPe,ZPf];go_big_quiet_step (exact c1.re);go_big_quiet_step (exact c2.re);refine wpQuiet_idle rfl rfl rfl ?_;rintro _ ⟨p,rfl⟩;have hb:=below_regrown (((w.alloc (.cells (rd m) 36)).alloc (.cells (rd k) 36)).alloc (.cells #[.int .u64 0,.int .u64 0,.int .u64 0,.int .u64 0,.int .u64 0,.int .u64 0,.int .u64 0,.int .u64 0,.int .u64 0,.int .u64 0,.int .u64 0,.int .u64 0,.int .u64 0,.int .u64 0,.int .u64 0,.int .u64 0] 36)) p.d p.os;clear H0 H1
 generalize grow (redrawn (((w.alloc (.cells (rd m) 36)).alloc (.cells (rd k) 36)).alloc (.cells #[.int .u64 0,.int .u64 0,.int .u64 0,.int .u64 0,.int .u64 0,.int .u64 0,.int .u64 0,.int .u64 0,.int .u64 0,.int .u64 0,.int .u64 0,.int .u64 0,.int .u64 0,.int .u64 0,.int .u64 0,.int .u64 0] 36)) p.d) p.os=W1 at *
 have rZ:W1.heap[w.heap.size+1+1]? =some (.cells #[.int .u64 0,.int .u64 0,.int .u64 0,.int .u64 0,.int .u64 0,.int .u64 0,.int .u64 0,.int .u64 0,.int .u64 0,.int .u64 0,.int .u64 0,.int .u64 0,.int .u64 0,.int .u64 0,.int .u64 0,.int .u64 0] 36 (0,0)):=(hb.block _ (by simp)).trans (hp3_2 w _ _ _)
 have hbw:Below w.heap.size w W1:=((((Below.refl _ _).alloc (Nat.le_refl _) _).alloc (by simp) _).alloc (by simp;omega) _).trans (hb.mono (by simp;omega))
 clear hb
 go_wp2_with (first|(refine wpList_store_row rfl 36 _ _ rfl (w.heap.size+1+1) (rd q) rfl rfl 36 _ rZ (rd_info q) rfl (rd_one q) ?_)|fail)
 exact bodyPost_ret (v:=.agg (rd q)) (results_cell_row Tryd.results68 _ _ (w.heap.size+1+1) _ (rd q) _ _ rfl (setRow_heap _ _ _ _ _ _ rZ) Tryd.underlying36 rfl (rd_info q)) rfl ⟨rfl,below_setRow hbw (by omega) _⟩
theorem r_odd (m:Int):Gives 48 #[.agg (rd m)] (.bool (dg m 0%2==1)):=by
 intro w;obtain⟨l,u⟩:=dg_bd m 0
 go_enter Tryd.func48,Tryd.ntmps48
 have hc:(w.alloc (.cells (rd m) 36)).cell? ⟨w.heap.size,0,none⟩=some (.int .u64 (dg m 0)):=by simp[go_sem,rd]
 go_wp2
 go_ret;exact⟨rfl,(Below.refl _ _).alloc (Nat.le_refl _) _⟩
theorem rd_cell (m:Int) (i:Nat) (hi:i<16):(rd m)[i]? =some (.int .u64 (dg m i)):=by
 rcases(by omega:i=0∨i=1∨i=2∨i=3∨i=4∨i=5∨i=6∨i=7∨i=8∨i=9∨i=10∨i=11∨i=12∨i=13∨i=14∨i=15) with rfl|rfl|rfl|rfl|rfl|rfl|rfl|rfl|rfl|rfl|rfl|rfl|rfl|rfl|rfl|rfl<;>rfl
theorem dg_inj {m k:Int} (h:inP m) (g:inP k) (e:∀j,j<16→dg m j=dg k j):m=k:=by
 rw[←v16_dg m h,←v16_dg k g,e 0 (by decide),e 1 (by decide),e 2 (by decide),e 3 (by decide),e 4 (by decide),e 5 (by decide),e 6 (by decide),e 7 (by decide),e 8 (by decide),e 9 (by decide),e 10 (by decide),e 11 (by decide),e 12 (by decide),e 13 (by decide),e 14 (by decide),e 15 (by decide)]
set_option maxHeartbeats 2000000 in
theorem r_equal {m k:Int} (h:inP m) (g:inP k):Gives 98 #[.agg (rd m),.agg (rd k)] (.bool (decide (m=k))):=by
 intro w;have hm:=rd_cell m;have hk:=rd_cell k;have Hm:=hide hm;have Hk:=hide hk;clear hm hk;have inj:=hide (dg_inj h g)
 go_enter Tryd.func98,Tryd.ntmps98
 go_wp2
 go_loopw [5] (fun i wr=>∃t:Nat,t≤16∧i=.int .i64 t∧∃nn:Nat,wr=((w.alloc (.cells (rd m) 36)).alloc (.cells (rd k) 36)).drewN nn∧Hid (∀j,j<t→dg m j=dg k j)) (fun i _=>16-(intOf i).toNat)
 case atStart=>exact⟨0,by omega,rfl,0,rfl,fun j hj=>absurd hj (by omega)⟩
 case round=>
  obtain⟨t,ht,rfl,nn,rfl,HE⟩:=hrel
  by_cases hlt:t<16
  ·have hd:decide ((t:Int)<16)=true:=by simp;omega
   have hcm:=Hm.out t hlt
   have hck:=Hk.out t hlt
   by_cases e:dg m t=dg k t
   ·rw[←e] at hck
    go_wp2
    go_quiet (fail)
    go_wp2
    go_roundw
    case rel=>exact⟨t+1,by omega,by go_num,_,rfl,fun j hj=>if h:j<t then HE.out j h else by rw[show j=t by omega];exact e⟩
    case measure=>simp[intOf];omega
   ·have hne:(dg m t==dg k t)=false:=by simp[e]
    have hmk:decide (m=k)=false:=by
     rw[decide_eq_false_iff_not];rintro rfl;exact e rfl
    go_wp2
    go_quiet (fail)
    go_wp2
    go_ret
    exact⟨by rw[hmk];rfl,below_drN (below_drN (((Below.refl _ _).alloc (Nat.le_refl _) _).alloc (by simp) _) _) _⟩
  ·obtain rfl:t=16:=by omega
   have hd:decide (((16:Nat):Int)<16)=false:=by decide
   have hmk:decide (m=k)=true:=decide_eq_true (inj.out HE.out)
   go_wp2
   go_ret
   exact⟨by rw[hmk];rfl,below_drN (((Below.refl _ _).alloc (Nat.le_refl _) _).alloc (by simp) _) _⟩
theorem r_isZero {m:Int} (h:inP m):Gives 70 #[.agg (rd m)] (.bool (decide (m=0))):=by
 have c:=r_equal h (show inP 0 by unfold inP prm;omega)
 rw[rd_zero] at c;intro w
 go_enter Tryd.func70,Tryd.ntmps70
 go_wp2_with (first|(refine wpList_load_row rfl 36 _ rfl w.heap.size rfl 36 (rd m) (0,0) _ (hp1_0 w _) Tryd.underlying36 rfl (rd_info m) ?_)|fail)
 refine(c.at _).mono ?_;rintro e w1 ⟨rfl,hb⟩
 go_wp2
 go_ret
 exact⟨rfl,((Below.refl _ _).alloc (Nat.le_refl _) _).trans (hb.mono (by simp))⟩
end Go.Proofs.YtdcpcdkbhgkmlaaDoor
namespace Go.Proofs.YtdcpcdkbhgkmlaaDoor
set_option maxRecDepth 100000
open Go Go.RowKit Go.Sort
theorem cut_at2 {P:Program} {md:Region.Mode} {ops:Array Oper} {Q:Exit→Act→World→Prop} {fuel:Nat} {listed:Array Bool} {a:Act} {w:World} (f2:Nat) (l2:Array Bool) (S:Nat→World→Prop) (a2:Nat→Value→Act)
 (h1:(∀g v W,S g W→wpAny P md ops Q f2 l2 (a2 g v) W)→wpAny P md ops Q fuel listed a w) (h2:∀g v W,S g W→wpAny P md ops Q f2 l2 (a2 g v) W):wpAny P md ops Q fuel listed a w:=h1 h2
theorem wp_world_op {P:Program} {o:Oper} {a:Act} {w:World} {K:Act→World→Prop} {Q:Exit→Act→World→Prop} (v:Value) (w':World) (hx:(execOp a.eval o).run P w=.ok (.value v) w') (h:K (a.put o.dst v) w'):o.wp P a w K Q:=by
 unfold Oper.wp;rw[hx,Oper.upon_value];exact h
end Go.Proofs.YtdcpcdkbhgkmlaaDoor
namespace Go.Proofs.YtdcpcdkbhgkmlaaDoor
set_option maxRecDepth 100000
open Go.RowKit Go.Sort
attribute [local go_sem] setCell_drewN alloc_drewN
theorem bval_n255:bval ((nl 255).set 0 (255-(21-1)))=57896044618658097711785492504343953926634992332820282019728792003956564819947:=by decide+kernel
set_option maxRecDepth 100000 in
set_option maxHeartbeats 2000000 in
theorem r_invert {m:Int} (h:inP m):Gives 46 #[.agg (rd m)] (.agg (rd (m^57896044618658097711785492504343953926634992332820282019728792003956564819947%prm))):=by
 generalize hq:m^57896044618658097711785492504343953926634992332820282019728792003956564819947%prm=q;have c4:=r_power h ((nl 255).set 0 (255-(21-1)));rw[bval_n255,hq] at c4;clear hq;intro w
 go_enter Tryd.func46,Tryd.ntmps46
 go_wp2
 have rp0:((w.alloc (.cells (rd m) 36)).alloc (.cells #[.int .u64 0,.int .u64 0,.int .u64 0,.int .u64 0,.int .u64 0,.int .u64 0,.int .u64 0,.int .u64 0,.int .u64 0,.int .u64 0,.int .u64 0,.int .u64 0,.int .u64 0,.int .u64 0,.int .u64 0,.int .u64 0] 36)).heap[w.heap.size]? =some (.cells (rd m) 36 (0,0)):=hp2_0 w _ _;have rp1:((w.alloc (.cells (rd m) 36)).alloc (.cells #[.int .u64 0,.int .u64 0,.int .u64 0,.int .u64 0,.int .u64 0,.int .u64 0,.int .u64 0,.int .u64 0,.int .u64 0,.int .u64 0,.int .u64 0,.int .u64 0,.int .u64 0,.int .u64 0,.int .u64 0,.int .u64 0] 36)).heap[w.heap.size+1]? =some (.cells #[.int .u64 0,.int .u64 0,.int .u64 0,.int .u64 0,.int .u64 0,.int .u64 0,.int .u64 0,.int .u64 0,.int .u64 0,.int .u64 0,.int .u64 0,.int .u64 0,.int .u64 0,.int .u64 0,.int .u64 0,.int .u64 0] 36 (0,0)):=hp2_1 w _ _
 have hw:Below w.heap.size w ((w.alloc (.cells (rd m) 36)).alloc (.cells #[.int .u64 0,.int .u64 0,.int .u64 0,.int .u64 0,.int .u64 0,.int .u64 0,.int .u64 0,.int .u64 0,.int .u64 0,.int .u64 0,.int .u64 0,.int .u64 0,.int .u64 0,.int .u64 0,.int .u64 0,.int .u64 0] 36)):=(((Below.refl _ _).alloc (Nat.le_refl _) _).alloc (by simp) _)
 generalize ((w.alloc (.cells (rd m) 36)).alloc (.cells #[.int .u64 0,.int .u64 0,.int .u64 0,.int .u64 0,.int .u64 0,.int .u64 0,.int .u64 0,.int .u64 0,.int .u64 0,.int .u64 0,.int .u64 0,.int .u64 0,.int .u64 0,.int .u64 0,.int .u64 0,.int .u64 0] 36))=w0 at *
 refine wp_region_any (by kernel_rfl) ?_
 have hb:Below w0.heap.size w0 {w0 with drawn:=w0.drawn+1}:=⟨rfl,rfl,rfl,Nat.le_refl _,fun _ _=>rfl⟩
 generalize ({w0 with drawn:=w0.drawn+1}:World)=w1 at *
 replace rp0:=keep hb rp0;replace rp1:=keep hb rp1;replace hw:=Below.after hw hb;clear hb
 refine wpAny_ready (rs:=[0,1]) (fuel:=3) (by kernel_rfl) (by simp) (AllReady.cons rfl (fun K' hK=>?_) (AllReady.cons rfl (fun K' hK=>?_) AllReady.nil))
 ·skip
  rw[if_pos (by kernel_rfl)]
  simp only[List.getElem_toArray,List.getElem_cons_zero];refine wp_load_row 36 _ rfl (w.heap.size) rfl 36 (rd m) (0,0) _ rp0 Tryd.underlying36 rfl (rd_info m) (hK _ _ ?_);simp only[Act.put,ZPd,ZPe,ZPf];clear hK
  refine wpAny_ready (rs:=[1]) (fuel:=2) (by kernel_rfl) (by simp) (AllReady.cons rfl (fun K' hK=>?_) AllReady.nil)
  rw[if_pos (by kernel_rfl)]
  simp only[List.getElem_toArray,List.getElem_cons_succ,List.getElem_cons_zero]
  refine wp_call_ex (f:=85) (args:=#[.int .i64 255,.int .i64 21]) (by kernel_rfl) (number_walk 255 21 (by decide) (by decide) (by decide) (by decide) w1) (fun v2 w2 ⟨hBv2,hb⟩=>hK _ _ ?_)
  simp only[Act.put,ZPd,ZPe,ZPf];clear hK;replace rp0:=keep hb rp0;replace rp1:=keep hb rp1;replace hw:=Below.after hw hb;clear hb
  refine wpAny_ready (rs:=[2]) (fuel:=1) (by kernel_rfl) (by simp) (AllReady.cons rfl (fun K' hK=>?_) AllReady.nil)
  rw[if_pos (by kernel_rfl)]
  simp only[List.getElem_toArray,List.getElem_cons_succ,List.getElem_cons_zero]
  refine wp_call_op (f:=84) (args:=#[.agg (rd m),v2]) (by kernel_rfl) (c4 _ _ hBv2) (fun w3 hb=>hK _ _ ?_)
  simp only[Act.put,ZPd,ZPe,ZPf];clear hK;replace rp0:=keep hb rp0;replace rp1:=keep hb rp1;replace hw:=Below.after hw hb;replace hBv2:=hBv2.keep hb;clear hb
  refine wpAny_ready (rs:=[3]) (fuel:=0) (by kernel_rfl) (by simp) (AllReady.cons rfl (fun K' hK=>?_) AllReady.nil)
  rw[if_pos (by kernel_rfl)]
  simp only[List.getElem_toArray,List.getElem_cons_succ,List.getElem_cons_zero];refine wp_store_row 36 _ _ rfl (w.heap.size+1) (rd q) rfl rfl 36 _ rp1 (rd_info q) ((rd_size 0).trans (rd_size q).symm) (rd_one q) (hK _ _ ?_);simp only[Act.put];clear hK
  replace rp0:=(setRow_other w3 (w.heap.size+1) (w.heap.size) (rd q) (by first|assumption|omega)).trans rp0
  replace rp1:=setRow_heap w3 (w.heap.size+1) _ (rd q) _ _ rp1
  replace hw:=below_setRow hw (show w.heap.size≤w.heap.size+1 by first|assumption|omega) (rd q)
  generalize w3.setRow (w.heap.size+1) (rd q)=w5 at *
  refine wpAny_done (by kernel_rfl) ?_ _
  go_wp2
  exact bodyPost_ret (v:=.agg (rd q)) (results_cell_row Tryd.results46 _ _ (w.heap.size+1) _ (rd q) _ _ rfl rp1 Tryd.underlying36 rfl (rd_info q)) rfl ⟨rfl,hw⟩
 ·skip
  rw[if_pos (by kernel_rfl)]
  simp only[List.getElem_toArray,List.getElem_cons_succ,List.getElem_cons_zero]
  refine wp_call_ex (f:=85) (args:=#[.int .i64 255,.int .i64 21]) (by kernel_rfl) (number_walk 255 21 (by decide) (by decide) (by decide) (by decide) w1) (fun v6 w6 ⟨hBv6,hb⟩=>hK _ _ ?_)
  simp only[Act.put,ZPd,ZPe,ZPf];clear hK;replace rp0:=keep hb rp0;replace rp1:=keep hb rp1;replace hw:=Below.after hw hb;clear hb
  refine wpAny_ready (rs:=[0]) (fuel:=2) (by kernel_rfl) (by simp) (AllReady.cons rfl (fun K' hK=>?_) AllReady.nil)
  rw[if_pos (by kernel_rfl)]
  simp only[List.getElem_toArray,List.getElem_cons_zero];refine wp_load_row 36 _ rfl (w.heap.size) rfl 36 (rd m) (0,0) _ rp0 Tryd.underlying36 rfl (rd_info m) (hK _ _ ?_);simp only[Act.put,ZPd,ZPe,ZPf];clear hK
  refine wpAny_ready (rs:=[2]) (fuel:=1) (by kernel_rfl) (by simp) (AllReady.cons rfl (fun K' hK=>?_) AllReady.nil)
  rw[if_pos (by kernel_rfl)]
  simp only[List.getElem_toArray,List.getElem_cons_succ,List.getElem_cons_zero]
  refine wp_call_op (f:=84) (args:=#[.agg (rd m),v6]) (by kernel_rfl) (c4 _ _ hBv6) (fun w7 hb=>hK _ _ ?_)
  simp only[Act.put,ZPd,ZPe,ZPf];clear hK;replace rp0:=keep hb rp0;replace rp1:=keep hb rp1;replace hw:=Below.after hw hb;replace hBv6:=hBv6.keep hb;clear hb
  refine wpAny_ready (rs:=[3]) (fuel:=0) (by kernel_rfl) (by simp) (AllReady.cons rfl (fun K' hK=>?_) AllReady.nil)
  rw[if_pos (by kernel_rfl)]
  simp only[List.getElem_toArray,List.getElem_cons_succ,List.getElem_cons_zero];refine wp_store_row 36 _ _ rfl (w.heap.size+1) (rd q) rfl rfl 36 _ rp1 (rd_info q) ((rd_size 0).trans (rd_size q).symm) (rd_one q) (hK _ _ ?_);simp only[Act.put];clear hK
  replace rp0:=(setRow_other w7 (w.heap.size+1) (w.heap.size) (rd q) (by first|assumption|omega)).trans rp0
  replace rp1:=setRow_heap w7 (w.heap.size+1) _ (rd q) _ _ rp1
  replace hw:=below_setRow hw (show w.heap.size≤w.heap.size+1 by first|assumption|omega) (rd q)
  generalize w7.setRow (w.heap.size+1) (rd q)=w8 at *
  refine wpAny_done (by kernel_rfl) ?_ _
  go_wp2
  exact bodyPost_ret (v:=.agg (rd q)) (results_cell_row Tryd.results46 _ _ (w.heap.size+1) _ (rd q) _ _ rfl rp1 Tryd.underlying36 rfl (rd_info q)) rfl ⟨rfl,hw⟩
end Go.Proofs.YtdcpcdkbhgkmlaaDoor
namespace Go.Proofs.YtdcpcdkbhgkmlaaDoor
set_option maxRecDepth 100000
open Go Go.RowKit Go.Sort
theorem bval_n252:bval ((nl 252).set 0 (255-(2-1)))=7237005577332262213973186563042994240829374041602535252466099000494570602494:=by decide+kernel
theorem bval_n253:bval ((nl 253).set 0 (255-(5-1)))=14474011154664524427946373126085988481658748083205070504932198000989141204987:=by decide+kernel
theorem in_two:inP 2:=by unfold inP prm;decide
theorem in_uu:inP uu:=by unfold inP prm uu;decide
theorem odd_dg (q:Int):(dg q 0%2==1)=decide (q%2=1):=by
 have e:dg q 0%2=q%2:=by
  simp only[dg,Int.pow_zero,Int.ediv_one];omega
 rw[e]
 by_cases h:q%2=1
 ·rw[decide_eq_true h,beq_iff_eq];exact h
 ·rw[decide_eq_false h,beq_eq_false_iff_ne];exact h
end Go.Proofs.YtdcpcdkbhgkmlaaDoor
