import Derived.Test.YtdcpcdkbhgkmlaaDoorProg
import Derived.WalkKit
import Derived.WalkSpells
import Derived.WalkLawsBesides
import Derived.Lib.QuietBelow
import Derived.BigQuiet
import Derived.Test.YtdcpcdkbhgkmlaaDoorEKa
import Derived.Test.YtdcpcdkbhgkmlaaDoorERp
namespace Go.Proofs.YtdcpcdkbhgkmlaaDoor
set_option maxRecDepth 100000
open Go.RowKit Go.Sort
attribute [local go_sem] setCell_drewN alloc_drewN
set_option maxRecDepth 100000 in
set_option maxHeartbeats 4000000 in
theorem refRoot_FTe {m:Int} (h:inP m) (h1e:m^7237005577332262213973186563042994240829374041602535252466099000494570602494*m^7237005577332262213973186563042994240829374041602535252466099000494570602494%prm≠m%prm) (h2e:m^7237005577332262213973186563042994240829374041602535252466099000494570602494*uu*(m^7237005577332262213973186563042994240829374041602535252466099000494570602494*uu)%prm=m%prm) (hoe:(m^7237005577332262213973186563042994240829374041602535252466099000494570602494*uu)%prm%2≠1):Gives 69 #[.agg (rd m)] (.tuple #[.agg (rd (ev (m^7237005577332262213973186563042994240829374041602535252466099000494570602494*uu)%prm)),.bool true]):=by
 have em:m%prm=m:=Int.emod_eq_of_lt h.1 h.2;have in2:inP 2:=in_two;have inu:inP uu:=in_uu;generalize hq0e:m^7237005577332262213973186563042994240829374041602535252466099000494570602494%prm=q0;have hq0:inP q0:=hq0e▸inP_mod _
 have h1q:q0*q0%prm≠m:=by rw[←hq0e,←Int.mul_emod];rw[em] at h1e;exact h1e
 generalize hq1e:q0*uu%prm=q1;have hq1:inP q1:=hq1e▸inP_mod _
 have hq1m:q1=m^7237005577332262213973186563042994240829374041602535252466099000494570602494*uu%prm:=by rw[←hq1e,←hq0e,Int.mul_emod,Int.emod_emod,←Int.mul_emod]
 have h2q:q1*q1%prm=m:=by rw[hq1m,←Int.mul_emod];rw[em] at h2e;exact h2e
 have hqx:(m^7237005577332262213973186563042994240829374041602535252466099000494570602494*uu)%prm=q1:=hq1m.symm;rw[hqx] at hoe
 have hodd:(dg q1 0%2==1)=false:=by rw[odd_dg,decide_eq_false hoe]
 have hev:ev (m^7237005577332262213973186563042994240829374041602535252466099000494570602494*uu)%prm=q1:=by
  unfold ev;rw[hqx,if_neg hoe];exact hqx
 rw[hev];have c4:=r_power h ((nl 252).set 0 (255-(2-1)));rw[bval_n252] at c4;rw[hq0e] at c4;have c33:=r_square hq0;have c34:=r_equal (inP_mod (q0*q0)) h;rw[decide_eq_false h1q] at c34
 have c37:=r_small 2 (by decide) (by decide)
 have c40:=r_power in2 ((nl 253).set 0 (255-(5-1)));rw[bval_n253,uu_pow] at c40;have c42:=r_mul hq0 inu;rw[hq1e] at c42;have c45:=r_square hq1;have c46:=r_equal (inP_mod (q1*q1)) h;rw[decide_eq_true h2q] at c46;have c47:=r_odd q1;rw[hodd] at c47;intro w;clear h1e h1q h2e h2q hq1m hoe hodd hev hqx em
 go_enter Tryd.func69,Tryd.ntmps69
 go_wp2
 have rp0:((w.alloc (.cells (rd m) 36)).alloc (.cells #[.int .u64 0,.int .u64 0,.int .u64 0,.int .u64 0,.int .u64 0,.int .u64 0,.int .u64 0,.int .u64 0,.int .u64 0,.int .u64 0,.int .u64 0,.int .u64 0,.int .u64 0,.int .u64 0,.int .u64 0,.int .u64 0] 36)).heap[w.heap.size]? =some (.cells (rd m) 36 (0,0)):=hp2_0 w _ _;have rp1:((w.alloc (.cells (rd m) 36)).alloc (.cells #[.int .u64 0,.int .u64 0,.int .u64 0,.int .u64 0,.int .u64 0,.int .u64 0,.int .u64 0,.int .u64 0,.int .u64 0,.int .u64 0,.int .u64 0,.int .u64 0,.int .u64 0,.int .u64 0,.int .u64 0,.int .u64 0] 36)).heap[w.heap.size+1]? =some (.cells #[.int .u64 0,.int .u64 0,.int .u64 0,.int .u64 0,.int .u64 0,.int .u64 0,.int .u64 0,.int .u64 0,.int .u64 0,.int .u64 0,.int .u64 0,.int .u64 0,.int .u64 0,.int .u64 0,.int .u64 0,.int .u64 0] 36 (0,0)):=hp2_1 w _ _
 have hw:Below w.heap.size w ((w.alloc (.cells (rd m) 36)).alloc (.cells #[.int .u64 0,.int .u64 0,.int .u64 0,.int .u64 0,.int .u64 0,.int .u64 0,.int .u64 0,.int .u64 0,.int .u64 0,.int .u64 0,.int .u64 0,.int .u64 0,.int .u64 0,.int .u64 0,.int .u64 0,.int .u64 0] 36)):=(((Below.refl _ _).alloc (Nat.le_refl _) _).alloc (by simp) _)
 generalize ((w.alloc (.cells (rd m) 36)).alloc (.cells #[.int .u64 0,.int .u64 0,.int .u64 0,.int .u64 0,.int .u64 0,.int .u64 0,.int .u64 0,.int .u64 0,.int .u64 0,.int .u64 0,.int .u64 0,.int .u64 0,.int .u64 0,.int .u64 0,.int .u64 0,.int .u64 0] 36))=w0 at *
 refine wp_region_any (by kernel_rfl) ?_
 have hb:Below w0.heap.size w0 {w0 with drawn:=w0.drawn+1}:=⟨rfl,rfl,rfl,Nat.le_refl _,fun _ _=>rfl⟩
 generalize ({w0 with drawn:=w0.drawn+1}:World)=w1 at *
 replace rp0:=keep hb rp0;replace rp1:=keep hb rp1;replace hw:=Below.after hw hb;clear hb
 apply cut_at2 0 #[true,true,true,true,true] (fun g W=>w.heap.size+1<g∧W.heap[w.heap.size]? =some (.cells (rd m) 36 (0,0))∧W.heap[w.heap.size+1]? =some (.cells #[.int .u64 0,.int .u64 0,.int .u64 0,.int .u64 0,.int .u64 0,.int .u64 0,.int .u64 0,.int .u64 0,.int .u64 0,.int .u64 0,.int .u64 0,.int .u64 0,.int .u64 0,.int .u64 0,.int .u64 0,.int .u64 0] 36 (0,0))∧W.heap[g]? =some (.cells (rd q0) 36 (0,0))∧Below w.heap.size w W)
 ·intro key
  refine wpAny_ready (rs:=[0,1,3]) (fuel:=4) (by kernel_rfl) (by simp) (AllReady.cons rfl (fun K' hK=>?_) (AllReady.cons rfl (fun K' hK=>?_) (AllReady.cons rfl (fun K' hK=>?_) AllReady.nil)))
  ·skip
   rw[if_pos (by kernel_rfl)]
   simp only[List.getElem_toArray,List.getElem_cons_zero];refine wp_load_row 36 _ rfl (w.heap.size) rfl 36 (rd m) (0,0) _ rp0 Tryd.underlying36 rfl (rd_info m) (hK _ _ ?_);simp only[Act.put,ZPd,ZPe,ZPf];clear hK
   refine wpAny_ready (rs:=[1,3]) (fuel:=3) (by kernel_rfl) (by simp) (AllReady.cons rfl (fun K' hK=>?_) (AllReady.cons rfl (fun K' hK=>?_) AllReady.nil))
   ·skip
    rw[if_pos (by kernel_rfl)]
    simp only[List.getElem_toArray,List.getElem_cons_succ,List.getElem_cons_zero]
    refine wp_call_ex (f:=85) (args:=#[.int .i64 252,.int .i64 2]) (by kernel_rfl) (number_walk 252 2 (by decide) (by decide) (by decide) (by decide) w1) (fun v2 w2 ⟨hBv2,hb⟩=>hK _ _ ?_)
    simp only[Act.put,ZPd,ZPe,ZPf];clear hK;replace rp0:=keep hb rp0;replace rp1:=keep hb rp1;replace hw:=Below.after hw hb;clear hb
    refine wpAny_ready (rs:=[2,3]) (fuel:=2) (by kernel_rfl) (by simp) (AllReady.cons rfl (fun K' hK=>?_) (AllReady.cons rfl (fun K' hK=>?_) AllReady.nil))
    ·skip
     rw[if_pos (by kernel_rfl)]
     simp only[List.getElem_toArray,List.getElem_cons_succ,List.getElem_cons_zero]
     refine wp_call_op (f:=84) (args:=#[.agg (rd m),v2]) (by kernel_rfl) (c4 _ _ hBv2) (fun w3 hb=>hK _ _ ?_)
     simp only[Act.put,ZPd,ZPe,ZPf];clear hK;replace rp0:=keep hb rp0;replace rp1:=keep hb rp1;replace hw:=Below.after hw hb;replace hBv2:=hBv2.keep hb;clear hb
     refine wpAny_ready (rs:=[3]) (fuel:=1) (by kernel_rfl) (by simp) (AllReady.cons rfl (fun K' hK=>?_) AllReady.nil)
     rw[if_pos (by kernel_rfl)]
     simp only[List.getElem_toArray,List.getElem_cons_succ,List.getElem_cons_zero]
     refine wp_world_op (.pointer (some ⟨w3.heap.size,0,none⟩)) (w3.alloc (.cells #[.int .u64 0,.int .u64 0,.int .u64 0,.int .u64 0,.int .u64 0,.int .u64 0,.int .u64 0,.int .u64 0,.int .u64 0,.int .u64 0,.int .u64 0,.int .u64 0,.int .u64 0,.int .u64 0,.int .u64 0,.int .u64 0] 36)) (by kernel_rfl) (hK _ _ ?_)
     simp only[Act.put,ZPd,ZPe,ZPf];clear hK;have rg5:(w3.alloc (.cells #[.int .u64 0,.int .u64 0,.int .u64 0,.int .u64 0,.int .u64 0,.int .u64 0,.int .u64 0,.int .u64 0,.int .u64 0,.int .u64 0,.int .u64 0,.int .u64 0,.int .u64 0,.int .u64 0,.int .u64 0,.int .u64 0] 36)).heap[w3.heap.size]? =some (.cells #[.int .u64 0,.int .u64 0,.int .u64 0,.int .u64 0,.int .u64 0,.int .u64 0,.int .u64 0,.int .u64 0,.int .u64 0,.int .u64 0,.int .u64 0,.int .u64 0,.int .u64 0,.int .u64 0,.int .u64 0,.int .u64 0] 36 (0,0)):=hp1_0 w3 _;have hb:Below w3.heap.size w3 (w3.alloc (.cells #[.int .u64 0,.int .u64 0,.int .u64 0,.int .u64 0,.int .u64 0,.int .u64 0,.int .u64 0,.int .u64 0,.int .u64 0,.int .u64 0,.int .u64 0,.int .u64 0,.int .u64 0,.int .u64 0,.int .u64 0,.int .u64 0] 36)):=(Below.refl _ _).alloc (Nat.le_refl _) _
     generalize (w3.alloc (.cells #[.int .u64 0,.int .u64 0,.int .u64 0,.int .u64 0,.int .u64 0,.int .u64 0,.int .u64 0,.int .u64 0,.int .u64 0,.int .u64 0,.int .u64 0,.int .u64 0,.int .u64 0,.int .u64 0,.int .u64 0,.int .u64 0] 36))=w5 at *
     have ltg5:=lt_of_row rp1;have yg5:=hw.size;replace rp0:=keep hb rp0;replace rp1:=keep hb rp1;replace hw:=Below.after hw hb;replace hBv2:=hBv2.keep hb;clear hb
     generalize w3.heap.size=g5 at *
     refine wpAny_ready (rs:=[4]) (fuel:=0) (by kernel_rfl) (by simp) (AllReady.cons rfl (fun K' hK=>?_) AllReady.nil)
     rw[if_pos (by kernel_rfl)]
     simp only[List.getElem_toArray,List.getElem_cons_succ,List.getElem_cons_zero];refine wp_store_row 36 _ _ rfl (g5) (rd q0) rfl rfl 36 _ rg5 (rd_info q0) ((rd_size 0).trans (rd_size q0).symm) (rd_one q0) (hK _ _ ?_);simp only[Act.put];clear hK
     replace rp0:=(setRow_other w5 (g5) (w.heap.size) (rd q0) (by first|assumption|omega)).trans rp0
     replace rp1:=(setRow_other w5 (g5) (w.heap.size+1) (rd q0) (by first|assumption|omega)).trans rp1
     replace rg5:=setRow_heap w5 (g5) _ (rd q0) _ _ rg5
     replace hw:=below_setRow hw (show w.heap.size≤g5 by first|assumption|omega) (rd q0)
     generalize w5.setRow (g5) (rd q0)=w6 at *
     exact cut_to (key g5 v2 _ ⟨ltg5,rp0,rp1,rg5,hw⟩) (by kernel_rfl)
    ·skip
     rw[if_pos (by kernel_rfl)]
     simp only[List.getElem_toArray,List.getElem_cons_succ,List.getElem_cons_zero]
     refine wp_world_op (.pointer (some ⟨w2.heap.size,0,none⟩)) (w2.alloc (.cells #[.int .u64 0,.int .u64 0,.int .u64 0,.int .u64 0,.int .u64 0,.int .u64 0,.int .u64 0,.int .u64 0,.int .u64 0,.int .u64 0,.int .u64 0,.int .u64 0,.int .u64 0,.int .u64 0,.int .u64 0,.int .u64 0] 36)) (by kernel_rfl) (hK _ _ ?_)
     simp only[Act.put,ZPd,ZPe,ZPf];clear hK;have rg7:(w2.alloc (.cells #[.int .u64 0,.int .u64 0,.int .u64 0,.int .u64 0,.int .u64 0,.int .u64 0,.int .u64 0,.int .u64 0,.int .u64 0,.int .u64 0,.int .u64 0,.int .u64 0,.int .u64 0,.int .u64 0,.int .u64 0,.int .u64 0] 36)).heap[w2.heap.size]? =some (.cells #[.int .u64 0,.int .u64 0,.int .u64 0,.int .u64 0,.int .u64 0,.int .u64 0,.int .u64 0,.int .u64 0,.int .u64 0,.int .u64 0,.int .u64 0,.int .u64 0,.int .u64 0,.int .u64 0,.int .u64 0,.int .u64 0] 36 (0,0)):=hp1_0 w2 _;have hb:Below w2.heap.size w2 (w2.alloc (.cells #[.int .u64 0,.int .u64 0,.int .u64 0,.int .u64 0,.int .u64 0,.int .u64 0,.int .u64 0,.int .u64 0,.int .u64 0,.int .u64 0,.int .u64 0,.int .u64 0,.int .u64 0,.int .u64 0,.int .u64 0,.int .u64 0] 36)):=(Below.refl _ _).alloc (Nat.le_refl _) _
     generalize (w2.alloc (.cells #[.int .u64 0,.int .u64 0,.int .u64 0,.int .u64 0,.int .u64 0,.int .u64 0,.int .u64 0,.int .u64 0,.int .u64 0,.int .u64 0,.int .u64 0,.int .u64 0,.int .u64 0,.int .u64 0,.int .u64 0,.int .u64 0] 36))=w7 at *
     have ltg7:=lt_of_row rp1;have yg7:=hw.size;replace rp0:=keep hb rp0;replace rp1:=keep hb rp1;replace hw:=Below.after hw hb;replace hBv2:=hBv2.keep hb;clear hb
     generalize w2.heap.size=g7 at *
     refine wpAny_ready (rs:=[2]) (fuel:=1) (by kernel_rfl) (by simp) (AllReady.cons rfl (fun K' hK=>?_) AllReady.nil)
     rw[if_pos (by kernel_rfl)]
     simp only[List.getElem_toArray,List.getElem_cons_succ,List.getElem_cons_zero]
     refine wp_call_op (f:=84) (args:=#[.agg (rd m),v2]) (by kernel_rfl) (c4 _ _ hBv2) (fun w8 hb=>hK _ _ ?_)
     simp only[Act.put,ZPd,ZPe,ZPf];clear hK;replace rp0:=keep hb rp0;replace rp1:=keep hb rp1;replace rg7:=keep hb rg7;replace hw:=Below.after hw hb;replace hBv2:=hBv2.keep hb;clear hb
     refine wpAny_ready (rs:=[4]) (fuel:=0) (by kernel_rfl) (by simp) (AllReady.cons rfl (fun K' hK=>?_) AllReady.nil)
     rw[if_pos (by kernel_rfl)]
     simp only[List.getElem_toArray,List.getElem_cons_succ,List.getElem_cons_zero];refine wp_store_row 36 _ _ rfl (g7) (rd q0) rfl rfl 36 _ rg7 (rd_info q0) ((rd_size 0).trans (rd_size q0).symm) (rd_one q0) (hK _ _ ?_);simp only[Act.put];clear hK
     replace rp0:=(setRow_other w8 (g7) (w.heap.size) (rd q0) (by first|assumption|omega)).trans rp0
     replace rp1:=(setRow_other w8 (g7) (w.heap.size+1) (rd q0) (by first|assumption|omega)).trans rp1
     replace rg7:=setRow_heap w8 (g7) _ (rd q0) _ _ rg7
     replace hw:=below_setRow hw (show w.heap.size≤g7 by first|assumption|omega) (rd q0)
     generalize w8.setRow (g7) (rd q0)=w9 at *
     exact cut_to (key g7 v2 _ ⟨ltg7,rp0,rp1,rg7,hw⟩) (by kernel_rfl)
   ·skip
    rw[if_pos (by kernel_rfl)]
    simp only[List.getElem_toArray,List.getElem_cons_succ,List.getElem_cons_zero]
    refine wp_world_op (.pointer (some ⟨w1.heap.size,0,none⟩)) (w1.alloc (.cells #[.int .u64 0,.int .u64 0,.int .u64 0,.int .u64 0,.int .u64 0,.int .u64 0,.int .u64 0,.int .u64 0,.int .u64 0,.int .u64 0,.int .u64 0,.int .u64 0,.int .u64 0,.int .u64 0,.int .u64 0,.int .u64 0] 36)) (by kernel_rfl) (hK _ _ ?_)
    simp only[Act.put,ZPd,ZPe,ZPf];clear hK;have rg10:(w1.alloc (.cells #[.int .u64 0,.int .u64 0,.int .u64 0,.int .u64 0,.int .u64 0,.int .u64 0,.int .u64 0,.int .u64 0,.int .u64 0,.int .u64 0,.int .u64 0,.int .u64 0,.int .u64 0,.int .u64 0,.int .u64 0,.int .u64 0] 36)).heap[w1.heap.size]? =some (.cells #[.int .u64 0,.int .u64 0,.int .u64 0,.int .u64 0,.int .u64 0,.int .u64 0,.int .u64 0,.int .u64 0,.int .u64 0,.int .u64 0,.int .u64 0,.int .u64 0,.int .u64 0,.int .u64 0,.int .u64 0,.int .u64 0] 36 (0,0)):=hp1_0 w1 _;have hb:Below w1.heap.size w1 (w1.alloc (.cells #[.int .u64 0,.int .u64 0,.int .u64 0,.int .u64 0,.int .u64 0,.int .u64 0,.int .u64 0,.int .u64 0,.int .u64 0,.int .u64 0,.int .u64 0,.int .u64 0,.int .u64 0,.int .u64 0,.int .u64 0,.int .u64 0] 36)):=(Below.refl _ _).alloc (Nat.le_refl _) _
    generalize (w1.alloc (.cells #[.int .u64 0,.int .u64 0,.int .u64 0,.int .u64 0,.int .u64 0,.int .u64 0,.int .u64 0,.int .u64 0,.int .u64 0,.int .u64 0,.int .u64 0,.int .u64 0,.int .u64 0,.int .u64 0,.int .u64 0,.int .u64 0] 36))=w10 at *
    have ltg10:=lt_of_row rp1;have yg10:=hw.size;replace rp0:=keep hb rp0;replace rp1:=keep hb rp1;replace hw:=Below.after hw hb;clear hb
    generalize w1.heap.size=g10 at *
    refine wpAny_ready (rs:=[1]) (fuel:=2) (by kernel_rfl) (by simp) (AllReady.cons rfl (fun K' hK=>?_) AllReady.nil)
    rw[if_pos (by kernel_rfl)]
    simp only[List.getElem_toArray,List.getElem_cons_succ,List.getElem_cons_zero]
    refine wp_call_ex (f:=85) (args:=#[.int .i64 252,.int .i64 2]) (by kernel_rfl) (number_walk 252 2 (by decide) (by decide) (by decide) (by decide) w10) (fun v11 w11 ⟨hBv11,hb⟩=>hK _ _ ?_)
    simp only[Act.put,ZPd,ZPe,ZPf];clear hK;replace rp0:=keep hb rp0;replace rp1:=keep hb rp1;replace rg10:=keep hb rg10;replace hw:=Below.after hw hb;clear hb
    refine wpAny_ready (rs:=[2]) (fuel:=1) (by kernel_rfl) (by simp) (AllReady.cons rfl (fun K' hK=>?_) AllReady.nil)
    rw[if_pos (by kernel_rfl)]
    simp only[List.getElem_toArray,List.getElem_cons_succ,List.getElem_cons_zero]
    refine wp_call_op (f:=84) (args:=#[.agg (rd m),v11]) (by kernel_rfl) (c4 _ _ hBv11) (fun w12 hb=>hK _ _ ?_)
    simp only[Act.put,ZPd,ZPe,ZPf];clear hK;replace rp0:=keep hb rp0;replace rp1:=keep hb rp1;replace rg10:=keep hb rg10;replace hw:=Below.after hw hb;replace hBv11:=hBv11.keep hb;clear hb
    refine wpAny_ready (rs:=[4]) (fuel:=0) (by kernel_rfl) (by simp) (AllReady.cons rfl (fun K' hK=>?_) AllReady.nil)
    rw[if_pos (by kernel_rfl)]
    simp only[List.getElem_toArray,List.getElem_cons_succ,List.getElem_cons_zero];refine wp_store_row 36 _ _ rfl (g10) (rd q0) rfl rfl 36 _ rg10 (rd_info q0) ((rd_size 0).trans (rd_size q0).symm) (rd_one q0) (hK _ _ ?_);simp only[Act.put];clear hK
    replace rp0:=(setRow_other w12 (g10) (w.heap.size) (rd q0) (by first|assumption|omega)).trans rp0
    replace rp1:=(setRow_other w12 (g10) (w.heap.size+1) (rd q0) (by first|assumption|omega)).trans rp1
    replace rg10:=setRow_heap w12 (g10) _ (rd q0) _ _ rg10
    replace hw:=below_setRow hw (show w.heap.size≤g10 by first|assumption|omega) (rd q0)
    generalize w12.setRow (g10) (rd q0)=w13 at *
    exact cut_to (key g10 v11 _ ⟨ltg10,rp0,rp1,rg10,hw⟩) (by kernel_rfl)
  ·skip
   rw[if_pos (by kernel_rfl)]
   simp only[List.getElem_toArray,List.getElem_cons_succ,List.getElem_cons_zero]
   refine wp_call_ex (f:=85) (args:=#[.int .i64 252,.int .i64 2]) (by kernel_rfl) (number_walk 252 2 (by decide) (by decide) (by decide) (by decide) w1) (fun v14 w14 ⟨hBv14,hb⟩=>hK _ _ ?_)
   simp only[Act.put,ZPd,ZPe,ZPf];clear hK;replace rp0:=keep hb rp0;replace rp1:=keep hb rp1;replace hw:=Below.after hw hb;clear hb
   refine wpAny_ready (rs:=[0,3]) (fuel:=3) (by kernel_rfl) (by simp) (AllReady.cons rfl (fun K' hK=>?_) (AllReady.cons rfl (fun K' hK=>?_) AllReady.nil))
   ·skip
    rw[if_pos (by kernel_rfl)]
    simp only[List.getElem_toArray,List.getElem_cons_zero];refine wp_load_row 36 _ rfl (w.heap.size) rfl 36 (rd m) (0,0) _ rp0 Tryd.underlying36 rfl (rd_info m) (hK _ _ ?_);simp only[Act.put,ZPd,ZPe,ZPf];clear hK
    refine wpAny_ready (rs:=[2,3]) (fuel:=2) (by kernel_rfl) (by simp) (AllReady.cons rfl (fun K' hK=>?_) (AllReady.cons rfl (fun K' hK=>?_) AllReady.nil))
    ·skip
     rw[if_pos (by kernel_rfl)]
     simp only[List.getElem_toArray,List.getElem_cons_succ,List.getElem_cons_zero]
     refine wp_call_op (f:=84) (args:=#[.agg (rd m),v14]) (by kernel_rfl) (c4 _ _ hBv14) (fun w15 hb=>hK _ _ ?_)
     simp only[Act.put,ZPd,ZPe,ZPf];clear hK;replace rp0:=keep hb rp0;replace rp1:=keep hb rp1;replace hw:=Below.after hw hb;replace hBv14:=hBv14.keep hb;clear hb
     refine wpAny_ready (rs:=[3]) (fuel:=1) (by kernel_rfl) (by simp) (AllReady.cons rfl (fun K' hK=>?_) AllReady.nil)
     rw[if_pos (by kernel_rfl)]
     simp only[List.getElem_toArray,List.getElem_cons_succ,List.getElem_cons_zero]
     refine wp_world_op (.pointer (some ⟨w15.heap.size,0,none⟩)) (w15.alloc (.cells #[.int .u64 0,.int .u64 0,.int .u64 0,.int .u64 0,.int .u64 0,.int .u64 0,.int .u64 0,.int .u64 0,.int .u64 0,.int .u64 0,.int .u64 0,.int .u64 0,.int .u64 0,.int .u64 0,.int .u64 0,.int .u64 0] 36)) (by kernel_rfl) (hK _ _ ?_)
     simp only[Act.put,ZPd,ZPe,ZPf];clear hK;have rg16:(w15.alloc (.cells #[.int .u64 0,.int .u64 0,.int .u64 0,.int .u64 0,.int .u64 0,.int .u64 0,.int .u64 0,.int .u64 0,.int .u64 0,.int .u64 0,.int .u64 0,.int .u64 0,.int .u64 0,.int .u64 0,.int .u64 0,.int .u64 0] 36)).heap[w15.heap.size]? =some (.cells #[.int .u64 0,.int .u64 0,.int .u64 0,.int .u64 0,.int .u64 0,.int .u64 0,.int .u64 0,.int .u64 0,.int .u64 0,.int .u64 0,.int .u64 0,.int .u64 0,.int .u64 0,.int .u64 0,.int .u64 0,.int .u64 0] 36 (0,0)):=hp1_0 w15 _;have hb:Below w15.heap.size w15 (w15.alloc (.cells #[.int .u64 0,.int .u64 0,.int .u64 0,.int .u64 0,.int .u64 0,.int .u64 0,.int .u64 0,.int .u64 0,.int .u64 0,.int .u64 0,.int .u64 0,.int .u64 0,.int .u64 0,.int .u64 0,.int .u64 0,.int .u64 0] 36)):=(Below.refl _ _).alloc (Nat.le_refl _) _
     generalize (w15.alloc (.cells #[.int .u64 0,.int .u64 0,.int .u64 0,.int .u64 0,.int .u64 0,.int .u64 0,.int .u64 0,.int .u64 0,.int .u64 0,.int .u64 0,.int .u64 0,.int .u64 0,.int .u64 0,.int .u64 0,.int .u64 0,.int .u64 0] 36))=w16 at *
     have ltg16:=lt_of_row rp1;have yg16:=hw.size;replace rp0:=keep hb rp0;replace rp1:=keep hb rp1;replace hw:=Below.after hw hb;replace hBv14:=hBv14.keep hb;clear hb
     generalize w15.heap.size=g16 at *
     refine wpAny_ready (rs:=[4]) (fuel:=0) (by kernel_rfl) (by simp) (AllReady.cons rfl (fun K' hK=>?_) AllReady.nil)
     rw[if_pos (by kernel_rfl)]
     simp only[List.getElem_toArray,List.getElem_cons_succ,List.getElem_cons_zero];refine wp_store_row 36 _ _ rfl (g16) (rd q0) rfl rfl 36 _ rg16 (rd_info q0) ((rd_size 0).trans (rd_size q0).symm) (rd_one q0) (hK _ _ ?_);simp only[Act.put];clear hK
     replace rp0:=(setRow_other w16 (g16) (w.heap.size) (rd q0) (by first|assumption|omega)).trans rp0
     replace rp1:=(setRow_other w16 (g16) (w.heap.size+1) (rd q0) (by first|assumption|omega)).trans rp1
     replace rg16:=setRow_heap w16 (g16) _ (rd q0) _ _ rg16
     replace hw:=below_setRow hw (show w.heap.size≤g16 by first|assumption|omega) (rd q0)
     generalize w16.setRow (g16) (rd q0)=w17 at *
     exact cut_to (key g16 v14 _ ⟨ltg16,rp0,rp1,rg16,hw⟩) (by kernel_rfl)
    ·skip
     rw[if_pos (by kernel_rfl)]
     simp only[List.getElem_toArray,List.getElem_cons_succ,List.getElem_cons_zero]
     refine wp_world_op (.pointer (some ⟨w14.heap.size,0,none⟩)) (w14.alloc (.cells #[.int .u64 0,.int .u64 0,.int .u64 0,.int .u64 0,.int .u64 0,.int .u64 0,.int .u64 0,.int .u64 0,.int .u64 0,.int .u64 0,.int .u64 0,.int .u64 0,.int .u64 0,.int .u64 0,.int .u64 0,.int .u64 0] 36)) (by kernel_rfl) (hK _ _ ?_)
     simp only[Act.put,ZPd,ZPe,ZPf];clear hK;have rg18:(w14.alloc (.cells #[.int .u64 0,.int .u64 0,.int .u64 0,.int .u64 0,.int .u64 0,.int .u64 0,.int .u64 0,.int .u64 0,.int .u64 0,.int .u64 0,.int .u64 0,.int .u64 0,.int .u64 0,.int .u64 0,.int .u64 0,.int .u64 0] 36)).heap[w14.heap.size]? =some (.cells #[.int .u64 0,.int .u64 0,.int .u64 0,.int .u64 0,.int .u64 0,.int .u64 0,.int .u64 0,.int .u64 0,.int .u64 0,.int .u64 0,.int .u64 0,.int .u64 0,.int .u64 0,.int .u64 0,.int .u64 0,.int .u64 0] 36 (0,0)):=hp1_0 w14 _;have hb:Below w14.heap.size w14 (w14.alloc (.cells #[.int .u64 0,.int .u64 0,.int .u64 0,.int .u64 0,.int .u64 0,.int .u64 0,.int .u64 0,.int .u64 0,.int .u64 0,.int .u64 0,.int .u64 0,.int .u64 0,.int .u64 0,.int .u64 0,.int .u64 0,.int .u64 0] 36)):=(Below.refl _ _).alloc (Nat.le_refl _) _
     generalize (w14.alloc (.cells #[.int .u64 0,.int .u64 0,.int .u64 0,.int .u64 0,.int .u64 0,.int .u64 0,.int .u64 0,.int .u64 0,.int .u64 0,.int .u64 0,.int .u64 0,.int .u64 0,.int .u64 0,.int .u64 0,.int .u64 0,.int .u64 0] 36))=w18 at *
     have ltg18:=lt_of_row rp1;have yg18:=hw.size;replace rp0:=keep hb rp0;replace rp1:=keep hb rp1;replace hw:=Below.after hw hb;replace hBv14:=hBv14.keep hb;clear hb
     generalize w14.heap.size=g18 at *
     refine wpAny_ready (rs:=[2]) (fuel:=1) (by kernel_rfl) (by simp) (AllReady.cons rfl (fun K' hK=>?_) AllReady.nil)
     rw[if_pos (by kernel_rfl)]
     simp only[List.getElem_toArray,List.getElem_cons_succ,List.getElem_cons_zero]
     refine wp_call_op (f:=84) (args:=#[.agg (rd m),v14]) (by kernel_rfl) (c4 _ _ hBv14) (fun w19 hb=>hK _ _ ?_)
     simp only[Act.put,ZPd,ZPe,ZPf];clear hK;replace rp0:=keep hb rp0;replace rp1:=keep hb rp1;replace rg18:=keep hb rg18;replace hw:=Below.after hw hb;replace hBv14:=hBv14.keep hb;clear hb
     refine wpAny_ready (rs:=[4]) (fuel:=0) (by kernel_rfl) (by simp) (AllReady.cons rfl (fun K' hK=>?_) AllReady.nil)
     rw[if_pos (by kernel_rfl)]
     simp only[List.getElem_toArray,List.getElem_cons_succ,List.getElem_cons_zero];refine wp_store_row 36 _ _ rfl (g18) (rd q0) rfl rfl 36 _ rg18 (rd_info q0) ((rd_size 0).trans (rd_size q0).symm) (rd_one q0) (hK _ _ ?_);simp only[Act.put];clear hK
     replace rp0:=(setRow_other w19 (g18) (w.heap.size) (rd q0) (by first|assumption|omega)).trans rp0
     replace rp1:=(setRow_other w19 (g18) (w.heap.size+1) (rd q0) (by first|assumption|omega)).trans rp1
     replace rg18:=setRow_heap w19 (g18) _ (rd q0) _ _ rg18
     replace hw:=below_setRow hw (show w.heap.size≤g18 by first|assumption|omega) (rd q0)
     generalize w19.setRow (g18) (rd q0)=w20 at *
     exact cut_to (key g18 v14 _ ⟨ltg18,rp0,rp1,rg18,hw⟩) (by kernel_rfl)
   ·skip
    rw[if_pos (by kernel_rfl)]
    simp only[List.getElem_toArray,List.getElem_cons_succ,List.getElem_cons_zero]
    refine wp_world_op (.pointer (some ⟨w14.heap.size,0,none⟩)) (w14.alloc (.cells #[.int .u64 0,.int .u64 0,.int .u64 0,.int .u64 0,.int .u64 0,.int .u64 0,.int .u64 0,.int .u64 0,.int .u64 0,.int .u64 0,.int .u64 0,.int .u64 0,.int .u64 0,.int .u64 0,.int .u64 0,.int .u64 0] 36)) (by kernel_rfl) (hK _ _ ?_)
    simp only[Act.put,ZPd,ZPe,ZPf];clear hK;have rg21:(w14.alloc (.cells #[.int .u64 0,.int .u64 0,.int .u64 0,.int .u64 0,.int .u64 0,.int .u64 0,.int .u64 0,.int .u64 0,.int .u64 0,.int .u64 0,.int .u64 0,.int .u64 0,.int .u64 0,.int .u64 0,.int .u64 0,.int .u64 0] 36)).heap[w14.heap.size]? =some (.cells #[.int .u64 0,.int .u64 0,.int .u64 0,.int .u64 0,.int .u64 0,.int .u64 0,.int .u64 0,.int .u64 0,.int .u64 0,.int .u64 0,.int .u64 0,.int .u64 0,.int .u64 0,.int .u64 0,.int .u64 0,.int .u64 0] 36 (0,0)):=hp1_0 w14 _;have hb:Below w14.heap.size w14 (w14.alloc (.cells #[.int .u64 0,.int .u64 0,.int .u64 0,.int .u64 0,.int .u64 0,.int .u64 0,.int .u64 0,.int .u64 0,.int .u64 0,.int .u64 0,.int .u64 0,.int .u64 0,.int .u64 0,.int .u64 0,.int .u64 0,.int .u64 0] 36)):=(Below.refl _ _).alloc (Nat.le_refl _) _
    generalize (w14.alloc (.cells #[.int .u64 0,.int .u64 0,.int .u64 0,.int .u64 0,.int .u64 0,.int .u64 0,.int .u64 0,.int .u64 0,.int .u64 0,.int .u64 0,.int .u64 0,.int .u64 0,.int .u64 0,.int .u64 0,.int .u64 0,.int .u64 0] 36))=w21 at *
    have ltg21:=lt_of_row rp1;have yg21:=hw.size;replace rp0:=keep hb rp0;replace rp1:=keep hb rp1;replace hw:=Below.after hw hb;replace hBv14:=hBv14.keep hb;clear hb
    generalize w14.heap.size=g21 at *
    refine wpAny_ready (rs:=[0]) (fuel:=2) (by kernel_rfl) (by simp) (AllReady.cons rfl (fun K' hK=>?_) AllReady.nil)
    rw[if_pos (by kernel_rfl)]
    simp only[List.getElem_toArray,List.getElem_cons_zero];refine wp_load_row 36 _ rfl (w.heap.size) rfl 36 (rd m) (0,0) _ rp0 Tryd.underlying36 rfl (rd_info m) (hK _ _ ?_);simp only[Act.put,ZPd,ZPe,ZPf];clear hK
    refine wpAny_ready (rs:=[2]) (fuel:=1) (by kernel_rfl) (by simp) (AllReady.cons rfl (fun K' hK=>?_) AllReady.nil)
    rw[if_pos (by kernel_rfl)]
    simp only[List.getElem_toArray,List.getElem_cons_succ,List.getElem_cons_zero]
    refine wp_call_op (f:=84) (args:=#[.agg (rd m),v14]) (by kernel_rfl) (c4 _ _ hBv14) (fun w22 hb=>hK _ _ ?_)
    simp only[Act.put,ZPd,ZPe,ZPf];clear hK;replace rp0:=keep hb rp0;replace rp1:=keep hb rp1;replace rg21:=keep hb rg21;replace hw:=Below.after hw hb;replace hBv14:=hBv14.keep hb;clear hb
    refine wpAny_ready (rs:=[4]) (fuel:=0) (by kernel_rfl) (by simp) (AllReady.cons rfl (fun K' hK=>?_) AllReady.nil)
    rw[if_pos (by kernel_rfl)]
    simp only[List.getElem_toArray,List.getElem_cons_succ,List.getElem_cons_zero];refine wp_store_row 36 _ _ rfl (g21) (rd q0) rfl rfl 36 _ rg21 (rd_info q0) ((rd_size 0).trans (rd_size q0).symm) (rd_one q0) (hK _ _ ?_);simp only[Act.put];clear hK
    replace rp0:=(setRow_other w22 (g21) (w.heap.size) (rd q0) (by first|assumption|omega)).trans rp0
    replace rp1:=(setRow_other w22 (g21) (w.heap.size+1) (rd q0) (by first|assumption|omega)).trans rp1
    replace rg21:=setRow_heap w22 (g21) _ (rd q0) _ _ rg21
    replace hw:=below_setRow hw (show w.heap.size≤g21 by first|assumption|omega) (rd q0)
    generalize w22.setRow (g21) (rd q0)=w23 at *
    exact cut_to (key g21 v14 _ ⟨ltg21,rp0,rp1,rg21,hw⟩) (by kernel_rfl)
  ·skip
   rw[if_pos (by kernel_rfl)]
   simp only[List.getElem_toArray,List.getElem_cons_succ,List.getElem_cons_zero]
   refine wp_world_op (.pointer (some ⟨w1.heap.size,0,none⟩)) (w1.alloc (.cells #[.int .u64 0,.int .u64 0,.int .u64 0,.int .u64 0,.int .u64 0,.int .u64 0,.int .u64 0,.int .u64 0,.int .u64 0,.int .u64 0,.int .u64 0,.int .u64 0,.int .u64 0,.int .u64 0,.int .u64 0,.int .u64 0] 36)) (by kernel_rfl) (hK _ _ ?_)
   simp only[Act.put,ZPd,ZPe,ZPf];clear hK;have rg24:(w1.alloc (.cells #[.int .u64 0,.int .u64 0,.int .u64 0,.int .u64 0,.int .u64 0,.int .u64 0,.int .u64 0,.int .u64 0,.int .u64 0,.int .u64 0,.int .u64 0,.int .u64 0,.int .u64 0,.int .u64 0,.int .u64 0,.int .u64 0] 36)).heap[w1.heap.size]? =some (.cells #[.int .u64 0,.int .u64 0,.int .u64 0,.int .u64 0,.int .u64 0,.int .u64 0,.int .u64 0,.int .u64 0,.int .u64 0,.int .u64 0,.int .u64 0,.int .u64 0,.int .u64 0,.int .u64 0,.int .u64 0,.int .u64 0] 36 (0,0)):=hp1_0 w1 _;have hb:Below w1.heap.size w1 (w1.alloc (.cells #[.int .u64 0,.int .u64 0,.int .u64 0,.int .u64 0,.int .u64 0,.int .u64 0,.int .u64 0,.int .u64 0,.int .u64 0,.int .u64 0,.int .u64 0,.int .u64 0,.int .u64 0,.int .u64 0,.int .u64 0,.int .u64 0] 36)):=(Below.refl _ _).alloc (Nat.le_refl _) _
   generalize (w1.alloc (.cells #[.int .u64 0,.int .u64 0,.int .u64 0,.int .u64 0,.int .u64 0,.int .u64 0,.int .u64 0,.int .u64 0,.int .u64 0,.int .u64 0,.int .u64 0,.int .u64 0,.int .u64 0,.int .u64 0,.int .u64 0,.int .u64 0] 36))=w24 at *
   have ltg24:=lt_of_row rp1;have yg24:=hw.size;replace rp0:=keep hb rp0;replace rp1:=keep hb rp1;replace hw:=Below.after hw hb;clear hb
   generalize w1.heap.size=g24 at *
   refine wpAny_ready (rs:=[0,1]) (fuel:=3) (by kernel_rfl) (by simp) (AllReady.cons rfl (fun K' hK=>?_) (AllReady.cons rfl (fun K' hK=>?_) AllReady.nil))
   ·skip
    rw[if_pos (by kernel_rfl)]
    simp only[List.getElem_toArray,List.getElem_cons_zero];refine wp_load_row 36 _ rfl (w.heap.size) rfl 36 (rd m) (0,0) _ rp0 Tryd.underlying36 rfl (rd_info m) (hK _ _ ?_);simp only[Act.put,ZPd,ZPe,ZPf];clear hK
    refine wpAny_ready (rs:=[1]) (fuel:=2) (by kernel_rfl) (by simp) (AllReady.cons rfl (fun K' hK=>?_) AllReady.nil)
    rw[if_pos (by kernel_rfl)]
    simp only[List.getElem_toArray,List.getElem_cons_succ,List.getElem_cons_zero]
    refine wp_call_ex (f:=85) (args:=#[.int .i64 252,.int .i64 2]) (by kernel_rfl) (number_walk 252 2 (by decide) (by decide) (by decide) (by decide) w24) (fun v25 w25 ⟨hBv25,hb⟩=>hK _ _ ?_)
    simp only[Act.put,ZPd,ZPe,ZPf];clear hK;replace rp0:=keep hb rp0;replace rp1:=keep hb rp1;replace rg24:=keep hb rg24;replace hw:=Below.after hw hb;clear hb
    refine wpAny_ready (rs:=[2]) (fuel:=1) (by kernel_rfl) (by simp) (AllReady.cons rfl (fun K' hK=>?_) AllReady.nil)
    rw[if_pos (by kernel_rfl)]
    simp only[List.getElem_toArray,List.getElem_cons_succ,List.getElem_cons_zero]
    refine wp_call_op (f:=84) (args:=#[.agg (rd m),v25]) (by kernel_rfl) (c4 _ _ hBv25) (fun w26 hb=>hK _ _ ?_)
    simp only[Act.put,ZPd,ZPe,ZPf];clear hK;replace rp0:=keep hb rp0;replace rp1:=keep hb rp1;replace rg24:=keep hb rg24;replace hw:=Below.after hw hb;replace hBv25:=hBv25.keep hb;clear hb
    refine wpAny_ready (rs:=[4]) (fuel:=0) (by kernel_rfl) (by simp) (AllReady.cons rfl (fun K' hK=>?_) AllReady.nil)
    rw[if_pos (by kernel_rfl)]
    simp only[List.getElem_toArray,List.getElem_cons_succ,List.getElem_cons_zero];refine wp_store_row 36 _ _ rfl (g24) (rd q0) rfl rfl 36 _ rg24 (rd_info q0) ((rd_size 0).trans (rd_size q0).symm) (rd_one q0) (hK _ _ ?_);simp only[Act.put];clear hK
    replace rp0:=(setRow_other w26 (g24) (w.heap.size) (rd q0) (by first|assumption|omega)).trans rp0
    replace rp1:=(setRow_other w26 (g24) (w.heap.size+1) (rd q0) (by first|assumption|omega)).trans rp1
    replace rg24:=setRow_heap w26 (g24) _ (rd q0) _ _ rg24
    replace hw:=below_setRow hw (show w.heap.size≤g24 by first|assumption|omega) (rd q0)
    generalize w26.setRow (g24) (rd q0)=w27 at *
    exact cut_to (key g24 v25 _ ⟨ltg24,rp0,rp1,rg24,hw⟩) (by kernel_rfl)
   ·skip
    rw[if_pos (by kernel_rfl)]
    simp only[List.getElem_toArray,List.getElem_cons_succ,List.getElem_cons_zero]
    refine wp_call_ex (f:=85) (args:=#[.int .i64 252,.int .i64 2]) (by kernel_rfl) (number_walk 252 2 (by decide) (by decide) (by decide) (by decide) w24) (fun v28 w28 ⟨hBv28,hb⟩=>hK _ _ ?_)
    simp only[Act.put,ZPd,ZPe,ZPf];clear hK;replace rp0:=keep hb rp0;replace rp1:=keep hb rp1;replace rg24:=keep hb rg24;replace hw:=Below.after hw hb;clear hb
    refine wpAny_ready (rs:=[0]) (fuel:=2) (by kernel_rfl) (by simp) (AllReady.cons rfl (fun K' hK=>?_) AllReady.nil)
    rw[if_pos (by kernel_rfl)]
    simp only[List.getElem_toArray,List.getElem_cons_zero];refine wp_load_row 36 _ rfl (w.heap.size) rfl 36 (rd m) (0,0) _ rp0 Tryd.underlying36 rfl (rd_info m) (hK _ _ ?_);simp only[Act.put,ZPd,ZPe,ZPf];clear hK
    refine wpAny_ready (rs:=[2]) (fuel:=1) (by kernel_rfl) (by simp) (AllReady.cons rfl (fun K' hK=>?_) AllReady.nil)
    rw[if_pos (by kernel_rfl)]
    simp only[List.getElem_toArray,List.getElem_cons_succ,List.getElem_cons_zero]
    refine wp_call_op (f:=84) (args:=#[.agg (rd m),v28]) (by kernel_rfl) (c4 _ _ hBv28) (fun w29 hb=>hK _ _ ?_)
    simp only[Act.put,ZPd,ZPe,ZPf];clear hK;replace rp0:=keep hb rp0;replace rp1:=keep hb rp1;replace rg24:=keep hb rg24;replace hw:=Below.after hw hb;replace hBv28:=hBv28.keep hb;clear hb
    refine wpAny_ready (rs:=[4]) (fuel:=0) (by kernel_rfl) (by simp) (AllReady.cons rfl (fun K' hK=>?_) AllReady.nil)
    rw[if_pos (by kernel_rfl)]
    simp only[List.getElem_toArray,List.getElem_cons_succ,List.getElem_cons_zero];refine wp_store_row 36 _ _ rfl (g24) (rd q0) rfl rfl 36 _ rg24 (rd_info q0) ((rd_size 0).trans (rd_size q0).symm) (rd_one q0) (hK _ _ ?_);simp only[Act.put];clear hK
    replace rp0:=(setRow_other w29 (g24) (w.heap.size) (rd q0) (by first|assumption|omega)).trans rp0
    replace rp1:=(setRow_other w29 (g24) (w.heap.size+1) (rd q0) (by first|assumption|omega)).trans rp1
    replace rg24:=setRow_heap w29 (g24) _ (rd q0) _ _ rg24
    replace hw:=below_setRow hw (show w.heap.size≤g24 by first|assumption|omega) (rd q0)
    generalize w29.setRow (g24) (rd q0)=w30 at *
    exact cut_to (key g24 v28 _ ⟨ltg24,rp0,rp1,rg24,hw⟩) (by kernel_rfl)
 ·clear rp0 rp1 hw
  intro g4 v31 w31 ⟨ltg4,rp0,rp1,rg4,hw⟩
  have yg4:w.heap.size≤g4:=by omega
  refine wpAny_done (by kernel_rfl) ?_ _
  go_wp2
  have Hrp0:=keepr rp0;have Hrp1:=keepr rp1;have Hrg4:=keepr rg4
  refine wp_region_quiet_below (by kernel_rfl) (by kernel_rfl) ?_
  refine wpQuiet_load_row rfl 36 _ rfl (g4) rfl 36 (rd q0) (0,0) _ Hrg4.out Tryd.underlying36 rfl (rd_info q0) ?_;simp only[Act.put,ZPd,ZPe,ZPf];go_big_quiet_step (exact c33.re);refine wpQuiet_load_row rfl 36 _ rfl (w.heap.size) rfl 36 (rd m) (0,0) _ Hrp0.out Tryd.underlying36 rfl (rd_info m) ?_;simp only[Act.put,ZPd,ZPe,ZPf];go_big_quiet_step (exact c34.re);go_big_quiet_step (fail);refine wpQuiet_nil ?_;rintro _ ⟨p,rfl⟩;have hb:=below_regrown w31 p.d p.os
  generalize grow (redrawn w31 p.d) p.os=w32 at *
  replace rp0:=keep hb rp0;replace rp1:=keep hb rp1;replace rg4:=keep hb rg4;replace hw:=Below.after hw hb;clear hb;clear Hrp0 Hrp1 Hrg4
  go_wp2
  refine wp_region_any (by kernel_rfl) ?_
  have hb:Below w32.heap.size w32 {w32 with drawn:=w32.drawn+1}:=⟨rfl,rfl,rfl,Nat.le_refl _,fun _ _=>rfl⟩
  generalize ({w32 with drawn:=w32.drawn+1}:World)=w35 at *
  replace rp0:=keep hb rp0;replace rp1:=keep hb rp1;replace rg4:=keep hb rg4;replace hw:=Below.after hw hb;clear hb
  refine wpAny_ready (rs:=[0,1]) (fuel:=5) (by kernel_rfl) (by simp) (AllReady.cons rfl (fun K' hK=>?_) (AllReady.cons rfl (fun K' hK=>?_) AllReady.nil))
  ·skip
   rw[if_pos (by kernel_rfl)]
   simp only[List.getElem_toArray,List.getElem_cons_zero];refine wp_load_row 36 _ rfl (g4) rfl 36 (rd q0) (0,0) _ rg4 Tryd.underlying36 rfl (rd_info q0) (hK _ _ ?_);simp only[Act.put,ZPd,ZPe,ZPf];clear hK
   refine wpAny_ready (rs:=[1]) (fuel:=4) (by kernel_rfl) (by simp) (AllReady.cons rfl (fun K' hK=>?_) AllReady.nil)
   rw[if_pos (by kernel_rfl)]
   simp only[List.getElem_toArray,List.getElem_cons_succ,List.getElem_cons_zero]
   refine wp_call_op (f:=37) (args:=#[.int .u64 2]) (by kernel_rfl) (c37.at _) (fun w36 hb=>hK _ _ ?_)
   simp only[Act.put,ZPd,ZPe,ZPf];clear hK;replace rp0:=keep hb rp0;replace rp1:=keep hb rp1;replace rg4:=keep hb rg4;replace hw:=Below.after hw hb;clear hb
   refine wpAny_ready (rs:=[2]) (fuel:=3) (by kernel_rfl) (by simp) (AllReady.cons rfl (fun K' hK=>?_) AllReady.nil)
   rw[if_pos (by kernel_rfl)]
   simp only[List.getElem_toArray,List.getElem_cons_succ,List.getElem_cons_zero]
   refine wp_call_ex (f:=85) (args:=#[.int .i64 253,.int .i64 5]) (by kernel_rfl) (number_walk 253 5 (by decide) (by decide) (by decide) (by decide) w36) (fun v38 w38 ⟨hBv38,hb⟩=>hK _ _ ?_)
   simp only[Act.put,ZPd,ZPe,ZPf];clear hK;replace rp0:=keep hb rp0;replace rp1:=keep hb rp1;replace rg4:=keep hb rg4;replace hw:=Below.after hw hb;clear hb
   refine wpAny_ready (rs:=[3]) (fuel:=2) (by kernel_rfl) (by simp) (AllReady.cons rfl (fun K' hK=>?_) AllReady.nil)
   rw[if_pos (by kernel_rfl)]
   simp only[List.getElem_toArray,List.getElem_cons_succ,List.getElem_cons_zero]
   refine wp_call_op (f:=84) (args:=#[.agg (rd 2),v38]) (by kernel_rfl) (c40 _ _ hBv38) (fun w39 hb=>hK _ _ ?_)
   simp only[Act.put,ZPd,ZPe,ZPf];clear hK;replace rp0:=keep hb rp0;replace rp1:=keep hb rp1;replace rg4:=keep hb rg4;replace hw:=Below.after hw hb;replace hBv38:=hBv38.keep hb;clear hb
   refine wpAny_ready (rs:=[4]) (fuel:=1) (by kernel_rfl) (by simp) (AllReady.cons rfl (fun K' hK=>?_) AllReady.nil)
   rw[if_pos (by kernel_rfl)]
   simp only[List.getElem_toArray,List.getElem_cons_succ,List.getElem_cons_zero]
   refine wp_call_op (f:=47) (args:=#[.agg (rd q0),.agg (rd uu)]) (by kernel_rfl) (c42.at _) (fun w41 hb=>hK _ _ ?_)
   simp only[Act.put,ZPd,ZPe,ZPf];clear hK;replace rp0:=keep hb rp0;replace rp1:=keep hb rp1;replace rg4:=keep hb rg4;replace hw:=Below.after hw hb;replace hBv38:=hBv38.keep hb;clear hb
   refine wpAny_ready (rs:=[5]) (fuel:=0) (by kernel_rfl) (by simp) (AllReady.cons rfl (fun K' hK=>?_) AllReady.nil)
   rw[if_pos (by kernel_rfl)]
   simp only[List.getElem_toArray,List.getElem_cons_succ,List.getElem_cons_zero];refine wp_store_row 36 _ _ rfl (g4) (rd q1) rfl rfl 36 _ rg4 (rd_info q1) ((rd_size q0).trans (rd_size q1).symm) (rd_one q1) (hK _ _ ?_);simp only[Act.put];clear hK
   replace rp0:=(setRow_other w41 (g4) (w.heap.size) (rd q1) (by first|assumption|omega)).trans rp0
   replace rp1:=(setRow_other w41 (g4) (w.heap.size+1) (rd q1) (by first|assumption|omega)).trans rp1
   replace rg4:=setRow_heap w41 (g4) _ (rd q1) _ _ rg4
   replace hw:=below_setRow hw (show w.heap.size≤g4 by first|assumption|omega) (rd q1)
   generalize w41.setRow (g4) (rd q1)=w43 at *
   refine wpAny_done (by kernel_rfl) ?_ _
   go_wp2
   have Hrp0:=keepr rp0;have Hrp1:=keepr rp1;have Hrg4:=keepr rg4
   refine wp_region_quiet_below (by kernel_rfl) (by kernel_rfl) ?_
   refine wpQuiet_load_row rfl 36 _ rfl (g4) rfl 36 (rd q1) (0,0) _ Hrg4.out Tryd.underlying36 rfl (rd_info q1) ?_;simp only[Act.put,ZPd,ZPe,ZPf];go_big_quiet_step (exact c45.re);refine wpQuiet_load_row rfl 36 _ rfl (w.heap.size) rfl 36 (rd m) (0,0) _ Hrp0.out Tryd.underlying36 rfl (rd_info m) ?_;simp only[Act.put,ZPd,ZPe,ZPf];go_big_quiet_step (exact c46.re);go_big_quiet_step (fail);refine wpQuiet_nil ?_;rintro _ ⟨p,rfl⟩;have hb:=below_regrown w43 p.d p.os
   generalize grow (redrawn w43 p.d) p.os=w44 at *
   replace rp0:=keep hb rp0;replace rp1:=keep hb rp1;replace rg4:=keep hb rg4;replace hw:=Below.after hw hb;clear hb;clear Hrp0 Hrp1 Hrg4
   go_wp2_with (first|(refine wpList_load_want rfl 36 _ rfl (w.heap.size) rfl 36 (rd m) (0,0) _ rp0 Tryd.underlying36 rfl (rd_info m) ?_)|(refine wpList_load_want rfl 36 _ rfl (w.heap.size+1) rfl 36 #[.int .u64 0,.int .u64 0,.int .u64 0,.int .u64 0,.int .u64 0,.int .u64 0,.int .u64 0,.int .u64 0,.int .u64 0,.int .u64 0,.int .u64 0,.int .u64 0,.int .u64 0,.int .u64 0,.int .u64 0,.int .u64 0] (0,0) _ rp1 Tryd.underlying36 rfl (rd_info 0) ?_)|(refine wpList_load_want rfl 36 _ rfl (g4) rfl 36 (rd q1) (0,0) _ rg4 Tryd.underlying36 rfl (rd_info q1) ?_)|fail)
   refine(c47.at _).mono ?_;rintro e w48 ⟨rfl,hb⟩;replace rp0:=keep hb rp0;replace rp1:=keep hb rp1;replace rg4:=keep hb rg4;replace hw:=Below.after hw hb;clear hb
   go_wp2_with (first|(refine wpList_load_want rfl 36 _ rfl (w.heap.size) rfl 36 (rd m) (0,0) _ rp0 Tryd.underlying36 rfl (rd_info m) ?_)|(refine wpList_load_want rfl 36 _ rfl (w.heap.size+1) rfl 36 #[.int .u64 0,.int .u64 0,.int .u64 0,.int .u64 0,.int .u64 0,.int .u64 0,.int .u64 0,.int .u64 0,.int .u64 0,.int .u64 0,.int .u64 0,.int .u64 0,.int .u64 0,.int .u64 0,.int .u64 0,.int .u64 0] (0,0) _ rp1 Tryd.underlying36 rfl (rd_info 0) ?_)|(refine wpList_load_want rfl 36 _ rfl (g4) rfl 36 (rd q1) (0,0) _ rg4 Tryd.underlying36 rfl (rd_info q1) ?_)|(refine wpList_store_row rfl 36 _ _ rfl (w.heap.size+1) (rd q1) rfl rfl 36 _ rp1 (rd_info q1) rfl (rd_one q1) ?_)|fail)
   exact bodyPost_ret (v:=.tuple #[.agg (rd q1),.bool true]) (results_row_slot Tryd.results69 _ _ (w.heap.size+1) _ (rd q1) _ _ (.bool true) rfl (setRow_heap _ _ _ _ _ _ rp1) rfl Tryd.underlying36 rfl (rd_info q1)) rfl ⟨rfl,below_setRow hw (by omega) _⟩
  ·skip
   rw[if_pos (by kernel_rfl)]
   simp only[List.getElem_toArray,List.getElem_cons_succ,List.getElem_cons_zero]
   refine wp_call_op (f:=37) (args:=#[.int .u64 2]) (by kernel_rfl) (c37.at _) (fun w49 hb=>hK _ _ ?_)
   simp only[Act.put,ZPd,ZPe,ZPf];clear hK;replace rp0:=keep hb rp0;replace rp1:=keep hb rp1;replace rg4:=keep hb rg4;replace hw:=Below.after hw hb;clear hb
   refine wpAny_ready (rs:=[0,2]) (fuel:=4) (by kernel_rfl) (by simp) (AllReady.cons rfl (fun K' hK=>?_) (AllReady.cons rfl (fun K' hK=>?_) AllReady.nil))
   ·skip
    rw[if_pos (by kernel_rfl)]
    simp only[List.getElem_toArray,List.getElem_cons_zero];refine wp_load_row 36 _ rfl (g4) rfl 36 (rd q0) (0,0) _ rg4 Tryd.underlying36 rfl (rd_info q0) (hK _ _ ?_);simp only[Act.put,ZPd,ZPe,ZPf];clear hK
    refine wpAny_ready (rs:=[2]) (fuel:=3) (by kernel_rfl) (by simp) (AllReady.cons rfl (fun K' hK=>?_) AllReady.nil)
    rw[if_pos (by kernel_rfl)]
    simp only[List.getElem_toArray,List.getElem_cons_succ,List.getElem_cons_zero]
    refine wp_call_ex (f:=85) (args:=#[.int .i64 253,.int .i64 5]) (by kernel_rfl) (number_walk 253 5 (by decide) (by decide) (by decide) (by decide) w49) (fun v50 w50 ⟨hBv50,hb⟩=>hK _ _ ?_)
    simp only[Act.put,ZPd,ZPe,ZPf];clear hK;replace rp0:=keep hb rp0;replace rp1:=keep hb rp1;replace rg4:=keep hb rg4;replace hw:=Below.after hw hb;clear hb
    refine wpAny_ready (rs:=[3]) (fuel:=2) (by kernel_rfl) (by simp) (AllReady.cons rfl (fun K' hK=>?_) AllReady.nil)
    rw[if_pos (by kernel_rfl)]
    simp only[List.getElem_toArray,List.getElem_cons_succ,List.getElem_cons_zero]
    refine wp_call_op (f:=84) (args:=#[.agg (rd 2),v50]) (by kernel_rfl) (c40 _ _ hBv50) (fun w51 hb=>hK _ _ ?_)
    simp only[Act.put,ZPd,ZPe,ZPf];clear hK;replace rp0:=keep hb rp0;replace rp1:=keep hb rp1;replace rg4:=keep hb rg4;replace hw:=Below.after hw hb;replace hBv50:=hBv50.keep hb;clear hb
    refine wpAny_ready (rs:=[4]) (fuel:=1) (by kernel_rfl) (by simp) (AllReady.cons rfl (fun K' hK=>?_) AllReady.nil)
    rw[if_pos (by kernel_rfl)]
    simp only[List.getElem_toArray,List.getElem_cons_succ,List.getElem_cons_zero]
    refine wp_call_op (f:=47) (args:=#[.agg (rd q0),.agg (rd uu)]) (by kernel_rfl) (c42.at _) (fun w52 hb=>hK _ _ ?_)
    simp only[Act.put,ZPd,ZPe,ZPf];clear hK;replace rp0:=keep hb rp0;replace rp1:=keep hb rp1;replace rg4:=keep hb rg4;replace hw:=Below.after hw hb;replace hBv50:=hBv50.keep hb;clear hb
    refine wpAny_ready (rs:=[5]) (fuel:=0) (by kernel_rfl) (by simp) (AllReady.cons rfl (fun K' hK=>?_) AllReady.nil)
    rw[if_pos (by kernel_rfl)]
    simp only[List.getElem_toArray,List.getElem_cons_succ,List.getElem_cons_zero];refine wp_store_row 36 _ _ rfl (g4) (rd q1) rfl rfl 36 _ rg4 (rd_info q1) ((rd_size q0).trans (rd_size q1).symm) (rd_one q1) (hK _ _ ?_);simp only[Act.put];clear hK
    replace rp0:=(setRow_other w52 (g4) (w.heap.size) (rd q1) (by first|assumption|omega)).trans rp0
    replace rp1:=(setRow_other w52 (g4) (w.heap.size+1) (rd q1) (by first|assumption|omega)).trans rp1
    replace rg4:=setRow_heap w52 (g4) _ (rd q1) _ _ rg4
    replace hw:=below_setRow hw (show w.heap.size≤g4 by first|assumption|omega) (rd q1)
    generalize w52.setRow (g4) (rd q1)=w53 at *
    refine wpAny_done (by kernel_rfl) ?_ _
    go_wp2
    have Hrp0:=keepr rp0;have Hrp1:=keepr rp1;have Hrg4:=keepr rg4
    refine wp_region_quiet_below (by kernel_rfl) (by kernel_rfl) ?_
    refine wpQuiet_load_row rfl 36 _ rfl (g4) rfl 36 (rd q1) (0,0) _ Hrg4.out Tryd.underlying36 rfl (rd_info q1) ?_;simp only[Act.put,ZPd,ZPe,ZPf];go_big_quiet_step (exact c45.re);refine wpQuiet_load_row rfl 36 _ rfl (w.heap.size) rfl 36 (rd m) (0,0) _ Hrp0.out Tryd.underlying36 rfl (rd_info m) ?_;simp only[Act.put,ZPd,ZPe,ZPf];go_big_quiet_step (exact c46.re);go_big_quiet_step (fail);refine wpQuiet_nil ?_;rintro _ ⟨p,rfl⟩;have hb:=below_regrown w53 p.d p.os
    generalize grow (redrawn w53 p.d) p.os=w54 at *
    replace rp0:=keep hb rp0;replace rp1:=keep hb rp1;replace rg4:=keep hb rg4;replace hw:=Below.after hw hb;clear hb;clear Hrp0 Hrp1 Hrg4
    go_wp2_with (first|(refine wpList_load_want rfl 36 _ rfl (w.heap.size) rfl 36 (rd m) (0,0) _ rp0 Tryd.underlying36 rfl (rd_info m) ?_)|(refine wpList_load_want rfl 36 _ rfl (w.heap.size+1) rfl 36 #[.int .u64 0,.int .u64 0,.int .u64 0,.int .u64 0,.int .u64 0,.int .u64 0,.int .u64 0,.int .u64 0,.int .u64 0,.int .u64 0,.int .u64 0,.int .u64 0,.int .u64 0,.int .u64 0,.int .u64 0,.int .u64 0] (0,0) _ rp1 Tryd.underlying36 rfl (rd_info 0) ?_)|(refine wpList_load_want rfl 36 _ rfl (g4) rfl 36 (rd q1) (0,0) _ rg4 Tryd.underlying36 rfl (rd_info q1) ?_)|fail)
    refine(c47.at _).mono ?_;rintro e w55 ⟨rfl,hb⟩;replace rp0:=keep hb rp0;replace rp1:=keep hb rp1;replace rg4:=keep hb rg4;replace hw:=Below.after hw hb;clear hb
    go_wp2_with (first|(refine wpList_load_want rfl 36 _ rfl (w.heap.size) rfl 36 (rd m) (0,0) _ rp0 Tryd.underlying36 rfl (rd_info m) ?_)|(refine wpList_load_want rfl 36 _ rfl (w.heap.size+1) rfl 36 #[.int .u64 0,.int .u64 0,.int .u64 0,.int .u64 0,.int .u64 0,.int .u64 0,.int .u64 0,.int .u64 0,.int .u64 0,.int .u64 0,.int .u64 0,.int .u64 0,.int .u64 0,.int .u64 0,.int .u64 0,.int .u64 0] (0,0) _ rp1 Tryd.underlying36 rfl (rd_info 0) ?_)|(refine wpList_load_want rfl 36 _ rfl (g4) rfl 36 (rd q1) (0,0) _ rg4 Tryd.underlying36 rfl (rd_info q1) ?_)|(refine wpList_store_row rfl 36 _ _ rfl (w.heap.size+1) (rd q1) rfl rfl 36 _ rp1 (rd_info q1) rfl (rd_one q1) ?_)|fail)
    exact bodyPost_ret (v:=.tuple #[.agg (rd q1),.bool true]) (results_row_slot Tryd.results69 _ _ (w.heap.size+1) _ (rd q1) _ _ (.bool true) rfl (setRow_heap _ _ _ _ _ _ rp1) rfl Tryd.underlying36 rfl (rd_info q1)) rfl ⟨rfl,below_setRow hw (by omega) _⟩
   ·skip
    rw[if_pos (by kernel_rfl)]
    simp only[List.getElem_toArray,List.getElem_cons_succ,List.getElem_cons_zero]
    refine wp_call_ex (f:=85) (args:=#[.int .i64 253,.int .i64 5]) (by kernel_rfl) (number_walk 253 5 (by decide) (by decide) (by decide) (by decide) w49) (fun v56 w56 ⟨hBv56,hb⟩=>hK _ _ ?_)
    simp only[Act.put,ZPd,ZPe,ZPf];clear hK;replace rp0:=keep hb rp0;replace rp1:=keep hb rp1;replace rg4:=keep hb rg4;replace hw:=Below.after hw hb;clear hb
    refine wpAny_ready (rs:=[0,3]) (fuel:=3) (by kernel_rfl) (by simp) (AllReady.cons rfl (fun K' hK=>?_) (AllReady.cons rfl (fun K' hK=>?_) AllReady.nil))
    ·skip
     rw[if_pos (by kernel_rfl)]
     simp only[List.getElem_toArray,List.getElem_cons_zero];refine wp_load_row 36 _ rfl (g4) rfl 36 (rd q0) (0,0) _ rg4 Tryd.underlying36 rfl (rd_info q0) (hK _ _ ?_);simp only[Act.put,ZPd,ZPe,ZPf];clear hK
     refine wpAny_ready (rs:=[3]) (fuel:=2) (by kernel_rfl) (by simp) (AllReady.cons rfl (fun K' hK=>?_) AllReady.nil)
     rw[if_pos (by kernel_rfl)]
     simp only[List.getElem_toArray,List.getElem_cons_succ,List.getElem_cons_zero]
     refine wp_call_op (f:=84) (args:=#[.agg (rd 2),v56]) (by kernel_rfl) (c40 _ _ hBv56) (fun w57 hb=>hK _ _ ?_)
     simp only[Act.put,ZPd,ZPe,ZPf];clear hK;replace rp0:=keep hb rp0;replace rp1:=keep hb rp1;replace rg4:=keep hb rg4;replace hw:=Below.after hw hb;replace hBv56:=hBv56.keep hb;clear hb
     refine wpAny_ready (rs:=[4]) (fuel:=1) (by kernel_rfl) (by simp) (AllReady.cons rfl (fun K' hK=>?_) AllReady.nil)
     rw[if_pos (by kernel_rfl)]
     simp only[List.getElem_toArray,List.getElem_cons_succ,List.getElem_cons_zero]
     refine wp_call_op (f:=47) (args:=#[.agg (rd q0),.agg (rd uu)]) (by kernel_rfl) (c42.at _) (fun w58 hb=>hK _ _ ?_)
     simp only[Act.put,ZPd,ZPe,ZPf];clear hK;replace rp0:=keep hb rp0;replace rp1:=keep hb rp1;replace rg4:=keep hb rg4;replace hw:=Below.after hw hb;replace hBv56:=hBv56.keep hb;clear hb
     refine wpAny_ready (rs:=[5]) (fuel:=0) (by kernel_rfl) (by simp) (AllReady.cons rfl (fun K' hK=>?_) AllReady.nil)
     rw[if_pos (by kernel_rfl)]
     simp only[List.getElem_toArray,List.getElem_cons_succ,List.getElem_cons_zero];refine wp_store_row 36 _ _ rfl (g4) (rd q1) rfl rfl 36 _ rg4 (rd_info q1) ((rd_size q0).trans (rd_size q1).symm) (rd_one q1) (hK _ _ ?_);simp only[Act.put];clear hK
     replace rp0:=(setRow_other w58 (g4) (w.heap.size) (rd q1) (by first|assumption|omega)).trans rp0
     replace rp1:=(setRow_other w58 (g4) (w.heap.size+1) (rd q1) (by first|assumption|omega)).trans rp1
     replace rg4:=setRow_heap w58 (g4) _ (rd q1) _ _ rg4
     replace hw:=below_setRow hw (show w.heap.size≤g4 by first|assumption|omega) (rd q1)
     generalize w58.setRow (g4) (rd q1)=w59 at *
     refine wpAny_done (by kernel_rfl) ?_ _
     go_wp2
     have Hrp0:=keepr rp0;have Hrp1:=keepr rp1;have Hrg4:=keepr rg4
     refine wp_region_quiet_below (by kernel_rfl) (by kernel_rfl) ?_
     refine wpQuiet_load_row rfl 36 _ rfl (g4) rfl 36 (rd q1) (0,0) _ Hrg4.out Tryd.underlying36 rfl (rd_info q1) ?_;simp only[Act.put,ZPd,ZPe,ZPf];go_big_quiet_step (exact c45.re);refine wpQuiet_load_row rfl 36 _ rfl (w.heap.size) rfl 36 (rd m) (0,0) _ Hrp0.out Tryd.underlying36 rfl (rd_info m) ?_;simp only[Act.put,ZPd,ZPe,ZPf];go_big_quiet_step (exact c46.re);go_big_quiet_step (fail);refine wpQuiet_nil ?_;rintro _ ⟨p,rfl⟩;have hb:=below_regrown w59 p.d p.os
     generalize grow (redrawn w59 p.d) p.os=w60 at *
     replace rp0:=keep hb rp0;replace rp1:=keep hb rp1;replace rg4:=keep hb rg4;replace hw:=Below.after hw hb;clear hb;clear Hrp0 Hrp1 Hrg4
     go_wp2_with (first|(refine wpList_load_want rfl 36 _ rfl (w.heap.size) rfl 36 (rd m) (0,0) _ rp0 Tryd.underlying36 rfl (rd_info m) ?_)|(refine wpList_load_want rfl 36 _ rfl (w.heap.size+1) rfl 36 #[.int .u64 0,.int .u64 0,.int .u64 0,.int .u64 0,.int .u64 0,.int .u64 0,.int .u64 0,.int .u64 0,.int .u64 0,.int .u64 0,.int .u64 0,.int .u64 0,.int .u64 0,.int .u64 0,.int .u64 0,.int .u64 0] (0,0) _ rp1 Tryd.underlying36 rfl (rd_info 0) ?_)|(refine wpList_load_want rfl 36 _ rfl (g4) rfl 36 (rd q1) (0,0) _ rg4 Tryd.underlying36 rfl (rd_info q1) ?_)|fail)
     refine(c47.at _).mono ?_;rintro e w61 ⟨rfl,hb⟩;replace rp0:=keep hb rp0;replace rp1:=keep hb rp1;replace rg4:=keep hb rg4;replace hw:=Below.after hw hb;clear hb
     go_wp2_with (first|(refine wpList_load_want rfl 36 _ rfl (w.heap.size) rfl 36 (rd m) (0,0) _ rp0 Tryd.underlying36 rfl (rd_info m) ?_)|(refine wpList_load_want rfl 36 _ rfl (w.heap.size+1) rfl 36 #[.int .u64 0,.int .u64 0,.int .u64 0,.int .u64 0,.int .u64 0,.int .u64 0,.int .u64 0,.int .u64 0,.int .u64 0,.int .u64 0,.int .u64 0,.int .u64 0,.int .u64 0,.int .u64 0,.int .u64 0,.int .u64 0] (0,0) _ rp1 Tryd.underlying36 rfl (rd_info 0) ?_)|(refine wpList_load_want rfl 36 _ rfl (g4) rfl 36 (rd q1) (0,0) _ rg4 Tryd.underlying36 rfl (rd_info q1) ?_)|(refine wpList_store_row rfl 36 _ _ rfl (w.heap.size+1) (rd q1) rfl rfl 36 _ rp1 (rd_info q1) rfl (rd_one q1) ?_)|fail)
     exact bodyPost_ret (v:=.tuple #[.agg (rd q1),.bool true]) (results_row_slot Tryd.results69 _ _ (w.heap.size+1) _ (rd q1) _ _ (.bool true) rfl (setRow_heap _ _ _ _ _ _ rp1) rfl Tryd.underlying36 rfl (rd_info q1)) rfl ⟨rfl,below_setRow hw (by omega) _⟩
    ·skip
     rw[if_pos (by kernel_rfl)]
     simp only[List.getElem_toArray,List.getElem_cons_succ,List.getElem_cons_zero]
     refine wp_call_op (f:=84) (args:=#[.agg (rd 2),v56]) (by kernel_rfl) (c40 _ _ hBv56) (fun w62 hb=>hK _ _ ?_)
     simp only[Act.put,ZPd,ZPe,ZPf];clear hK;replace rp0:=keep hb rp0;replace rp1:=keep hb rp1;replace rg4:=keep hb rg4;replace hw:=Below.after hw hb;replace hBv56:=hBv56.keep hb;clear hb
     refine wpAny_ready (rs:=[0]) (fuel:=2) (by kernel_rfl) (by simp) (AllReady.cons rfl (fun K' hK=>?_) AllReady.nil)
     rw[if_pos (by kernel_rfl)]
     simp only[List.getElem_toArray,List.getElem_cons_zero];refine wp_load_row 36 _ rfl (g4) rfl 36 (rd q0) (0,0) _ rg4 Tryd.underlying36 rfl (rd_info q0) (hK _ _ ?_);simp only[Act.put,ZPd,ZPe,ZPf];clear hK
     refine wpAny_ready (rs:=[4]) (fuel:=1) (by kernel_rfl) (by simp) (AllReady.cons rfl (fun K' hK=>?_) AllReady.nil)
     rw[if_pos (by kernel_rfl)]
     simp only[List.getElem_toArray,List.getElem_cons_succ,List.getElem_cons_zero]
     refine wp_call_op (f:=47) (args:=#[.agg (rd q0),.agg (rd uu)]) (by kernel_rfl) (c42.at _) (fun w63 hb=>hK _ _ ?_)
     simp only[Act.put,ZPd,ZPe,ZPf];clear hK;replace rp0:=keep hb rp0;replace rp1:=keep hb rp1;replace rg4:=keep hb rg4;replace hw:=Below.after hw hb;replace hBv56:=hBv56.keep hb;clear hb
     refine wpAny_ready (rs:=[5]) (fuel:=0) (by kernel_rfl) (by simp) (AllReady.cons rfl (fun K' hK=>?_) AllReady.nil)
     rw[if_pos (by kernel_rfl)]
     simp only[List.getElem_toArray,List.getElem_cons_succ,List.getElem_cons_zero];refine wp_store_row 36 _ _ rfl (g4) (rd q1) rfl rfl 36 _ rg4 (rd_info q1) ((rd_size q0).trans (rd_size q1).symm) (rd_one q1) (hK _ _ ?_);simp only[Act.put];clear hK
     replace rp0:=(setRow_other w63 (g4) (w.heap.size) (rd q1) (by first|assumption|omega)).trans rp0
     replace rp1:=(setRow_other w63 (g4) (w.heap.size+1) (rd q1) (by first|assumption|omega)).trans rp1
     replace rg4:=setRow_heap w63 (g4) _ (rd q1) _ _ rg4
     replace hw:=below_setRow hw (show w.heap.size≤g4 by first|assumption|omega) (rd q1)
     generalize w63.setRow (g4) (rd q1)=w64 at *
     refine wpAny_done (by kernel_rfl) ?_ _
     go_wp2
     have Hrp0:=keepr rp0;have Hrp1:=keepr rp1;have Hrg4:=keepr rg4
     refine wp_region_quiet_below (by kernel_rfl) (by kernel_rfl) ?_
     refine wpQuiet_load_row rfl 36 _ rfl (g4) rfl 36 (rd q1) (0,0) _ Hrg4.out Tryd.underlying36 rfl (rd_info q1) ?_;simp only[Act.put,ZPd,ZPe,ZPf];go_big_quiet_step (exact c45.re);refine wpQuiet_load_row rfl 36 _ rfl (w.heap.size) rfl 36 (rd m) (0,0) _ Hrp0.out Tryd.underlying36 rfl (rd_info m) ?_;simp only[Act.put,ZPd,ZPe,ZPf];go_big_quiet_step (exact c46.re);go_big_quiet_step (fail);refine wpQuiet_nil ?_;rintro _ ⟨p,rfl⟩;have hb:=below_regrown w64 p.d p.os
     generalize grow (redrawn w64 p.d) p.os=w65 at *
     replace rp0:=keep hb rp0;replace rp1:=keep hb rp1;replace rg4:=keep hb rg4;replace hw:=Below.after hw hb;clear hb;clear Hrp0 Hrp1 Hrg4
     go_wp2_with (first|(refine wpList_load_want rfl 36 _ rfl (w.heap.size) rfl 36 (rd m) (0,0) _ rp0 Tryd.underlying36 rfl (rd_info m) ?_)|(refine wpList_load_want rfl 36 _ rfl (w.heap.size+1) rfl 36 #[.int .u64 0,.int .u64 0,.int .u64 0,.int .u64 0,.int .u64 0,.int .u64 0,.int .u64 0,.int .u64 0,.int .u64 0,.int .u64 0,.int .u64 0,.int .u64 0,.int .u64 0,.int .u64 0,.int .u64 0,.int .u64 0] (0,0) _ rp1 Tryd.underlying36 rfl (rd_info 0) ?_)|(refine wpList_load_want rfl 36 _ rfl (g4) rfl 36 (rd q1) (0,0) _ rg4 Tryd.underlying36 rfl (rd_info q1) ?_)|fail)
     refine(c47.at _).mono ?_;rintro e w66 ⟨rfl,hb⟩;replace rp0:=keep hb rp0;replace rp1:=keep hb rp1;replace rg4:=keep hb rg4;replace hw:=Below.after hw hb;clear hb
     go_wp2_with (first|(refine wpList_load_want rfl 36 _ rfl (w.heap.size) rfl 36 (rd m) (0,0) _ rp0 Tryd.underlying36 rfl (rd_info m) ?_)|(refine wpList_load_want rfl 36 _ rfl (w.heap.size+1) rfl 36 #[.int .u64 0,.int .u64 0,.int .u64 0,.int .u64 0,.int .u64 0,.int .u64 0,.int .u64 0,.int .u64 0,.int .u64 0,.int .u64 0,.int .u64 0,.int .u64 0,.int .u64 0,.int .u64 0,.int .u64 0,.int .u64 0] (0,0) _ rp1 Tryd.underlying36 rfl (rd_info 0) ?_)|(refine wpList_load_want rfl 36 _ rfl (g4) rfl 36 (rd q1) (0,0) _ rg4 Tryd.underlying36 rfl (rd_info q1) ?_)|(refine wpList_store_row rfl 36 _ _ rfl (w.heap.size+1) (rd q1) rfl rfl 36 _ rp1 (rd_info q1) rfl (rd_one q1) ?_)|fail)
     exact bodyPost_ret (v:=.tuple #[.agg (rd q1),.bool true]) (results_row_slot Tryd.results69 _ _ (w.heap.size+1) _ (rd q1) _ _ (.bool true) rfl (setRow_heap _ _ _ _ _ _ rp1) rfl Tryd.underlying36 rfl (rd_info q1)) rfl ⟨rfl,below_setRow hw (by omega) _⟩
end Go.Proofs.YtdcpcdkbhgkmlaaDoor
