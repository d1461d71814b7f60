import Derived.Test.YtdcpcdkbhgkmlaaDoorProg
import Derived.WalkKit
import Derived.WalkSpells
import Derived.WalkLawsBesides
import Derived.Lib.QuietBelow
import Derived.BigQuiet
import Derived.Deep.Cut
import Derived.Deep.CutRange
import Derived.Test.YtdcpcdkbhgkmlaaDoorEKa
import Derived.Test.YtdcpcdkbhgkmlaaDoorEDra
import Derived.Test.YtdcpcdkbhgkmlaaDoorEDwc
import Derived.Test.YtdcpcdkbhgkmlaaDoorEDwf
namespace Go.Proofs.YtdcpcdkbhgkmlaaDoor
set_option maxRecDepth 100000
open Go.RowKit Go.Sort
attribute [local go_sem] setCell_drewN alloc_drewN
theorem q_onx (y:Int):((y*y-1)*iv (-121665*iv 121666*(y*y)+1))%prm=qy y%prm:=by
 rw[←zp_sub]
 refine qy_is zp_one (zp_lin1 0 zp_zero (by grind)) _ ?_
 have h1:=ec1_eq;have h2:=iv_mul n121666
 generalize iv 121666=z at *
 generalize ec1=c at *
 exact zp_lin2 (y*y*z) (-(c*(y*y))) h1 h2 (by grind)
theorem e_build {P:Program} {o:Oper} {a:Act} {w:World} (t:TypeId) (parts:Array (Nat×Operand)) (ho:o.op=.build t parts) (vals:List (Nat×Value)) (hv:parts.toList.map (fun(i,x)=>(i,a.eval x))=vals) (cells:Array Value) (hb:P.built t vals=some cells):(execOp a.eval o).run P w=.ok (.value (.agg cells)) w:=by
 rw[←Array.toList_map] at hv;subst hv;unfold execOp;simp only[ho,Sem.run_bind,run_build w t _ cells hb,Result.andThen_ok];rfl
set_option maxRecDepth 100000 in
set_option maxHeartbeats 8000000 in
theorem r_onX {yr:Array Value} {Y:Int} {odd:Bool} (hy:RNum yr Y):∃t,RNum t (if has Y odd=true then xo Y odd else 0)∧Gives 36 #[.agg yr,.bool odd] (.tuple #[.agg t,.bool (has Y odd)]):=by
 obtain⟨x1,h1,c1⟩:=n_square hy;obtain⟨x4,h4,c4⟩:=r_D;obtain⟨x5,h5,c5⟩:=n_mul h4 h1
 obtain⟨x6,h6,c6⟩:=n_small 1 (by decide) (by decide)
 obtain⟨x7,h7,c7⟩:=n_add h5 h6;obtain⟨x10,h10,c10⟩:=n_sub h1 h6;obtain⟨x11,h11,c11⟩:=n_inv h7;obtain⟨x12,h12,c12⟩:=n_mul h10 h11;obtain⟨s,hsx,cR⟩:=n_root (h12.congr (q_onx Y));have cZ:=n_isZero hsx;have cO:=n_odd hsx
 rw[show decide (rval (qy Y)%prm%2=1)=false from decide_eq_false (by have:=rval_even (qy Y);omega)] at cO
 obtain⟨m,hm,cN⟩:=n_neg hsx;have hh:has Y odd=(rok (qy Y)&& !(decide (rval (qy Y)%prm=0)&&odd)):=rfl
 generalize decide (rval (qy Y)%prm=0)=Z at *
 generalize rok (qy Y)=O at *
 have hcase:∃tv:Array Value,RNum tv (if has Y odd=true then xo Y odd else 0)∧((O=false∧tv=#[.int .u64 0,.int .u64 0,.int .u64 0,.int .u64 0,.int .u64 0,.int .u64 0,.int .u64 0,.int .u64 0,.int .u64 0,.int .u64 0,.int .u64 0,.int .u64 0,.int .u64 0,.int .u64 0,.int .u64 0,.int .u64 0]∧has Y odd=false)∨(O=true∧Z=true∧odd=true∧tv=#[.int .u64 0,.int .u64 0,.int .u64 0,.int .u64 0,.int .u64 0,.int .u64 0,.int .u64 0,.int .u64 0,.int .u64 0,.int .u64 0,.int .u64 0,.int .u64 0,.int .u64 0,.int .u64 0,.int .u64 0,.int .u64 0]∧has Y odd=false)∨(O=true∧odd=false∧has Y odd=true∧tv=s)∨(O=true∧Z=false∧odd=true∧has Y odd=true∧tv=m)):=by
  cases O with
  |false=>exact⟨_,by rw[hh];exact rnum_zero,.inl ⟨rfl,rfl,by rw[hh];rfl⟩⟩
  |true=>
   cases odd with
   |false=>exact⟨s,by rw[hh];cases Z<;>exact hsx,.inr (.inr (.inl ⟨rfl,rfl,by rw[hh];cases Z<;>rfl,rfl⟩))⟩
   |true=>
    cases Z with
    |false=>exact⟨m,by rw[hh];exact hm,.inr (.inr (.inr ⟨rfl,rfl,rfl,by rw[hh];rfl,rfl⟩))⟩
    |true=>exact⟨_,by rw[hh];exact rnum_zero,.inr (.inl ⟨rfl,rfl,rfl,rfl,by rw[hh];rfl⟩)⟩
 obtain⟨tv,htv,hcase⟩:=hcase;refine⟨tv,htv,?_⟩
 generalize has Y odd=Hs at *
 clear hh htv
 replace hcase:(O=false∧Value.tuple #[.agg tv,.bool Hs]=.tuple #[.agg #[.int .u64 0,.int .u64 0,.int .u64 0,.int .u64 0,.int .u64 0,.int .u64 0,.int .u64 0,.int .u64 0,.int .u64 0,.int .u64 0,.int .u64 0,.int .u64 0,.int .u64 0,.int .u64 0,.int .u64 0,.int .u64 0],.bool false])∨(O=true∧Z=true∧odd=true∧Value.tuple #[.agg tv,.bool Hs]=.tuple #[.agg #[.int .u64 0,.int .u64 0,.int .u64 0,.int .u64 0,.int .u64 0,.int .u64 0,.int .u64 0,.int .u64 0,.int .u64 0,.int .u64 0,.int .u64 0,.int .u64 0,.int .u64 0,.int .u64 0,.int .u64 0,.int .u64 0],.bool false])∨(O=true∧odd=false∧True∧Value.tuple #[.agg tv,.bool Hs]=.tuple #[.agg s,.bool true])∨(O=true∧Z=false∧odd=true∧Value.tuple #[.agg tv,.bool Hs]=.tuple #[.agg m,.bool true]):=by
  rcases hcase with⟨rfl,rfl,rfl⟩|⟨rfl,rfl,rfl,rfl,rfl⟩|⟨rfl,rfl,rfl,rfl⟩|⟨rfl,rfl,rfl,rfl,rfl⟩
  ·exact .inl ⟨rfl,rfl⟩
  ·exact .inr (.inl ⟨rfl,rfl,rfl,rfl⟩)
  ·exact .inr (.inr (.inl ⟨rfl,rfl,trivial,rfl⟩))
  ·exact .inr (.inr (.inr ⟨rfl,rfl,rfl,rfl⟩))
 generalize Value.tuple #[.agg tv,.bool Hs]=tvv at *
 intro w
 go_enter Tryd.func36,Tryd.ntmps36
 iterate 12 go_step
 generalize hal_:((w.alloc (.cells yr 36)).alloc (.cells #[.int .u64 0,.int .u64 0,.int .u64 0,.int .u64 0,.int .u64 0,.int .u64 0,.int .u64 0,.int .u64 0,.int .u64 0,.int .u64 0,.int .u64 0,.int .u64 0,.int .u64 0,.int .u64 0,.int .u64 0,.int .u64 0] 36))=w0
 have rp0:w0.heap[w.heap.size]? =some (.cells yr 36 (0,0)):=by rw[←hal_];exact hp2_0 w _ _
 have rp1:w0.heap[w.heap.size+1]? =some (.cells #[.int .u64 0,.int .u64 0,.int .u64 0,.int .u64 0,.int .u64 0,.int .u64 0,.int .u64 0,.int .u64 0,.int .u64 0,.int .u64 0,.int .u64 0,.int .u64 0,.int .u64 0,.int .u64 0,.int .u64 0,.int .u64 0] 36 (0,0)):=by rw[←hal_];exact hp2_1 w _ _
 have hw:Below w.heap.size w w0:=by rw[←hal_];exact(((Below.refl _ _).alloc (Nat.le_refl _) _).alloc (by simp) _)
 clear hal_
 go_wp2_with (first|(refine wpList_load_want rfl 36 _ rfl (w.heap.size) rfl 36 yr (0,0) _ rp0 Tryd.underlying36 rfl hy.info ?_)|(refine wpList_load_want rfl 36 _ rfl (w.heap.size+1) rfl 36 #[.int .u64 0,.int .u64 0,.int .u64 0,.int .u64 0,.int .u64 0,.int .u64 0,.int .u64 0,.int .u64 0,.int .u64 0,.int .u64 0,.int .u64 0,.int .u64 0,.int .u64 0,.int .u64 0,.int .u64 0,.int .u64 0] (0,0) _ rp1 Tryd.underlying36 rfl rnum_zero.info ?_)|fail)
 refine(c1.at _).mono ?_;rintro e w2 ⟨rfl,hb⟩;replace rp0:=keep hb rp0;replace rp1:=keep hb rp1;replace hw:=Below.after hw hb;clear hb
 go_wp2_with (first|(refine wpList_store_row rfl 36 _ _ rfl (w2.heap.size) x1 rfl rfl 36 #[.int .u64 0,.int .u64 0,.int .u64 0,.int .u64 0,.int .u64 0,.int .u64 0,.int .u64 0,.int .u64 0,.int .u64 0,.int .u64 0,.int .u64 0,.int .u64 0,.int .u64 0,.int .u64 0,.int .u64 0,.int .u64 0] (hp1_0 w2 _) h1.info (h1.fits rfl) h1.one ?_;rw[setRow_alloc_new _ _ _ _ _ _ (by simp)];refine wpList_stay ?_)|fail)
 unfold WpStay
 try simp only[Act.put]
 have rl6:(w2.alloc (.cells x1 36)).heap[w2.heap.size]? =some (.cells x1 36 (0,0)):=hp1_0 w2 _;have hb:Below w2.heap.size w2 (w2.alloc (.cells x1 36)):=((Below.refl _ _).alloc (Nat.le_refl _) _)
 generalize (w2.alloc (.cells x1 36))=ws at *
 have ygs_0:=lt_of_row rp0;have ygs_1:=lt_of_row rp1;have ygs:=hw.size;replace rp0:=keep hb rp0;replace rp1:=keep hb rp1;replace hw:=Below.after hw hb;clear hb
 generalize w2.heap.size=gs at *
 clear w2
 go_wp2_with (fail)
 refine wp_region_alloc_ex 5 6 [7] (fun _=>.cells #[.int .u64 0,.int .u64 0,.int .u64 0,.int .u64 0,.int .u64 0,.int .u64 0,.int .u64 0,.int .u64 0,.int .u64 0,.int .u64 0,.int .u64 0,.int .u64 0,.int .u64 0,.int .u64 0,.int .u64 0,.int .u64 0] 36 (0,0)) (by kernel_rfl) (by decide) (by decide) (by kernel_rfl) (by kernel_rfl) (by kernel_rfl) (by kernel_rfl) (by kernel_rfl) (by kernel_rfl) (by kernel_rfl) (by kernel_rfl) (by decide) (by decide) ?_ ?_
 ·intro s l u
  rcases(by omega:s=5) with rfl<;>exact⟨_,_,rfl,rfl,rfl,rfl,fun a w=>by kernel_rfl⟩
 apply Exists.intro
 constructor
 ·intro v3 hb
  have Hrp0:=keepr (keep hb rp0)
  have Hrp1:=keepr (keep hb rp1);have Hrl6:=keepr (keep hb rl6)
  skip
  clear hb;dsimp only[List.take];go_big_quiet_step (exact c4.re);refine wpQuiet_load_row rfl 36 _ rfl (gs) rfl 36 x1 (0,0) _ Hrl6.out Tryd.underlying36 rfl h1.info ?_;simp only[Act.put,ZPd,ZPe,ZPf];go_big_quiet_step (exact c5.re);go_big_quiet_step (exact c6.re);go_big_quiet_step (exact c7.re);refine wpQuiet_nil ?_;rfl
 intro w8 g hb hg hd
 obtain⟨lg7,rg7⟩:=hg 7 (by simp)
 replace rg7:w8.heap[g 7]? =some (.cells #[.int .u64 0,.int .u64 0,.int .u64 0,.int .u64 0,.int .u64 0,.int .u64 0,.int .u64 0,.int .u64 0,.int .u64 0,.int .u64 0,.int .u64 0,.int .u64 0,.int .u64 0,.int .u64 0,.int .u64 0,.int .u64 0] 36 (0,0)):=rg7;simp only[List.drop,puts,ptrs,List.map,List.foldl,Act.put,List.setIfInBounds_toArray,List.set_cons_succ,List.set_cons_zero];clear hg hd
 generalize g 7=gu at *
 have lrp0:=lt_of_row rp0;have lrp1:=lt_of_row rp1;have lrl6:=lt_of_row rl6;have hs:=hw.size;replace rp0:=keep hb rp0;replace rp1:=keep hb rp1;replace rl6:=keep hb rl6;replace hw:=Below.after hw hb;clear hb;refine wpList_store_row rfl 36 _ _ rfl gu x7 rfl rfl 36 _ rg7 h7.info (h7.fits rfl) h7.one ?_;simp only[Act.put]
 replace rp0:=(setRow_other w8 gu (w.heap.size) x7 (by omega)).trans rp0
 replace rp1:=(setRow_other w8 gu (w.heap.size+1) x7 (by omega)).trans rp1
 replace rl6:=(setRow_other w8 gu (gs) x7 (by omega)).trans rl6
 replace rg7:=setRow_heap w8 gu _ x7 _ _ rg7
 replace hw:=below_setRow hw (show w.heap.size≤gu by omega) x7
 generalize w8.setRow gu x7=w9 at *
 have ygu_0:w.heap.size<gu:=by omega
 have ygu_1:w.heap.size+1<gu:=by omega
 have ygu_2:gs<gu:=by omega
 have ygu:w.heap.size≤gu:=by omega
 clear hs lrp0 lrp1 lrl6 lg7
 go_wp2
 go_cut [8,9] from 10 to 44 (fun u8 u9 wx=>∃gx,u8=.pointer (some ⟨gx,0,none⟩)∧u9=.bool O∧w.heap.size≤gx∧w.heap.size<gx∧w.heap.size+1<gx∧gs<gx∧gu<gx∧wx.heap[w.heap.size]? =some (.cells yr 36 (0,0))∧wx.heap[w.heap.size+1]? =some (.cells #[.int .u64 0,.int .u64 0,.int .u64 0,.int .u64 0,.int .u64 0,.int .u64 0,.int .u64 0,.int .u64 0,.int .u64 0,.int .u64 0,.int .u64 0,.int .u64 0,.int .u64 0,.int .u64 0,.int .u64 0,.int .u64 0] 36 (0,0))∧wx.heap[gs]? =some (.cells x1 36 (0,0))∧wx.heap[gu]? =some (.cells x7 36 (0,0))∧wx.heap[gx]? =some (.cells s 36 (0,0))∧Below w.heap.size w wx)
 case first=>
  have hbd:Below w9.heap.size w9 w9.drew:=below_drN (Below.refl _ _) 1;replace rp0:=keep hbd rp0;replace rp1:=keep hbd rp1;replace rl6:=keep hbd rl6;replace rg7:=keep hbd rg7;replace hw:=Below.after hw hbd;clear hbd;refine wp_region_noPanic ?_
  refine wp_region_held (S:=fun W_=>W_.heap[gs]? =some (.cells x1 36 (0,0))∧W_.heap[gu]? =some (.cells x7 36 (0,0))) (by kernel_rfl) ?_
  change wpAnyH _ _ _ _ _ _ _ _ (World.drew _)
  generalize w9.drew=wd1 at *
  refine wpAnyH_take (i:=0) (v:=.agg x1) rfl (by kernel_rfl) (by kernel_rfl) (by kernel_rfl) (fun _ _ _ h=>h) (Or.inl ⟨by rfl,?y2⟩) (⟨rl6,rg7⟩) ?r2
  case y2=>
   intro w_ hS_;simp only[List.getElem_toArray,List.getElem_cons_zero]
   exact e_load_part 36 _ (by rfl) (gs) 0 (by rfl) 36 x1 (0,0) x1 _ (hS_.1) (all_rowe _) Tryd.underlying36 rfl h1.info
  simp only[Act.put,ZPa,ZPc,ZPd,ZPe,ZPf]
  refine wpAnyH_take (i:=3) (v:=.agg x7) rfl (by kernel_rfl) (by kernel_rfl) (by kernel_rfl) (fun _ _ _ h=>h) (Or.inl ⟨by rfl,?y3⟩) (⟨rl6,rg7⟩) ?r3
  case y3=>
   intro w_ hS_;simp only[List.getElem_toArray,List.getElem_cons_succ,List.getElem_cons_zero]
   exact e_load_part 36 _ (by rfl) (gu) 0 (by rfl) 36 x7 (0,0) x7 _ (hS_.2) (all_rowe _) Tryd.underlying36 rfl h7.info
  simp only[Act.put,ZPa,ZPb,ZPc,ZPd,ZPe,ZPf]
  refine eH_two (j:=1) (k:=10) (fuel:=10) (by kernel_rfl) rfl rfl (by kernel_rfl) (by kernel_rfl) (fun K_ hK_=>?_) (fun K_ hK_=>?_)
  ·skip
   refine wp_call_ex (f:=37) (by kernel_rfl) (ex1e (c6.at _)) (fun v_ wq4 hX_=>?_)
   obtain⟨rfl,hb_⟩:=hX_;replace rp0:=keep hb_ rp0;replace rp1:=keep hb_ rp1;replace rl6:=keep hb_ rl6;replace rg7:=keep hb_ rg7;replace hw:=Below.after hw hb_;clear hb_;refine hK_ _ _ (⟨rl6,rg7⟩) ?_;simp only[Act.put,ZPa,ZPb,ZPc,ZPd,ZPe,ZPf];clear hK_
   refine eH_two (j:=2) (k:=10) (fuel:=9) (by kernel_rfl) rfl rfl (by kernel_rfl) (by kernel_rfl) (fun K_ hK_=>?_) (fun K_ hK_=>?_)
   ·skip
    refine wp_call_ex (f:=68) (by kernel_rfl) (ex1e (c10.at _)) (fun v_ wq5 hX_=>?_)
    obtain⟨rfl,hb_⟩:=hX_;replace rp0:=keep hb_ rp0;replace rp1:=keep hb_ rp1;replace rl6:=keep hb_ rl6;replace rg7:=keep hb_ rg7;replace hw:=Below.after hw hb_;clear hb_;refine hK_ _ _ (⟨rl6,rg7⟩) ?_;simp only[Act.put,ZPa,ZPb,ZPc,ZPd,ZPe,ZPf];clear hK_
    refine eH_two (j:=4) (k:=10) (fuel:=8) (by kernel_rfl) rfl rfl (by kernel_rfl) (by kernel_rfl) (fun K_ hK_=>?_) (fun K_ hK_=>?_)
    ·skip
     refine wp_call_ex (f:=46) (by kernel_rfl) (ex1e (c11.at _)) (fun v_ wq6 hX_=>?_)
     obtain⟨rfl,hb_⟩:=hX_;replace rp0:=keep hb_ rp0;replace rp1:=keep hb_ rp1;replace rl6:=keep hb_ rl6;replace rg7:=keep hb_ rg7;replace hw:=Below.after hw hb_;clear hb_;refine hK_ _ _ (⟨rl6,rg7⟩) ?_;simp only[Act.put,ZPa,ZPb,ZPc,ZPd,ZPe,ZPf];clear hK_
     refine eH_two (j:=5) (k:=10) (fuel:=7) (by kernel_rfl) rfl rfl (by kernel_rfl) (by kernel_rfl) (fun K_ hK_=>?_) (fun K_ hK_=>?_)
     ·skip
      refine wp_call_ex (f:=47) (by kernel_rfl) (ex1e (c12.at _)) (fun v_ wq7 hX_=>?_)
      obtain⟨rfl,hb_⟩:=hX_;replace rp0:=keep hb_ rp0;replace rp1:=keep hb_ rp1;replace rl6:=keep hb_ rl6;replace rg7:=keep hb_ rg7;replace hw:=Below.after hw hb_;clear hb_;refine hK_ _ _ (⟨rl6,rg7⟩) ?_;simp only[Act.put,ZPa,ZPb,ZPc,ZPd,ZPe,ZPf];clear hK_
      refine eH_two (j:=6) (k:=10) (fuel:=6) (by kernel_rfl) rfl rfl (by kernel_rfl) (by kernel_rfl) (fun K_ hK_=>?_) (fun K_ hK_=>?_)
      ·skip
       refine wp_call_ex (f:=69) (by kernel_rfl) (ex1e (cR.at _)) (fun v_ wq8 hX_=>?_)
       obtain⟨rfl,hb_⟩:=hX_;replace rp0:=keep hb_ rp0;replace rp1:=keep hb_ rp1;replace rl6:=keep hb_ rl6;replace rg7:=keep hb_ rg7;replace hw:=Below.after hw hb_;clear hb_;refine hK_ _ _ (⟨rl6,rg7⟩) ?_;simp only[Act.put,ZPa,ZPb,ZPc,ZPd,ZPe,ZPf];clear hK_
       refine wpAnyH_take (i:=7) (v:=?v9) rfl (by kernel_rfl) (by kernel_rfl) (by kernel_rfl) (fun _ _ _ h=>h) (Or.inl ⟨by rfl,?y9⟩) (⟨rl6,rg7⟩) ?r9
       case y9=>
        intro w_ hS_;go_simp
        try with_reducible rfl
       simp only[Act.put,ZPa,ZPb,ZPc,ZPd,ZPe,ZPf]
       refine wpAnyH_take (i:=8) (v:=?v10) rfl (by kernel_rfl) (by kernel_rfl) (by kernel_rfl) (fun _ _ _ h=>h) (Or.inl ⟨by rfl,?y10⟩) (⟨rl6,rg7⟩) ?r10
       case y10=>
        intro w_ hS_;go_simp
        try with_reducible rfl
       simp only[Act.put,ZPa,ZPb,ZPc,ZPd,ZPe,ZPf]
       refine wpAnyH_take (i:=9) (v:=?v11) rfl (by kernel_rfl) (by kernel_rfl) (by kernel_rfl) (fun _ _ _ h=>h) (Or.inl ⟨by rfl,?y11⟩) (⟨rl6,rg7⟩) ?r11
       case y11=>
        intro w_ hS_;go_simp
        try with_reducible rfl
       simp only[Act.put,ZPa,ZPb,ZPc,ZPd,ZPe,ZPf]
       refine eH_one (k:=10) (fuel:=2) (by kernel_rfl) rfl (by kernel_rfl) (fun K_ hK_=>?_)
       refine e_world_op (.pointer (some ⟨wq8.heap.size,0,none⟩)) (wq8.alloc (.cells #[.int .u64 0,.int .u64 0,.int .u64 0,.int .u64 0,.int .u64 0,.int .u64 0,.int .u64 0,.int .u64 0,.int .u64 0,.int .u64 0,.int .u64 0,.int .u64 0,.int .u64 0,.int .u64 0,.int .u64 0,.int .u64 0] 36)) (by kernel_rfl) ?_
       have hb_:Below wq8.heap.size wq8 (wq8.alloc (.cells #[.int .u64 0,.int .u64 0,.int .u64 0,.int .u64 0,.int .u64 0,.int .u64 0,.int .u64 0,.int .u64 0,.int .u64 0,.int .u64 0,.int .u64 0,.int .u64 0,.int .u64 0,.int .u64 0,.int .u64 0,.int .u64 0] 36)):=(Below.refl _ _).alloc (Nat.le_refl _) _;have sz_g12:=hw.size;have rg12:=hp1_0 wq8 (.cells #[.int .u64 0,.int .u64 0,.int .u64 0,.int .u64 0,.int .u64 0,.int .u64 0,.int .u64 0,.int .u64 0,.int .u64 0,.int .u64 0,.int .u64 0,.int .u64 0,.int .u64 0,.int .u64 0,.int .u64 0,.int .u64 0] 36);have ltg12_0:=lt_of_row rp0;have ltg12_1:=lt_of_row rp1;have ltg12_2:=lt_of_row rl6;have ltg12_3:=lt_of_row rg7;replace rp0:=keep hb_ rp0;replace rp1:=keep hb_ rp1;replace rl6:=keep hb_ rl6;replace rg7:=keep hb_ rg7;replace hw:=Below.after hw hb_;clear hb_;refine hK_ _ _ (⟨rl6,rg7⟩) ?_;simp only[Act.put,ZPa,ZPb,ZPc,ZPd,ZPe,ZPf];clear hK_
       generalize (wq8.alloc (.cells #[.int .u64 0,.int .u64 0,.int .u64 0,.int .u64 0,.int .u64 0,.int .u64 0,.int .u64 0,.int .u64 0,.int .u64 0,.int .u64 0,.int .u64 0,.int .u64 0,.int .u64 0,.int .u64 0,.int .u64 0,.int .u64 0] 36))=wq12 at *
       generalize wq8.heap.size=g12 at *
       refine eH_one (k:=11) (fuel:=1) (by kernel_rfl) rfl (by kernel_rfl) (fun K_ hK_=>?_)
       refine wp_store_row 36 _ _ rfl (g12) s rfl rfl 36 _ rg12 hsx.info (rnum_zero.size.trans hsx.size.symm) hsx.one ?_
       replace rp0:=(setRow_other wq12 (g12) (w.heap.size) s (by first|assumption|omega)).trans rp0
       replace rp1:=(setRow_other wq12 (g12) (w.heap.size+1) s (by first|assumption|omega)).trans rp1
       replace rl6:=(setRow_other wq12 (g12) (gs) s (by first|assumption|omega)).trans rl6
       replace rg7:=(setRow_other wq12 (g12) (gu) s (by first|assumption|omega)).trans rg7
       replace rg12:=setRow_heap wq12 (g12) _ s _ _ rg12
       replace hw:=below_setRow hw (show w.heap.size≤g12 by first|assumption|omega) s
       generalize wq12.setRow (g12) s=wq13 at *
       refine hK_ _ _ (⟨rl6,rg7⟩) ?_;simp only[Act.put];clear hK_
       refine wpAnyH_take (i:=12) (v:=?v14) rfl (by kernel_rfl) (by kernel_rfl) (by kernel_rfl) (fun _ _ _ h=>h) (Or.inl ⟨by rfl,?y14⟩) (⟨rl6,rg7⟩) ?r14
       case y14=>
        intro w_ hS_;go_simp
        try with_reducible rfl
       simp only[Act.put,ZPa,ZPb,ZPc,ZPd,ZPe,ZPf]
       refine wpAnyH_done (by kernel_rfl) ?_ _
       refine NoPanic.normal ?_
       go_wp2_with (fail)
       go_meet
       case rel=>exact⟨g12,rfl,rfl,by omega,by omega,by omega,by omega,by omega,rp0,rp1,rl6,rg7,rg12,hw⟩
      ·skip
       refine e_world_op (.pointer (some ⟨wq7.heap.size,0,none⟩)) (wq7.alloc (.cells #[.int .u64 0,.int .u64 0,.int .u64 0,.int .u64 0,.int .u64 0,.int .u64 0,.int .u64 0,.int .u64 0,.int .u64 0,.int .u64 0,.int .u64 0,.int .u64 0,.int .u64 0,.int .u64 0,.int .u64 0,.int .u64 0] 36)) (by kernel_rfl) ?_
       have hb_:Below wq7.heap.size wq7 (wq7.alloc (.cells #[.int .u64 0,.int .u64 0,.int .u64 0,.int .u64 0,.int .u64 0,.int .u64 0,.int .u64 0,.int .u64 0,.int .u64 0,.int .u64 0,.int .u64 0,.int .u64 0,.int .u64 0,.int .u64 0,.int .u64 0,.int .u64 0] 36)):=(Below.refl _ _).alloc (Nat.le_refl _) _;have sz_g15:=hw.size;have rg15:=hp1_0 wq7 (.cells #[.int .u64 0,.int .u64 0,.int .u64 0,.int .u64 0,.int .u64 0,.int .u64 0,.int .u64 0,.int .u64 0,.int .u64 0,.int .u64 0,.int .u64 0,.int .u64 0,.int .u64 0,.int .u64 0,.int .u64 0,.int .u64 0] 36);have ltg15_0:=lt_of_row rp0;have ltg15_1:=lt_of_row rp1;have ltg15_2:=lt_of_row rl6;have ltg15_3:=lt_of_row rg7;replace rp0:=keep hb_ rp0;replace rp1:=keep hb_ rp1;replace rl6:=keep hb_ rl6;replace rg7:=keep hb_ rg7;replace hw:=Below.after hw hb_;clear hb_;refine hK_ _ _ (⟨rl6,rg7⟩) ?_;simp only[Act.put,ZPa,ZPb,ZPc,ZPd,ZPe,ZPf];clear hK_
       generalize (wq7.alloc (.cells #[.int .u64 0,.int .u64 0,.int .u64 0,.int .u64 0,.int .u64 0,.int .u64 0,.int .u64 0,.int .u64 0,.int .u64 0,.int .u64 0,.int .u64 0,.int .u64 0,.int .u64 0,.int .u64 0,.int .u64 0,.int .u64 0] 36))=wq15 at *
       generalize wq7.heap.size=g15 at *
       refine eH_one (k:=6) (fuel:=5) (by kernel_rfl) rfl (by kernel_rfl) (fun K_ hK_=>?_)
       refine wp_call_ex (f:=69) (by kernel_rfl) (ex1e (cR.at _)) (fun v_ wq16 hX_=>?_)
       obtain⟨rfl,hb_⟩:=hX_;replace rp0:=keep hb_ rp0;replace rp1:=keep hb_ rp1;replace rl6:=keep hb_ rl6;replace rg7:=keep hb_ rg7;replace rg15:=keep hb_ rg15;replace hw:=Below.after hw hb_;clear hb_;refine hK_ _ _ (⟨rl6,rg7⟩) ?_;simp only[Act.put,ZPa,ZPb,ZPc,ZPd,ZPe,ZPf];clear hK_
       refine wpAnyH_take (i:=7) (v:=?v17) rfl (by kernel_rfl) (by kernel_rfl) (by kernel_rfl) (fun _ _ _ h=>h) (Or.inl ⟨by rfl,?y17⟩) (⟨rl6,rg7⟩) ?r17
       case y17=>
        intro w_ hS_;go_simp
        try with_reducible rfl
       simp only[Act.put,ZPa,ZPb,ZPc,ZPd,ZPe,ZPf]
       refine wpAnyH_take (i:=8) (v:=?v18) rfl (by kernel_rfl) (by kernel_rfl) (by kernel_rfl) (fun _ _ _ h=>h) (Or.inl ⟨by rfl,?y18⟩) (⟨rl6,rg7⟩) ?r18
       case y18=>
        intro w_ hS_;go_simp
        try with_reducible rfl
       simp only[Act.put,ZPa,ZPb,ZPc,ZPd,ZPe,ZPf]
       refine wpAnyH_take (i:=9) (v:=?v19) rfl (by kernel_rfl) (by kernel_rfl) (by kernel_rfl) (fun _ _ _ h=>h) (Or.inl ⟨by rfl,?y19⟩) (⟨rl6,rg7⟩) ?r19
       case y19=>
        intro w_ hS_;go_simp
        try with_reducible rfl
       simp only[Act.put,ZPa,ZPb,ZPc,ZPd,ZPe,ZPf]
       refine eH_one (k:=11) (fuel:=1) (by kernel_rfl) rfl (by kernel_rfl) (fun K_ hK_=>?_)
       refine wp_store_row 36 _ _ rfl (g15) s rfl rfl 36 _ rg15 hsx.info (rnum_zero.size.trans hsx.size.symm) hsx.one ?_
       replace rp0:=(setRow_other wq16 (g15) (w.heap.size) s (by first|assumption|omega)).trans rp0
       replace rp1:=(setRow_other wq16 (g15) (w.heap.size+1) s (by first|assumption|omega)).trans rp1
       replace rl6:=(setRow_other wq16 (g15) (gs) s (by first|assumption|omega)).trans rl6
       replace rg7:=(setRow_other wq16 (g15) (gu) s (by first|assumption|omega)).trans rg7
       replace rg15:=setRow_heap wq16 (g15) _ s _ _ rg15
       replace hw:=below_setRow hw (show w.heap.size≤g15 by first|assumption|omega) s
       generalize wq16.setRow (g15) s=wq20 at *
       refine hK_ _ _ (⟨rl6,rg7⟩) ?_;simp only[Act.put];clear hK_
       refine wpAnyH_take (i:=12) (v:=?v21) rfl (by kernel_rfl) (by kernel_rfl) (by kernel_rfl) (fun _ _ _ h=>h) (Or.inl ⟨by rfl,?y21⟩) (⟨rl6,rg7⟩) ?r21
       case y21=>
        intro w_ hS_;go_simp
        try with_reducible rfl
       simp only[Act.put,ZPa,ZPb,ZPc,ZPd,ZPe,ZPf]
       refine wpAnyH_done (by kernel_rfl) ?_ _
       refine NoPanic.normal ?_
       go_wp2_with (fail)
       go_meet
       case rel=>exact⟨g15,rfl,rfl,by omega,by omega,by omega,by omega,by omega,rp0,rp1,rl6,rg7,rg15,hw⟩
     ·skip
      refine e_world_op (.pointer (some ⟨wq6.heap.size,0,none⟩)) (wq6.alloc (.cells #[.int .u64 0,.int .u64 0,.int .u64 0,.int .u64 0,.int .u64 0,.int .u64 0,.int .u64 0,.int .u64 0,.int .u64 0,.int .u64 0,.int .u64 0,.int .u64 0,.int .u64 0,.int .u64 0,.int .u64 0,.int .u64 0] 36)) (by kernel_rfl) ?_
      have hb_:Below wq6.heap.size wq6 (wq6.alloc (.cells #[.int .u64 0,.int .u64 0,.int .u64 0,.int .u64 0,.int .u64 0,.int .u64 0,.int .u64 0,.int .u64 0,.int .u64 0,.int .u64 0,.int .u64 0,.int .u64 0,.int .u64 0,.int .u64 0,.int .u64 0,.int .u64 0] 36)):=(Below.refl _ _).alloc (Nat.le_refl _) _;have sz_g22:=hw.size;have rg22:=hp1_0 wq6 (.cells #[.int .u64 0,.int .u64 0,.int .u64 0,.int .u64 0,.int .u64 0,.int .u64 0,.int .u64 0,.int .u64 0,.int .u64 0,.int .u64 0,.int .u64 0,.int .u64 0,.int .u64 0,.int .u64 0,.int .u64 0,.int .u64 0] 36);have ltg22_0:=lt_of_row rp0;have ltg22_1:=lt_of_row rp1;have ltg22_2:=lt_of_row rl6;have ltg22_3:=lt_of_row rg7;replace rp0:=keep hb_ rp0;replace rp1:=keep hb_ rp1;replace rl6:=keep hb_ rl6;replace rg7:=keep hb_ rg7;replace hw:=Below.after hw hb_;clear hb_;refine hK_ _ _ (⟨rl6,rg7⟩) ?_;simp only[Act.put,ZPa,ZPb,ZPc,ZPd,ZPe,ZPf];clear hK_
      generalize (wq6.alloc (.cells #[.int .u64 0,.int .u64 0,.int .u64 0,.int .u64 0,.int .u64 0,.int .u64 0,.int .u64 0,.int .u64 0,.int .u64 0,.int .u64 0,.int .u64 0,.int .u64 0,.int .u64 0,.int .u64 0,.int .u64 0,.int .u64 0] 36))=wq22 at *
      generalize wq6.heap.size=g22 at *
      refine eH_one (k:=5) (fuel:=6) (by kernel_rfl) rfl (by kernel_rfl) (fun K_ hK_=>?_)
      refine wp_call_ex (f:=47) (by kernel_rfl) (ex1e (c12.at _)) (fun v_ wq23 hX_=>?_)
      obtain⟨rfl,hb_⟩:=hX_;replace rp0:=keep hb_ rp0;replace rp1:=keep hb_ rp1;replace rl6:=keep hb_ rl6;replace rg7:=keep hb_ rg7;replace rg22:=keep hb_ rg22;replace hw:=Below.after hw hb_;clear hb_;refine hK_ _ _ (⟨rl6,rg7⟩) ?_;simp only[Act.put,ZPa,ZPb,ZPc,ZPd,ZPe,ZPf];clear hK_
      refine eH_one (k:=6) (fuel:=5) (by kernel_rfl) rfl (by kernel_rfl) (fun K_ hK_=>?_)
      refine wp_call_ex (f:=69) (by kernel_rfl) (ex1e (cR.at _)) (fun v_ wq24 hX_=>?_)
      obtain⟨rfl,hb_⟩:=hX_;replace rp0:=keep hb_ rp0;replace rp1:=keep hb_ rp1;replace rl6:=keep hb_ rl6;replace rg7:=keep hb_ rg7;replace rg22:=keep hb_ rg22;replace hw:=Below.after hw hb_;clear hb_;refine hK_ _ _ (⟨rl6,rg7⟩) ?_;simp only[Act.put,ZPa,ZPb,ZPc,ZPd,ZPe,ZPf];clear hK_
      refine wpAnyH_take (i:=7) (v:=?v25) rfl (by kernel_rfl) (by kernel_rfl) (by kernel_rfl) (fun _ _ _ h=>h) (Or.inl ⟨by rfl,?y25⟩) (⟨rl6,rg7⟩) ?r25
      case y25=>
       intro w_ hS_;go_simp
       try with_reducible rfl
      simp only[Act.put,ZPa,ZPb,ZPc,ZPd,ZPe,ZPf]
      refine wpAnyH_take (i:=8) (v:=?v26) rfl (by kernel_rfl) (by kernel_rfl) (by kernel_rfl) (fun _ _ _ h=>h) (Or.inl ⟨by rfl,?y26⟩) (⟨rl6,rg7⟩) ?r26
      case y26=>
       intro w_ hS_;go_simp
       try with_reducible rfl
      simp only[Act.put,ZPa,ZPb,ZPc,ZPd,ZPe,ZPf]
      refine wpAnyH_take (i:=9) (v:=?v27) rfl (by kernel_rfl) (by kernel_rfl) (by kernel_rfl) (fun _ _ _ h=>h) (Or.inl ⟨by rfl,?y27⟩) (⟨rl6,rg7⟩) ?r27
      case y27=>
       intro w_ hS_;go_simp
       try with_reducible rfl
      simp only[Act.put,ZPa,ZPb,ZPc,ZPd,ZPe,ZPf]
      refine eH_one (k:=11) (fuel:=1) (by kernel_rfl) rfl (by kernel_rfl) (fun K_ hK_=>?_)
      refine wp_store_row 36 _ _ rfl (g22) s rfl rfl 36 _ rg22 hsx.info (rnum_zero.size.trans hsx.size.symm) hsx.one ?_
      replace rp0:=(setRow_other wq24 (g22) (w.heap.size) s (by first|assumption|omega)).trans rp0
      replace rp1:=(setRow_other wq24 (g22) (w.heap.size+1) s (by first|assumption|omega)).trans rp1
      replace rl6:=(setRow_other wq24 (g22) (gs) s (by first|assumption|omega)).trans rl6
      replace rg7:=(setRow_other wq24 (g22) (gu) s (by first|assumption|omega)).trans rg7
      replace rg22:=setRow_heap wq24 (g22) _ s _ _ rg22
      replace hw:=below_setRow hw (show w.heap.size≤g22 by first|assumption|omega) s
      generalize wq24.setRow (g22) s=wq28 at *
      refine hK_ _ _ (⟨rl6,rg7⟩) ?_;simp only[Act.put];clear hK_
      refine wpAnyH_take (i:=12) (v:=?v29) rfl (by kernel_rfl) (by kernel_rfl) (by kernel_rfl) (fun _ _ _ h=>h) (Or.inl ⟨by rfl,?y29⟩) (⟨rl6,rg7⟩) ?r29
      case y29=>
       intro w_ hS_;go_simp
       try with_reducible rfl
      simp only[Act.put,ZPa,ZPb,ZPc,ZPd,ZPe,ZPf]
      refine wpAnyH_done (by kernel_rfl) ?_ _
      refine NoPanic.normal ?_
      go_wp2_with (fail)
      go_meet
      case rel=>exact⟨g22,rfl,rfl,by omega,by omega,by omega,by omega,by omega,rp0,rp1,rl6,rg7,rg22,hw⟩
    ·skip
     refine e_world_op (.pointer (some ⟨wq5.heap.size,0,none⟩)) (wq5.alloc (.cells #[.int .u64 0,.int .u64 0,.int .u64 0,.int .u64 0,.int .u64 0,.int .u64 0,.int .u64 0,.int .u64 0,.int .u64 0,.int .u64 0,.int .u64 0,.int .u64 0,.int .u64 0,.int .u64 0,.int .u64 0,.int .u64 0] 36)) (by kernel_rfl) ?_
     have hb_:Below wq5.heap.size wq5 (wq5.alloc (.cells #[.int .u64 0,.int .u64 0,.int .u64 0,.int .u64 0,.int .u64 0,.int .u64 0,.int .u64 0,.int .u64 0,.int .u64 0,.int .u64 0,.int .u64 0,.int .u64 0,.int .u64 0,.int .u64 0,.int .u64 0,.int .u64 0] 36)):=(Below.refl _ _).alloc (Nat.le_refl _) _;have sz_g30:=hw.size;have rg30:=hp1_0 wq5 (.cells #[.int .u64 0,.int .u64 0,.int .u64 0,.int .u64 0,.int .u64 0,.int .u64 0,.int .u64 0,.int .u64 0,.int .u64 0,.int .u64 0,.int .u64 0,.int .u64 0,.int .u64 0,.int .u64 0,.int .u64 0,.int .u64 0] 36);have ltg30_0:=lt_of_row rp0;have ltg30_1:=lt_of_row rp1;have ltg30_2:=lt_of_row rl6;have ltg30_3:=lt_of_row rg7;replace rp0:=keep hb_ rp0;replace rp1:=keep hb_ rp1;replace rl6:=keep hb_ rl6;replace rg7:=keep hb_ rg7;replace hw:=Below.after hw hb_;clear hb_;refine hK_ _ _ (⟨rl6,rg7⟩) ?_;simp only[Act.put,ZPa,ZPb,ZPc,ZPd,ZPe,ZPf];clear hK_
     generalize (wq5.alloc (.cells #[.int .u64 0,.int .u64 0,.int .u64 0,.int .u64 0,.int .u64 0,.int .u64 0,.int .u64 0,.int .u64 0,.int .u64 0,.int .u64 0,.int .u64 0,.int .u64 0,.int .u64 0,.int .u64 0,.int .u64 0,.int .u64 0] 36))=wq30 at *
     generalize wq5.heap.size=g30 at *
     refine eH_one (k:=4) (fuel:=7) (by kernel_rfl) rfl (by kernel_rfl) (fun K_ hK_=>?_)
     refine wp_call_ex (f:=46) (by kernel_rfl) (ex1e (c11.at _)) (fun v_ wq31 hX_=>?_)
     obtain⟨rfl,hb_⟩:=hX_;replace rp0:=keep hb_ rp0;replace rp1:=keep hb_ rp1;replace rl6:=keep hb_ rl6;replace rg7:=keep hb_ rg7;replace rg30:=keep hb_ rg30;replace hw:=Below.after hw hb_;clear hb_;refine hK_ _ _ (⟨rl6,rg7⟩) ?_;simp only[Act.put,ZPa,ZPb,ZPc,ZPd,ZPe,ZPf];clear hK_
     refine eH_one (k:=5) (fuel:=6) (by kernel_rfl) rfl (by kernel_rfl) (fun K_ hK_=>?_)
     refine wp_call_ex (f:=47) (by kernel_rfl) (ex1e (c12.at _)) (fun v_ wq32 hX_=>?_)
     obtain⟨rfl,hb_⟩:=hX_;replace rp0:=keep hb_ rp0;replace rp1:=keep hb_ rp1;replace rl6:=keep hb_ rl6;replace rg7:=keep hb_ rg7;replace rg30:=keep hb_ rg30;replace hw:=Below.after hw hb_;clear hb_;refine hK_ _ _ (⟨rl6,rg7⟩) ?_;simp only[Act.put,ZPa,ZPb,ZPc,ZPd,ZPe,ZPf];clear hK_
     refine eH_one (k:=6) (fuel:=5) (by kernel_rfl) rfl (by kernel_rfl) (fun K_ hK_=>?_)
     refine wp_call_ex (f:=69) (by kernel_rfl) (ex1e (cR.at _)) (fun v_ wq33 hX_=>?_)
     obtain⟨rfl,hb_⟩:=hX_;replace rp0:=keep hb_ rp0;replace rp1:=keep hb_ rp1;replace rl6:=keep hb_ rl6;replace rg7:=keep hb_ rg7;replace rg30:=keep hb_ rg30;replace hw:=Below.after hw hb_;clear hb_;refine hK_ _ _ (⟨rl6,rg7⟩) ?_;simp only[Act.put,ZPa,ZPb,ZPc,ZPd,ZPe,ZPf];clear hK_
     refine wpAnyH_take (i:=7) (v:=?v34) rfl (by kernel_rfl) (by kernel_rfl) (by kernel_rfl) (fun _ _ _ h=>h) (Or.inl ⟨by rfl,?y34⟩) (⟨rl6,rg7⟩) ?r34
     case y34=>
      intro w_ hS_;go_simp
      try with_reducible rfl
     simp only[Act.put,ZPa,ZPb,ZPc,ZPd,ZPe,ZPf]
     refine wpAnyH_take (i:=8) (v:=?v35) rfl (by kernel_rfl) (by kernel_rfl) (by kernel_rfl) (fun _ _ _ h=>h) (Or.inl ⟨by rfl,?y35⟩) (⟨rl6,rg7⟩) ?r35
     case y35=>
      intro w_ hS_;go_simp
      try with_reducible rfl
     simp only[Act.put,ZPa,ZPb,ZPc,ZPd,ZPe,ZPf]
     refine wpAnyH_take (i:=9) (v:=?v36) rfl (by kernel_rfl) (by kernel_rfl) (by kernel_rfl) (fun _ _ _ h=>h) (Or.inl ⟨by rfl,?y36⟩) (⟨rl6,rg7⟩) ?r36
     case y36=>
      intro w_ hS_;go_simp
      try with_reducible rfl
     simp only[Act.put,ZPa,ZPb,ZPc,ZPd,ZPe,ZPf]
     refine eH_one (k:=11) (fuel:=1) (by kernel_rfl) rfl (by kernel_rfl) (fun K_ hK_=>?_)
     refine wp_store_row 36 _ _ rfl (g30) s rfl rfl 36 _ rg30 hsx.info (rnum_zero.size.trans hsx.size.symm) hsx.one ?_
     replace rp0:=(setRow_other wq33 (g30) (w.heap.size) s (by first|assumption|omega)).trans rp0
     replace rp1:=(setRow_other wq33 (g30) (w.heap.size+1) s (by first|assumption|omega)).trans rp1
     replace rl6:=(setRow_other wq33 (g30) (gs) s (by first|assumption|omega)).trans rl6
     replace rg7:=(setRow_other wq33 (g30) (gu) s (by first|assumption|omega)).trans rg7
     replace rg30:=setRow_heap wq33 (g30) _ s _ _ rg30
     replace hw:=below_setRow hw (show w.heap.size≤g30 by first|assumption|omega) s
     generalize wq33.setRow (g30) s=wq37 at *
     refine hK_ _ _ (⟨rl6,rg7⟩) ?_;simp only[Act.put];clear hK_
     refine wpAnyH_take (i:=12) (v:=?v38) rfl (by kernel_rfl) (by kernel_rfl) (by kernel_rfl) (fun _ _ _ h=>h) (Or.inl ⟨by rfl,?y38⟩) (⟨rl6,rg7⟩) ?r38
     case y38=>
      intro w_ hS_;go_simp
      try with_reducible rfl
     simp only[Act.put,ZPa,ZPb,ZPc,ZPd,ZPe,ZPf]
     refine wpAnyH_done (by kernel_rfl) ?_ _
     refine NoPanic.normal ?_
     go_wp2_with (fail)
     go_meet
     case rel=>exact⟨g30,rfl,rfl,by omega,by omega,by omega,by omega,by omega,rp0,rp1,rl6,rg7,rg30,hw⟩
   ·skip
    refine e_world_op (.pointer (some ⟨wq4.heap.size,0,none⟩)) (wq4.alloc (.cells #[.int .u64 0,.int .u64 0,.int .u64 0,.int .u64 0,.int .u64 0,.int .u64 0,.int .u64 0,.int .u64 0,.int .u64 0,.int .u64 0,.int .u64 0,.int .u64 0,.int .u64 0,.int .u64 0,.int .u64 0,.int .u64 0] 36)) (by kernel_rfl) ?_
    have hb_:Below wq4.heap.size wq4 (wq4.alloc (.cells #[.int .u64 0,.int .u64 0,.int .u64 0,.int .u64 0,.int .u64 0,.int .u64 0,.int .u64 0,.int .u64 0,.int .u64 0,.int .u64 0,.int .u64 0,.int .u64 0,.int .u64 0,.int .u64 0,.int .u64 0,.int .u64 0] 36)):=(Below.refl _ _).alloc (Nat.le_refl _) _;have sz_g39:=hw.size;have rg39:=hp1_0 wq4 (.cells #[.int .u64 0,.int .u64 0,.int .u64 0,.int .u64 0,.int .u64 0,.int .u64 0,.int .u64 0,.int .u64 0,.int .u64 0,.int .u64 0,.int .u64 0,.int .u64 0,.int .u64 0,.int .u64 0,.int .u64 0,.int .u64 0] 36);have ltg39_0:=lt_of_row rp0;have ltg39_1:=lt_of_row rp1;have ltg39_2:=lt_of_row rl6;have ltg39_3:=lt_of_row rg7;replace rp0:=keep hb_ rp0;replace rp1:=keep hb_ rp1;replace rl6:=keep hb_ rl6;replace rg7:=keep hb_ rg7;replace hw:=Below.after hw hb_;clear hb_;refine hK_ _ _ (⟨rl6,rg7⟩) ?_;simp only[Act.put,ZPa,ZPb,ZPc,ZPd,ZPe,ZPf];clear hK_
    generalize (wq4.alloc (.cells #[.int .u64 0,.int .u64 0,.int .u64 0,.int .u64 0,.int .u64 0,.int .u64 0,.int .u64 0,.int .u64 0,.int .u64 0,.int .u64 0,.int .u64 0,.int .u64 0,.int .u64 0,.int .u64 0,.int .u64 0,.int .u64 0] 36))=wq39 at *
    generalize wq4.heap.size=g39 at *
    refine eH_one (k:=2) (fuel:=8) (by kernel_rfl) rfl (by kernel_rfl) (fun K_ hK_=>?_)
    refine wp_call_ex (f:=68) (by kernel_rfl) (ex1e (c10.at _)) (fun v_ wq40 hX_=>?_)
    obtain⟨rfl,hb_⟩:=hX_;replace rp0:=keep hb_ rp0;replace rp1:=keep hb_ rp1;replace rl6:=keep hb_ rl6;replace rg7:=keep hb_ rg7;replace rg39:=keep hb_ rg39;replace hw:=Below.after hw hb_;clear hb_;refine hK_ _ _ (⟨rl6,rg7⟩) ?_;simp only[Act.put,ZPa,ZPb,ZPc,ZPd,ZPe,ZPf];clear hK_
    refine eH_one (k:=4) (fuel:=7) (by kernel_rfl) rfl (by kernel_rfl) (fun K_ hK_=>?_)
    refine wp_call_ex (f:=46) (by kernel_rfl) (ex1e (c11.at _)) (fun v_ wq41 hX_=>?_)
    obtain⟨rfl,hb_⟩:=hX_;replace rp0:=keep hb_ rp0;replace rp1:=keep hb_ rp1;replace rl6:=keep hb_ rl6;replace rg7:=keep hb_ rg7;replace rg39:=keep hb_ rg39;replace hw:=Below.after hw hb_;clear hb_;refine hK_ _ _ (⟨rl6,rg7⟩) ?_;simp only[Act.put,ZPa,ZPb,ZPc,ZPd,ZPe,ZPf];clear hK_
    refine eH_one (k:=5) (fuel:=6) (by kernel_rfl) rfl (by kernel_rfl) (fun K_ hK_=>?_)
    refine wp_call_ex (f:=47) (by kernel_rfl) (ex1e (c12.at _)) (fun v_ wq42 hX_=>?_)
    obtain⟨rfl,hb_⟩:=hX_;replace rp0:=keep hb_ rp0;replace rp1:=keep hb_ rp1;replace rl6:=keep hb_ rl6;replace rg7:=keep hb_ rg7;replace rg39:=keep hb_ rg39;replace hw:=Below.after hw hb_;clear hb_;refine hK_ _ _ (⟨rl6,rg7⟩) ?_;simp only[Act.put,ZPa,ZPb,ZPc,ZPd,ZPe,ZPf];clear hK_
    refine eH_one (k:=6) (fuel:=5) (by kernel_rfl) rfl (by kernel_rfl) (fun K_ hK_=>?_)
    refine wp_call_ex (f:=69) (by kernel_rfl) (ex1e (cR.at _)) (fun v_ wq43 hX_=>?_)
    obtain⟨rfl,hb_⟩:=hX_;replace rp0:=keep hb_ rp0;replace rp1:=keep hb_ rp1;replace rl6:=keep hb_ rl6;replace rg7:=keep hb_ rg7;replace rg39:=keep hb_ rg39;replace hw:=Below.after hw hb_;clear hb_;refine hK_ _ _ (⟨rl6,rg7⟩) ?_;simp only[Act.put,ZPa,ZPb,ZPc,ZPd,ZPe,ZPf];clear hK_
    refine wpAnyH_take (i:=7) (v:=?v44) rfl (by kernel_rfl) (by kernel_rfl) (by kernel_rfl) (fun _ _ _ h=>h) (Or.inl ⟨by rfl,?y44⟩) (⟨rl6,rg7⟩) ?r44
    case y44=>
     intro w_ hS_;go_simp
     try with_reducible rfl
    simp only[Act.put,ZPa,ZPb,ZPc,ZPd,ZPe,ZPf]
    refine wpAnyH_take (i:=8) (v:=?v45) rfl (by kernel_rfl) (by kernel_rfl) (by kernel_rfl) (fun _ _ _ h=>h) (Or.inl ⟨by rfl,?y45⟩) (⟨rl6,rg7⟩) ?r45
    case y45=>
     intro w_ hS_;go_simp
     try with_reducible rfl
    simp only[Act.put,ZPa,ZPb,ZPc,ZPd,ZPe,ZPf]
    refine wpAnyH_take (i:=9) (v:=?v46) rfl (by kernel_rfl) (by kernel_rfl) (by kernel_rfl) (fun _ _ _ h=>h) (Or.inl ⟨by rfl,?y46⟩) (⟨rl6,rg7⟩) ?r46
    case y46=>
     intro w_ hS_;go_simp
     try with_reducible rfl
    simp only[Act.put,ZPa,ZPb,ZPc,ZPd,ZPe,ZPf]
    refine eH_one (k:=11) (fuel:=1) (by kernel_rfl) rfl (by kernel_rfl) (fun K_ hK_=>?_)
    refine wp_store_row 36 _ _ rfl (g39) s rfl rfl 36 _ rg39 hsx.info (rnum_zero.size.trans hsx.size.symm) hsx.one ?_
    replace rp0:=(setRow_other wq43 (g39) (w.heap.size) s (by first|assumption|omega)).trans rp0
    replace rp1:=(setRow_other wq43 (g39) (w.heap.size+1) s (by first|assumption|omega)).trans rp1
    replace rl6:=(setRow_other wq43 (g39) (gs) s (by first|assumption|omega)).trans rl6
    replace rg7:=(setRow_other wq43 (g39) (gu) s (by first|assumption|omega)).trans rg7
    replace rg39:=setRow_heap wq43 (g39) _ s _ _ rg39
    replace hw:=below_setRow hw (show w.heap.size≤g39 by first|assumption|omega) s
    generalize wq43.setRow (g39) s=wq47 at *
    refine hK_ _ _ (⟨rl6,rg7⟩) ?_;simp only[Act.put];clear hK_
    refine wpAnyH_take (i:=12) (v:=?v48) rfl (by kernel_rfl) (by kernel_rfl) (by kernel_rfl) (fun _ _ _ h=>h) (Or.inl ⟨by rfl,?y48⟩) (⟨rl6,rg7⟩) ?r48
    case y48=>
     intro w_ hS_;go_simp
     try with_reducible rfl
    simp only[Act.put,ZPa,ZPb,ZPc,ZPd,ZPe,ZPf]
    refine wpAnyH_done (by kernel_rfl) ?_ _
    refine NoPanic.normal ?_
    go_wp2_with (fail)
    go_meet
    case rel=>exact⟨g39,rfl,rfl,by omega,by omega,by omega,by omega,by omega,rp0,rp1,rl6,rg7,rg39,hw⟩
  ·skip
   refine e_world_op (.pointer (some ⟨wd1.heap.size,0,none⟩)) (wd1.alloc (.cells #[.int .u64 0,.int .u64 0,.int .u64 0,.int .u64 0,.int .u64 0,.int .u64 0,.int .u64 0,.int .u64 0,.int .u64 0,.int .u64 0,.int .u64 0,.int .u64 0,.int .u64 0,.int .u64 0,.int .u64 0,.int .u64 0] 36)) (by kernel_rfl) ?_
   have hb_:Below wd1.heap.size wd1 (wd1.alloc (.cells #[.int .u64 0,.int .u64 0,.int .u64 0,.int .u64 0,.int .u64 0,.int .u64 0,.int .u64 0,.int .u64 0,.int .u64 0,.int .u64 0,.int .u64 0,.int .u64 0,.int .u64 0,.int .u64 0,.int .u64 0,.int .u64 0] 36)):=(Below.refl _ _).alloc (Nat.le_refl _) _;have sz_g49:=hw.size;have rg49:=hp1_0 wd1 (.cells #[.int .u64 0,.int .u64 0,.int .u64 0,.int .u64 0,.int .u64 0,.int .u64 0,.int .u64 0,.int .u64 0,.int .u64 0,.int .u64 0,.int .u64 0,.int .u64 0,.int .u64 0,.int .u64 0,.int .u64 0,.int .u64 0] 36);have ltg49_0:=lt_of_row rp0;have ltg49_1:=lt_of_row rp1;have ltg49_2:=lt_of_row rl6;have ltg49_3:=lt_of_row rg7;replace rp0:=keep hb_ rp0;replace rp1:=keep hb_ rp1;replace rl6:=keep hb_ rl6;replace rg7:=keep hb_ rg7;replace hw:=Below.after hw hb_;clear hb_;refine hK_ _ _ (⟨rl6,rg7⟩) ?_;simp only[Act.put,ZPa,ZPb,ZPc,ZPd,ZPe,ZPf];clear hK_
   generalize (wd1.alloc (.cells #[.int .u64 0,.int .u64 0,.int .u64 0,.int .u64 0,.int .u64 0,.int .u64 0,.int .u64 0,.int .u64 0,.int .u64 0,.int .u64 0,.int .u64 0,.int .u64 0,.int .u64 0,.int .u64 0,.int .u64 0,.int .u64 0] 36))=wq49 at *
   generalize wd1.heap.size=g49 at *
   refine eH_one (k:=1) (fuel:=9) (by kernel_rfl) rfl (by kernel_rfl) (fun K_ hK_=>?_)
   refine wp_call_ex (f:=37) (by kernel_rfl) (ex1e (c6.at _)) (fun v_ wq50 hX_=>?_)
   obtain⟨rfl,hb_⟩:=hX_;replace rp0:=keep hb_ rp0;replace rp1:=keep hb_ rp1;replace rl6:=keep hb_ rl6;replace rg7:=keep hb_ rg7;replace rg49:=keep hb_ rg49;replace hw:=Below.after hw hb_;clear hb_;refine hK_ _ _ (⟨rl6,rg7⟩) ?_;simp only[Act.put,ZPa,ZPb,ZPc,ZPd,ZPe,ZPf];clear hK_
   refine eH_one (k:=2) (fuel:=8) (by kernel_rfl) rfl (by kernel_rfl) (fun K_ hK_=>?_)
   refine wp_call_ex (f:=68) (by kernel_rfl) (ex1e (c10.at _)) (fun v_ wq51 hX_=>?_)
   obtain⟨rfl,hb_⟩:=hX_;replace rp0:=keep hb_ rp0;replace rp1:=keep hb_ rp1;replace rl6:=keep hb_ rl6;replace rg7:=keep hb_ rg7;replace rg49:=keep hb_ rg49;replace hw:=Below.after hw hb_;clear hb_;refine hK_ _ _ (⟨rl6,rg7⟩) ?_;simp only[Act.put,ZPa,ZPb,ZPc,ZPd,ZPe,ZPf];clear hK_
   refine eH_one (k:=4) (fuel:=7) (by kernel_rfl) rfl (by kernel_rfl) (fun K_ hK_=>?_)
   refine wp_call_ex (f:=46) (by kernel_rfl) (ex1e (c11.at _)) (fun v_ wq52 hX_=>?_)
   obtain⟨rfl,hb_⟩:=hX_;replace rp0:=keep hb_ rp0;replace rp1:=keep hb_ rp1;replace rl6:=keep hb_ rl6;replace rg7:=keep hb_ rg7;replace rg49:=keep hb_ rg49;replace hw:=Below.after hw hb_;clear hb_;refine hK_ _ _ (⟨rl6,rg7⟩) ?_;simp only[Act.put,ZPa,ZPb,ZPc,ZPd,ZPe,ZPf];clear hK_
   refine eH_one (k:=5) (fuel:=6) (by kernel_rfl) rfl (by kernel_rfl) (fun K_ hK_=>?_)
   refine wp_call_ex (f:=47) (by kernel_rfl) (ex1e (c12.at _)) (fun v_ wq53 hX_=>?_)
   obtain⟨rfl,hb_⟩:=hX_;replace rp0:=keep hb_ rp0;replace rp1:=keep hb_ rp1;replace rl6:=keep hb_ rl6;replace rg7:=keep hb_ rg7;replace rg49:=keep hb_ rg49;replace hw:=Below.after hw hb_;clear hb_;refine hK_ _ _ (⟨rl6,rg7⟩) ?_;simp only[Act.put,ZPa,ZPb,ZPc,ZPd,ZPe,ZPf];clear hK_
   refine eH_one (k:=6) (fuel:=5) (by kernel_rfl) rfl (by kernel_rfl) (fun K_ hK_=>?_)
   refine wp_call_ex (f:=69) (by kernel_rfl) (ex1e (cR.at _)) (fun v_ wq54 hX_=>?_)
   obtain⟨rfl,hb_⟩:=hX_;replace rp0:=keep hb_ rp0;replace rp1:=keep hb_ rp1;replace rl6:=keep hb_ rl6;replace rg7:=keep hb_ rg7;replace rg49:=keep hb_ rg49;replace hw:=Below.after hw hb_;clear hb_;refine hK_ _ _ (⟨rl6,rg7⟩) ?_;simp only[Act.put,ZPa,ZPb,ZPc,ZPd,ZPe,ZPf];clear hK_
   refine wpAnyH_take (i:=7) (v:=?v55) rfl (by kernel_rfl) (by kernel_rfl) (by kernel_rfl) (fun _ _ _ h=>h) (Or.inl ⟨by rfl,?y55⟩) (⟨rl6,rg7⟩) ?r55
   case y55=>
    intro w_ hS_;go_simp
    try with_reducible rfl
   simp only[Act.put,ZPa,ZPb,ZPc,ZPd,ZPe,ZPf]
   refine wpAnyH_take (i:=8) (v:=?v56) rfl (by kernel_rfl) (by kernel_rfl) (by kernel_rfl) (fun _ _ _ h=>h) (Or.inl ⟨by rfl,?y56⟩) (⟨rl6,rg7⟩) ?r56
   case y56=>
    intro w_ hS_;go_simp
    try with_reducible rfl
   simp only[Act.put,ZPa,ZPb,ZPc,ZPd,ZPe,ZPf]
   refine wpAnyH_take (i:=9) (v:=?v57) rfl (by kernel_rfl) (by kernel_rfl) (by kernel_rfl) (fun _ _ _ h=>h) (Or.inl ⟨by rfl,?y57⟩) (⟨rl6,rg7⟩) ?r57
   case y57=>
    intro w_ hS_;go_simp
    try with_reducible rfl
   simp only[Act.put,ZPa,ZPb,ZPc,ZPd,ZPe,ZPf]
   refine eH_one (k:=11) (fuel:=1) (by kernel_rfl) rfl (by kernel_rfl) (fun K_ hK_=>?_)
   refine wp_store_row 36 _ _ rfl (g49) s rfl rfl 36 _ rg49 hsx.info (rnum_zero.size.trans hsx.size.symm) hsx.one ?_
   replace rp0:=(setRow_other wq54 (g49) (w.heap.size) s (by first|assumption|omega)).trans rp0
   replace rp1:=(setRow_other wq54 (g49) (w.heap.size+1) s (by first|assumption|omega)).trans rp1
   replace rl6:=(setRow_other wq54 (g49) (gs) s (by first|assumption|omega)).trans rl6
   replace rg7:=(setRow_other wq54 (g49) (gu) s (by first|assumption|omega)).trans rg7
   replace rg49:=setRow_heap wq54 (g49) _ s _ _ rg49
   replace hw:=below_setRow hw (show w.heap.size≤g49 by first|assumption|omega) s
   generalize wq54.setRow (g49) s=wq58 at *
   refine hK_ _ _ (⟨rl6,rg7⟩) ?_;simp only[Act.put];clear hK_
   refine wpAnyH_take (i:=12) (v:=?v59) rfl (by kernel_rfl) (by kernel_rfl) (by kernel_rfl) (fun _ _ _ h=>h) (Or.inl ⟨by rfl,?y59⟩) (⟨rl6,rg7⟩) ?r59
   case y59=>
    intro w_ hS_;go_simp
    try with_reducible rfl
   simp only[Act.put,ZPa,ZPb,ZPc,ZPd,ZPe,ZPf]
   refine wpAnyH_done (by kernel_rfl) ?_ _
   refine NoPanic.normal ?_
   go_wp2_with (fail)
   go_meet
   case rel=>exact⟨g49,rfl,rfl,by omega,by omega,by omega,by omega,by omega,rp0,rp1,rl6,rg7,rg49,hw⟩
 case rest=>
  obtain⟨gx,rfl,rfl,xq0,xb0,xb1,xb2,xb3,rp0,rp1,rl6,rg7,rgx,hw⟩:=hcut
  rcases hcase with⟨rfl,rfl⟩|⟨rfl,rfl,rfl,rfl⟩|⟨rfl,rfl,_,hv⟩|⟨rfl,rfl,rfl,hv⟩
  ·skip
   go_wp2_with (first|(refine wpList_build_as rfl 36 _ rfl [] rfl #[.int .u64 0,.int .u64 0,.int .u64 0,.int .u64 0,.int .u64 0,.int .u64 0,.int .u64 0,.int .u64 0,.int .u64 0,.int .u64 0,.int .u64 0,.int .u64 0,.int .u64 0,.int .u64 0,.int .u64 0,.int .u64 0] (by kernel_rfl) ?_;refine wpList_stay ?_)|fail)
   unfold WpStay
   go_wp2_with (first|(refine wpList_build_as rfl 36 _ rfl [] rfl #[.int .u64 0,.int .u64 0,.int .u64 0,.int .u64 0,.int .u64 0,.int .u64 0,.int .u64 0,.int .u64 0,.int .u64 0,.int .u64 0,.int .u64 0,.int .u64 0,.int .u64 0,.int .u64 0,.int .u64 0,.int .u64 0] (by kernel_rfl) ?_)|(refine wpList_store_row rfl 36 _ _ rfl (w.heap.size+1) #[.int .u64 0,.int .u64 0,.int .u64 0,.int .u64 0,.int .u64 0,.int .u64 0,.int .u64 0,.int .u64 0,.int .u64 0,.int .u64 0,.int .u64 0,.int .u64 0,.int .u64 0,.int .u64 0,.int .u64 0,.int .u64 0] rfl rfl 36 _ rp1 rnum_zero.info (rnum_zero.fits rfl) rnum_zero.one ?_)|(refine wpList_load_want rfl 36 _ rfl (w.heap.size) rfl 36 yr (0,0) _ rp0 Tryd.underlying36 rfl hy.info ?_)|(refine wpList_load_want rfl 36 _ rfl (w.heap.size+1) rfl 36 #[.int .u64 0,.int .u64 0,.int .u64 0,.int .u64 0,.int .u64 0,.int .u64 0,.int .u64 0,.int .u64 0,.int .u64 0,.int .u64 0,.int .u64 0,.int .u64 0,.int .u64 0,.int .u64 0,.int .u64 0,.int .u64 0] (0,0) _ rp1 Tryd.underlying36 rfl rnum_zero.info ?_)|(refine wpList_load_want rfl 36 _ rfl (gs) rfl 36 x1 (0,0) _ rl6 Tryd.underlying36 rfl h1.info ?_)|(refine wpList_load_want rfl 36 _ rfl (gu) rfl 36 x7 (0,0) _ rg7 Tryd.underlying36 rfl h7.info ?_)|(refine wpList_load_want rfl 36 _ rfl (gx) rfl 36 s (0,0) _ rgx Tryd.underlying36 rfl hsx.info ?_)|fail)
   exact bodyPost_ret (v:=.tuple #[.agg #[.int .u64 0,.int .u64 0,.int .u64 0,.int .u64 0,.int .u64 0,.int .u64 0,.int .u64 0,.int .u64 0,.int .u64 0,.int .u64 0,.int .u64 0,.int .u64 0,.int .u64 0,.int .u64 0,.int .u64 0,.int .u64 0],.bool false]) (results_row_slot Tryd.results36 _ _ (w.heap.size+1) _ #[.int .u64 0,.int .u64 0,.int .u64 0,.int .u64 0,.int .u64 0,.int .u64 0,.int .u64 0,.int .u64 0,.int .u64 0,.int .u64 0,.int .u64 0,.int .u64 0,.int .u64 0,.int .u64 0,.int .u64 0,.int .u64 0] _ _ _ rfl (setRow_heap _ _ _ _ _ _ rp1) rfl Tryd.underlying36 rfl rnum_zero.info) rfl ⟨rfl,below_setRow hw (by omega) _⟩
  ·skip
   go_wp2_with (first|(refine wpList_load_want rfl 36 _ rfl (w.heap.size) rfl 36 yr (0,0) _ rp0 Tryd.underlying36 rfl hy.info ?_)|(refine wpList_load_want rfl 36 _ rfl (w.heap.size+1) rfl 36 #[.int .u64 0,.int .u64 0,.int .u64 0,.int .u64 0,.int .u64 0,.int .u64 0,.int .u64 0,.int .u64 0,.int .u64 0,.int .u64 0,.int .u64 0,.int .u64 0,.int .u64 0,.int .u64 0,.int .u64 0,.int .u64 0] (0,0) _ rp1 Tryd.underlying36 rfl rnum_zero.info ?_)|(refine wpList_load_want rfl 36 _ rfl (gs) rfl 36 x1 (0,0) _ rl6 Tryd.underlying36 rfl h1.info ?_)|(refine wpList_load_want rfl 36 _ rfl (gu) rfl 36 x7 (0,0) _ rg7 Tryd.underlying36 rfl h7.info ?_)|(refine wpList_load_want rfl 36 _ rfl (gx) rfl 36 s (0,0) _ rgx Tryd.underlying36 rfl hsx.info ?_)|fail)
   refine(cZ.at _).mono ?_;rintro e wz ⟨rfl,hb⟩;replace rp0:=keep hb rp0;replace rp1:=keep hb rp1;replace rl6:=keep hb rl6;replace rg7:=keep hb rg7;replace rgx:=keep hb rgx;replace hw:=Below.after hw hb;clear hb
   go_wp2_with (first|(refine wpList_build_as rfl 36 _ rfl [] rfl #[.int .u64 0,.int .u64 0,.int .u64 0,.int .u64 0,.int .u64 0,.int .u64 0,.int .u64 0,.int .u64 0,.int .u64 0,.int .u64 0,.int .u64 0,.int .u64 0,.int .u64 0,.int .u64 0,.int .u64 0,.int .u64 0] (by kernel_rfl) ?_;refine wpList_stay ?_)|fail)
   unfold WpStay
   go_wp2_with (first|(refine wpList_build_as rfl 36 _ rfl [] rfl #[.int .u64 0,.int .u64 0,.int .u64 0,.int .u64 0,.int .u64 0,.int .u64 0,.int .u64 0,.int .u64 0,.int .u64 0,.int .u64 0,.int .u64 0,.int .u64 0,.int .u64 0,.int .u64 0,.int .u64 0,.int .u64 0] (by kernel_rfl) ?_)|(refine wpList_store_row rfl 36 _ _ rfl (w.heap.size+1) #[.int .u64 0,.int .u64 0,.int .u64 0,.int .u64 0,.int .u64 0,.int .u64 0,.int .u64 0,.int .u64 0,.int .u64 0,.int .u64 0,.int .u64 0,.int .u64 0,.int .u64 0,.int .u64 0,.int .u64 0,.int .u64 0] rfl rfl 36 _ rp1 rnum_zero.info (rnum_zero.fits rfl) rnum_zero.one ?_)|(refine wpList_load_want rfl 36 _ rfl (w.heap.size) rfl 36 yr (0,0) _ rp0 Tryd.underlying36 rfl hy.info ?_)|(refine wpList_load_want rfl 36 _ rfl (w.heap.size+1) rfl 36 #[.int .u64 0,.int .u64 0,.int .u64 0,.int .u64 0,.int .u64 0,.int .u64 0,.int .u64 0,.int .u64 0,.int .u64 0,.int .u64 0,.int .u64 0,.int .u64 0,.int .u64 0,.int .u64 0,.int .u64 0,.int .u64 0] (0,0) _ rp1 Tryd.underlying36 rfl rnum_zero.info ?_)|(refine wpList_load_want rfl 36 _ rfl (gs) rfl 36 x1 (0,0) _ rl6 Tryd.underlying36 rfl h1.info ?_)|(refine wpList_load_want rfl 36 _ rfl (gu) rfl 36 x7 (0,0) _ rg7 Tryd.underlying36 rfl h7.info ?_)|(refine wpList_load_want rfl 36 _ rfl (gx) rfl 36 s (0,0) _ rgx Tryd.underlying36 rfl hsx.info ?_)|fail)
   exact bodyPost_ret (v:=.tuple #[.agg #[.int .u64 0,.int .u64 0,.int .u64 0,.int .u64 0,.int .u64 0,.int .u64 0,.int .u64 0,.int .u64 0,.int .u64 0,.int .u64 0,.int .u64 0,.int .u64 0,.int .u64 0,.int .u64 0,.int .u64 0,.int .u64 0],.bool false]) (results_row_slot Tryd.results36 _ _ (w.heap.size+1) _ #[.int .u64 0,.int .u64 0,.int .u64 0,.int .u64 0,.int .u64 0,.int .u64 0,.int .u64 0,.int .u64 0,.int .u64 0,.int .u64 0,.int .u64 0,.int .u64 0,.int .u64 0,.int .u64 0,.int .u64 0,.int .u64 0] _ _ _ rfl (setRow_heap _ _ _ _ _ _ rp1) rfl Tryd.underlying36 rfl rnum_zero.info) rfl ⟨rfl,below_setRow hw (by omega) _⟩
  ·skip
   go_wp2_with (first|(refine wpList_load_want rfl 36 _ rfl (w.heap.size) rfl 36 yr (0,0) _ rp0 Tryd.underlying36 rfl hy.info ?_)|(refine wpList_load_want rfl 36 _ rfl (w.heap.size+1) rfl 36 #[.int .u64 0,.int .u64 0,.int .u64 0,.int .u64 0,.int .u64 0,.int .u64 0,.int .u64 0,.int .u64 0,.int .u64 0,.int .u64 0,.int .u64 0,.int .u64 0,.int .u64 0,.int .u64 0,.int .u64 0,.int .u64 0] (0,0) _ rp1 Tryd.underlying36 rfl rnum_zero.info ?_)|(refine wpList_load_want rfl 36 _ rfl (gs) rfl 36 x1 (0,0) _ rl6 Tryd.underlying36 rfl h1.info ?_)|(refine wpList_load_want rfl 36 _ rfl (gu) rfl 36 x7 (0,0) _ rg7 Tryd.underlying36 rfl h7.info ?_)|(refine wpList_load_want rfl 36 _ rfl (gx) rfl 36 s (0,0) _ rgx Tryd.underlying36 rfl hsx.info ?_)|fail)
   refine(cZ.at _).mono ?_;rintro e wz ⟨rfl,hb⟩;replace rp0:=keep hb rp0;replace rp1:=keep hb rp1;replace rl6:=keep hb rl6;replace rg7:=keep hb rg7;replace rgx:=keep hb rgx;replace hw:=Below.after hw hb;clear hb
   cases Z
   ·skip
    go_wp2_with (first|(refine wpList_load_want rfl 36 _ rfl (w.heap.size) rfl 36 yr (0,0) _ rp0 Tryd.underlying36 rfl hy.info ?_)|(refine wpList_load_want rfl 36 _ rfl (w.heap.size+1) rfl 36 #[.int .u64 0,.int .u64 0,.int .u64 0,.int .u64 0,.int .u64 0,.int .u64 0,.int .u64 0,.int .u64 0,.int .u64 0,.int .u64 0,.int .u64 0,.int .u64 0,.int .u64 0,.int .u64 0,.int .u64 0,.int .u64 0] (0,0) _ rp1 Tryd.underlying36 rfl rnum_zero.info ?_)|(refine wpList_load_want rfl 36 _ rfl (gs) rfl 36 x1 (0,0) _ rl6 Tryd.underlying36 rfl h1.info ?_)|(refine wpList_load_want rfl 36 _ rfl (gu) rfl 36 x7 (0,0) _ rg7 Tryd.underlying36 rfl h7.info ?_)|(refine wpList_load_want rfl 36 _ rfl (gx) rfl 36 s (0,0) _ rgx Tryd.underlying36 rfl hsx.info ?_)|fail)
    refine(cO.at _).mono ?_;rintro e wo ⟨rfl,hb⟩;replace rp0:=keep hb rp0;replace rp1:=keep hb rp1;replace rl6:=keep hb rl6;replace rg7:=keep hb rg7;replace rgx:=keep hb rgx;replace hw:=Below.after hw hb;clear hb;subst hv
    go_wp2_with (first|(refine wpList_build_as rfl 36 _ rfl [] rfl #[.int .u64 0,.int .u64 0,.int .u64 0,.int .u64 0,.int .u64 0,.int .u64 0,.int .u64 0,.int .u64 0,.int .u64 0,.int .u64 0,.int .u64 0,.int .u64 0,.int .u64 0,.int .u64 0,.int .u64 0,.int .u64 0] (by kernel_rfl) ?_)|(refine wpList_store_row rfl 36 _ _ rfl (w.heap.size+1) s rfl rfl 36 _ rp1 hsx.info (hsx.fits rfl) hsx.one ?_)|(refine wpList_load_want rfl 36 _ rfl (w.heap.size) rfl 36 yr (0,0) _ rp0 Tryd.underlying36 rfl hy.info ?_)|(refine wpList_load_want rfl 36 _ rfl (w.heap.size+1) rfl 36 #[.int .u64 0,.int .u64 0,.int .u64 0,.int .u64 0,.int .u64 0,.int .u64 0,.int .u64 0,.int .u64 0,.int .u64 0,.int .u64 0,.int .u64 0,.int .u64 0,.int .u64 0,.int .u64 0,.int .u64 0,.int .u64 0] (0,0) _ rp1 Tryd.underlying36 rfl rnum_zero.info ?_)|(refine wpList_load_want rfl 36 _ rfl (gs) rfl 36 x1 (0,0) _ rl6 Tryd.underlying36 rfl h1.info ?_)|(refine wpList_load_want rfl 36 _ rfl (gu) rfl 36 x7 (0,0) _ rg7 Tryd.underlying36 rfl h7.info ?_)|(refine wpList_load_want rfl 36 _ rfl (gx) rfl 36 s (0,0) _ rgx Tryd.underlying36 rfl hsx.info ?_)|fail)
    exact bodyPost_ret (v:=.tuple #[.agg s,.bool true]) (results_row_slot Tryd.results36 _ _ (w.heap.size+1) _ s _ _ _ rfl (setRow_heap _ _ _ _ _ _ rp1) rfl Tryd.underlying36 rfl hsx.info) rfl ⟨rfl,below_setRow hw (by omega) _⟩
   ·skip
    go_wp2_with (first|(refine wpList_load_want rfl 36 _ rfl (w.heap.size) rfl 36 yr (0,0) _ rp0 Tryd.underlying36 rfl hy.info ?_)|(refine wpList_load_want rfl 36 _ rfl (w.heap.size+1) rfl 36 #[.int .u64 0,.int .u64 0,.int .u64 0,.int .u64 0,.int .u64 0,.int .u64 0,.int .u64 0,.int .u64 0,.int .u64 0,.int .u64 0,.int .u64 0,.int .u64 0,.int .u64 0,.int .u64 0,.int .u64 0,.int .u64 0] (0,0) _ rp1 Tryd.underlying36 rfl rnum_zero.info ?_)|(refine wpList_load_want rfl 36 _ rfl (gs) rfl 36 x1 (0,0) _ rl6 Tryd.underlying36 rfl h1.info ?_)|(refine wpList_load_want rfl 36 _ rfl (gu) rfl 36 x7 (0,0) _ rg7 Tryd.underlying36 rfl h7.info ?_)|(refine wpList_load_want rfl 36 _ rfl (gx) rfl 36 s (0,0) _ rgx Tryd.underlying36 rfl hsx.info ?_)|fail)
    refine(cO.at _).mono ?_;rintro e wo ⟨rfl,hb⟩;replace rp0:=keep hb rp0;replace rp1:=keep hb rp1;replace rl6:=keep hb rl6;replace rg7:=keep hb rg7;replace rgx:=keep hb rgx;replace hw:=Below.after hw hb;clear hb;subst hv
    go_wp2_with (first|(refine wpList_build_as rfl 36 _ rfl [] rfl #[.int .u64 0,.int .u64 0,.int .u64 0,.int .u64 0,.int .u64 0,.int .u64 0,.int .u64 0,.int .u64 0,.int .u64 0,.int .u64 0,.int .u64 0,.int .u64 0,.int .u64 0,.int .u64 0,.int .u64 0,.int .u64 0] (by kernel_rfl) ?_)|(refine wpList_store_row rfl 36 _ _ rfl (w.heap.size+1) s rfl rfl 36 _ rp1 hsx.info (hsx.fits rfl) hsx.one ?_)|(refine wpList_load_want rfl 36 _ rfl (w.heap.size) rfl 36 yr (0,0) _ rp0 Tryd.underlying36 rfl hy.info ?_)|(refine wpList_load_want rfl 36 _ rfl (w.heap.size+1) rfl 36 #[.int .u64 0,.int .u64 0,.int .u64 0,.int .u64 0,.int .u64 0,.int .u64 0,.int .u64 0,.int .u64 0,.int .u64 0,.int .u64 0,.int .u64 0,.int .u64 0,.int .u64 0,.int .u64 0,.int .u64 0,.int .u64 0] (0,0) _ rp1 Tryd.underlying36 rfl rnum_zero.info ?_)|(refine wpList_load_want rfl 36 _ rfl (gs) rfl 36 x1 (0,0) _ rl6 Tryd.underlying36 rfl h1.info ?_)|(refine wpList_load_want rfl 36 _ rfl (gu) rfl 36 x7 (0,0) _ rg7 Tryd.underlying36 rfl h7.info ?_)|(refine wpList_load_want rfl 36 _ rfl (gx) rfl 36 s (0,0) _ rgx Tryd.underlying36 rfl hsx.info ?_)|fail)
    exact bodyPost_ret (v:=.tuple #[.agg s,.bool true]) (results_row_slot Tryd.results36 _ _ (w.heap.size+1) _ s _ _ _ rfl (setRow_heap _ _ _ _ _ _ rp1) rfl Tryd.underlying36 rfl hsx.info) rfl ⟨rfl,below_setRow hw (by omega) _⟩
  ·skip
   go_wp2_with (first|(refine wpList_load_want rfl 36 _ rfl (w.heap.size) rfl 36 yr (0,0) _ rp0 Tryd.underlying36 rfl hy.info ?_)|(refine wpList_load_want rfl 36 _ rfl (w.heap.size+1) rfl 36 #[.int .u64 0,.int .u64 0,.int .u64 0,.int .u64 0,.int .u64 0,.int .u64 0,.int .u64 0,.int .u64 0,.int .u64 0,.int .u64 0,.int .u64 0,.int .u64 0,.int .u64 0,.int .u64 0,.int .u64 0,.int .u64 0] (0,0) _ rp1 Tryd.underlying36 rfl rnum_zero.info ?_)|(refine wpList_load_want rfl 36 _ rfl (gs) rfl 36 x1 (0,0) _ rl6 Tryd.underlying36 rfl h1.info ?_)|(refine wpList_load_want rfl 36 _ rfl (gu) rfl 36 x7 (0,0) _ rg7 Tryd.underlying36 rfl h7.info ?_)|(refine wpList_load_want rfl 36 _ rfl (gx) rfl 36 s (0,0) _ rgx Tryd.underlying36 rfl hsx.info ?_)|fail)
   refine(cZ.at _).mono ?_;rintro e wz ⟨rfl,hb⟩;replace rp0:=keep hb rp0;replace rp1:=keep hb rp1;replace rl6:=keep hb rl6;replace rg7:=keep hb rg7;replace rgx:=keep hb rgx;replace hw:=Below.after hw hb;clear hb
   go_wp2_with (first|(refine wpList_load_want rfl 36 _ rfl (w.heap.size) rfl 36 yr (0,0) _ rp0 Tryd.underlying36 rfl hy.info ?_)|(refine wpList_load_want rfl 36 _ rfl (w.heap.size+1) rfl 36 #[.int .u64 0,.int .u64 0,.int .u64 0,.int .u64 0,.int .u64 0,.int .u64 0,.int .u64 0,.int .u64 0,.int .u64 0,.int .u64 0,.int .u64 0,.int .u64 0,.int .u64 0,.int .u64 0,.int .u64 0,.int .u64 0] (0,0) _ rp1 Tryd.underlying36 rfl rnum_zero.info ?_)|(refine wpList_load_want rfl 36 _ rfl (gs) rfl 36 x1 (0,0) _ rl6 Tryd.underlying36 rfl h1.info ?_)|(refine wpList_load_want rfl 36 _ rfl (gu) rfl 36 x7 (0,0) _ rg7 Tryd.underlying36 rfl h7.info ?_)|(refine wpList_load_want rfl 36 _ rfl (gx) rfl 36 s (0,0) _ rgx Tryd.underlying36 rfl hsx.info ?_)|fail)
   refine(cO.at _).mono ?_;rintro e wo ⟨rfl,hb⟩;replace rp0:=keep hb rp0;replace rp1:=keep hb rp1;replace rl6:=keep hb rl6;replace rg7:=keep hb rg7;replace rgx:=keep hb rgx;replace hw:=Below.after hw hb;clear hb
   go_wp2_with (first|(refine wpList_load_want rfl 36 _ rfl (w.heap.size) rfl 36 yr (0,0) _ rp0 Tryd.underlying36 rfl hy.info ?_)|(refine wpList_load_want rfl 36 _ rfl (w.heap.size+1) rfl 36 #[.int .u64 0,.int .u64 0,.int .u64 0,.int .u64 0,.int .u64 0,.int .u64 0,.int .u64 0,.int .u64 0,.int .u64 0,.int .u64 0,.int .u64 0,.int .u64 0,.int .u64 0,.int .u64 0,.int .u64 0,.int .u64 0] (0,0) _ rp1 Tryd.underlying36 rfl rnum_zero.info ?_)|(refine wpList_load_want rfl 36 _ rfl (gs) rfl 36 x1 (0,0) _ rl6 Tryd.underlying36 rfl h1.info ?_)|(refine wpList_load_want rfl 36 _ rfl (gu) rfl 36 x7 (0,0) _ rg7 Tryd.underlying36 rfl h7.info ?_)|(refine wpList_load_want rfl 36 _ rfl (gx) rfl 36 s (0,0) _ rgx Tryd.underlying36 rfl hsx.info ?_)|fail)
   refine(cN.at _).mono ?_;rintro e wn ⟨rfl,hb⟩;replace rp0:=keep hb rp0;replace rp1:=keep hb rp1;replace rl6:=keep hb rl6;replace rg7:=keep hb rg7;replace rgx:=keep hb rgx;replace hw:=Below.after hw hb;clear hb
   go_wp2_with (first|(refine wpList_store_row rfl 36 _ _ rfl (gx) m rfl rfl 36 _ rgx hm.info (hsx.size.trans hm.size.symm) hm.one ?_;refine wpList_stay ?_)|fail)
   unfold WpStay
   replace rp0:=(setRow_other wn (gx) (w.heap.size) m (by first|assumption|omega)).trans rp0
   replace rp1:=(setRow_other wn (gx) (w.heap.size+1) m (by first|assumption|omega)).trans rp1
   replace rl6:=(setRow_other wn (gx) (gs) m (by first|assumption|omega)).trans rl6
   replace rg7:=(setRow_other wn (gx) (gu) m (by first|assumption|omega)).trans rg7
   replace rgx:=setRow_heap wn (gx) _ m _ _ rgx
   replace hw:=below_setRow hw (show w.heap.size≤gx by first|assumption|omega) m
   generalize wn.setRow (gx) m=wm at *
   subst hv
   go_wp2_with (first|(refine wpList_build_as rfl 36 _ rfl [] rfl #[.int .u64 0,.int .u64 0,.int .u64 0,.int .u64 0,.int .u64 0,.int .u64 0,.int .u64 0,.int .u64 0,.int .u64 0,.int .u64 0,.int .u64 0,.int .u64 0,.int .u64 0,.int .u64 0,.int .u64 0,.int .u64 0] (by kernel_rfl) ?_)|(refine wpList_store_row rfl 36 _ _ rfl (w.heap.size+1) m rfl rfl 36 _ rp1 hm.info (hm.fits rfl) hm.one ?_)|(refine wpList_load_want rfl 36 _ rfl (w.heap.size) rfl 36 yr (0,0) _ rp0 Tryd.underlying36 rfl hy.info ?_)|(refine wpList_load_want rfl 36 _ rfl (w.heap.size+1) rfl 36 #[.int .u64 0,.int .u64 0,.int .u64 0,.int .u64 0,.int .u64 0,.int .u64 0,.int .u64 0,.int .u64 0,.int .u64 0,.int .u64 0,.int .u64 0,.int .u64 0,.int .u64 0,.int .u64 0,.int .u64 0,.int .u64 0] (0,0) _ rp1 Tryd.underlying36 rfl rnum_zero.info ?_)|(refine wpList_load_want rfl 36 _ rfl (gs) rfl 36 x1 (0,0) _ rl6 Tryd.underlying36 rfl h1.info ?_)|(refine wpList_load_want rfl 36 _ rfl (gu) rfl 36 x7 (0,0) _ rg7 Tryd.underlying36 rfl h7.info ?_)|(refine wpList_load_want rfl 36 _ rfl (gx) rfl 36 m (0,0) _ rgx Tryd.underlying36 rfl hm.info ?_)|fail)
   exact bodyPost_ret (v:=.tuple #[.agg m,.bool true]) (results_row_slot Tryd.results36 _ _ (w.heap.size+1) _ m _ _ _ rfl (setRow_heap _ _ _ _ _ _ rp1) rfl Tryd.underlying36 rfl hm.info) rfl ⟨rfl,below_setRow hw (by omega) _⟩
set_option maxRecDepth 100000 in
set_option maxHeartbeats 8000000 in
theorem r_Bytes19 {r:Array Value} {P:E1} (h:ReO r P):Gives 11 #[.agg r] (.agg (kb (pb P))):=by
 obtain⟨xr,yr,zr_,X,Y,Z,rfl,hx,hy,hz,hP⟩:=h;have pa0:=q3_0 (a:=xr) (b:=yr) (c:=zr_);have pa1:=q3_1 (b:=yr) (c:=zr_) hx.size;have pa2:=q3_2 (c:=zr_) hx.size hy.size;have sza:=r3_size hx.size hy.size hz.size;have ona:=r3_one hx.one hy.one hz.one
 generalize r3 xr yr zr_=ra at *
 obtain⟨x1,h1,c1⟩:=n_inv hz;obtain⟨x3,h3,c3⟩:=n_mul hy h1;have c5:=n_bytes h3;rw[rp_y hP] at c5;have hkey:=y_key P;obtain⟨x7,h7,c7⟩:=n_mul hx h1;have c9:=n_odd h7;rw[rp_x hP] at c9;intro w
 go_enter Tryd.func11,Tryd.ntmps11
 iterate 9 go_step
 generalize hal_:((w.alloc (.cells ra 38)).alloc (.cells q32 23))=w0
 have rp0:w0.heap[w.heap.size]? =some (.cells ra 38 (0,0)):=by rw[←hal_];exact hp2_0 w _ _
 have rp1:w0.heap[w.heap.size+1]? =some (.cells q32 23 (0,0)):=by rw[←hal_];exact hp2_1 w _ _
 have hw:Below w.heap.size w w0:=by rw[←hal_];exact(((Below.refl _ _).alloc (Nat.le_refl _) _).alloc (by simp) _)
 clear hal_
 go_wp2_with (first|(refine wpList_load_want rfl 38 _ rfl (w.heap.size) rfl 38 ra (0,0) _ rp0 Tryd.underlying38 rfl (q3_inf sza) ?_)|(refine wpList_load_want rfl 23 _ rfl (w.heap.size+1) rfl 23 q32 (0,0) _ rp1 Tryd.underlying23 rfl key_info ?_)|(refine wpList_load_part rfl 36 _ rfl (w.heap.size) 0 rfl 38 ra (0,0) xr _ rp0 pa0 Tryd.underlying36 rfl hx.info ?_)|(refine wpList_load_part rfl 36 _ rfl (w.heap.size) 16 rfl 38 ra (0,0) yr _ rp0 pa1 Tryd.underlying36 rfl hy.info ?_)|(refine wpList_load_part rfl 36 _ rfl (w.heap.size) 32 rfl 38 ra (0,0) zr_ _ rp0 pa2 Tryd.underlying36 rfl hz.info ?_)|fail)
 refine(c1.at _).mono ?_;rintro e w2 ⟨rfl,hb⟩;replace rp0:=keep hb rp0;replace rp1:=keep hb rp1;replace hw:=Below.after hw hb;clear hb
 go_wp2_with (first|(refine wpList_store_row rfl 36 _ _ rfl (w2.heap.size) x1 rfl rfl 36 #[.int .u64 0,.int .u64 0,.int .u64 0,.int .u64 0,.int .u64 0,.int .u64 0,.int .u64 0,.int .u64 0,.int .u64 0,.int .u64 0,.int .u64 0,.int .u64 0,.int .u64 0,.int .u64 0,.int .u64 0,.int .u64 0] (hp1_0 w2 _) h1.info (h1.fits rfl) h1.one ?_;rw[setRow_alloc_new _ _ _ _ _ _ (by simp)];refine wpList_stay ?_)|fail)
 unfold WpStay
 try simp only[Act.put]
 have rl3:(w2.alloc (.cells x1 36)).heap[w2.heap.size]? =some (.cells x1 36 (0,0)):=hp1_0 w2 _;have hb:Below w2.heap.size w2 (w2.alloc (.cells x1 36)):=((Below.refl _ _).alloc (Nat.le_refl _) _)
 generalize (w2.alloc (.cells x1 36))=wi at *
 have ygi_0:=lt_of_row rp0;have ygi_1:=lt_of_row rp1;have ygi:=hw.size;replace rp0:=keep hb rp0;replace rp1:=keep hb rp1;replace hw:=Below.after hw hb;clear hb
 generalize w2.heap.size=gi at *
 clear w2
 go_wp2_with (first|(refine wpList_load_want rfl 38 _ rfl (w.heap.size) rfl 38 ra (0,0) _ rp0 Tryd.underlying38 rfl (q3_inf sza) ?_)|(refine wpList_load_want rfl 23 _ rfl (w.heap.size+1) rfl 23 q32 (0,0) _ rp1 Tryd.underlying23 rfl key_info ?_)|(refine wpList_load_want rfl 36 _ rfl (gi) rfl 36 x1 (0,0) _ rl3 Tryd.underlying36 rfl h1.info ?_)|(refine wpList_load_part rfl 36 _ rfl (w.heap.size) 0 rfl 38 ra (0,0) xr _ rp0 pa0 Tryd.underlying36 rfl hx.info ?_)|(refine wpList_load_part rfl 36 _ rfl (w.heap.size) 16 rfl 38 ra (0,0) yr _ rp0 pa1 Tryd.underlying36 rfl hy.info ?_)|(refine wpList_load_part rfl 36 _ rfl (w.heap.size) 32 rfl 38 ra (0,0) zr_ _ rp0 pa2 Tryd.underlying36 rfl hz.info ?_)|fail)
 refine(c3.at _).mono ?_;rintro e w4 ⟨rfl,hb⟩;replace rp0:=keep hb rp0;replace rp1:=keep hb rp1;replace rl3:=keep hb rl3;replace hw:=Below.after hw hb;clear hb
 go_wp2_with (first|(refine wpList_load_want rfl 38 _ rfl (w.heap.size) rfl 38 ra (0,0) _ rp0 Tryd.underlying38 rfl (q3_inf sza) ?_)|(refine wpList_load_want rfl 23 _ rfl (w.heap.size+1) rfl 23 q32 (0,0) _ rp1 Tryd.underlying23 rfl key_info ?_)|(refine wpList_load_want rfl 36 _ rfl (gi) rfl 36 x1 (0,0) _ rl3 Tryd.underlying36 rfl h1.info ?_)|(refine wpList_load_part rfl 36 _ rfl (w.heap.size) 0 rfl 38 ra (0,0) xr _ rp0 pa0 Tryd.underlying36 rfl hx.info ?_)|(refine wpList_load_part rfl 36 _ rfl (w.heap.size) 16 rfl 38 ra (0,0) yr _ rp0 pa1 Tryd.underlying36 rfl hy.info ?_)|(refine wpList_load_part rfl 36 _ rfl (w.heap.size) 32 rfl 38 ra (0,0) zr_ _ rp0 pa2 Tryd.underlying36 rfl hz.info ?_)|fail)
 refine(c5.at _).mono ?_;rintro e w6 ⟨rfl,hb⟩;replace rp0:=keep hb rp0;replace rp1:=keep hb rp1;replace rl3:=keep hb rl3;replace hw:=Below.after hw hb;clear hb
 go_wp2_with (first|(refine wpList_store_row rfl 23 _ _ rfl (w6.heap.size) (kb P.y) rfl rfl 23 q32 (hp1_0 w6 _) hkey.info (hkey.size).symm hkey.one ?_;rw[setRow_alloc_new _ _ _ _ _ _ (by simp)];refine wpList_stay ?_)|fail)
 unfold WpStay
 try simp only[Act.put]
 have rl4:(w6.alloc (.cells (kb P.y) 23)).heap[w6.heap.size]? =some (.cells (kb P.y) 23 (0,0)):=hp1_0 w6 _;have hb:Below w6.heap.size w6 (w6.alloc (.cells (kb P.y) 23)):=((Below.refl _ _).alloc (Nat.le_refl _) _)
 generalize (w6.alloc (.cells (kb P.y) 23))=wk at *
 have ygk_0:=lt_of_row rp0;have ygk_1:=lt_of_row rp1;have ygk_2:=lt_of_row rl3;have ygk:=hw.size;replace rp0:=keep hb rp0;replace rp1:=keep hb rp1;replace rl3:=keep hb rl3;replace hw:=Below.after hw hb;clear hb
 generalize w6.heap.size=gk at *
 clear w6
 go_wp2_with (first|(refine wpList_load_want rfl 38 _ rfl (w.heap.size) rfl 38 ra (0,0) _ rp0 Tryd.underlying38 rfl (q3_inf sza) ?_)|(refine wpList_load_want rfl 23 _ rfl (w.heap.size+1) rfl 23 q32 (0,0) _ rp1 Tryd.underlying23 rfl key_info ?_)|(refine wpList_load_want rfl 36 _ rfl (gi) rfl 36 x1 (0,0) _ rl3 Tryd.underlying36 rfl h1.info ?_)|(refine wpList_load_want rfl 23 _ rfl (gk) rfl 23 (kb P.y) (0,0) _ rl4 Tryd.underlying23 rfl hkey.info ?_)|(refine wpList_load_part rfl 36 _ rfl (w.heap.size) 0 rfl 38 ra (0,0) xr _ rp0 pa0 Tryd.underlying36 rfl hx.info ?_)|(refine wpList_load_part rfl 36 _ rfl (w.heap.size) 16 rfl 38 ra (0,0) yr _ rp0 pa1 Tryd.underlying36 rfl hy.info ?_)|(refine wpList_load_part rfl 36 _ rfl (w.heap.size) 32 rfl 38 ra (0,0) zr_ _ rp0 pa2 Tryd.underlying36 rfl hz.info ?_)|fail)
 refine(c7.at _).mono ?_;rintro e w8 ⟨rfl,hb⟩;replace rp0:=keep hb rp0;replace rp1:=keep hb rp1;replace rl3:=keep hb rl3;replace rl4:=keep hb rl4;replace hw:=Below.after hw hb;clear hb
 go_wp2_with (first|(refine wpList_load_want rfl 38 _ rfl (w.heap.size) rfl 38 ra (0,0) _ rp0 Tryd.underlying38 rfl (q3_inf sza) ?_)|(refine wpList_load_want rfl 23 _ rfl (w.heap.size+1) rfl 23 q32 (0,0) _ rp1 Tryd.underlying23 rfl key_info ?_)|(refine wpList_load_want rfl 36 _ rfl (gi) rfl 36 x1 (0,0) _ rl3 Tryd.underlying36 rfl h1.info ?_)|(refine wpList_load_want rfl 23 _ rfl (gk) rfl 23 (kb P.y) (0,0) _ rl4 Tryd.underlying23 rfl hkey.info ?_)|(refine wpList_load_part rfl 36 _ rfl (w.heap.size) 0 rfl 38 ra (0,0) xr _ rp0 pa0 Tryd.underlying36 rfl hx.info ?_)|(refine wpList_load_part rfl 36 _ rfl (w.heap.size) 16 rfl 38 ra (0,0) yr _ rp0 pa1 Tryd.underlying36 rfl hy.info ?_)|(refine wpList_load_part rfl 36 _ rfl (w.heap.size) 32 rfl 38 ra (0,0) zr_ _ rp0 pa2 Tryd.underlying36 rfl hz.info ?_)|fail)
 refine(c9.at _).mono ?_;rintro e w10 ⟨rfl,hb⟩;replace rp0:=keep hb rp0;replace rp1:=keep hb rp1;replace rl3:=keep hb rl3;replace rl4:=keep hb rl4;replace hw:=Below.after hw hb;clear hb;have hyb:=y_bd P
 have ht:=kb_top P.y hyb.1 (by rw[prm_is] at hyb;omega)
 have lt_:=lt_of_row rp1
 by_cases ho:tx P%2=1
 ·have hd:decide (tx P%2=1)=true:=decide_eq_true ho
  rw[hd]
  have hb31:0≤P.y/452312848583266388373324160190187140051835877600158453279131187530910662656∧P.y/452312848583266388373324160190187140051835877600158453279131187530910662656<128:=by rw[prm_is] at hyb;omega
  have e1:byt P.y 31=P.y/452312848583266388373324160190187140051835877600158453279131187530910662656:=ht.1
  have e2:(kb P.y).setIfInBounds 31 (.int .u8 (P.y/452312848583266388373324160190187140051835877600158453279131187530910662656+128))=kb (pb P):=by
   rw[ht.2 _ (by omega)]
   congr 1
   unfold pb;rw[ho];omega
  have c31:w10.cell? ⟨gk,31,none⟩=some (.int .u8 (P.y/452312848583266388373324160190187140051835877600158453279131187530910662656)):=by rw[←e1];exact cell_of_row w10 gk 31 _ _ _ rl4
  have E2:=hide e2;have r1:=setRow_heap w10 gk _ (kb (pb P)) _ _ rl4
  have r2:=(setRow_other w10 gk (w.heap.size+1) (kb (pb P)) (by omega)).trans rp1
  have hw2:=below_setRow hw (show w.heap.size≤gk by omega) (kb (pb P))
  clear hyb ht ho hd e1 e2
  generalize P.y/452312848583266388373324160190187140051835877600158453279131187530910662656=b31 at *
  go_wp2_with (first|(refine wpList_load_cell31 rfl 5 _ rfl gk 31 rfl _ c31 Tryd.underlying5 ?_)|(refine wpList_store_cell31 rfl 5 _ _ rfl gk 31 rfl (.int .u8 (b31+128)) rfl 23 (kb P.y) rl4 (by rw[kb_size];decide) (by kernel_rfl) rfl ?_;rw[E2.out];refine wpList_stay ?_)|fail)
  unfold WpStay
  generalize w10.setRow gk (kb (pb P))=wq at *
  go_wp2_with (first|(refine wpList_load_want rfl 23 _ rfl gk rfl 23 (kb (pb P)) (0,0) _ r1 Tryd.underlying23 rfl (kb_info _) ?_)|(refine wpList_store_row rfl 23 _ _ rfl (w.heap.size+1) (kb (pb P)) rfl rfl 23 _ r2 (kb_info _) rfl (kb_one _) ?_)|fail)
  exact bodyPost_ret (v:=.agg (kb (pb P))) (results_cell_row Tryd.results11 _ _ (w.heap.size+1) _ (kb (pb P)) _ _ rfl (setRow_heap _ _ _ _ _ _ r2) Tryd.underlying23 rfl (kb_info _)) rfl ⟨rfl,below_setRow hw2 (by omega) _⟩
 ·have hd:decide (tx P%2=1)=false:=decide_eq_false ho
  rw[hd]
  have e2:P.y=pb P:=by
   unfold pb
   rw[(by omega:tx P%2=0)]
   omega
  have E2:=hide e2;clear hyb ht ho hd e2
  go_wp2_with (first|(refine wpList_load_want rfl 23 _ rfl gk rfl 23 (kb P.y) (0,0) _ rl4 Tryd.underlying23 rfl (kb_info _) ?_)|(refine wpList_store_row rfl 23 _ _ rfl (w.heap.size+1) (kb P.y) rfl rfl 23 _ rp1 (kb_info _) rfl (kb_one _) ?_)|fail)
  exact bodyPost_ret (v:=.agg (kb P.y)) (results_cell_row Tryd.results11 _ _ (w.heap.size+1) _ (kb P.y) _ _ rfl (setRow_heap _ _ _ _ _ _ rp1) Tryd.underlying23 rfl (kb_info _)) rfl ⟨by rw[←E2.out],below_setRow hw (by omega) _⟩
set_option maxRecDepth 100000 in
set_option maxHeartbeats 8000000 in
theorem rparse_hno {N M b7:Int} {yr nt:Array Value} (_hN:KeyOf (kb N) N) (hM:KeyOf (kb M) M) (eM:Hid ((kb N).setIfInBounds 31 (.int .u8 b7)=kb M)) (_eN:Hid ((byt N 31).tmod 128=b7)) (eN2:Hid (byt N 31%128=b7)) (hy:RNum yr M) (cF:Gives 33 #[.agg (kb M)] (.agg yr)) (cB:Gives 34 #[.agg yr] (.agg (kb (M%prm)))) (hnt:ReO nt ze) (cN:Gives 35 #[] (.agg nt)) (hodd:decide (128≤byt N 31)=true) (heq:∀W,(Op.equalIn 10000 23 (.agg (kb (M%prm))) (.agg (kb M))).run Tryd.prog W=.ok false W):Gives 6 #[.agg (kb N)] (.tuple #[.agg nt,.int .i64 190]):=by
 have hge:=of_decide_eq_true hodd;intro w
 go_enter Tryd.func6,Tryd.ntmps6
 iterate 12 go_step
 generalize hal_:((w.alloc (.cells (kb N) 23)).alloc (.cells #[.int .u64 0,.int .u64 0,.int .u64 0,.int .u64 0,.int .u64 0,.int .u64 0,.int .u64 0,.int .u64 0,.int .u64 0,.int .u64 0,.int .u64 0,.int .u64 0,.int .u64 0,.int .u64 0,.int .u64 0,.int .u64 0,.int .u64 0,.int .u64 0,.int .u64 0,.int .u64 0,.int .u64 0,.int .u64 0,.int .u64 0,.int .u64 0,.int .u64 0,.int .u64 0,.int .u64 0,.int .u64 0,.int .u64 0,.int .u64 0,.int .u64 0,.int .u64 0,.int .u64 0,.int .u64 0,.int .u64 0,.int .u64 0,.int .u64 0,.int .u64 0,.int .u64 0,.int .u64 0,.int .u64 0,.int .u64 0,.int .u64 0,.int .u64 0,.int .u64 0,.int .u64 0,.int .u64 0,.int .u64 0] 38))=w0
 have rp0:w0.heap[w.heap.size]? =some (.cells (kb N) 23 (0,0)):=by rw[←hal_];exact hp2_0 w _ _
 have rp1:w0.heap[w.heap.size+1]? =some (.cells #[.int .u64 0,.int .u64 0,.int .u64 0,.int .u64 0,.int .u64 0,.int .u64 0,.int .u64 0,.int .u64 0,.int .u64 0,.int .u64 0,.int .u64 0,.int .u64 0,.int .u64 0,.int .u64 0,.int .u64 0,.int .u64 0,.int .u64 0,.int .u64 0,.int .u64 0,.int .u64 0,.int .u64 0,.int .u64 0,.int .u64 0,.int .u64 0,.int .u64 0,.int .u64 0,.int .u64 0,.int .u64 0,.int .u64 0,.int .u64 0,.int .u64 0,.int .u64 0,.int .u64 0,.int .u64 0,.int .u64 0,.int .u64 0,.int .u64 0,.int .u64 0,.int .u64 0,.int .u64 0,.int .u64 0,.int .u64 0,.int .u64 0,.int .u64 0,.int .u64 0,.int .u64 0,.int .u64 0,.int .u64 0] 38 (0,0)):=by rw[←hal_];exact hp2_1 w _ _
 have hw:Below w.heap.size w w0:=by rw[←hal_];exact(((Below.refl _ _).alloc (Nat.le_refl _) _).alloc (by simp) _)
 clear hal_;have c31:w0.cell? ⟨w.heap.size,31,none⟩=some (.int .u8 (byt N 31)):=cell_of_row w0 (w.heap.size) 31 _ _ _ rp0
 go_wp2_with (first|(refine wpList_load_cell31 rfl 5 _ rfl (w.heap.size) 31 rfl _ c31 Tryd.underlying5 ?_)|(refine wpList_store_cell31 rfl 5 _ _ rfl (w.heap.size) 31 rfl (.int .u8 b7) (by rw[←eN2.out];rfl) 23 (kb N) rp0 (by rw[kb_size];decide) (by kernel_rfl) rfl ?_;rw[eM.out];refine wpList_stay ?_)|fail)
 unfold WpStay;clear c31
 replace rp1:=(setRow_other w0 (w.heap.size) (w.heap.size+1) (kb M) (by first|assumption|omega)).trans rp1
 replace rp0:=setRow_heap w0 (w.heap.size) _ (kb M) _ _ rp0
 replace hw:=below_setRow hw (show w.heap.size≤w.heap.size by first|assumption|omega) (kb M)
 generalize w0.setRow (w.heap.size) (kb M)=wz at *
 go_wp2_with (first|(refine wpList_load_want rfl 23 _ rfl (w.heap.size) rfl 23 (kb M) (0,0) _ rp0 Tryd.underlying23 rfl hM.info ?_)|(refine wpList_load_want rfl 38 _ rfl (w.heap.size+1) rfl 38 #[.int .u64 0,.int .u64 0,.int .u64 0,.int .u64 0,.int .u64 0,.int .u64 0,.int .u64 0,.int .u64 0,.int .u64 0,.int .u64 0,.int .u64 0,.int .u64 0,.int .u64 0,.int .u64 0,.int .u64 0,.int .u64 0,.int .u64 0,.int .u64 0,.int .u64 0,.int .u64 0,.int .u64 0,.int .u64 0,.int .u64 0,.int .u64 0,.int .u64 0,.int .u64 0,.int .u64 0,.int .u64 0,.int .u64 0,.int .u64 0,.int .u64 0,.int .u64 0,.int .u64 0,.int .u64 0,.int .u64 0,.int .u64 0,.int .u64 0,.int .u64 0,.int .u64 0,.int .u64 0,.int .u64 0,.int .u64 0,.int .u64 0,.int .u64 0,.int .u64 0,.int .u64 0,.int .u64 0,.int .u64 0] (0,0) _ rp1 Tryd.underlying38 rfl (by kernel_rfl) ?_)|fail)
 refine(cF.at _).mono ?_;rintro e w2 ⟨rfl,hb⟩;replace rp0:=keep hb rp0;replace rp1:=keep hb rp1;replace hw:=Below.after hw hb;clear hb
 go_wp2_with (first|(refine wpList_store_row rfl 36 _ _ rfl (w2.heap.size) yr rfl rfl 36 #[.int .u64 0,.int .u64 0,.int .u64 0,.int .u64 0,.int .u64 0,.int .u64 0,.int .u64 0,.int .u64 0,.int .u64 0,.int .u64 0,.int .u64 0,.int .u64 0,.int .u64 0,.int .u64 0,.int .u64 0,.int .u64 0] (hp1_0 w2 _) hy.info (hy.fits rfl) hy.one ?_;rw[setRow_alloc_new _ _ _ _ _ _ (by simp)];refine wpList_stay ?_)|fail)
 unfold WpStay
 try simp only[Act.put]
 have rl5:(w2.alloc (.cells yr 36)).heap[w2.heap.size]? =some (.cells yr 36 (0,0)):=hp1_0 w2 _;have hb:Below w2.heap.size w2 (w2.alloc (.cells yr 36)):=((Below.refl _ _).alloc (Nat.le_refl _) _)
 generalize (w2.alloc (.cells yr 36))=wy at *
 have ygy_0:=lt_of_row rp0;have ygy_1:=lt_of_row rp1;have ygy:=hw.size;replace rp0:=keep hb rp0;replace rp1:=keep hb rp1;replace hw:=Below.after hw hb;clear hb
 generalize w2.heap.size=gy at *
 clear w2
 go_wp2_with (fail)
 have Hrp0:=keepr rp0;have Hrp1:=keepr rp1;have Hrl5:=keepr rl5
 refine wp_region_quiet_below (by kernel_rfl) (by kernel_rfl) ?_
 refine wpQuiet_load_row rfl 36 _ rfl (gy) rfl 36 yr (0,0) _ Hrl5.out Tryd.underlying36 rfl hy.info ?_;simp only[Act.put,ZPd,ZPe,ZPf];go_big_quiet_step (exact cB.re);refine wpQuiet_load_row rfl 23 _ rfl (w.heap.size) rfl 23 (kb M) (0,0) _ Hrp0.out Tryd.underlying23 rfl hM.info ?_;simp only[Act.put,ZPd,ZPe,ZPf];go_big_quiet_step (fail);refine wpQuiet_nil ?_;rintro _ ⟨p,rfl⟩;have hb:=below_regrown wy p.d p.os
 generalize grow (redrawn wy p.d) p.os=w3 at *
 replace rp0:=keep hb rp0;replace rp1:=keep hb rp1;replace rl5:=keep hb rl5;replace hw:=Below.after hw hb;clear hb;clear Hrp0 Hrp1 Hrl5
 go_wp2_with (fail)
 refine(cN.at _).mono ?_;rintro e wn ⟨rfl,hb⟩;replace rp0:=keep hb rp0;replace rp1:=keep hb rp1;replace rl5:=keep hb rl5;replace hw:=Below.after hw hb;clear hb
 go_wp2_with (first|(refine wpList_store_row rfl 38 _ _ rfl (w.heap.size+1) nt rfl rfl 38 _ rp1 hnt.info ((show _=48 from rfl).trans hnt.size.symm) hnt.one ?_)|fail)
 exact bodyPost_ret (v:=.tuple #[.agg nt,.int .i64 190]) (results_row_slot Tryd.results6 _ _ (w.heap.size+1) _ nt _ _ _ rfl (setRow_heap _ _ _ _ _ _ rp1) rfl Tryd.underlying38 rfl hnt.info) rfl ⟨rfl,below_setRow hw (by omega) _⟩
set_option maxRecDepth 100000 in
set_option maxHeartbeats 8000000 in
theorem rparse_hne {N M b7:Int} {yr nt:Array Value} (_hN:KeyOf (kb N) N) (hM:KeyOf (kb M) M) (eM:Hid ((kb N).setIfInBounds 31 (.int .u8 b7)=kb M)) (eN:Hid ((byt N 31).tmod 128=b7)) (_eN2:Hid (byt N 31%128=b7)) (hy:RNum yr M) (cF:Gives 33 #[.agg (kb M)] (.agg yr)) (cB:Gives 34 #[.agg yr] (.agg (kb (M%prm)))) (hnt:ReO nt ze) (cN:Gives 35 #[] (.agg nt)) (hodd:decide (128≤byt N 31)=false) (heq:∀W,(Op.equalIn 10000 23 (.agg (kb (M%prm))) (.agg (kb M))).run Tryd.prog W=.ok false W):Gives 6 #[.agg (kb N)] (.tuple #[.agg nt,.int .i64 190]):=by
 have hge:=of_decide_eq_false hodd;intro w
 go_enter Tryd.func6,Tryd.ntmps6
 iterate 12 go_step
 generalize hal_:((w.alloc (.cells (kb N) 23)).alloc (.cells #[.int .u64 0,.int .u64 0,.int .u64 0,.int .u64 0,.int .u64 0,.int .u64 0,.int .u64 0,.int .u64 0,.int .u64 0,.int .u64 0,.int .u64 0,.int .u64 0,.int .u64 0,.int .u64 0,.int .u64 0,.int .u64 0,.int .u64 0,.int .u64 0,.int .u64 0,.int .u64 0,.int .u64 0,.int .u64 0,.int .u64 0,.int .u64 0,.int .u64 0,.int .u64 0,.int .u64 0,.int .u64 0,.int .u64 0,.int .u64 0,.int .u64 0,.int .u64 0,.int .u64 0,.int .u64 0,.int .u64 0,.int .u64 0,.int .u64 0,.int .u64 0,.int .u64 0,.int .u64 0,.int .u64 0,.int .u64 0,.int .u64 0,.int .u64 0,.int .u64 0,.int .u64 0,.int .u64 0,.int .u64 0] 38))=w0
 have rp0:w0.heap[w.heap.size]? =some (.cells (kb N) 23 (0,0)):=by rw[←hal_];exact hp2_0 w _ _
 have rp1:w0.heap[w.heap.size+1]? =some (.cells #[.int .u64 0,.int .u64 0,.int .u64 0,.int .u64 0,.int .u64 0,.int .u64 0,.int .u64 0,.int .u64 0,.int .u64 0,.int .u64 0,.int .u64 0,.int .u64 0,.int .u64 0,.int .u64 0,.int .u64 0,.int .u64 0,.int .u64 0,.int .u64 0,.int .u64 0,.int .u64 0,.int .u64 0,.int .u64 0,.int .u64 0,.int .u64 0,.int .u64 0,.int .u64 0,.int .u64 0,.int .u64 0,.int .u64 0,.int .u64 0,.int .u64 0,.int .u64 0,.int .u64 0,.int .u64 0,.int .u64 0,.int .u64 0,.int .u64 0,.int .u64 0,.int .u64 0,.int .u64 0,.int .u64 0,.int .u64 0,.int .u64 0,.int .u64 0,.int .u64 0,.int .u64 0,.int .u64 0,.int .u64 0] 38 (0,0)):=by rw[←hal_];exact hp2_1 w _ _
 have hw:Below w.heap.size w w0:=by rw[←hal_];exact(((Below.refl _ _).alloc (Nat.le_refl _) _).alloc (by simp) _)
 clear hal_;have c31:w0.cell? ⟨w.heap.size,31,none⟩=some (.int .u8 (byt N 31)):=cell_of_row w0 (w.heap.size) 31 _ _ _ rp0
 go_wp2_with (first|(refine wpList_load_cell31 rfl 5 _ rfl (w.heap.size) 31 rfl _ c31 Tryd.underlying5 ?_)|(refine wpList_store_cell31 rfl 5 _ _ rfl (w.heap.size) 31 rfl (.int .u8 b7) (by rw[←eN.out];rfl) 23 (kb N) rp0 (by rw[kb_size];decide) (by kernel_rfl) rfl ?_;rw[eM.out];refine wpList_stay ?_)|fail)
 unfold WpStay;clear c31
 replace rp1:=(setRow_other w0 (w.heap.size) (w.heap.size+1) (kb M) (by first|assumption|omega)).trans rp1
 replace rp0:=setRow_heap w0 (w.heap.size) _ (kb M) _ _ rp0
 replace hw:=below_setRow hw (show w.heap.size≤w.heap.size by first|assumption|omega) (kb M)
 generalize w0.setRow (w.heap.size) (kb M)=wz at *
 go_wp2_with (first|(refine wpList_load_want rfl 23 _ rfl (w.heap.size) rfl 23 (kb M) (0,0) _ rp0 Tryd.underlying23 rfl hM.info ?_)|(refine wpList_load_want rfl 38 _ rfl (w.heap.size+1) rfl 38 #[.int .u64 0,.int .u64 0,.int .u64 0,.int .u64 0,.int .u64 0,.int .u64 0,.int .u64 0,.int .u64 0,.int .u64 0,.int .u64 0,.int .u64 0,.int .u64 0,.int .u64 0,.int .u64 0,.int .u64 0,.int .u64 0,.int .u64 0,.int .u64 0,.int .u64 0,.int .u64 0,.int .u64 0,.int .u64 0,.int .u64 0,.int .u64 0,.int .u64 0,.int .u64 0,.int .u64 0,.int .u64 0,.int .u64 0,.int .u64 0,.int .u64 0,.int .u64 0,.int .u64 0,.int .u64 0,.int .u64 0,.int .u64 0,.int .u64 0,.int .u64 0,.int .u64 0,.int .u64 0,.int .u64 0,.int .u64 0,.int .u64 0,.int .u64 0,.int .u64 0,.int .u64 0,.int .u64 0,.int .u64 0] (0,0) _ rp1 Tryd.underlying38 rfl (by kernel_rfl) ?_)|fail)
 refine(cF.at _).mono ?_;rintro e w2 ⟨rfl,hb⟩;replace rp0:=keep hb rp0;replace rp1:=keep hb rp1;replace hw:=Below.after hw hb;clear hb
 go_wp2_with (first|(refine wpList_store_row rfl 36 _ _ rfl (w2.heap.size) yr rfl rfl 36 #[.int .u64 0,.int .u64 0,.int .u64 0,.int .u64 0,.int .u64 0,.int .u64 0,.int .u64 0,.int .u64 0,.int .u64 0,.int .u64 0,.int .u64 0,.int .u64 0,.int .u64 0,.int .u64 0,.int .u64 0,.int .u64 0] (hp1_0 w2 _) hy.info (hy.fits rfl) hy.one ?_;rw[setRow_alloc_new _ _ _ _ _ _ (by simp)];refine wpList_stay ?_)|fail)
 unfold WpStay
 try simp only[Act.put]
 have rl5:(w2.alloc (.cells yr 36)).heap[w2.heap.size]? =some (.cells yr 36 (0,0)):=hp1_0 w2 _;have hb:Below w2.heap.size w2 (w2.alloc (.cells yr 36)):=((Below.refl _ _).alloc (Nat.le_refl _) _)
 generalize (w2.alloc (.cells yr 36))=wy at *
 have ygy_0:=lt_of_row rp0;have ygy_1:=lt_of_row rp1;have ygy:=hw.size;replace rp0:=keep hb rp0;replace rp1:=keep hb rp1;replace hw:=Below.after hw hb;clear hb
 generalize w2.heap.size=gy at *
 clear w2
 go_wp2_with (fail)
 have Hrp0:=keepr rp0;have Hrp1:=keepr rp1;have Hrl5:=keepr rl5
 refine wp_region_quiet_below (by kernel_rfl) (by kernel_rfl) ?_
 refine wpQuiet_load_row rfl 36 _ rfl (gy) rfl 36 yr (0,0) _ Hrl5.out Tryd.underlying36 rfl hy.info ?_;simp only[Act.put,ZPd,ZPe,ZPf];go_big_quiet_step (exact cB.re);refine wpQuiet_load_row rfl 23 _ rfl (w.heap.size) rfl 23 (kb M) (0,0) _ Hrp0.out Tryd.underlying23 rfl hM.info ?_;simp only[Act.put,ZPd,ZPe,ZPf];go_big_quiet_step (fail);refine wpQuiet_nil ?_;rintro _ ⟨p,rfl⟩;have hb:=below_regrown wy p.d p.os
 generalize grow (redrawn wy p.d) p.os=w3 at *
 replace rp0:=keep hb rp0;replace rp1:=keep hb rp1;replace rl5:=keep hb rl5;replace hw:=Below.after hw hb;clear hb;clear Hrp0 Hrp1 Hrl5
 go_wp2_with (fail)
 refine(cN.at _).mono ?_;rintro e wn ⟨rfl,hb⟩;replace rp0:=keep hb rp0;replace rp1:=keep hb rp1;replace rl5:=keep hb rl5;replace hw:=Below.after hw hb;clear hb
 go_wp2_with (first|(refine wpList_store_row rfl 38 _ _ rfl (w.heap.size+1) nt rfl rfl 38 _ rp1 hnt.info ((show _=48 from rfl).trans hnt.size.symm) hnt.one ?_)|fail)
 exact bodyPost_ret (v:=.tuple #[.agg nt,.int .i64 190]) (results_row_slot Tryd.results6 _ _ (w.heap.size+1) _ nt _ _ _ rfl (setRow_heap _ _ _ _ _ _ rp1) rfl Tryd.underlying38 rfl hnt.info) rfl ⟨rfl,below_setRow hw (by omega) _⟩
set_option maxRecDepth 100000 in
set_option maxHeartbeats 8000000 in
theorem rparse_lno {N M b7:Int} {yr nt:Array Value} (_hN:KeyOf (kb N) N) (hM:KeyOf (kb M) M) (eM:Hid ((kb N).setIfInBounds 31 (.int .u8 b7)=kb M)) (_eN:Hid ((byt N 31).tmod 128=b7)) (eN2:Hid (byt N 31%128=b7)) (hy:RNum yr M) (cF:Gives 33 #[.agg (kb M)] (.agg yr)) (cB:Gives 34 #[.agg yr] (.agg (kb (M%prm)))) {tv:Array Value} {V:Int} (htv:RNum tv V) (cX:Gives 36 #[.agg yr,.bool true] (.tuple #[.agg tv,.bool false])) (hnt:ReO nt ze) (cN:Gives 35 #[] (.agg nt)) (hodd:decide (128≤byt N 31)=true) (heq:∀W,(Op.equalIn 10000 23 (.agg (kb (M%prm))) (.agg (kb M))).run Tryd.prog W=.ok true W):Gives 6 #[.agg (kb N)] (.tuple #[.agg nt,.int .i64 190]):=by
 have hge:=of_decide_eq_true hodd;intro w
 go_enter Tryd.func6,Tryd.ntmps6
 iterate 12 go_step
 generalize hal_:((w.alloc (.cells (kb N) 23)).alloc (.cells #[.int .u64 0,.int .u64 0,.int .u64 0,.int .u64 0,.int .u64 0,.int .u64 0,.int .u64 0,.int .u64 0,.int .u64 0,.int .u64 0,.int .u64 0,.int .u64 0,.int .u64 0,.int .u64 0,.int .u64 0,.int .u64 0,.int .u64 0,.int .u64 0,.int .u64 0,.int .u64 0,.int .u64 0,.int .u64 0,.int .u64 0,.int .u64 0,.int .u64 0,.int .u64 0,.int .u64 0,.int .u64 0,.int .u64 0,.int .u64 0,.int .u64 0,.int .u64 0,.int .u64 0,.int .u64 0,.int .u64 0,.int .u64 0,.int .u64 0,.int .u64 0,.int .u64 0,.int .u64 0,.int .u64 0,.int .u64 0,.int .u64 0,.int .u64 0,.int .u64 0,.int .u64 0,.int .u64 0,.int .u64 0] 38))=w0
 have rp0:w0.heap[w.heap.size]? =some (.cells (kb N) 23 (0,0)):=by rw[←hal_];exact hp2_0 w _ _
 have rp1:w0.heap[w.heap.size+1]? =some (.cells #[.int .u64 0,.int .u64 0,.int .u64 0,.int .u64 0,.int .u64 0,.int .u64 0,.int .u64 0,.int .u64 0,.int .u64 0,.int .u64 0,.int .u64 0,.int .u64 0,.int .u64 0,.int .u64 0,.int .u64 0,.int .u64 0,.int .u64 0,.int .u64 0,.int .u64 0,.int .u64 0,.int .u64 0,.int .u64 0,.int .u64 0,.int .u64 0,.int .u64 0,.int .u64 0,.int .u64 0,.int .u64 0,.int .u64 0,.int .u64 0,.int .u64 0,.int .u64 0,.int .u64 0,.int .u64 0,.int .u64 0,.int .u64 0,.int .u64 0,.int .u64 0,.int .u64 0,.int .u64 0,.int .u64 0,.int .u64 0,.int .u64 0,.int .u64 0,.int .u64 0,.int .u64 0,.int .u64 0,.int .u64 0] 38 (0,0)):=by rw[←hal_];exact hp2_1 w _ _
 have hw:Below w.heap.size w w0:=by rw[←hal_];exact(((Below.refl _ _).alloc (Nat.le_refl _) _).alloc (by simp) _)
 clear hal_;have c31:w0.cell? ⟨w.heap.size,31,none⟩=some (.int .u8 (byt N 31)):=cell_of_row w0 (w.heap.size) 31 _ _ _ rp0
 go_wp2_with (first|(refine wpList_load_cell31 rfl 5 _ rfl (w.heap.size) 31 rfl _ c31 Tryd.underlying5 ?_)|(refine wpList_store_cell31 rfl 5 _ _ rfl (w.heap.size) 31 rfl (.int .u8 b7) (by rw[←eN2.out];rfl) 23 (kb N) rp0 (by rw[kb_size];decide) (by kernel_rfl) rfl ?_;rw[eM.out];refine wpList_stay ?_)|fail)
 unfold WpStay;clear c31
 replace rp1:=(setRow_other w0 (w.heap.size) (w.heap.size+1) (kb M) (by first|assumption|omega)).trans rp1
 replace rp0:=setRow_heap w0 (w.heap.size) _ (kb M) _ _ rp0
 replace hw:=below_setRow hw (show w.heap.size≤w.heap.size by first|assumption|omega) (kb M)
 generalize w0.setRow (w.heap.size) (kb M)=wz at *
 go_wp2_with (first|(refine wpList_load_want rfl 23 _ rfl (w.heap.size) rfl 23 (kb M) (0,0) _ rp0 Tryd.underlying23 rfl hM.info ?_)|(refine wpList_load_want rfl 38 _ rfl (w.heap.size+1) rfl 38 #[.int .u64 0,.int .u64 0,.int .u64 0,.int .u64 0,.int .u64 0,.int .u64 0,.int .u64 0,.int .u64 0,.int .u64 0,.int .u64 0,.int .u64 0,.int .u64 0,.int .u64 0,.int .u64 0,.int .u64 0,.int .u64 0,.int .u64 0,.int .u64 0,.int .u64 0,.int .u64 0,.int .u64 0,.int .u64 0,.int .u64 0,.int .u64 0,.int .u64 0,.int .u64 0,.int .u64 0,.int .u64 0,.int .u64 0,.int .u64 0,.int .u64 0,.int .u64 0,.int .u64 0,.int .u64 0,.int .u64 0,.int .u64 0,.int .u64 0,.int .u64 0,.int .u64 0,.int .u64 0,.int .u64 0,.int .u64 0,.int .u64 0,.int .u64 0,.int .u64 0,.int .u64 0,.int .u64 0,.int .u64 0] (0,0) _ rp1 Tryd.underlying38 rfl (by kernel_rfl) ?_)|fail)
 refine(cF.at _).mono ?_;rintro e w2 ⟨rfl,hb⟩;replace rp0:=keep hb rp0;replace rp1:=keep hb rp1;replace hw:=Below.after hw hb;clear hb
 go_wp2_with (first|(refine wpList_store_row rfl 36 _ _ rfl (w2.heap.size) yr rfl rfl 36 #[.int .u64 0,.int .u64 0,.int .u64 0,.int .u64 0,.int .u64 0,.int .u64 0,.int .u64 0,.int .u64 0,.int .u64 0,.int .u64 0,.int .u64 0,.int .u64 0,.int .u64 0,.int .u64 0,.int .u64 0,.int .u64 0] (hp1_0 w2 _) hy.info (hy.fits rfl) hy.one ?_;rw[setRow_alloc_new _ _ _ _ _ _ (by simp)];refine wpList_stay ?_)|fail)
 unfold WpStay
 try simp only[Act.put]
 have rl5:(w2.alloc (.cells yr 36)).heap[w2.heap.size]? =some (.cells yr 36 (0,0)):=hp1_0 w2 _;have hb:Below w2.heap.size w2 (w2.alloc (.cells yr 36)):=((Below.refl _ _).alloc (Nat.le_refl _) _)
 generalize (w2.alloc (.cells yr 36))=wy at *
 have ygy_0:=lt_of_row rp0;have ygy_1:=lt_of_row rp1;have ygy:=hw.size;replace rp0:=keep hb rp0;replace rp1:=keep hb rp1;replace hw:=Below.after hw hb;clear hb
 generalize w2.heap.size=gy at *
 clear w2
 go_wp2_with (fail)
 have Hrp0:=keepr rp0;have Hrp1:=keepr rp1;have Hrl5:=keepr rl5
 refine wp_region_quiet_below (by kernel_rfl) (by kernel_rfl) ?_
 refine wpQuiet_load_row rfl 36 _ rfl (gy) rfl 36 yr (0,0) _ Hrl5.out Tryd.underlying36 rfl hy.info ?_;simp only[Act.put,ZPd,ZPe,ZPf];go_big_quiet_step (exact cB.re);refine wpQuiet_load_row rfl 23 _ rfl (w.heap.size) rfl 23 (kb M) (0,0) _ Hrp0.out Tryd.underlying23 rfl hM.info ?_;simp only[Act.put,ZPd,ZPe,ZPf];go_big_quiet_step (fail);refine wpQuiet_nil ?_;rintro _ ⟨p,rfl⟩;have hb:=below_regrown wy p.d p.os
 generalize grow (redrawn wy p.d) p.os=w3 at *
 replace rp0:=keep hb rp0;replace rp1:=keep hb rp1;replace rl5:=keep hb rl5;replace hw:=Below.after hw hb;clear hb;clear Hrp0 Hrp1 Hrl5
 go_wp2_with (first|(refine wpList_load_want rfl 23 _ rfl (w.heap.size) rfl 23 (kb M) (0,0) _ rp0 Tryd.underlying23 rfl hM.info ?_)|(refine wpList_load_want rfl 38 _ rfl (w.heap.size+1) rfl 38 #[.int .u64 0,.int .u64 0,.int .u64 0,.int .u64 0,.int .u64 0,.int .u64 0,.int .u64 0,.int .u64 0,.int .u64 0,.int .u64 0,.int .u64 0,.int .u64 0,.int .u64 0,.int .u64 0,.int .u64 0,.int .u64 0,.int .u64 0,.int .u64 0,.int .u64 0,.int .u64 0,.int .u64 0,.int .u64 0,.int .u64 0,.int .u64 0,.int .u64 0,.int .u64 0,.int .u64 0,.int .u64 0,.int .u64 0,.int .u64 0,.int .u64 0,.int .u64 0,.int .u64 0,.int .u64 0,.int .u64 0,.int .u64 0,.int .u64 0,.int .u64 0,.int .u64 0,.int .u64 0,.int .u64 0,.int .u64 0,.int .u64 0,.int .u64 0,.int .u64 0,.int .u64 0,.int .u64 0,.int .u64 0] (0,0) _ rp1 Tryd.underlying38 rfl (by kernel_rfl) ?_)|(refine wpList_load_want rfl 36 _ rfl (gy) rfl 36 yr (0,0) _ rl5 Tryd.underlying36 rfl hy.info ?_)|fail)
 refine(cX.at _).mono ?_;rintro e w6 ⟨rfl,hb⟩;replace rp0:=keep hb rp0;replace rp1:=keep hb rp1;replace rl5:=keep hb rl5;replace hw:=Below.after hw hb;clear hb
 go_wp2_with (first|(refine wpList_store_row rfl 36 _ _ rfl (w6.heap.size) tv rfl rfl 36 #[.int .u64 0,.int .u64 0,.int .u64 0,.int .u64 0,.int .u64 0,.int .u64 0,.int .u64 0,.int .u64 0,.int .u64 0,.int .u64 0,.int .u64 0,.int .u64 0,.int .u64 0,.int .u64 0,.int .u64 0,.int .u64 0] (hp1_0 w6 _) htv.info (htv.fits rfl) htv.one ?_;rw[setRow_alloc_new _ _ _ _ _ _ (by simp)];refine wpList_stay ?_)|fail)
 unfold WpStay
 try simp only[Act.put]
 have rl6:(w6.alloc (.cells tv 36)).heap[w6.heap.size]? =some (.cells tv 36 (0,0)):=hp1_0 w6 _;have hb:Below w6.heap.size w6 (w6.alloc (.cells tv 36)):=((Below.refl _ _).alloc (Nat.le_refl _) _)
 generalize (w6.alloc (.cells tv 36))=wt at *
 have ygt_0:=lt_of_row rp0;have ygt_1:=lt_of_row rp1;have ygt_2:=lt_of_row rl5;have ygt:=hw.size;replace rp0:=keep hb rp0;replace rp1:=keep hb rp1;replace rl5:=keep hb rl5;replace hw:=Below.after hw hb;clear hb
 generalize w6.heap.size=gt at *
 clear w6
 go_wp2_with (fail)
 refine(cN.at _).mono ?_;rintro e wn ⟨rfl,hb⟩;replace rp0:=keep hb rp0;replace rp1:=keep hb rp1;replace rl5:=keep hb rl5;replace rl6:=keep hb rl6;replace hw:=Below.after hw hb;clear hb
 go_wp2_with (first|(refine wpList_store_row rfl 38 _ _ rfl (w.heap.size+1) nt rfl rfl 38 _ rp1 hnt.info ((show _=48 from rfl).trans hnt.size.symm) hnt.one ?_)|fail)
 exact bodyPost_ret (v:=.tuple #[.agg nt,.int .i64 190]) (results_row_slot Tryd.results6 _ _ (w.heap.size+1) _ nt _ _ _ rfl (setRow_heap _ _ _ _ _ _ rp1) rfl Tryd.underlying38 rfl hnt.info) rfl ⟨rfl,below_setRow hw (by omega) _⟩
set_option maxRecDepth 100000 in
set_option maxHeartbeats 8000000 in
theorem rparse_lne {N M b7:Int} {yr nt:Array Value} (_hN:KeyOf (kb N) N) (hM:KeyOf (kb M) M) (eM:Hid ((kb N).setIfInBounds 31 (.int .u8 b7)=kb M)) (eN:Hid ((byt N 31).tmod 128=b7)) (_eN2:Hid (byt N 31%128=b7)) (hy:RNum yr M) (cF:Gives 33 #[.agg (kb M)] (.agg yr)) (cB:Gives 34 #[.agg yr] (.agg (kb (M%prm)))) {tv:Array Value} {V:Int} (htv:RNum tv V) (cX:Gives 36 #[.agg yr,.bool false] (.tuple #[.agg tv,.bool false])) (hnt:ReO nt ze) (cN:Gives 35 #[] (.agg nt)) (hodd:decide (128≤byt N 31)=false) (heq:∀W,(Op.equalIn 10000 23 (.agg (kb (M%prm))) (.agg (kb M))).run Tryd.prog W=.ok true W):Gives 6 #[.agg (kb N)] (.tuple #[.agg nt,.int .i64 190]):=by
 have hge:=of_decide_eq_false hodd;intro w
 go_enter Tryd.func6,Tryd.ntmps6
 iterate 12 go_step
 generalize hal_:((w.alloc (.cells (kb N) 23)).alloc (.cells #[.int .u64 0,.int .u64 0,.int .u64 0,.int .u64 0,.int .u64 0,.int .u64 0,.int .u64 0,.int .u64 0,.int .u64 0,.int .u64 0,.int .u64 0,.int .u64 0,.int .u64 0,.int .u64 0,.int .u64 0,.int .u64 0,.int .u64 0,.int .u64 0,.int .u64 0,.int .u64 0,.int .u64 0,.int .u64 0,.int .u64 0,.int .u64 0,.int .u64 0,.int .u64 0,.int .u64 0,.int .u64 0,.int .u64 0,.int .u64 0,.int .u64 0,.int .u64 0,.int .u64 0,.int .u64 0,.int .u64 0,.int .u64 0,.int .u64 0,.int .u64 0,.int .u64 0,.int .u64 0,.int .u64 0,.int .u64 0,.int .u64 0,.int .u64 0,.int .u64 0,.int .u64 0,.int .u64 0,.int .u64 0] 38))=w0
 have rp0:w0.heap[w.heap.size]? =some (.cells (kb N) 23 (0,0)):=by rw[←hal_];exact hp2_0 w _ _
 have rp1:w0.heap[w.heap.size+1]? =some (.cells #[.int .u64 0,.int .u64 0,.int .u64 0,.int .u64 0,.int .u64 0,.int .u64 0,.int .u64 0,.int .u64 0,.int .u64 0,.int .u64 0,.int .u64 0,.int .u64 0,.int .u64 0,.int .u64 0,.int .u64 0,.int .u64 0,.int .u64 0,.int .u64 0,.int .u64 0,.int .u64 0,.int .u64 0,.int .u64 0,.int .u64 0,.int .u64 0,.int .u64 0,.int .u64 0,.int .u64 0,.int .u64 0,.int .u64 0,.int .u64 0,.int .u64 0,.int .u64 0,.int .u64 0,.int .u64 0,.int .u64 0,.int .u64 0,.int .u64 0,.int .u64 0,.int .u64 0,.int .u64 0,.int .u64 0,.int .u64 0,.int .u64 0,.int .u64 0,.int .u64 0,.int .u64 0,.int .u64 0,.int .u64 0] 38 (0,0)):=by rw[←hal_];exact hp2_1 w _ _
 have hw:Below w.heap.size w w0:=by rw[←hal_];exact(((Below.refl _ _).alloc (Nat.le_refl _) _).alloc (by simp) _)
 clear hal_;have c31:w0.cell? ⟨w.heap.size,31,none⟩=some (.int .u8 (byt N 31)):=cell_of_row w0 (w.heap.size) 31 _ _ _ rp0
 go_wp2_with (first|(refine wpList_load_cell31 rfl 5 _ rfl (w.heap.size) 31 rfl _ c31 Tryd.underlying5 ?_)|(refine wpList_store_cell31 rfl 5 _ _ rfl (w.heap.size) 31 rfl (.int .u8 b7) (by rw[←eN.out];rfl) 23 (kb N) rp0 (by rw[kb_size];decide) (by kernel_rfl) rfl ?_;rw[eM.out];refine wpList_stay ?_)|fail)
 unfold WpStay;clear c31
 replace rp1:=(setRow_other w0 (w.heap.size) (w.heap.size+1) (kb M) (by first|assumption|omega)).trans rp1
 replace rp0:=setRow_heap w0 (w.heap.size) _ (kb M) _ _ rp0
 replace hw:=below_setRow hw (show w.heap.size≤w.heap.size by first|assumption|omega) (kb M)
 generalize w0.setRow (w.heap.size) (kb M)=wz at *
 go_wp2_with (first|(refine wpList_load_want rfl 23 _ rfl (w.heap.size) rfl 23 (kb M) (0,0) _ rp0 Tryd.underlying23 rfl hM.info ?_)|(refine wpList_load_want rfl 38 _ rfl (w.heap.size+1) rfl 38 #[.int .u64 0,.int .u64 0,.int .u64 0,.int .u64 0,.int .u64 0,.int .u64 0,.int .u64 0,.int .u64 0,.int .u64 0,.int .u64 0,.int .u64 0,.int .u64 0,.int .u64 0,.int .u64 0,.int .u64 0,.int .u64 0,.int .u64 0,.int .u64 0,.int .u64 0,.int .u64 0,.int .u64 0,.int .u64 0,.int .u64 0,.int .u64 0,.int .u64 0,.int .u64 0,.int .u64 0,.int .u64 0,.int .u64 0,.int .u64 0,.int .u64 0,.int .u64 0,.int .u64 0,.int .u64 0,.int .u64 0,.int .u64 0,.int .u64 0,.int .u64 0,.int .u64 0,.int .u64 0,.int .u64 0,.int .u64 0,.int .u64 0,.int .u64 0,.int .u64 0,.int .u64 0,.int .u64 0,.int .u64 0] (0,0) _ rp1 Tryd.underlying38 rfl (by kernel_rfl) ?_)|fail)
 refine(cF.at _).mono ?_;rintro e w2 ⟨rfl,hb⟩;replace rp0:=keep hb rp0;replace rp1:=keep hb rp1;replace hw:=Below.after hw hb;clear hb
 go_wp2_with (first|(refine wpList_store_row rfl 36 _ _ rfl (w2.heap.size) yr rfl rfl 36 #[.int .u64 0,.int .u64 0,.int .u64 0,.int .u64 0,.int .u64 0,.int .u64 0,.int .u64 0,.int .u64 0,.int .u64 0,.int .u64 0,.int .u64 0,.int .u64 0,.int .u64 0,.int .u64 0,.int .u64 0,.int .u64 0] (hp1_0 w2 _) hy.info (hy.fits rfl) hy.one ?_;rw[setRow_alloc_new _ _ _ _ _ _ (by simp)];refine wpList_stay ?_)|fail)
 unfold WpStay
 try simp only[Act.put]
 have rl5:(w2.alloc (.cells yr 36)).heap[w2.heap.size]? =some (.cells yr 36 (0,0)):=hp1_0 w2 _;have hb:Below w2.heap.size w2 (w2.alloc (.cells yr 36)):=((Below.refl _ _).alloc (Nat.le_refl _) _)
 generalize (w2.alloc (.cells yr 36))=wy at *
 have ygy_0:=lt_of_row rp0;have ygy_1:=lt_of_row rp1;have ygy:=hw.size;replace rp0:=keep hb rp0;replace rp1:=keep hb rp1;replace hw:=Below.after hw hb;clear hb
 generalize w2.heap.size=gy at *
 clear w2
 go_wp2_with (fail)
 have Hrp0:=keepr rp0;have Hrp1:=keepr rp1;have Hrl5:=keepr rl5
 refine wp_region_quiet_below (by kernel_rfl) (by kernel_rfl) ?_
 refine wpQuiet_load_row rfl 36 _ rfl (gy) rfl 36 yr (0,0) _ Hrl5.out Tryd.underlying36 rfl hy.info ?_;simp only[Act.put,ZPd,ZPe,ZPf];go_big_quiet_step (exact cB.re);refine wpQuiet_load_row rfl 23 _ rfl (w.heap.size) rfl 23 (kb M) (0,0) _ Hrp0.out Tryd.underlying23 rfl hM.info ?_;simp only[Act.put,ZPd,ZPe,ZPf];go_big_quiet_step (fail);refine wpQuiet_nil ?_;rintro _ ⟨p,rfl⟩;have hb:=below_regrown wy p.d p.os
 generalize grow (redrawn wy p.d) p.os=w3 at *
 replace rp0:=keep hb rp0;replace rp1:=keep hb rp1;replace rl5:=keep hb rl5;replace hw:=Below.after hw hb;clear hb;clear Hrp0 Hrp1 Hrl5
 go_wp2_with (first|(refine wpList_load_want rfl 23 _ rfl (w.heap.size) rfl 23 (kb M) (0,0) _ rp0 Tryd.underlying23 rfl hM.info ?_)|(refine wpList_load_want rfl 38 _ rfl (w.heap.size+1) rfl 38 #[.int .u64 0,.int .u64 0,.int .u64 0,.int .u64 0,.int .u64 0,.int .u64 0,.int .u64 0,.int .u64 0,.int .u64 0,.int .u64 0,.int .u64 0,.int .u64 0,.int .u64 0,.int .u64 0,.int .u64 0,.int .u64 0,.int .u64 0,.int .u64 0,.int .u64 0,.int .u64 0,.int .u64 0,.int .u64 0,.int .u64 0,.int .u64 0,.int .u64 0,.int .u64 0,.int .u64 0,.int .u64 0,.int .u64 0,.int .u64 0,.int .u64 0,.int .u64 0,.int .u64 0,.int .u64 0,.int .u64 0,.int .u64 0,.int .u64 0,.int .u64 0,.int .u64 0,.int .u64 0,.int .u64 0,.int .u64 0,.int .u64 0,.int .u64 0,.int .u64 0,.int .u64 0,.int .u64 0,.int .u64 0] (0,0) _ rp1 Tryd.underlying38 rfl (by kernel_rfl) ?_)|(refine wpList_load_want rfl 36 _ rfl (gy) rfl 36 yr (0,0) _ rl5 Tryd.underlying36 rfl hy.info ?_)|fail)
 refine(cX.at _).mono ?_;rintro e w6 ⟨rfl,hb⟩;replace rp0:=keep hb rp0;replace rp1:=keep hb rp1;replace rl5:=keep hb rl5;replace hw:=Below.after hw hb;clear hb
 go_wp2_with (first|(refine wpList_store_row rfl 36 _ _ rfl (w6.heap.size) tv rfl rfl 36 #[.int .u64 0,.int .u64 0,.int .u64 0,.int .u64 0,.int .u64 0,.int .u64 0,.int .u64 0,.int .u64 0,.int .u64 0,.int .u64 0,.int .u64 0,.int .u64 0,.int .u64 0,.int .u64 0,.int .u64 0,.int .u64 0] (hp1_0 w6 _) htv.info (htv.fits rfl) htv.one ?_;rw[setRow_alloc_new _ _ _ _ _ _ (by simp)];refine wpList_stay ?_)|fail)
 unfold WpStay
 try simp only[Act.put]
 have rl6:(w6.alloc (.cells tv 36)).heap[w6.heap.size]? =some (.cells tv 36 (0,0)):=hp1_0 w6 _;have hb:Below w6.heap.size w6 (w6.alloc (.cells tv 36)):=((Below.refl _ _).alloc (Nat.le_refl _) _)
 generalize (w6.alloc (.cells tv 36))=wt at *
 have ygt_0:=lt_of_row rp0;have ygt_1:=lt_of_row rp1;have ygt_2:=lt_of_row rl5;have ygt:=hw.size;replace rp0:=keep hb rp0;replace rp1:=keep hb rp1;replace rl5:=keep hb rl5;replace hw:=Below.after hw hb;clear hb
 generalize w6.heap.size=gt at *
 clear w6
 go_wp2_with (fail)
 refine(cN.at _).mono ?_;rintro e wn ⟨rfl,hb⟩;replace rp0:=keep hb rp0;replace rp1:=keep hb rp1;replace rl5:=keep hb rl5;replace rl6:=keep hb rl6;replace hw:=Below.after hw hb;clear hb
 go_wp2_with (first|(refine wpList_store_row rfl 38 _ _ rfl (w.heap.size+1) nt rfl rfl 38 _ rp1 hnt.info ((show _=48 from rfl).trans hnt.size.symm) hnt.one ?_)|fail)
 exact bodyPost_ret (v:=.tuple #[.agg nt,.int .i64 190]) (results_row_slot Tryd.results6 _ _ (w.heap.size+1) _ nt _ _ _ rfl (setRow_heap _ _ _ _ _ _ rp1) rfl Tryd.underlying38 rfl hnt.info) rfl ⟨rfl,below_setRow hw (by omega) _⟩
set_option maxRecDepth 100000 in
set_option maxHeartbeats 8000000 in
theorem rparse_lyo {N M b7:Int} {yr:Array Value} (_hN:KeyOf (kb N) N) (hM:KeyOf (kb M) M) (eM:Hid ((kb N).setIfInBounds 31 (.int .u8 b7)=kb M)) (_eN:Hid ((byt N 31).tmod 128=b7)) (eN2:Hid (byt N 31%128=b7)) (hy:RNum yr M) (cF:Gives 33 #[.agg (kb M)] (.agg yr)) (cB:Gives 34 #[.agg yr] (.agg (kb (M%prm)))) {tv:Array Value} {V:Int} (htv:RNum tv V) (cX:Gives 36 #[.agg yr,.bool true] (.tuple #[.agg tv,.bool true])) {o1:Array Value} (ho1:RNum o1 1) (cS1:Gives 37 #[.int .u64 1] (.agg o1)) (hodd:decide (128≤byt N 31)=true) (heq:∀W,(Op.equalIn 10000 23 (.agg (kb (M%prm))) (.agg (kb M))).run Tryd.prog W=.ok true W):Gives 6 #[.agg (kb N)] (.tuple #[.agg (r3 tv yr o1),.int .i64 0]):=by
 have hge:=of_decide_eq_true hodd;intro w
 go_enter Tryd.func6,Tryd.ntmps6
 iterate 12 go_step
 generalize hal_:((w.alloc (.cells (kb N) 23)).alloc (.cells #[.int .u64 0,.int .u64 0,.int .u64 0,.int .u64 0,.int .u64 0,.int .u64 0,.int .u64 0,.int .u64 0,.int .u64 0,.int .u64 0,.int .u64 0,.int .u64 0,.int .u64 0,.int .u64 0,.int .u64 0,.int .u64 0,.int .u64 0,.int .u64 0,.int .u64 0,.int .u64 0,.int .u64 0,.int .u64 0,.int .u64 0,.int .u64 0,.int .u64 0,.int .u64 0,.int .u64 0,.int .u64 0,.int .u64 0,.int .u64 0,.int .u64 0,.int .u64 0,.int .u64 0,.int .u64 0,.int .u64 0,.int .u64 0,.int .u64 0,.int .u64 0,.int .u64 0,.int .u64 0,.int .u64 0,.int .u64 0,.int .u64 0,.int .u64 0,.int .u64 0,.int .u64 0,.int .u64 0,.int .u64 0] 38))=w0
 have rp0:w0.heap[w.heap.size]? =some (.cells (kb N) 23 (0,0)):=by rw[←hal_];exact hp2_0 w _ _
 have rp1:w0.heap[w.heap.size+1]? =some (.cells #[.int .u64 0,.int .u64 0,.int .u64 0,.int .u64 0,.int .u64 0,.int .u64 0,.int .u64 0,.int .u64 0,.int .u64 0,.int .u64 0,.int .u64 0,.int .u64 0,.int .u64 0,.int .u64 0,.int .u64 0,.int .u64 0,.int .u64 0,.int .u64 0,.int .u64 0,.int .u64 0,.int .u64 0,.int .u64 0,.int .u64 0,.int .u64 0,.int .u64 0,.int .u64 0,.int .u64 0,.int .u64 0,.int .u64 0,.int .u64 0,.int .u64 0,.int .u64 0,.int .u64 0,.int .u64 0,.int .u64 0,.int .u64 0,.int .u64 0,.int .u64 0,.int .u64 0,.int .u64 0,.int .u64 0,.int .u64 0,.int .u64 0,.int .u64 0,.int .u64 0,.int .u64 0,.int .u64 0,.int .u64 0] 38 (0,0)):=by rw[←hal_];exact hp2_1 w _ _
 have hw:Below w.heap.size w w0:=by rw[←hal_];exact(((Below.refl _ _).alloc (Nat.le_refl _) _).alloc (by simp) _)
 clear hal_;have c31:w0.cell? ⟨w.heap.size,31,none⟩=some (.int .u8 (byt N 31)):=cell_of_row w0 (w.heap.size) 31 _ _ _ rp0
 go_wp2_with (first|(refine wpList_load_cell31 rfl 5 _ rfl (w.heap.size) 31 rfl _ c31 Tryd.underlying5 ?_)|(refine wpList_store_cell31 rfl 5 _ _ rfl (w.heap.size) 31 rfl (.int .u8 b7) (by rw[←eN2.out];rfl) 23 (kb N) rp0 (by rw[kb_size];decide) (by kernel_rfl) rfl ?_;rw[eM.out];refine wpList_stay ?_)|fail)
 unfold WpStay;clear c31
 replace rp1:=(setRow_other w0 (w.heap.size) (w.heap.size+1) (kb M) (by first|assumption|omega)).trans rp1
 replace rp0:=setRow_heap w0 (w.heap.size) _ (kb M) _ _ rp0
 replace hw:=below_setRow hw (show w.heap.size≤w.heap.size by first|assumption|omega) (kb M)
 generalize w0.setRow (w.heap.size) (kb M)=wz at *
 go_wp2_with (first|(refine wpList_load_want rfl 23 _ rfl (w.heap.size) rfl 23 (kb M) (0,0) _ rp0 Tryd.underlying23 rfl hM.info ?_)|(refine wpList_load_want rfl 38 _ rfl (w.heap.size+1) rfl 38 #[.int .u64 0,.int .u64 0,.int .u64 0,.int .u64 0,.int .u64 0,.int .u64 0,.int .u64 0,.int .u64 0,.int .u64 0,.int .u64 0,.int .u64 0,.int .u64 0,.int .u64 0,.int .u64 0,.int .u64 0,.int .u64 0,.int .u64 0,.int .u64 0,.int .u64 0,.int .u64 0,.int .u64 0,.int .u64 0,.int .u64 0,.int .u64 0,.int .u64 0,.int .u64 0,.int .u64 0,.int .u64 0,.int .u64 0,.int .u64 0,.int .u64 0,.int .u64 0,.int .u64 0,.int .u64 0,.int .u64 0,.int .u64 0,.int .u64 0,.int .u64 0,.int .u64 0,.int .u64 0,.int .u64 0,.int .u64 0,.int .u64 0,.int .u64 0,.int .u64 0,.int .u64 0,.int .u64 0,.int .u64 0] (0,0) _ rp1 Tryd.underlying38 rfl (by kernel_rfl) ?_)|fail)
 refine(cF.at _).mono ?_;rintro e w2 ⟨rfl,hb⟩;replace rp0:=keep hb rp0;replace rp1:=keep hb rp1;replace hw:=Below.after hw hb;clear hb
 go_wp2_with (first|(refine wpList_store_row rfl 36 _ _ rfl (w2.heap.size) yr rfl rfl 36 #[.int .u64 0,.int .u64 0,.int .u64 0,.int .u64 0,.int .u64 0,.int .u64 0,.int .u64 0,.int .u64 0,.int .u64 0,.int .u64 0,.int .u64 0,.int .u64 0,.int .u64 0,.int .u64 0,.int .u64 0,.int .u64 0] (hp1_0 w2 _) hy.info (hy.fits rfl) hy.one ?_;rw[setRow_alloc_new _ _ _ _ _ _ (by simp)];refine wpList_stay ?_)|fail)
 unfold WpStay
 try simp only[Act.put]
 have rl5:(w2.alloc (.cells yr 36)).heap[w2.heap.size]? =some (.cells yr 36 (0,0)):=hp1_0 w2 _;have hb:Below w2.heap.size w2 (w2.alloc (.cells yr 36)):=((Below.refl _ _).alloc (Nat.le_refl _) _)
 generalize (w2.alloc (.cells yr 36))=wy at *
 have ygy_0:=lt_of_row rp0;have ygy_1:=lt_of_row rp1;have ygy:=hw.size;replace rp0:=keep hb rp0;replace rp1:=keep hb rp1;replace hw:=Below.after hw hb;clear hb
 generalize w2.heap.size=gy at *
 clear w2
 go_wp2_with (fail)
 have Hrp0:=keepr rp0;have Hrp1:=keepr rp1;have Hrl5:=keepr rl5
 refine wp_region_quiet_below (by kernel_rfl) (by kernel_rfl) ?_
 refine wpQuiet_load_row rfl 36 _ rfl (gy) rfl 36 yr (0,0) _ Hrl5.out Tryd.underlying36 rfl hy.info ?_;simp only[Act.put,ZPd,ZPe,ZPf];go_big_quiet_step (exact cB.re);refine wpQuiet_load_row rfl 23 _ rfl (w.heap.size) rfl 23 (kb M) (0,0) _ Hrp0.out Tryd.underlying23 rfl hM.info ?_;simp only[Act.put,ZPd,ZPe,ZPf];go_big_quiet_step (fail);refine wpQuiet_nil ?_;rintro _ ⟨p,rfl⟩;have hb:=below_regrown wy p.d p.os
 generalize grow (redrawn wy p.d) p.os=w3 at *
 replace rp0:=keep hb rp0;replace rp1:=keep hb rp1;replace rl5:=keep hb rl5;replace hw:=Below.after hw hb;clear hb;clear Hrp0 Hrp1 Hrl5
 go_wp2_with (first|(refine wpList_load_want rfl 23 _ rfl (w.heap.size) rfl 23 (kb M) (0,0) _ rp0 Tryd.underlying23 rfl hM.info ?_)|(refine wpList_load_want rfl 38 _ rfl (w.heap.size+1) rfl 38 #[.int .u64 0,.int .u64 0,.int .u64 0,.int .u64 0,.int .u64 0,.int .u64 0,.int .u64 0,.int .u64 0,.int .u64 0,.int .u64 0,.int .u64 0,.int .u64 0,.int .u64 0,.int .u64 0,.int .u64 0,.int .u64 0,.int .u64 0,.int .u64 0,.int .u64 0,.int .u64 0,.int .u64 0,.int .u64 0,.int .u64 0,.int .u64 0,.int .u64 0,.int .u64 0,.int .u64 0,.int .u64 0,.int .u64 0,.int .u64 0,.int .u64 0,.int .u64 0,.int .u64 0,.int .u64 0,.int .u64 0,.int .u64 0,.int .u64 0,.int .u64 0,.int .u64 0,.int .u64 0,.int .u64 0,.int .u64 0,.int .u64 0,.int .u64 0,.int .u64 0,.int .u64 0,.int .u64 0,.int .u64 0] (0,0) _ rp1 Tryd.underlying38 rfl (by kernel_rfl) ?_)|(refine wpList_load_want rfl 36 _ rfl (gy) rfl 36 yr (0,0) _ rl5 Tryd.underlying36 rfl hy.info ?_)|fail)
 refine(cX.at _).mono ?_;rintro e w6 ⟨rfl,hb⟩;replace rp0:=keep hb rp0;replace rp1:=keep hb rp1;replace rl5:=keep hb rl5;replace hw:=Below.after hw hb;clear hb
 go_wp2_with (first|(refine wpList_store_row rfl 36 _ _ rfl (w6.heap.size) tv rfl rfl 36 #[.int .u64 0,.int .u64 0,.int .u64 0,.int .u64 0,.int .u64 0,.int .u64 0,.int .u64 0,.int .u64 0,.int .u64 0,.int .u64 0,.int .u64 0,.int .u64 0,.int .u64 0,.int .u64 0,.int .u64 0,.int .u64 0] (hp1_0 w6 _) htv.info (htv.fits rfl) htv.one ?_;rw[setRow_alloc_new _ _ _ _ _ _ (by simp)];refine wpList_stay ?_)|fail)
 unfold WpStay
 try simp only[Act.put]
 have rl6:(w6.alloc (.cells tv 36)).heap[w6.heap.size]? =some (.cells tv 36 (0,0)):=hp1_0 w6 _;have hb:Below w6.heap.size w6 (w6.alloc (.cells tv 36)):=((Below.refl _ _).alloc (Nat.le_refl _) _)
 generalize (w6.alloc (.cells tv 36))=wt at *
 have ygt_0:=lt_of_row rp0;have ygt_1:=lt_of_row rp1;have ygt_2:=lt_of_row rl5;have ygt:=hw.size;replace rp0:=keep hb rp0;replace rp1:=keep hb rp1;replace rl5:=keep hb rl5;replace hw:=Below.after hw hb;clear hb
 generalize w6.heap.size=gt at *
 clear w6
 go_wp2_with (fail)
 have hbd:Below wt.heap.size wt wt.drew:=below_drN (Below.refl _ _) 1;replace rp0:=keep hbd rp0;replace rp1:=keep hbd rp1;replace rl5:=keep hbd rl5;replace rl6:=keep hbd rl6;replace hw:=Below.after hw hbd;clear hbd;refine wp_region_noPanic ?_
 refine wp_region_held (S:=fun W_=>W_.heap[gy]? =some (.cells yr 36 (0,0))∧W_.heap[gt]? =some (.cells tv 36 (0,0))) (by kernel_rfl) ?_
 change wpAnyH _ _ _ _ _ _ _ _ (World.drew _)
 generalize wt.drew=wd60 at *
 refine wpAnyH_take (i:=0) (v:=.agg tv) rfl (by kernel_rfl) (by kernel_rfl) (by kernel_rfl) (fun _ _ _ h=>h) (Or.inl ⟨by rfl,?y61⟩) (⟨rl5,rl6⟩) ?r61
 case y61=>
  intro w_ hS_;simp only[List.getElem_toArray,List.getElem_cons_zero]
  exact e_load_part 36 _ (by rfl) (gt) 0 (by rfl) 36 tv (0,0) tv _ (hS_.2) (all_rowe _) Tryd.underlying36 rfl htv.info
 simp only[Act.put,ZPa,ZPc,ZPd,ZPe,ZPf]
 refine wpAnyH_take (i:=1) (v:=.agg yr) rfl (by kernel_rfl) (by kernel_rfl) (by kernel_rfl) (fun _ _ _ h=>h) (Or.inl ⟨by rfl,?y62⟩) (⟨rl5,rl6⟩) ?r62
 case y62=>
  intro w_ hS_;simp only[List.getElem_toArray,List.getElem_cons_succ,List.getElem_cons_zero]
  exact e_load_part 36 _ (by rfl) (gy) 0 (by rfl) 36 yr (0,0) yr _ (hS_.1) (all_rowe _) Tryd.underlying36 rfl hy.info
 simp only[Act.put,ZPa,ZPb,ZPc,ZPd,ZPe,ZPf]
 refine eH_one (k:=2) (fuel:=3) (by kernel_rfl) rfl (by kernel_rfl) (fun K_ hK_=>?_)
 refine wp_call_ex (f:=37) (by kernel_rfl) (ex1e (cS1.at _)) (fun v_ wq63 hX_=>?_)
 obtain⟨rfl,hb_⟩:=hX_;replace rp0:=keep hb_ rp0;replace rp1:=keep hb_ rp1;replace rl5:=keep hb_ rl5;replace rl6:=keep hb_ rl6;replace hw:=Below.after hw hb_;clear hb_;refine hK_ _ _ (⟨rl5,rl6⟩) ?_;simp only[Act.put,ZPa,ZPb,ZPc,ZPd,ZPe,ZPf];clear hK_
 refine wpAnyH_take (i:=3) (v:=.agg (r3 tv yr o1)) rfl (by kernel_rfl) (by kernel_rfl) (by kernel_rfl) (fun _ _ _ h=>h) (Or.inl ⟨by rfl,?y64⟩) (⟨rl5,rl6⟩) ?r64
 case y64=>
  intro w_ hS_;simp only[List.getElem_toArray,List.getElem_cons_succ,List.getElem_cons_zero]
  exact e_build 38 _ (by rfl) [(0,.agg tv),(1,.agg yr),(2,.agg o1)] (by rfl) (r3 tv yr o1) (q3_built htv.size hy.size ho1.size)
 simp only[Act.put,ZPa,ZPb,ZPc,ZPd,ZPe,ZPf]
 refine eH_one (k:=4) (fuel:=1) (by kernel_rfl) rfl (by kernel_rfl) (fun K_ hK_=>?_)
 refine wp_store_row 38 _ _ rfl (w.heap.size+1) (r3 tv yr o1) rfl rfl 38 _ rp1 (q3_info htv.size hy.size ho1.size) ((show _=48 from rfl).trans (r3_size htv.size hy.size ho1.size).symm) (r3_one htv.one hy.one ho1.one) ?_
 replace rp0:=(setRow_other wq63 (w.heap.size+1) (w.heap.size) (r3 tv yr o1) (by first|assumption|omega)).trans rp0
 replace rl5:=(setRow_other wq63 (w.heap.size+1) (gy) (r3 tv yr o1) (by first|assumption|omega)).trans rl5
 replace rl6:=(setRow_other wq63 (w.heap.size+1) (gt) (r3 tv yr o1) (by first|assumption|omega)).trans rl6
 replace rp1:=setRow_heap wq63 (w.heap.size+1) _ (r3 tv yr o1) _ _ rp1
 replace hw:=below_setRow hw (show w.heap.size≤w.heap.size+1 by first|assumption|omega) (r3 tv yr o1)
 generalize wq63.setRow (w.heap.size+1) (r3 tv yr o1)=wq65 at *
 refine hK_ _ _ (⟨rl5,rl6⟩) ?_;simp only[Act.put];clear hK_
 refine wpAnyH_take (i:=5) (v:=?v66) rfl (by kernel_rfl) (by kernel_rfl) (by kernel_rfl) (fun _ _ _ h=>h) (Or.inl ⟨by rfl,?y66⟩) (⟨rl5,rl6⟩) ?r66
 case y66=>
  intro w_ hS_;go_simp
  try with_reducible rfl
 simp only[Act.put,ZPa,ZPb,ZPc,ZPd,ZPe,ZPf]
 refine wpAnyH_done (by kernel_rfl) ?_ _
 refine NoPanic.normal ?_
 go_wp2_with (fail)
 exact bodyPost_ret (v:=.tuple #[.agg (r3 tv yr o1),.int .i64 0]) (results_row_slot Tryd.results6 _ _ (w.heap.size+1) _ (r3 tv yr o1) _ _ _ rfl rp1 rfl Tryd.underlying38 rfl (q3_info htv.size hy.size ho1.size)) rfl ⟨rfl,hw⟩
set_option maxRecDepth 100000 in
set_option maxHeartbeats 8000000 in
theorem rparse_lye {N M b7:Int} {yr:Array Value} (_hN:KeyOf (kb N) N) (hM:KeyOf (kb M) M) (eM:Hid ((kb N).setIfInBounds 31 (.int .u8 b7)=kb M)) (eN:Hid ((byt N 31).tmod 128=b7)) (_eN2:Hid (byt N 31%128=b7)) (hy:RNum yr M) (cF:Gives 33 #[.agg (kb M)] (.agg yr)) (cB:Gives 34 #[.agg yr] (.agg (kb (M%prm)))) {tv:Array Value} {V:Int} (htv:RNum tv V) (cX:Gives 36 #[.agg yr,.bool false] (.tuple #[.agg tv,.bool true])) {o1:Array Value} (ho1:RNum o1 1) (cS1:Gives 37 #[.int .u64 1] (.agg o1)) (hodd:decide (128≤byt N 31)=false) (heq:∀W,(Op.equalIn 10000 23 (.agg (kb (M%prm))) (.agg (kb M))).run Tryd.prog W=.ok true W):Gives 6 #[.agg (kb N)] (.tuple #[.agg (r3 tv yr o1),.int .i64 0]):=by
 have hge:=of_decide_eq_false hodd;intro w
 go_enter Tryd.func6,Tryd.ntmps6
 iterate 12 go_step
 generalize hal_:((w.alloc (.cells (kb N) 23)).alloc (.cells #[.int .u64 0,.int .u64 0,.int .u64 0,.int .u64 0,.int .u64 0,.int .u64 0,.int .u64 0,.int .u64 0,.int .u64 0,.int .u64 0,.int .u64 0,.int .u64 0,.int .u64 0,.int .u64 0,.int .u64 0,.int .u64 0,.int .u64 0,.int .u64 0,.int .u64 0,.int .u64 0,.int .u64 0,.int .u64 0,.int .u64 0,.int .u64 0,.int .u64 0,.int .u64 0,.int .u64 0,.int .u64 0,.int .u64 0,.int .u64 0,.int .u64 0,.int .u64 0,.int .u64 0,.int .u64 0,.int .u64 0,.int .u64 0,.int .u64 0,.int .u64 0,.int .u64 0,.int .u64 0,.int .u64 0,.int .u64 0,.int .u64 0,.int .u64 0,.int .u64 0,.int .u64 0,.int .u64 0,.int .u64 0] 38))=w0
 have rp0:w0.heap[w.heap.size]? =some (.cells (kb N) 23 (0,0)):=by rw[←hal_];exact hp2_0 w _ _
 have rp1:w0.heap[w.heap.size+1]? =some (.cells #[.int .u64 0,.int .u64 0,.int .u64 0,.int .u64 0,.int .u64 0,.int .u64 0,.int .u64 0,.int .u64 0,.int .u64 0,.int .u64 0,.int .u64 0,.int .u64 0,.int .u64 0,.int .u64 0,.int .u64 0,.int .u64 0,.int .u64 0,.int .u64 0,.int .u64 0,.int .u64 0,.int .u64 0,.int .u64 0,.int .u64 0,.int .u64 0,.int .u64 0,.int .u64 0,.int .u64 0,.int .u64 0,.int .u64 0,.int .u64 0,.int .u64 0,.int .u64 0,.int .u64 0,.int .u64 0,.int .u64 0,.int .u64 0,.int .u64 0,.int .u64 0,.int .u64 0,.int .u64 0,.int .u64 0,.int .u64 0,.int .u64 0,.int .u64 0,.int .u64 0,.int .u64 0,.int .u64 0,.int .u64 0] 38 (0,0)):=by rw[←hal_];exact hp2_1 w _ _
 have hw:Below w.heap.size w w0:=by rw[←hal_];exact(((Below.refl _ _).alloc (Nat.le_refl _) _).alloc (by simp) _)
 clear hal_;have c31:w0.cell? ⟨w.heap.size,31,none⟩=some (.int .u8 (byt N 31)):=cell_of_row w0 (w.heap.size) 31 _ _ _ rp0
 go_wp2_with (first|(refine wpList_load_cell31 rfl 5 _ rfl (w.heap.size) 31 rfl _ c31 Tryd.underlying5 ?_)|(refine wpList_store_cell31 rfl 5 _ _ rfl (w.heap.size) 31 rfl (.int .u8 b7) (by rw[←eN.out];rfl) 23 (kb N) rp0 (by rw[kb_size];decide) (by kernel_rfl) rfl ?_;rw[eM.out];refine wpList_stay ?_)|fail)
 unfold WpStay;clear c31
 replace rp1:=(setRow_other w0 (w.heap.size) (w.heap.size+1) (kb M) (by first|assumption|omega)).trans rp1
 replace rp0:=setRow_heap w0 (w.heap.size) _ (kb M) _ _ rp0
 replace hw:=below_setRow hw (show w.heap.size≤w.heap.size by first|assumption|omega) (kb M)
 generalize w0.setRow (w.heap.size) (kb M)=wz at *
 go_wp2_with (first|(refine wpList_load_want rfl 23 _ rfl (w.heap.size) rfl 23 (kb M) (0,0) _ rp0 Tryd.underlying23 rfl hM.info ?_)|(refine wpList_load_want rfl 38 _ rfl (w.heap.size+1) rfl 38 #[.int .u64 0,.int .u64 0,.int .u64 0,.int .u64 0,.int .u64 0,.int .u64 0,.int .u64 0,.int .u64 0,.int .u64 0,.int .u64 0,.int .u64 0,.int .u64 0,.int .u64 0,.int .u64 0,.int .u64 0,.int .u64 0,.int .u64 0,.int .u64 0,.int .u64 0,.int .u64 0,.int .u64 0,.int .u64 0,.int .u64 0,.int .u64 0,.int .u64 0,.int .u64 0,.int .u64 0,.int .u64 0,.int .u64 0,.int .u64 0,.int .u64 0,.int .u64 0,.int .u64 0,.int .u64 0,.int .u64 0,.int .u64 0,.int .u64 0,.int .u64 0,.int .u64 0,.int .u64 0,.int .u64 0,.int .u64 0,.int .u64 0,.int .u64 0,.int .u64 0,.int .u64 0,.int .u64 0,.int .u64 0] (0,0) _ rp1 Tryd.underlying38 rfl (by kernel_rfl) ?_)|fail)
 refine(cF.at _).mono ?_;rintro e w2 ⟨rfl,hb⟩;replace rp0:=keep hb rp0;replace rp1:=keep hb rp1;replace hw:=Below.after hw hb;clear hb
 go_wp2_with (first|(refine wpList_store_row rfl 36 _ _ rfl (w2.heap.size) yr rfl rfl 36 #[.int .u64 0,.int .u64 0,.int .u64 0,.int .u64 0,.int .u64 0,.int .u64 0,.int .u64 0,.int .u64 0,.int .u64 0,.int .u64 0,.int .u64 0,.int .u64 0,.int .u64 0,.int .u64 0,.int .u64 0,.int .u64 0] (hp1_0 w2 _) hy.info (hy.fits rfl) hy.one ?_;rw[setRow_alloc_new _ _ _ _ _ _ (by simp)];refine wpList_stay ?_)|fail)
 unfold WpStay
 try simp only[Act.put]
 have rl5:(w2.alloc (.cells yr 36)).heap[w2.heap.size]? =some (.cells yr 36 (0,0)):=hp1_0 w2 _;have hb:Below w2.heap.size w2 (w2.alloc (.cells yr 36)):=((Below.refl _ _).alloc (Nat.le_refl _) _)
 generalize (w2.alloc (.cells yr 36))=wy at *
 have ygy_0:=lt_of_row rp0;have ygy_1:=lt_of_row rp1;have ygy:=hw.size;replace rp0:=keep hb rp0;replace rp1:=keep hb rp1;replace hw:=Below.after hw hb;clear hb
 generalize w2.heap.size=gy at *
 clear w2
 go_wp2_with (fail)
 have Hrp0:=keepr rp0;have Hrp1:=keepr rp1;have Hrl5:=keepr rl5
 refine wp_region_quiet_below (by kernel_rfl) (by kernel_rfl) ?_
 refine wpQuiet_load_row rfl 36 _ rfl (gy) rfl 36 yr (0,0) _ Hrl5.out Tryd.underlying36 rfl hy.info ?_;simp only[Act.put,ZPd,ZPe,ZPf];go_big_quiet_step (exact cB.re);refine wpQuiet_load_row rfl 23 _ rfl (w.heap.size) rfl 23 (kb M) (0,0) _ Hrp0.out Tryd.underlying23 rfl hM.info ?_;simp only[Act.put,ZPd,ZPe,ZPf];go_big_quiet_step (fail);refine wpQuiet_nil ?_;rintro _ ⟨p,rfl⟩;have hb:=below_regrown wy p.d p.os
 generalize grow (redrawn wy p.d) p.os=w3 at *
 replace rp0:=keep hb rp0;replace rp1:=keep hb rp1;replace rl5:=keep hb rl5;replace hw:=Below.after hw hb;clear hb;clear Hrp0 Hrp1 Hrl5
 go_wp2_with (first|(refine wpList_load_want rfl 23 _ rfl (w.heap.size) rfl 23 (kb M) (0,0) _ rp0 Tryd.underlying23 rfl hM.info ?_)|(refine wpList_load_want rfl 38 _ rfl (w.heap.size+1) rfl 38 #[.int .u64 0,.int .u64 0,.int .u64 0,.int .u64 0,.int .u64 0,.int .u64 0,.int .u64 0,.int .u64 0,.int .u64 0,.int .u64 0,.int .u64 0,.int .u64 0,.int .u64 0,.int .u64 0,.int .u64 0,.int .u64 0,.int .u64 0,.int .u64 0,.int .u64 0,.int .u64 0,.int .u64 0,.int .u64 0,.int .u64 0,.int .u64 0,.int .u64 0,.int .u64 0,.int .u64 0,.int .u64 0,.int .u64 0,.int .u64 0,.int .u64 0,.int .u64 0,.int .u64 0,.int .u64 0,.int .u64 0,.int .u64 0,.int .u64 0,.int .u64 0,.int .u64 0,.int .u64 0,.int .u64 0,.int .u64 0,.int .u64 0,.int .u64 0,.int .u64 0,.int .u64 0,.int .u64 0,.int .u64 0] (0,0) _ rp1 Tryd.underlying38 rfl (by kernel_rfl) ?_)|(refine wpList_load_want rfl 36 _ rfl (gy) rfl 36 yr (0,0) _ rl5 Tryd.underlying36 rfl hy.info ?_)|fail)
 refine(cX.at _).mono ?_;rintro e w6 ⟨rfl,hb⟩;replace rp0:=keep hb rp0;replace rp1:=keep hb rp1;replace rl5:=keep hb rl5;replace hw:=Below.after hw hb;clear hb
 go_wp2_with (first|(refine wpList_store_row rfl 36 _ _ rfl (w6.heap.size) tv rfl rfl 36 #[.int .u64 0,.int .u64 0,.int .u64 0,.int .u64 0,.int .u64 0,.int .u64 0,.int .u64 0,.int .u64 0,.int .u64 0,.int .u64 0,.int .u64 0,.int .u64 0,.int .u64 0,.int .u64 0,.int .u64 0,.int .u64 0] (hp1_0 w6 _) htv.info (htv.fits rfl) htv.one ?_;rw[setRow_alloc_new _ _ _ _ _ _ (by simp)];refine wpList_stay ?_)|fail)
 unfold WpStay
 try simp only[Act.put]
 have rl6:(w6.alloc (.cells tv 36)).heap[w6.heap.size]? =some (.cells tv 36 (0,0)):=hp1_0 w6 _;have hb:Below w6.heap.size w6 (w6.alloc (.cells tv 36)):=((Below.refl _ _).alloc (Nat.le_refl _) _)
 generalize (w6.alloc (.cells tv 36))=wt at *
 have ygt_0:=lt_of_row rp0;have ygt_1:=lt_of_row rp1;have ygt_2:=lt_of_row rl5;have ygt:=hw.size;replace rp0:=keep hb rp0;replace rp1:=keep hb rp1;replace rl5:=keep hb rl5;replace hw:=Below.after hw hb;clear hb
 generalize w6.heap.size=gt at *
 clear w6
 go_wp2_with (fail)
 have hbd:Below wt.heap.size wt wt.drew:=below_drN (Below.refl _ _) 1;replace rp0:=keep hbd rp0;replace rp1:=keep hbd rp1;replace rl5:=keep hbd rl5;replace rl6:=keep hbd rl6;replace hw:=Below.after hw hbd;clear hbd;refine wp_region_noPanic ?_
 refine wp_region_held (S:=fun W_=>W_.heap[gy]? =some (.cells yr 36 (0,0))∧W_.heap[gt]? =some (.cells tv 36 (0,0))) (by kernel_rfl) ?_
 change wpAnyH _ _ _ _ _ _ _ _ (World.drew _)
 generalize wt.drew=wd67 at *
 refine wpAnyH_take (i:=0) (v:=.agg tv) rfl (by kernel_rfl) (by kernel_rfl) (by kernel_rfl) (fun _ _ _ h=>h) (Or.inl ⟨by rfl,?y68⟩) (⟨rl5,rl6⟩) ?r68
 case y68=>
  intro w_ hS_;simp only[List.getElem_toArray,List.getElem_cons_zero]
  exact e_load_part 36 _ (by rfl) (gt) 0 (by rfl) 36 tv (0,0) tv _ (hS_.2) (all_rowe _) Tryd.underlying36 rfl htv.info
 simp only[Act.put,ZPa,ZPc,ZPd,ZPe,ZPf]
 refine wpAnyH_take (i:=1) (v:=.agg yr) rfl (by kernel_rfl) (by kernel_rfl) (by kernel_rfl) (fun _ _ _ h=>h) (Or.inl ⟨by rfl,?y69⟩) (⟨rl5,rl6⟩) ?r69
 case y69=>
  intro w_ hS_;simp only[List.getElem_toArray,List.getElem_cons_succ,List.getElem_cons_zero]
  exact e_load_part 36 _ (by rfl) (gy) 0 (by rfl) 36 yr (0,0) yr _ (hS_.1) (all_rowe _) Tryd.underlying36 rfl hy.info
 simp only[Act.put,ZPa,ZPb,ZPc,ZPd,ZPe,ZPf]
 refine eH_one (k:=2) (fuel:=3) (by kernel_rfl) rfl (by kernel_rfl) (fun K_ hK_=>?_)
 refine wp_call_ex (f:=37) (by kernel_rfl) (ex1e (cS1.at _)) (fun v_ wq70 hX_=>?_)
 obtain⟨rfl,hb_⟩:=hX_;replace rp0:=keep hb_ rp0;replace rp1:=keep hb_ rp1;replace rl5:=keep hb_ rl5;replace rl6:=keep hb_ rl6;replace hw:=Below.after hw hb_;clear hb_;refine hK_ _ _ (⟨rl5,rl6⟩) ?_;simp only[Act.put,ZPa,ZPb,ZPc,ZPd,ZPe,ZPf];clear hK_
 refine wpAnyH_take (i:=3) (v:=.agg (r3 tv yr o1)) rfl (by kernel_rfl) (by kernel_rfl) (by kernel_rfl) (fun _ _ _ h=>h) (Or.inl ⟨by rfl,?y71⟩) (⟨rl5,rl6⟩) ?r71
 case y71=>
  intro w_ hS_;simp only[List.getElem_toArray,List.getElem_cons_succ,List.getElem_cons_zero]
  exact e_build 38 _ (by rfl) [(0,.agg tv),(1,.agg yr),(2,.agg o1)] (by rfl) (r3 tv yr o1) (q3_built htv.size hy.size ho1.size)
 simp only[Act.put,ZPa,ZPb,ZPc,ZPd,ZPe,ZPf]
 refine eH_one (k:=4) (fuel:=1) (by kernel_rfl) rfl (by kernel_rfl) (fun K_ hK_=>?_)
 refine wp_store_row 38 _ _ rfl (w.heap.size+1) (r3 tv yr o1) rfl rfl 38 _ rp1 (q3_info htv.size hy.size ho1.size) ((show _=48 from rfl).trans (r3_size htv.size hy.size ho1.size).symm) (r3_one htv.one hy.one ho1.one) ?_
 replace rp0:=(setRow_other wq70 (w.heap.size+1) (w.heap.size) (r3 tv yr o1) (by first|assumption|omega)).trans rp0
 replace rl5:=(setRow_other wq70 (w.heap.size+1) (gy) (r3 tv yr o1) (by first|assumption|omega)).trans rl5
 replace rl6:=(setRow_other wq70 (w.heap.size+1) (gt) (r3 tv yr o1) (by first|assumption|omega)).trans rl6
 replace rp1:=setRow_heap wq70 (w.heap.size+1) _ (r3 tv yr o1) _ _ rp1
 replace hw:=below_setRow hw (show w.heap.size≤w.heap.size+1 by first|assumption|omega) (r3 tv yr o1)
 generalize wq70.setRow (w.heap.size+1) (r3 tv yr o1)=wq72 at *
 refine hK_ _ _ (⟨rl5,rl6⟩) ?_;simp only[Act.put];clear hK_
 refine wpAnyH_take (i:=5) (v:=?v73) rfl (by kernel_rfl) (by kernel_rfl) (by kernel_rfl) (fun _ _ _ h=>h) (Or.inl ⟨by rfl,?y73⟩) (⟨rl5,rl6⟩) ?r73
 case y73=>
  intro w_ hS_;go_simp
  try with_reducible rfl
 simp only[Act.put,ZPa,ZPb,ZPc,ZPd,ZPe,ZPf]
 refine wpAnyH_done (by kernel_rfl) ?_ _
 refine NoPanic.normal ?_
 go_wp2_with (fail)
 exact bodyPost_ret (v:=.tuple #[.agg (r3 tv yr o1),.int .i64 0]) (results_row_slot Tryd.results6 _ _ (w.heap.size+1) _ (r3 tv yr o1) _ _ _ rfl rp1 rfl Tryd.underlying38 rfl (q3_info htv.size hy.size ho1.size)) rfl ⟨rfl,hw⟩
theorem rp_flat {P:E1} {X Y:Int} (hx:Zp (X-tx P)) (hy:Zp (Y-P.y)):Rp P X Y 1:=⟨zp_one,zp_lin1 1 hx (by grind),zp_lin1 1 hy (by grind)⟩
theorem r_Parse19 {k:Array Value} {N:Int} (h:KeyOf k N):∃t,ReO t (pp N)∧Gives 6 #[.agg k] (.tuple #[.agg t,.int .i64 (pe N)]):=by
 have hN:KeyOf (kb N) N:=by rw[←key_is h];exact h
 rw[key_is h];have hNb:=h.bd;have htop:=key_top hN
 have hM0:0≤N%57896044618658097711785492504343953926634992332820282019728792003956564819968:=by omega
 have hM:KeyOf (kb (N%57896044618658097711785492504343953926634992332820282019728792003956564819968)) (N%57896044618658097711785492504343953926634992332820282019728792003956564819968):=kb_key _ hM0 (by omega)
 obtain⟨yr,hy0,cF⟩:=n_from hM
 have hy:RNum yr (N%57896044618658097711785492504343953926634992332820282019728792003956564819968):=hy0.congr (by rw[Int.emod_emod])
 have cB:=n_bytes hy;obtain⟨nt,hnt,cN⟩:=r_Neutral
 obtain⟨o1,ho1,cS1⟩:=n_small 1 (by decide) (by decide)
 have eM:=hide (show(kb N).setIfInBounds 31 (.int .u8 (N/452312848583266388373324160190187140051835877600158453279131187530910662656%128))=kb (N%57896044618658097711785492504343953926634992332820282019728792003956564819968) by rw[htop.2 _ (by omega)];congr 1;omega)
 have eN2:=hide (show byt N 31%128=N/452312848583266388373324160190187140051835877600158453279131187530910662656%128 by rw[htop.1])
 have eN:=hide (show(byt N 31).tmod 128=N/452312848583266388373324160190187140051835877600158453279131187530910662656%128 by rw[htop.1,Int.tmod_eq_emod_of_nonneg (by omega)])
 have hodd:∀b,decide (57896044618658097711785492504343953926634992332820282019728792003956564819968≤N)=b→decide (128≤byt N 31)=b:=fun b hb=>by rw[←hb,htop.1];apply Bool.eq_iff_iff.2;simp only[decide_eq_true_iff];omega
 have heq:∀b,decide (N%57896044618658097711785492504343953926634992332820282019728792003956564819968<prm)=b→∀W,(Op.equalIn 10000 23 (.agg (kb (N%57896044618658097711785492504343953926634992332820282019728792003956564819968%prm))) (.agg (kb (N%57896044618658097711785492504343953926634992332820282019728792003956564819968)))).run Tryd.prog W=.ok b W:=fun b hb W=>by
  rw[←hb,kb_equal _ _ (kb_mod _).bd.1 (kb_mod _).bd.2 hM.bd.1 hM.bd.2]
  congr 1
  apply Bool.eq_iff_iff.2
  simp only[decide_eq_true_iff]
  exact⟨fun e=>by rw[←e];exact Int.emod_lt_of_pos _ prm_pos,fun e=>Int.emod_eq_of_lt hM0 e⟩
 obtain⟨tv,htv,cX⟩:=r_onX (odd:=decide (57896044618658097711785492504343953926634992332820282019728792003956564819968≤N)) hy
 by_cases hl:N%57896044618658097711785492504343953926634992332820282019728792003956564819968<prm
 ·by_cases hh:has (N%57896044618658097711785492504343953926634992332820282019728792003956564819968) (decide (57896044618658097711785492504343953926634992332820282019728792003956564819968≤N))=true
  ·obtain⟨q1,q2,q3⟩:=pp_yes hNb.1 hNb.2 hl hh
   rw[hh,if_pos rfl] at htv
   rw[hh] at cX;rw[q1]
   refine⟨r3 tv yr o1,⟨tv,yr,o1,_,_,_,rfl,htv,hy,ho1,rp_flat (by rw[q3];exact zp_lin1 (-1) (zp_emod (xo (N%57896044618658097711785492504343953926634992332820282019728792003956564819968) (decide (57896044618658097711785492504343953926634992332820282019728792003956564819968≤N)))) (by grind)) (by rw[q2];exact zr _)⟩,?_⟩
   by_cases ho:57896044618658097711785492504343953926634992332820282019728792003956564819968≤N
   ·rw[decide_eq_true ho] at cX
    exact rparse_lyo hN hM eM eN eN2 hy cF cB htv cX ho1 cS1 (hodd _ (decide_eq_true ho)) (heq _ (decide_eq_true hl))
   ·rw[decide_eq_false ho] at cX
    exact rparse_lye hN hM eM eN eN2 hy cF cB htv cX ho1 cS1 (hodd _ (decide_eq_false ho)) (heq _ (decide_eq_true hl))
  ·rw[Bool.not_eq_true] at hh
   obtain⟨q1,q2⟩:=pp_no hNb.1 hNb.2 (by rw[decide_eq_true hl,Bool.true_and];exact hh)
   rw[q1,q2];rw[hh] at cX;refine⟨nt,hnt,?_⟩
   by_cases ho:57896044618658097711785492504343953926634992332820282019728792003956564819968≤N
   ·rw[decide_eq_true ho] at cX
    exact rparse_lno hN hM eM eN eN2 hy cF cB htv cX hnt cN (hodd _ (decide_eq_true ho)) (heq _ (decide_eq_true hl))
   ·rw[decide_eq_false ho] at cX
    exact rparse_lne hN hM eM eN eN2 hy cF cB htv cX hnt cN (hodd _ (decide_eq_false ho)) (heq _ (decide_eq_true hl))
 ·obtain⟨q1,q2⟩:=pp_no hNb.1 hNb.2 (by rw[decide_eq_false hl,Bool.false_and])
  rw[q1,q2]
  refine⟨nt,hnt,?_⟩
  by_cases ho:57896044618658097711785492504343953926634992332820282019728792003956564819968≤N
  ·exact rparse_hno hN hM eM eN eN2 hy cF cB hnt cN (hodd _ (decide_eq_true ho)) (heq _ (decide_eq_false hl))
  ·exact rparse_hne hN hM eM eN eN2 hy cF cB hnt cN (hodd _ (decide_eq_false ho)) (heq _ (decide_eq_false hl))
end Go.Proofs.YtdcpcdkbhgkmlaaDoor
