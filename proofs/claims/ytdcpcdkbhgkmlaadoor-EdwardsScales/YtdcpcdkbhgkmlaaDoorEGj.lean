import Derived.Test.YtdcpcdkbhgkmlaaDoorProg
import Derived.WalkKit
import Derived.WalkSpells
import Derived.WalkLawsBesides
import Derived.Lib.QuietBelow
import Derived.BigQuiet
import Derived.OrdersHeld
import Derived.Deep.MidRow
import Derived.Deep.RegionHeld3
import Derived.Test.YtdcpcdkbhgkmlaaDoorEKa
import Derived.Test.YtdcpcdkbhgkmlaaDoorEGb
namespace Go.Proofs.YtdcpcdkbhgkmlaaDoor
set_option maxRecDepth 100000
open Go.RowKit Go.Sort
attribute [local go_sem] setCell_drewN alloc_drewN
section
variable {P : Program} {ops : Array Oper} {Q : Exit → Act → World → Prop} {md : Region.Mode} {S : World → Prop}
theorem wpAnyH_one {k:Nat} {o:Oper} {fuel:Nat} {listed:Array Bool} {a:Act} {w:World} (hr:Region.ready md ops listed=[k]) (hi:ops[k]? =some o) (hw:Region.wanted o (yielded ops a.tmps)=true)
 (h:∀K:Act→World→Prop,(∀a' w',S w'→wpAnyH P md ops Q S fuel (listed.setIfInBounds k true) a' w'→K a' w')→o.wp P a w K Q):wpAnyH P md ops Q S (fuel+1) listed a w:=by
 refine wpAnyH_all hr (by simp) (fun i hi'=>?_)
 obtain rfl:i=k:=by simpa using hi'
 unfold wpOp;simp only[hi,hw,if_true]
 exact .inl (h _ (fun a' w' hS hn=>⟨hS,hn⟩))
theorem run_load_part {o:Oper} {a:Act} {w:World} (ty:TypeId) (x:Operand) (ho:o.op=.load ty x) (g off:Nat) (hx:a.eval x=.pointer (some ⟨g,off,none⟩)) (t:TypeId) (cs:Array Value) (fr:Nat×Nat) (part:Array Value) (d:TypeDesc) (hg:w.heap[g]? =some (.cells cs t fr)) (hp:cs.extract off (off+part.size)=part)
 (hu:P.underlying ty=some d) (hd:d.isRow=true) (hi:(P.info? ty).map (·.size)=some part.size):(execOp a.eval o).run P w=.ok (.value (.agg part)) w:=by
 have hr:=World.rangeAt_of_block hg off part.size;rw[hp] at hr
 have hl:=run_loadVar_mid (P:=P) w g off ty part.toList d hr hu hd (by simpa using hi)
 unfold execOp;simp only[ho,hx,Instr.loadAt,Instr.sureAddr,Sem.run_bind,Sem.run_pure,Result.andThen_ok,hl]
end
theorem all_rowc (cs:Array Value):cs.extract 0 (0+cs.size)=cs:=by simp
theorem exRc {f:FuncId} {args:Array Value} {w:World} {v:Value} {Bp:World→Prop} (h:Calls Tryd.prog f args w fun e w'=>e=.returned v∧Bp w'):Calls Tryd.prog f args w fun e w'=>∃v',e=.returned v'∧v'=v∧Bp w':=h.mono fun _ _ ⟨a,b⟩=>⟨v,a,rfl,b⟩
set_option maxRecDepth 100000 in
set_option maxHeartbeats 4000000 in
theorem p_climb {r:Array Value} {x:Int} (h:NumOf r (x^1)):∃s t,NumOf s (x^1809251394333065553493296640760748560207343510400633813116524750123642650623)∧NumOf t (x^11)∧Gives 79 #[.agg r] (.tuple #[.agg s,.agg t]):=by
 obtain⟨x1,h1,c1⟩:=p_square h 2 (by decide)
 obtain⟨x4,h4,c4⟩:=p_squares h1 2 (by decide) 8 (by decide)
 obtain⟨x5,h5,c5⟩:=p_mul h4 h 9 (by decide)
 obtain⟨x8,h8,c8⟩:=p_mul h5 h1 11 (by decide)
 obtain⟨x11,h11,c11⟩:=p_square h8 22 (by decide)
 obtain⟨x12,h12,c12⟩:=p_mul h11 h5 31 (by decide)
 obtain⟨x16,h16,c16⟩:=p_squares h12 5 (by decide) 992 (by decide)
 obtain⟨x17,h17,c17⟩:=p_mul h16 h12 1023 (by decide)
 obtain⟨x21,h21,c21⟩:=p_squares h17 10 (by decide) 1047552 (by decide)
 obtain⟨x22,h22,c22⟩:=p_mul h21 h17 1048575 (by decide)
 obtain⟨x26,h26,c26⟩:=p_squares h22 20 (by decide) 1099510579200 (by decide)
 obtain⟨x27,h27,c27⟩:=p_mul h26 h22 1099511627775 (by decide)
 obtain⟨x31,h31,c31⟩:=p_squares h27 10 (by decide) 1125899906841600 (by decide)
 obtain⟨x32,h32,c32⟩:=p_mul h31 h17 1125899906842623 (by decide)
 obtain⟨x36,h36,c36⟩:=p_squares h32 50 (by decide) 1267650600228228275596796362752 (by decide)
 obtain⟨x37,h37,c37⟩:=p_mul h36 h32 1267650600228229401496703205375 (by decide)
 obtain⟨x41,h41,c41⟩:=p_squares h37 100 (by decide) 1606938044258990275541962092339894951921974764381296132096000 (by decide)
 obtain⟨x42,h42,c42⟩:=p_mul h41 h37 1606938044258990275541962092341162602522202993782792835301375 (by decide)
 obtain⟨x46,h46,c46⟩:=p_squares h42 50 (by decide) 1809251394333065553493296640760748560207343510400633813116523624223735808000 (by decide)
 obtain⟨x48,h48,c48⟩:=p_mul h46 h32 1809251394333065553493296640760748560207343510400633813116524750123642650623 (by decide)
 refine⟨x48,x8,h48,h8,fun w=>?_⟩
 go_enter Tryd.func79,Tryd.ntmps79
 go_wp2_with (first|(refine wpList_load_want rfl 28 _ rfl (w.heap.size) rfl 28 r (0,0) _ (hp3_0 w _ _ _) Tryd.underlying28 rfl h.info ?_)|(refine wpList_load_want rfl 28 _ rfl (w.heap.size+1) rfl 28 #[.int .u64 0,.int .u64 0,.int .u64 0,.int .u64 0,.int .u64 0] (0,0) _ (hp3_1 w _ _ _) Tryd.underlying28 rfl num_zero.info ?_)|(refine wpList_load_want rfl 28 _ rfl (w.heap.size+1+1) rfl 28 #[.int .u64 0,.int .u64 0,.int .u64 0,.int .u64 0,.int .u64 0] (0,0) _ (hp3_2 w _ _ _) Tryd.underlying28 rfl num_zero.info ?_)|fail)
 have rp0:(((w.alloc (.cells r 28)).alloc (.cells #[.int .u64 0,.int .u64 0,.int .u64 0,.int .u64 0,.int .u64 0] 28)).alloc (.cells #[.int .u64 0,.int .u64 0,.int .u64 0,.int .u64 0,.int .u64 0] 28)).heap[w.heap.size]? =some (.cells r 28 (0,0)):=hp3_0 w _ _ _;have rp1:(((w.alloc (.cells r 28)).alloc (.cells #[.int .u64 0,.int .u64 0,.int .u64 0,.int .u64 0,.int .u64 0] 28)).alloc (.cells #[.int .u64 0,.int .u64 0,.int .u64 0,.int .u64 0,.int .u64 0] 28)).heap[w.heap.size+1]? =some (.cells #[.int .u64 0,.int .u64 0,.int .u64 0,.int .u64 0,.int .u64 0] 28 (0,0)):=hp3_1 w _ _ _;have rp2:(((w.alloc (.cells r 28)).alloc (.cells #[.int .u64 0,.int .u64 0,.int .u64 0,.int .u64 0,.int .u64 0] 28)).alloc (.cells #[.int .u64 0,.int .u64 0,.int .u64 0,.int .u64 0,.int .u64 0] 28)).heap[w.heap.size+1+1]? =some (.cells #[.int .u64 0,.int .u64 0,.int .u64 0,.int .u64 0,.int .u64 0] 28 (0,0)):=hp3_2 w _ _ _
 have hw:Below w.heap.size w (((w.alloc (.cells r 28)).alloc (.cells #[.int .u64 0,.int .u64 0,.int .u64 0,.int .u64 0,.int .u64 0] 28)).alloc (.cells #[.int .u64 0,.int .u64 0,.int .u64 0,.int .u64 0,.int .u64 0] 28)):=((((Below.refl _ _).alloc (Nat.le_refl _) _).alloc (by simp) _).alloc (by simp;omega) _)
 generalize (((w.alloc (.cells r 28)).alloc (.cells #[.int .u64 0,.int .u64 0,.int .u64 0,.int .u64 0,.int .u64 0] 28)).alloc (.cells #[.int .u64 0,.int .u64 0,.int .u64 0,.int .u64 0,.int .u64 0] 28))=w0 at *
 refine(c1.at _).mono ?_;rintro e w2 ⟨rfl,hb⟩;replace rp0:=keep hb rp0;replace rp1:=keep hb rp1;replace rp2:=keep hb rp2;replace hw:=Below.after hw hb;clear hb
 go_wp2_with (first|(refine wpList_store_row rfl 28 _ _ rfl (w2.heap.size) x1 rfl rfl 28 #[.int .u64 0,.int .u64 0,.int .u64 0,.int .u64 0,.int .u64 0] (hp1_0 w2 _) h1.info (h1.fits rfl) h1.one ?_;rw[setRow_alloc_new _ _ _ _ _ _ (by simp)])|fail|fail)
 have rl4:(w2.alloc (.cells x1 28)).heap[w2.heap.size]? =some (.cells x1 28 (0,0)):=hp1_0 w2 _;have hb:Below w2.heap.size w2 (w2.alloc (.cells x1 28)):=((Below.refl _ _).alloc (Nat.le_refl _) _)
 generalize (w2.alloc (.cells x1 28))=wa at *
 have yg4_0:=lt_of_row rp0;have yg4_1:=lt_of_row rp1;have yg4_2:=lt_of_row rp2;have yg4:=hw.size;replace rp0:=keep hb rp0;replace rp1:=keep hb rp1;replace rp2:=keep hb rp2;replace hw:=Below.after hw hb;clear hb
 generalize w2.heap.size=g4 at *
 clear w2
 refine wp_region_alloc_ex 4 5 [5] (fun _=>.cells #[.int .u64 0,.int .u64 0,.int .u64 0,.int .u64 0,.int .u64 0] 28 (0,0)) (by kernel_rfl) (by decide) (by decide) (by kernel_rfl) (by kernel_rfl) (by kernel_rfl) (by kernel_rfl) (by kernel_rfl) (by kernel_rfl) (by kernel_rfl) (by kernel_rfl) (by decide) (by decide) ?_ ?_
 ·intro s l u
  rcases(by omega:s=4) with rfl<;>exact⟨_,_,rfl,rfl,rfl,rfl,fun a w=>by kernel_rfl⟩
 apply Exists.intro
 constructor
 ·intro v3 hb
  have Hrp0:=keepr (keep hb rp0)
  have Hrp1:=keepr (keep hb rp1);have Hrp2:=keepr (keep hb rp2);have Hrl4:=keepr (keep hb rl4)
  skip
  clear hb;dsimp only[List.take];refine wpQuiet_load_row rfl 28 _ rfl (g4) rfl 28 x1 (0,0) _ Hrl4.out Tryd.underlying28 rfl h1.info ?_;simp only[Act.put,ZPd,ZPe,ZPf];go_big_quiet_step (exact c4.re);refine wpQuiet_load_row rfl 28 _ rfl (w.heap.size) rfl 28 r (0,0) _ Hrp0.out Tryd.underlying28 rfl h.info ?_;simp only[Act.put,ZPd,ZPe,ZPf];go_big_quiet_step (exact c5.re);refine wpQuiet_nil ?_;rfl
 intro w6 g hb hg hd
 obtain⟨lg5,rg5⟩:=hg 5 (by simp)
 replace rg5:w6.heap[g 5]? =some (.cells #[.int .u64 0,.int .u64 0,.int .u64 0,.int .u64 0,.int .u64 0] 28 (0,0)):=rg5;simp only[List.drop,puts,ptrs,List.map,List.foldl,Act.put,List.setIfInBounds_toArray,List.set_cons_succ,List.set_cons_zero];clear hg hd
 generalize g 5=g5 at *
 have lrp0:=lt_of_row rp0;have lrp1:=lt_of_row rp1;have lrp2:=lt_of_row rp2;have lrl4:=lt_of_row rl4;have hs:=hw.size;replace rp0:=keep hb rp0;replace rp1:=keep hb rp1;replace rp2:=keep hb rp2;replace rl4:=keep hb rl4;replace hw:=Below.after hw hb;clear hb;refine wpList_store_row rfl 28 _ _ rfl g5 x5 rfl rfl 28 _ rg5 h5.info (h5.fits rfl) h5.one ?_;simp only[Act.put]
 replace rp0:=(setRow_other w6 g5 (w.heap.size) x5 (by omega)).trans rp0
 replace rp1:=(setRow_other w6 g5 (w.heap.size+1) x5 (by omega)).trans rp1
 replace rp2:=(setRow_other w6 g5 (w.heap.size+1+1) x5 (by omega)).trans rp2
 replace rl4:=(setRow_other w6 g5 (g4) x5 (by omega)).trans rl4
 replace rg5:=setRow_heap w6 g5 _ x5 _ _ rg5
 replace hw:=below_setRow hw (show w.heap.size≤g5 by omega) x5
 generalize w6.setRow g5 x5=w7 at *
 have yg5_0:w.heap.size<g5:=by omega
 have yg5_1:w.heap.size+1<g5:=by omega
 have yg5_2:w.heap.size+1+1<g5:=by omega
 have yg5_3:g4<g5:=by omega
 have yg5:w.heap.size≤g5:=by omega
 clear hs lrp0 lrp1 lrp2 lrl4 lg5
 skip
 go_wp2_with (first|(refine wpList_load_want rfl 28 _ rfl (w.heap.size) rfl 28 r (0,0) _ rp0 Tryd.underlying28 rfl h.info ?_)|(refine wpList_load_want rfl 28 _ rfl (w.heap.size+1) rfl 28 #[.int .u64 0,.int .u64 0,.int .u64 0,.int .u64 0,.int .u64 0] (0,0) _ rp1 Tryd.underlying28 rfl num_zero.info ?_)|(refine wpList_load_want rfl 28 _ rfl (w.heap.size+1+1) rfl 28 #[.int .u64 0,.int .u64 0,.int .u64 0,.int .u64 0,.int .u64 0] (0,0) _ rp2 Tryd.underlying28 rfl num_zero.info ?_)|(refine wpList_load_want rfl 28 _ rfl (g4) rfl 28 x1 (0,0) _ rl4 Tryd.underlying28 rfl h1.info ?_)|(refine wpList_load_want rfl 28 _ rfl (g5) rfl 28 x5 (0,0) _ rg5 Tryd.underlying28 rfl h5.info ?_)|fail)
 refine(c8.at _).mono ?_;rintro e w9 ⟨rfl,hb⟩;replace rp0:=keep hb rp0;replace rp1:=keep hb rp1;replace rp2:=keep hb rp2;replace rl4:=keep hb rl4;replace rg5:=keep hb rg5;replace hw:=Below.after hw hb;clear hb
 go_wp2_with (first|(refine wpList_store_row rfl 28 _ _ rfl (w.heap.size+1+1) x8 rfl rfl 28 _ rp2 h8.info (num_zero.size.trans h8.size.symm) h8.one ?_)|fail)
 replace rp0:=(setRow_other w9 (w.heap.size+1+1) (w.heap.size) x8 (by first|assumption|omega)).trans rp0
 replace rp1:=(setRow_other w9 (w.heap.size+1+1) (w.heap.size+1) x8 (by first|assumption|omega)).trans rp1
 replace rl4:=(setRow_other w9 (w.heap.size+1+1) (g4) x8 (by first|assumption|omega)).trans rl4
 replace rg5:=(setRow_other w9 (w.heap.size+1+1) (g5) x8 (by first|assumption|omega)).trans rg5
 replace rp2:=setRow_heap w9 (w.heap.size+1+1) _ x8 _ _ rp2
 replace hw:=below_setRow hw (show w.heap.size≤w.heap.size+1+1 by first|assumption|omega) x8
 generalize w9.setRow (w.heap.size+1+1) x8=wb at *
 refine wp_region_alloc_ex 4 5 [6] (fun _=>.cells #[.int .u64 0,.int .u64 0,.int .u64 0,.int .u64 0,.int .u64 0] 28 (0,0)) (by kernel_rfl) (by decide) (by decide) (by kernel_rfl) (by kernel_rfl) (by kernel_rfl) (by kernel_rfl) (by kernel_rfl) (by kernel_rfl) (by kernel_rfl) (by kernel_rfl) (by decide) (by decide) ?_ ?_
 ·intro s l u
  rcases(by omega:s=4) with rfl<;>exact⟨_,_,rfl,rfl,rfl,rfl,fun a w=>by kernel_rfl⟩
 apply Exists.intro
 constructor
 ·intro v10 hb
  have Hrp0:=keepr (keep hb rp0)
  have Hrp1:=keepr (keep hb rp1);have Hrp2:=keepr (keep hb rp2);have Hrl4:=keepr (keep hb rl4);have Hrg5:=keepr (keep hb rg5)
  skip
  clear hb;dsimp only[List.take];refine wpQuiet_load_row rfl 28 _ rfl (w.heap.size+1+1) rfl 28 x8 (0,0) _ Hrp2.out Tryd.underlying28 rfl h8.info ?_;simp only[Act.put,ZPd,ZPe,ZPf];go_big_quiet_step (exact c11.re);refine wpQuiet_load_row rfl 28 _ rfl (g5) rfl 28 x5 (0,0) _ Hrg5.out Tryd.underlying28 rfl h5.info ?_;simp only[Act.put,ZPd,ZPe,ZPf];go_big_quiet_step (exact c12.re);refine wpQuiet_nil ?_;rfl
 intro w13 g hb hg hd
 obtain⟨lg6,rg6⟩:=hg 6 (by simp)
 replace rg6:w13.heap[g 6]? =some (.cells #[.int .u64 0,.int .u64 0,.int .u64 0,.int .u64 0,.int .u64 0] 28 (0,0)):=rg6;simp only[List.drop,puts,ptrs,List.map,List.foldl,Act.put,List.setIfInBounds_toArray,List.set_cons_succ,List.set_cons_zero];clear hg hd
 generalize g 6=g6 at *
 have lrp0:=lt_of_row rp0;have lrp1:=lt_of_row rp1;have lrp2:=lt_of_row rp2;have lrl4:=lt_of_row rl4;have lrg5:=lt_of_row rg5;have hs:=hw.size;replace rp0:=keep hb rp0;replace rp1:=keep hb rp1;replace rp2:=keep hb rp2;replace rl4:=keep hb rl4;replace rg5:=keep hb rg5;replace hw:=Below.after hw hb;clear hb;refine wpList_store_row rfl 28 _ _ rfl g6 x12 rfl rfl 28 _ rg6 h12.info (h12.fits rfl) h12.one ?_;simp only[Act.put]
 replace rp0:=(setRow_other w13 g6 (w.heap.size) x12 (by omega)).trans rp0
 replace rp1:=(setRow_other w13 g6 (w.heap.size+1) x12 (by omega)).trans rp1
 replace rp2:=(setRow_other w13 g6 (w.heap.size+1+1) x12 (by omega)).trans rp2
 replace rl4:=(setRow_other w13 g6 (g4) x12 (by omega)).trans rl4
 replace rg5:=(setRow_other w13 g6 (g5) x12 (by omega)).trans rg5
 replace rg6:=setRow_heap w13 g6 _ x12 _ _ rg6
 replace hw:=below_setRow hw (show w.heap.size≤g6 by omega) x12
 generalize w13.setRow g6 x12=w14 at *
 have yg6_0:w.heap.size<g6:=by omega
 have yg6_1:w.heap.size+1<g6:=by omega
 have yg6_2:w.heap.size+1+1<g6:=by omega
 have yg6_3:g4<g6:=by omega
 have yg6_4:g5<g6:=by omega
 have yg6:w.heap.size≤g6:=by omega
 clear hs lrp0 lrp1 lrp2 lrl4 lrg5 lg6
 go_wp2
 refine wp_region_alloc_ex 4 5 [7] (fun _=>.cells #[.int .u64 0,.int .u64 0,.int .u64 0,.int .u64 0,.int .u64 0] 28 (0,0)) (by kernel_rfl) (by decide) (by decide) (by kernel_rfl) (by kernel_rfl) (by kernel_rfl) (by kernel_rfl) (by kernel_rfl) (by kernel_rfl) (by kernel_rfl) (by kernel_rfl) (by decide) (by decide) ?_ ?_
 ·intro s l u
  rcases(by omega:s=4) with rfl<;>exact⟨_,_,rfl,rfl,rfl,rfl,fun a w=>by kernel_rfl⟩
 apply Exists.intro
 constructor
 ·intro v15 hb
  have Hrp0:=keepr (keep hb rp0)
  have Hrp1:=keepr (keep hb rp1);have Hrp2:=keepr (keep hb rp2);have Hrl4:=keepr (keep hb rl4);have Hrg5:=keepr (keep hb rg5);have Hrg6:=keepr (keep hb rg6)
  skip
  clear hb;dsimp only[List.take];refine wpQuiet_load_row rfl 28 _ rfl (g6) rfl 28 x12 (0,0) _ Hrg6.out Tryd.underlying28 rfl h12.info ?_;simp only[Act.put,ZPd,ZPe,ZPf];go_big_quiet_step (exact c16.re);refine wpQuiet_load_row rfl 28 _ rfl (g6) rfl 28 x12 (0,0) _ Hrg6.out Tryd.underlying28 rfl h12.info ?_;simp only[Act.put,ZPd,ZPe,ZPf];go_big_quiet_step (exact c17.re);refine wpQuiet_nil ?_;rfl
 intro w18 g hb hg hd
 obtain⟨lg7,rg7⟩:=hg 7 (by simp)
 replace rg7:w18.heap[g 7]? =some (.cells #[.int .u64 0,.int .u64 0,.int .u64 0,.int .u64 0,.int .u64 0] 28 (0,0)):=rg7;simp only[List.drop,puts,ptrs,List.map,List.foldl,Act.put,List.setIfInBounds_toArray,List.set_cons_succ,List.set_cons_zero];clear hg hd
 generalize g 7=g7 at *
 have lrp0:=lt_of_row rp0;have lrp1:=lt_of_row rp1;have lrp2:=lt_of_row rp2;have lrl4:=lt_of_row rl4;have lrg5:=lt_of_row rg5;have lrg6:=lt_of_row rg6;have hs:=hw.size;replace rp0:=keep hb rp0;replace rp1:=keep hb rp1;replace rp2:=keep hb rp2;replace rl4:=keep hb rl4;replace rg5:=keep hb rg5;replace rg6:=keep hb rg6;replace hw:=Below.after hw hb;clear hb;refine wpList_store_row rfl 28 _ _ rfl g7 x17 rfl rfl 28 _ rg7 h17.info (h17.fits rfl) h17.one ?_;simp only[Act.put]
 replace rp0:=(setRow_other w18 g7 (w.heap.size) x17 (by omega)).trans rp0
 replace rp1:=(setRow_other w18 g7 (w.heap.size+1) x17 (by omega)).trans rp1
 replace rp2:=(setRow_other w18 g7 (w.heap.size+1+1) x17 (by omega)).trans rp2
 replace rl4:=(setRow_other w18 g7 (g4) x17 (by omega)).trans rl4
 replace rg5:=(setRow_other w18 g7 (g5) x17 (by omega)).trans rg5
 replace rg6:=(setRow_other w18 g7 (g6) x17 (by omega)).trans rg6
 replace rg7:=setRow_heap w18 g7 _ x17 _ _ rg7
 replace hw:=below_setRow hw (show w.heap.size≤g7 by omega) x17
 generalize w18.setRow g7 x17=w19 at *
 have yg7_0:w.heap.size<g7:=by omega
 have yg7_1:w.heap.size+1<g7:=by omega
 have yg7_2:w.heap.size+1+1<g7:=by omega
 have yg7_3:g4<g7:=by omega
 have yg7_4:g5<g7:=by omega
 have yg7_5:g6<g7:=by omega
 have yg7:w.heap.size≤g7:=by omega
 clear hs lrp0 lrp1 lrp2 lrl4 lrg5 lrg6 lg7
 go_wp2
 refine wp_region_alloc_ex 4 5 [8] (fun _=>.cells #[.int .u64 0,.int .u64 0,.int .u64 0,.int .u64 0,.int .u64 0] 28 (0,0)) (by kernel_rfl) (by decide) (by decide) (by kernel_rfl) (by kernel_rfl) (by kernel_rfl) (by kernel_rfl) (by kernel_rfl) (by kernel_rfl) (by kernel_rfl) (by kernel_rfl) (by decide) (by decide) ?_ ?_
 ·intro s l u
  rcases(by omega:s=4) with rfl<;>exact⟨_,_,rfl,rfl,rfl,rfl,fun a w=>by kernel_rfl⟩
 apply Exists.intro
 constructor
 ·intro v20 hb
  have Hrp0:=keepr (keep hb rp0)
  have Hrp1:=keepr (keep hb rp1);have Hrp2:=keepr (keep hb rp2);have Hrl4:=keepr (keep hb rl4);have Hrg5:=keepr (keep hb rg5);have Hrg6:=keepr (keep hb rg6);have Hrg7:=keepr (keep hb rg7)
  skip
  clear hb;dsimp only[List.take];refine wpQuiet_load_row rfl 28 _ rfl (g7) rfl 28 x17 (0,0) _ Hrg7.out Tryd.underlying28 rfl h17.info ?_;simp only[Act.put,ZPd,ZPe,ZPf];go_big_quiet_step (exact c21.re);refine wpQuiet_load_row rfl 28 _ rfl (g7) rfl 28 x17 (0,0) _ Hrg7.out Tryd.underlying28 rfl h17.info ?_;simp only[Act.put,ZPd,ZPe,ZPf];go_big_quiet_step (exact c22.re);refine wpQuiet_nil ?_;rfl
 intro w23 g hb hg hd
 obtain⟨lg8,rg8⟩:=hg 8 (by simp)
 replace rg8:w23.heap[g 8]? =some (.cells #[.int .u64 0,.int .u64 0,.int .u64 0,.int .u64 0,.int .u64 0] 28 (0,0)):=rg8;simp only[List.drop,puts,ptrs,List.map,List.foldl,Act.put,List.setIfInBounds_toArray,List.set_cons_succ,List.set_cons_zero];clear hg hd
 generalize g 8=g8 at *
 have lrp0:=lt_of_row rp0;have lrp1:=lt_of_row rp1;have lrp2:=lt_of_row rp2;have lrl4:=lt_of_row rl4;have lrg5:=lt_of_row rg5;have lrg6:=lt_of_row rg6;have lrg7:=lt_of_row rg7;have hs:=hw.size;replace rp0:=keep hb rp0;replace rp1:=keep hb rp1;replace rp2:=keep hb rp2;replace rl4:=keep hb rl4;replace rg5:=keep hb rg5;replace rg6:=keep hb rg6;replace rg7:=keep hb rg7;replace hw:=Below.after hw hb;clear hb;refine wpList_store_row rfl 28 _ _ rfl g8 x22 rfl rfl 28 _ rg8 h22.info (h22.fits rfl) h22.one ?_;simp only[Act.put]
 replace rp0:=(setRow_other w23 g8 (w.heap.size) x22 (by omega)).trans rp0
 replace rp1:=(setRow_other w23 g8 (w.heap.size+1) x22 (by omega)).trans rp1
 replace rp2:=(setRow_other w23 g8 (w.heap.size+1+1) x22 (by omega)).trans rp2
 replace rl4:=(setRow_other w23 g8 (g4) x22 (by omega)).trans rl4
 replace rg5:=(setRow_other w23 g8 (g5) x22 (by omega)).trans rg5
 replace rg6:=(setRow_other w23 g8 (g6) x22 (by omega)).trans rg6
 replace rg7:=(setRow_other w23 g8 (g7) x22 (by omega)).trans rg7
 replace rg8:=setRow_heap w23 g8 _ x22 _ _ rg8
 replace hw:=below_setRow hw (show w.heap.size≤g8 by omega) x22
 generalize w23.setRow g8 x22=w24 at *
 have yg8_0:w.heap.size<g8:=by omega
 have yg8_1:w.heap.size+1<g8:=by omega
 have yg8_2:w.heap.size+1+1<g8:=by omega
 have yg8_3:g4<g8:=by omega
 have yg8_4:g5<g8:=by omega
 have yg8_5:g6<g8:=by omega
 have yg8_6:g7<g8:=by omega
 have yg8:w.heap.size≤g8:=by omega
 clear hs lrp0 lrp1 lrp2 lrl4 lrg5 lrg6 lrg7 lg8
 go_wp2
 refine wp_region_alloc_ex 4 5 [9] (fun _=>.cells #[.int .u64 0,.int .u64 0,.int .u64 0,.int .u64 0,.int .u64 0] 28 (0,0)) (by kernel_rfl) (by decide) (by decide) (by kernel_rfl) (by kernel_rfl) (by kernel_rfl) (by kernel_rfl) (by kernel_rfl) (by kernel_rfl) (by kernel_rfl) (by kernel_rfl) (by decide) (by decide) ?_ ?_
 ·intro s l u
  rcases(by omega:s=4) with rfl<;>exact⟨_,_,rfl,rfl,rfl,rfl,fun a w=>by kernel_rfl⟩
 apply Exists.intro
 constructor
 ·intro v25 hb
  have Hrp0:=keepr (keep hb rp0)
  have Hrp1:=keepr (keep hb rp1);have Hrp2:=keepr (keep hb rp2);have Hrl4:=keepr (keep hb rl4);have Hrg5:=keepr (keep hb rg5);have Hrg6:=keepr (keep hb rg6);have Hrg7:=keepr (keep hb rg7);have Hrg8:=keepr (keep hb rg8)
  skip
  clear hb;dsimp only[List.take];refine wpQuiet_load_row rfl 28 _ rfl (g8) rfl 28 x22 (0,0) _ Hrg8.out Tryd.underlying28 rfl h22.info ?_;simp only[Act.put,ZPd,ZPe,ZPf];go_big_quiet_step (exact c26.re);refine wpQuiet_load_row rfl 28 _ rfl (g8) rfl 28 x22 (0,0) _ Hrg8.out Tryd.underlying28 rfl h22.info ?_;simp only[Act.put,ZPd,ZPe,ZPf];go_big_quiet_step (exact c27.re);refine wpQuiet_nil ?_;rfl
 intro w28 g hb hg hd
 obtain⟨lg9,rg9⟩:=hg 9 (by simp)
 replace rg9:w28.heap[g 9]? =some (.cells #[.int .u64 0,.int .u64 0,.int .u64 0,.int .u64 0,.int .u64 0] 28 (0,0)):=rg9;simp only[List.drop,puts,ptrs,List.map,List.foldl,Act.put,List.setIfInBounds_toArray,List.set_cons_succ,List.set_cons_zero];clear hg hd
 generalize g 9=g9 at *
 have lrp0:=lt_of_row rp0;have lrp1:=lt_of_row rp1;have lrp2:=lt_of_row rp2;have lrl4:=lt_of_row rl4;have lrg5:=lt_of_row rg5;have lrg6:=lt_of_row rg6;have lrg7:=lt_of_row rg7;have lrg8:=lt_of_row rg8;have hs:=hw.size;replace rp0:=keep hb rp0;replace rp1:=keep hb rp1;replace rp2:=keep hb rp2;replace rl4:=keep hb rl4;replace rg5:=keep hb rg5;replace rg6:=keep hb rg6;replace rg7:=keep hb rg7;replace rg8:=keep hb rg8;replace hw:=Below.after hw hb;clear hb;refine wpList_store_row rfl 28 _ _ rfl g9 x27 rfl rfl 28 _ rg9 h27.info (h27.fits rfl) h27.one ?_;simp only[Act.put]
 replace rp0:=(setRow_other w28 g9 (w.heap.size) x27 (by omega)).trans rp0
 replace rp1:=(setRow_other w28 g9 (w.heap.size+1) x27 (by omega)).trans rp1
 replace rp2:=(setRow_other w28 g9 (w.heap.size+1+1) x27 (by omega)).trans rp2
 replace rl4:=(setRow_other w28 g9 (g4) x27 (by omega)).trans rl4
 replace rg5:=(setRow_other w28 g9 (g5) x27 (by omega)).trans rg5
 replace rg6:=(setRow_other w28 g9 (g6) x27 (by omega)).trans rg6
 replace rg7:=(setRow_other w28 g9 (g7) x27 (by omega)).trans rg7
 replace rg8:=(setRow_other w28 g9 (g8) x27 (by omega)).trans rg8
 replace rg9:=setRow_heap w28 g9 _ x27 _ _ rg9
 replace hw:=below_setRow hw (show w.heap.size≤g9 by omega) x27
 generalize w28.setRow g9 x27=w29 at *
 have yg9_0:w.heap.size<g9:=by omega
 have yg9_1:w.heap.size+1<g9:=by omega
 have yg9_2:w.heap.size+1+1<g9:=by omega
 have yg9_3:g4<g9:=by omega
 have yg9_4:g5<g9:=by omega
 have yg9_5:g6<g9:=by omega
 have yg9_6:g7<g9:=by omega
 have yg9_7:g8<g9:=by omega
 have yg9:w.heap.size≤g9:=by omega
 clear hs lrp0 lrp1 lrp2 lrl4 lrg5 lrg6 lrg7 lrg8 lg9
 go_wp2
 refine wp_region_alloc_ex 4 5 [10] (fun _=>.cells #[.int .u64 0,.int .u64 0,.int .u64 0,.int .u64 0,.int .u64 0] 28 (0,0)) (by kernel_rfl) (by decide) (by decide) (by kernel_rfl) (by kernel_rfl) (by kernel_rfl) (by kernel_rfl) (by kernel_rfl) (by kernel_rfl) (by kernel_rfl) (by kernel_rfl) (by decide) (by decide) ?_ ?_
 ·intro s l u
  rcases(by omega:s=4) with rfl<;>exact⟨_,_,rfl,rfl,rfl,rfl,fun a w=>by kernel_rfl⟩
 apply Exists.intro
 constructor
 ·intro v30 hb
  have Hrp0:=keepr (keep hb rp0)
  have Hrp1:=keepr (keep hb rp1);have Hrp2:=keepr (keep hb rp2);have Hrl4:=keepr (keep hb rl4);have Hrg5:=keepr (keep hb rg5);have Hrg6:=keepr (keep hb rg6);have Hrg7:=keepr (keep hb rg7);have Hrg8:=keepr (keep hb rg8);have Hrg9:=keepr (keep hb rg9)
  skip
  clear hb;dsimp only[List.take];refine wpQuiet_load_row rfl 28 _ rfl (g9) rfl 28 x27 (0,0) _ Hrg9.out Tryd.underlying28 rfl h27.info ?_;simp only[Act.put,ZPd,ZPe,ZPf];go_big_quiet_step (exact c31.re);refine wpQuiet_load_row rfl 28 _ rfl (g7) rfl 28 x17 (0,0) _ Hrg7.out Tryd.underlying28 rfl h17.info ?_;simp only[Act.put,ZPd,ZPe,ZPf];go_big_quiet_step (exact c32.re);refine wpQuiet_nil ?_;rfl
 intro w33 g hb hg hd
 obtain⟨lg10,rg10⟩:=hg 10 (by simp)
 replace rg10:w33.heap[g 10]? =some (.cells #[.int .u64 0,.int .u64 0,.int .u64 0,.int .u64 0,.int .u64 0] 28 (0,0)):=rg10;simp only[List.drop,puts,ptrs,List.map,List.foldl,Act.put,List.setIfInBounds_toArray,List.set_cons_succ,List.set_cons_zero];clear hg hd
 generalize g 10=g10 at *
 have lrp0:=lt_of_row rp0;have lrp1:=lt_of_row rp1;have lrp2:=lt_of_row rp2;have lrl4:=lt_of_row rl4;have lrg5:=lt_of_row rg5;have lrg6:=lt_of_row rg6;have lrg7:=lt_of_row rg7;have lrg8:=lt_of_row rg8;have lrg9:=lt_of_row rg9;have hs:=hw.size;replace rp0:=keep hb rp0;replace rp1:=keep hb rp1;replace rp2:=keep hb rp2;replace rl4:=keep hb rl4;replace rg5:=keep hb rg5;replace rg6:=keep hb rg6;replace rg7:=keep hb rg7;replace rg8:=keep hb rg8;replace rg9:=keep hb rg9;replace hw:=Below.after hw hb;clear hb;refine wpList_store_row rfl 28 _ _ rfl g10 x32 rfl rfl 28 _ rg10 h32.info (h32.fits rfl) h32.one ?_;simp only[Act.put]
 replace rp0:=(setRow_other w33 g10 (w.heap.size) x32 (by omega)).trans rp0
 replace rp1:=(setRow_other w33 g10 (w.heap.size+1) x32 (by omega)).trans rp1
 replace rp2:=(setRow_other w33 g10 (w.heap.size+1+1) x32 (by omega)).trans rp2
 replace rl4:=(setRow_other w33 g10 (g4) x32 (by omega)).trans rl4
 replace rg5:=(setRow_other w33 g10 (g5) x32 (by omega)).trans rg5
 replace rg6:=(setRow_other w33 g10 (g6) x32 (by omega)).trans rg6
 replace rg7:=(setRow_other w33 g10 (g7) x32 (by omega)).trans rg7
 replace rg8:=(setRow_other w33 g10 (g8) x32 (by omega)).trans rg8
 replace rg9:=(setRow_other w33 g10 (g9) x32 (by omega)).trans rg9
 replace rg10:=setRow_heap w33 g10 _ x32 _ _ rg10
 replace hw:=below_setRow hw (show w.heap.size≤g10 by omega) x32
 generalize w33.setRow g10 x32=w34 at *
 have yg10_0:w.heap.size<g10:=by omega
 have yg10_1:w.heap.size+1<g10:=by omega
 have yg10_2:w.heap.size+1+1<g10:=by omega
 have yg10_3:g4<g10:=by omega
 have yg10_4:g5<g10:=by omega
 have yg10_5:g6<g10:=by omega
 have yg10_6:g7<g10:=by omega
 have yg10_7:g8<g10:=by omega
 have yg10_8:g9<g10:=by omega
 have yg10:w.heap.size≤g10:=by omega
 clear hs lrp0 lrp1 lrp2 lrl4 lrg5 lrg6 lrg7 lrg8 lrg9 lg10
 go_wp2
 refine wp_region_alloc_ex 4 5 [11] (fun _=>.cells #[.int .u64 0,.int .u64 0,.int .u64 0,.int .u64 0,.int .u64 0] 28 (0,0)) (by kernel_rfl) (by decide) (by decide) (by kernel_rfl) (by kernel_rfl) (by kernel_rfl) (by kernel_rfl) (by kernel_rfl) (by kernel_rfl) (by kernel_rfl) (by kernel_rfl) (by decide) (by decide) ?_ ?_
 ·intro s l u
  rcases(by omega:s=4) with rfl<;>exact⟨_,_,rfl,rfl,rfl,rfl,fun a w=>by kernel_rfl⟩
 apply Exists.intro
 constructor
 ·intro v35 hb
  have Hrp0:=keepr (keep hb rp0)
  have Hrp1:=keepr (keep hb rp1);have Hrp2:=keepr (keep hb rp2);have Hrl4:=keepr (keep hb rl4);have Hrg5:=keepr (keep hb rg5);have Hrg6:=keepr (keep hb rg6);have Hrg7:=keepr (keep hb rg7);have Hrg8:=keepr (keep hb rg8);have Hrg9:=keepr (keep hb rg9);have Hrg10:=keepr (keep hb rg10)
  skip
  clear hb;dsimp only[List.take];refine wpQuiet_load_row rfl 28 _ rfl (g10) rfl 28 x32 (0,0) _ Hrg10.out Tryd.underlying28 rfl h32.info ?_;simp only[Act.put,ZPd,ZPe,ZPf];go_big_quiet_step (exact c36.re);refine wpQuiet_load_row rfl 28 _ rfl (g10) rfl 28 x32 (0,0) _ Hrg10.out Tryd.underlying28 rfl h32.info ?_;simp only[Act.put,ZPd,ZPe,ZPf];go_big_quiet_step (exact c37.re);refine wpQuiet_nil ?_;rfl
 intro w38 g hb hg hd
 obtain⟨lg11,rg11⟩:=hg 11 (by simp)
 replace rg11:w38.heap[g 11]? =some (.cells #[.int .u64 0,.int .u64 0,.int .u64 0,.int .u64 0,.int .u64 0] 28 (0,0)):=rg11;simp only[List.drop,puts,ptrs,List.map,List.foldl,Act.put,List.setIfInBounds_toArray,List.set_cons_succ,List.set_cons_zero];clear hg hd
 generalize g 11=g11 at *
 have lrp0:=lt_of_row rp0;have lrp1:=lt_of_row rp1;have lrp2:=lt_of_row rp2;have lrl4:=lt_of_row rl4;have lrg5:=lt_of_row rg5;have lrg6:=lt_of_row rg6;have lrg7:=lt_of_row rg7;have lrg8:=lt_of_row rg8;have lrg9:=lt_of_row rg9;have lrg10:=lt_of_row rg10;have hs:=hw.size;replace rp0:=keep hb rp0;replace rp1:=keep hb rp1;replace rp2:=keep hb rp2;replace rl4:=keep hb rl4;replace rg5:=keep hb rg5;replace rg6:=keep hb rg6;replace rg7:=keep hb rg7;replace rg8:=keep hb rg8;replace rg9:=keep hb rg9;replace rg10:=keep hb rg10;replace hw:=Below.after hw hb;clear hb;refine wpList_store_row rfl 28 _ _ rfl g11 x37 rfl rfl 28 _ rg11 h37.info (h37.fits rfl) h37.one ?_;simp only[Act.put]
 replace rp0:=(setRow_other w38 g11 (w.heap.size) x37 (by omega)).trans rp0
 replace rp1:=(setRow_other w38 g11 (w.heap.size+1) x37 (by omega)).trans rp1
 replace rp2:=(setRow_other w38 g11 (w.heap.size+1+1) x37 (by omega)).trans rp2
 replace rl4:=(setRow_other w38 g11 (g4) x37 (by omega)).trans rl4
 replace rg5:=(setRow_other w38 g11 (g5) x37 (by omega)).trans rg5
 replace rg6:=(setRow_other w38 g11 (g6) x37 (by omega)).trans rg6
 replace rg7:=(setRow_other w38 g11 (g7) x37 (by omega)).trans rg7
 replace rg8:=(setRow_other w38 g11 (g8) x37 (by omega)).trans rg8
 replace rg9:=(setRow_other w38 g11 (g9) x37 (by omega)).trans rg9
 replace rg10:=(setRow_other w38 g11 (g10) x37 (by omega)).trans rg10
 replace rg11:=setRow_heap w38 g11 _ x37 _ _ rg11
 replace hw:=below_setRow hw (show w.heap.size≤g11 by omega) x37
 generalize w38.setRow g11 x37=w39 at *
 have yg11_0:w.heap.size<g11:=by omega
 have yg11_1:w.heap.size+1<g11:=by omega
 have yg11_2:w.heap.size+1+1<g11:=by omega
 have yg11_3:g4<g11:=by omega
 have yg11_4:g5<g11:=by omega
 have yg11_5:g6<g11:=by omega
 have yg11_6:g7<g11:=by omega
 have yg11_7:g8<g11:=by omega
 have yg11_8:g9<g11:=by omega
 have yg11_9:g10<g11:=by omega
 have yg11:w.heap.size≤g11:=by omega
 clear hs lrp0 lrp1 lrp2 lrl4 lrg5 lrg6 lrg7 lrg8 lrg9 lrg10 lg11
 go_wp2
 refine wp_region_alloc_ex 4 5 [12] (fun _=>.cells #[.int .u64 0,.int .u64 0,.int .u64 0,.int .u64 0,.int .u64 0] 28 (0,0)) (by kernel_rfl) (by decide) (by decide) (by kernel_rfl) (by kernel_rfl) (by kernel_rfl) (by kernel_rfl) (by kernel_rfl) (by kernel_rfl) (by kernel_rfl) (by kernel_rfl) (by decide) (by decide) ?_ ?_
 ·intro s l u
  rcases(by omega:s=4) with rfl<;>exact⟨_,_,rfl,rfl,rfl,rfl,fun a w=>by kernel_rfl⟩
 apply Exists.intro
 constructor
 ·intro v40 hb
  have Hrp0:=keepr (keep hb rp0)
  have Hrp1:=keepr (keep hb rp1);have Hrp2:=keepr (keep hb rp2);have Hrl4:=keepr (keep hb rl4);have Hrg5:=keepr (keep hb rg5);have Hrg6:=keepr (keep hb rg6);have Hrg7:=keepr (keep hb rg7);have Hrg8:=keepr (keep hb rg8);have Hrg9:=keepr (keep hb rg9);have Hrg10:=keepr (keep hb rg10);have Hrg11:=keepr (keep hb rg11)
  skip
  clear hb;dsimp only[List.take];refine wpQuiet_load_row rfl 28 _ rfl (g11) rfl 28 x37 (0,0) _ Hrg11.out Tryd.underlying28 rfl h37.info ?_;simp only[Act.put,ZPd,ZPe,ZPf];go_big_quiet_step (exact c41.re);refine wpQuiet_load_row rfl 28 _ rfl (g11) rfl 28 x37 (0,0) _ Hrg11.out Tryd.underlying28 rfl h37.info ?_;simp only[Act.put,ZPd,ZPe,ZPf];go_big_quiet_step (exact c42.re);refine wpQuiet_nil ?_;rfl
 intro w43 g hb hg hd
 obtain⟨lg12,rg12⟩:=hg 12 (by simp)
 replace rg12:w43.heap[g 12]? =some (.cells #[.int .u64 0,.int .u64 0,.int .u64 0,.int .u64 0,.int .u64 0] 28 (0,0)):=rg12;simp only[List.drop,puts,ptrs,List.map,List.foldl,Act.put,List.setIfInBounds_toArray,List.set_cons_succ,List.set_cons_zero];clear hg hd
 generalize g 12=g12 at *
 have lrp0:=lt_of_row rp0;have lrp1:=lt_of_row rp1;have lrp2:=lt_of_row rp2;have lrl4:=lt_of_row rl4;have lrg5:=lt_of_row rg5;have lrg6:=lt_of_row rg6;have lrg7:=lt_of_row rg7;have lrg8:=lt_of_row rg8;have lrg9:=lt_of_row rg9;have lrg10:=lt_of_row rg10;have lrg11:=lt_of_row rg11;have hs:=hw.size;replace rp0:=keep hb rp0;replace rp1:=keep hb rp1;replace rp2:=keep hb rp2;replace rl4:=keep hb rl4;replace rg5:=keep hb rg5;replace rg6:=keep hb rg6;replace rg7:=keep hb rg7;replace rg8:=keep hb rg8;replace rg9:=keep hb rg9;replace rg10:=keep hb rg10;replace rg11:=keep hb rg11;replace hw:=Below.after hw hb;clear hb;refine wpList_store_row rfl 28 _ _ rfl g12 x42 rfl rfl 28 _ rg12 h42.info (h42.fits rfl) h42.one ?_;simp only[Act.put]
 replace rp0:=(setRow_other w43 g12 (w.heap.size) x42 (by omega)).trans rp0
 replace rp1:=(setRow_other w43 g12 (w.heap.size+1) x42 (by omega)).trans rp1
 replace rp2:=(setRow_other w43 g12 (w.heap.size+1+1) x42 (by omega)).trans rp2
 replace rl4:=(setRow_other w43 g12 (g4) x42 (by omega)).trans rl4
 replace rg5:=(setRow_other w43 g12 (g5) x42 (by omega)).trans rg5
 replace rg6:=(setRow_other w43 g12 (g6) x42 (by omega)).trans rg6
 replace rg7:=(setRow_other w43 g12 (g7) x42 (by omega)).trans rg7
 replace rg8:=(setRow_other w43 g12 (g8) x42 (by omega)).trans rg8
 replace rg9:=(setRow_other w43 g12 (g9) x42 (by omega)).trans rg9
 replace rg10:=(setRow_other w43 g12 (g10) x42 (by omega)).trans rg10
 replace rg11:=(setRow_other w43 g12 (g11) x42 (by omega)).trans rg11
 replace rg12:=setRow_heap w43 g12 _ x42 _ _ rg12
 replace hw:=below_setRow hw (show w.heap.size≤g12 by omega) x42
 generalize w43.setRow g12 x42=w44 at *
 have yg12_0:w.heap.size<g12:=by omega
 have yg12_1:w.heap.size+1<g12:=by omega
 have yg12_2:w.heap.size+1+1<g12:=by omega
 have yg12_3:g4<g12:=by omega
 have yg12_4:g5<g12:=by omega
 have yg12_5:g6<g12:=by omega
 have yg12_6:g7<g12:=by omega
 have yg12_7:g8<g12:=by omega
 have yg12_8:g9<g12:=by omega
 have yg12_9:g10<g12:=by omega
 have yg12_10:g11<g12:=by omega
 have yg12:w.heap.size≤g12:=by omega
 clear hs lrp0 lrp1 lrp2 lrl4 lrg5 lrg6 lrg7 lrg8 lrg9 lrg10 lrg11 lg12
 go_wp2
 have hbd:Below w44.heap.size w44 w44.drew:=⟨rfl,rfl,rfl,Nat.le_refl _,fun _ _=>rfl⟩
 replace rp1:=keep hbd rp1;replace rp2:=keep hbd rp2;replace rg10:=keep hbd rg10;replace rg12:=keep hbd rg12;replace hw:=Below.after hw hbd;clear hbd;refine wp_region_noPanic ?_
 refine wp_region_held (S:=fun W=>W.heap[g12]? =some (.cells x42 28 (0,0))∧W.heap[g10]? =some (.cells x32 28 (0,0))∧W.heap[w.heap.size+1+1]? =some (.cells x8 28 (0,0))) (by kernel_rfl) ?_
 change wpAnyH _ _ _ _ _ _ _ _ (World.drew _)
 generalize w44.drew=w45 at *
 refine wpAnyH_take (i:=0) (v:=.agg x42) rfl (by kernel_rfl) (by kernel_rfl) (by kernel_rfl) (fun _ _ _ h=>h) (Or.inl ⟨by rfl,?y1⟩) (⟨rg12,rg10,rp2⟩) ?r1
 case y1=>
  intro w_ hS_;simp only[List.getElem_toArray,List.getElem_cons_zero]
  exact run_load_part 28 _ (by rfl) (g12) 0 (by rfl) 28 x42 (0,0) x42 _ (hS_.1) (all_rowc _) Tryd.underlying28 rfl h42.info
 simp only[Act.put,ZPa,ZPc,ZPd,ZPe,ZPf]
 refine wpAnyH_take (i:=2) (v:=.agg x32) rfl (by kernel_rfl) (by kernel_rfl) (by kernel_rfl) (fun _ _ _ h=>h) (Or.inl ⟨by rfl,?y2⟩) (⟨rg12,rg10,rp2⟩) ?r2
 case y2=>
  intro w_ hS_;simp only[List.getElem_toArray,List.getElem_cons_succ,List.getElem_cons_zero]
  exact run_load_part 28 _ (by rfl) (g10) 0 (by rfl) 28 x32 (0,0) x32 _ (hS_.2.1) (all_rowc _) Tryd.underlying28 rfl h32.info
 simp only[Act.put,ZPa,ZPb,ZPc,ZPd,ZPe,ZPf]
 refine wpAnyH_take (i:=4) (v:=.agg x8) rfl (by kernel_rfl) (by kernel_rfl) (by kernel_rfl) (fun _ _ _ h=>h) (Or.inl ⟨by rfl,?y3⟩) (⟨rg12,rg10,rp2⟩) ?r3
 case y3=>
  intro w_ hS_;simp only[List.getElem_toArray,List.getElem_cons_succ,List.getElem_cons_zero]
  exact run_load_part 28 _ (by rfl) (w.heap.size+1+1) 0 (by rfl) 28 x8 (0,0) x8 _ (hS_.2.2) (all_rowc _) Tryd.underlying28 rfl h8.info
 simp only[Act.put,ZPa,ZPb,ZPc,ZPd,ZPe,ZPf]
 refine wpAnyH_one (k:=1) (fuel:=3) (by kernel_rfl) rfl (by kernel_rfl) (fun K_ hK_=>?_)
 refine wp_call_ex (f:=80) (by kernel_rfl) (exRc (c46.at w45)) (fun v_ q1 hX_=>?_)
 obtain⟨rfl,hb_⟩:=hX_;replace rp1:=keep hb_ rp1;replace rp2:=keep hb_ rp2;replace rg10:=keep hb_ rg10;replace rg12:=keep hb_ rg12;replace hw:=Below.after hw hb_;clear hb_;refine hK_ _ _ (⟨rg12,rg10,rp2⟩) ?_;simp only[Act.put,ZPa,ZPb,ZPc,ZPd,ZPe,ZPf];clear hK_
 refine wpAnyH_one (k:=3) (fuel:=2) (by kernel_rfl) rfl (by kernel_rfl) (fun K_ hK_=>?_)
 refine wp_call_ex (f:=42) (by kernel_rfl) (exRc (c48.at q1)) (fun v_ q2 hX_=>?_)
 obtain⟨rfl,hb_⟩:=hX_;replace rp1:=keep hb_ rp1;replace rp2:=keep hb_ rp2;replace rg10:=keep hb_ rg10;replace rg12:=keep hb_ rg12;replace hw:=Below.after hw hb_;clear hb_;refine hK_ _ _ (⟨rg12,rg10,rp2⟩) ?_;simp only[Act.put,ZPa,ZPb,ZPc,ZPd,ZPe,ZPf];clear hK_
 refine wpAnyH_one (k:=5) (fuel:=1) (by kernel_rfl) rfl (by kernel_rfl) (fun K_ hK_=>?_)
 refine wp_store_row 28 _ _ rfl (w.heap.size+1) x48 rfl rfl 28 _ rp1 h48.info (h48.fits rfl) h48.one ?_
 replace rp2:=(setRow_other q2 (w.heap.size+1) (w.heap.size+1+1) x48 (by omega)).trans rp2
 replace rg10:=(setRow_other q2 (w.heap.size+1) (g10) x48 (by omega)).trans rg10
 replace rg12:=(setRow_other q2 (w.heap.size+1) (g12) x48 (by omega)).trans rg12
 replace rp1:=setRow_heap q2 (w.heap.size+1) _ x48 _ _ rp1
 replace hw:=below_setRow hw (show w.heap.size≤w.heap.size+1 by omega) x48
 refine hK_ _ _ (⟨rg12,rg10,rp2⟩) ?_;simp only[Act.put];clear hK_
 generalize q2.setRow (w.heap.size+1) x48=q3 at *
 refine wpAnyH_one (k:=6) (fuel:=0) (by kernel_rfl) rfl (by kernel_rfl) (fun K_ hK_=>?_)
 refine wp_store_row 28 _ _ rfl (w.heap.size+1+1) x8 rfl rfl 28 _ rp2 h8.info (h8.size.trans h8.size.symm) h8.one ?_
 replace rp1:=(setRow_other q3 (w.heap.size+1+1) (w.heap.size+1) x8 (by omega)).trans rp1
 replace rg10:=(setRow_other q3 (w.heap.size+1+1) (g10) x8 (by omega)).trans rg10
 replace rg12:=(setRow_other q3 (w.heap.size+1+1) (g12) x8 (by omega)).trans rg12
 replace rp2:=setRow_heap q3 (w.heap.size+1+1) _ x8 _ _ rp2
 replace hw:=below_setRow hw (show w.heap.size≤w.heap.size+1+1 by omega) x8
 refine hK_ _ _ (⟨rg12,rg10,rp2⟩) ?_;simp only[Act.put];clear hK_
 generalize q3.setRow (w.heap.size+1+1) x8=q4 at *
 refine wpAnyH_done (by kernel_rfl) ?_ _
 refine NoPanic.normal ?_
 go_wp2
 exact bodyPost_ret (v:=.tuple #[.agg x48,.agg x8]) (results_rows2 Tryd.results79 _ _ (w.heap.size+1) (w.heap.size+1+1) _ _ x48 x8 _ _ _ _ rfl rp1 rfl rp2 Tryd.underlying28 rfl h48.info Tryd.underlying28 rfl h8.info) rfl ⟨rfl,hw⟩
theorem a_climb {r:Array Value} {x:Int} (h:NumOf r x):∃s t,NumOf s (x^1809251394333065553493296640760748560207343510400633813116524750123642650623)∧NumOf t (x^11)∧Gives 79 #[.agg r] (.tuple #[.agg s,.agg t]):=p_climb (by rw[Int.pow_succ,Int.pow_zero,Int.one_mul];exact h)
end Go.Proofs.YtdcpcdkbhgkmlaaDoor
namespace Go.Proofs.YtdcpcdkbhgkmlaaDoor
set_option maxRecDepth 100000
open Go.RowKit Go.Sort
attribute [local go_sem] setCell_drewN alloc_drewN
set_option maxHeartbeats 2000000 in
theorem a_invert {r:Array Value} {x:Int} (h:NumOf r x):∃s,NumOf s (x^57896044618658097711785492504343953926634992332820282019728792003956564819947)∧Gives 41 #[.agg r] (.agg s):=by
 obtain⟨xa,xb,ha,hb,c1⟩:=a_climb h
 obtain⟨x3,h3,c3⟩:=p_squares ha 5 (by decide) 57896044618658097711785492504343953926634992332820282019728792003956564819936 (by decide)
 obtain⟨x4,h4,c4⟩:=p_mul h3 hb 57896044618658097711785492504343953926634992332820282019728792003956564819947 (by decide)
 refine⟨x4,h4,fun w=>?_⟩
 go_enter Tryd.func41,Tryd.ntmps41
 go_wp2_with (first|(refine wpList_load_want rfl 28 _ rfl (w.heap.size) rfl 28 r (0,0) _ (hp2_0 w _ _) Tryd.underlying28 rfl h.info ?_)|(refine wpList_load_want rfl 28 _ rfl (w.heap.size+1) rfl 28 #[.int .u64 0,.int .u64 0,.int .u64 0,.int .u64 0,.int .u64 0] (0,0) _ (hp2_1 w _ _) Tryd.underlying28 rfl num_zero.info ?_)|fail)
 have rp0:((w.alloc (.cells r 28)).alloc (.cells #[.int .u64 0,.int .u64 0,.int .u64 0,.int .u64 0,.int .u64 0] 28)).heap[w.heap.size]? =some (.cells r 28 (0,0)):=hp2_0 w _ _;have rp1:((w.alloc (.cells r 28)).alloc (.cells #[.int .u64 0,.int .u64 0,.int .u64 0,.int .u64 0,.int .u64 0] 28)).heap[w.heap.size+1]? =some (.cells #[.int .u64 0,.int .u64 0,.int .u64 0,.int .u64 0,.int .u64 0] 28 (0,0)):=hp2_1 w _ _
 have hw:Below w.heap.size w ((w.alloc (.cells r 28)).alloc (.cells #[.int .u64 0,.int .u64 0,.int .u64 0,.int .u64 0,.int .u64 0] 28)):=(((Below.refl _ _).alloc (Nat.le_refl _) _).alloc (by simp) _)
 generalize ((w.alloc (.cells r 28)).alloc (.cells #[.int .u64 0,.int .u64 0,.int .u64 0,.int .u64 0,.int .u64 0] 28))=w0 at *
 refine(c1.at _).mono ?_;rintro e w2 ⟨rfl,hb⟩;replace rp0:=keep hb rp0;replace rp1:=keep hb rp1;replace hw:=Below.after hw hb;clear hb
 go_wp2_with (first|(refine wpList_store_row rfl 28 _ _ rfl (w2.heap.size) xa rfl rfl 28 #[.int .u64 0,.int .u64 0,.int .u64 0,.int .u64 0,.int .u64 0] (hp2_0 w2 _ _) ha.info (ha.fits rfl) ha.one ?_;rw[setRow_alloc_old _ _ _ _ (by simp),setRow_alloc_new _ _ _ _ _ _ (by simp)])|(refine wpList_store_row rfl 28 _ _ rfl (w2.heap.size+1) xb rfl rfl 28 #[.int .u64 0,.int .u64 0,.int .u64 0,.int .u64 0,.int .u64 0] (hp2_1 w2 _ _) hb.info (hb.fits rfl) hb.one ?_;rw[setRow_alloc_new _ _ _ _ _ _ (by simp)])|fail|fail)
 have rl3:((w2.alloc (.cells xa 28)).alloc (.cells xb 28)).heap[w2.heap.size]? =some (.cells xa 28 (0,0)):=hp2_0 w2 _ _;have rl4:((w2.alloc (.cells xa 28)).alloc (.cells xb 28)).heap[w2.heap.size+1]? =some (.cells xb 28 (0,0)):=hp2_1 w2 _ _
 have hb:Below w2.heap.size w2 ((w2.alloc (.cells xa 28)).alloc (.cells xb 28)):=(((Below.refl _ _).alloc (Nat.le_refl _) _).alloc (by simp) _)
 generalize ((w2.alloc (.cells xa 28)).alloc (.cells xb 28))=wa at *
 have yg3_0:=lt_of_row rp0;have yg3_1:=lt_of_row rp1;have yg3:=hw.size;replace rp0:=keep hb rp0;replace rp1:=keep hb rp1;replace hw:=Below.after hw hb;clear hb
 generalize w2.heap.size=g3 at *
 clear w2;have Hrp0:=keepr rp0;have Hrp1:=keepr rp1;have Hrl3:=keepr rl3;have Hrl4:=keepr rl4
 refine wp_region_tail (C:=fun w'=>∃p:Regrown,w'=grow (redrawn wa p.d) p.os) 4 _ rfl rfl rfl (by kernel_rfl) (by kernel_rfl) (by kernel_rfl) (by kernel_rfl) ⟨⟨wa.drawn+1,#[]⟩,by rw[grow_empty];rfl⟩ ?_
 dsimp only[List.set,idle];refine wpQuiet_load_row rfl 28 _ rfl (g3) rfl 28 xa (0,0) _ Hrl3.out Tryd.underlying28 rfl ha.info ?_;simp only[Act.put,ZPd,ZPe,ZPf];go_big_quiet_step (exact c3.re);refine wpQuiet_load_row rfl 28 _ rfl (g3+1) rfl 28 xb (0,0) _ Hrl4.out Tryd.underlying28 rfl hb.info ?_;simp only[Act.put,ZPd,ZPe,ZPf];go_big_quiet_step (exact c4.re);refine wpQuiet_idle rfl rfl rfl ?_;rintro _ ⟨p,rfl⟩;have hb:=below_regrown wa p.d p.os
 generalize grow (redrawn wa p.d) p.os=w5 at *
 replace rp0:=keep hb rp0;replace rp1:=keep hb rp1;replace rl3:=keep hb rl3;replace rl4:=keep hb rl4;replace hw:=Below.after hw hb;clear hb;clear Hrp0 Hrp1 Hrl3 Hrl4
 go_wp2_with (first|(refine wpList_store_row rfl 28 _ _ rfl (w.heap.size+1) x4 rfl rfl 28 _ rp1 h4.info (h4.fits rfl) h4.one ?_)|fail)
 exact bodyPost_ret (v:=.agg x4) (results_cell_row Tryd.results41 _ _ (w.heap.size+1) _ x4 _ _ rfl (setRow_heap _ _ _ _ _ _ rp1) Tryd.underlying28 rfl h4.info) rfl ⟨rfl,below_setRow hw (by omega) _⟩
end Go.Proofs.YtdcpcdkbhgkmlaaDoor
