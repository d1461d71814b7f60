import Derived.Test.YtdcpcdkbhgkmlaaDoorProg
import Derived.WalkKit
import Derived.WalkSpells
import Derived.WalkLawsBesides
import Derived.Lib.QuietBelow
import Derived.BigQuiet
import Derived.Test.YtdcpcdkbhgkmlaaDoorEKa
import Derived.Test.YtdcpcdkbhgkmlaaDoorEMa
namespace Go.Proofs.YtdcpcdkbhgkmlaaDoor
set_option maxRecDepth 100000
open Go.RowKit Go.Sort
attribute [local go_sem] setCell_drewN alloc_drewN
theorem cstep (d c:Int) (l:0≤d) (u:d≤1125899906842624) (lc:0≤c) (uc:c≤17180200000):∃e c':Int,(d+c)/65536=c'∧(d+c)%65536=e∧Hid (e+65536*c'=d+c)∧0≤c'∧c'≤17180200000∧0≤e∧e<65536:=
 ⟨_,_,rfl,rfl,by unfold Hid;omega,by omega,by omega,by omega,by omega⟩
theorem cstep0 (d:Int) (l:0≤d) (u:d≤1125899906842624):∃e c':Int,d/65536=c'∧d%65536=e∧Hid (e+65536*c'=d)∧0≤c'∧c'≤17180200000∧0≤e∧e<65536:=
 ⟨_,_,rfl,rfl,by unfold Hid;omega,by omega,by omega,by omega,by omega⟩
set_option maxHeartbeats 4000000 in
theorem carried_any (d0 d1 d2 d3 d4 d5 d6 d7 d8 d9 d10 d11 d12 d13 d14 d15:Int) (l0:0≤d0) (u0:d0≤1125899906842624) (l1:0≤d1) (u1:d1≤1125899906842624) (l2:0≤d2) (u2:d2≤1125899906842624) (l3:0≤d3) (u3:d3≤1125899906842624) (l4:0≤d4) (u4:d4≤1125899906842624) (l5:0≤d5) (u5:d5≤1125899906842624) (l6:0≤d6) (u6:d6≤1125899906842624) (l7:0≤d7) (u7:d7≤1125899906842624) (l8:0≤d8) (u8:d8≤1125899906842624) (l9:0≤d9) (u9:d9≤1125899906842624) (l10:0≤d10) (u10:d10≤1125899906842624) (l11:0≤d11) (u11:d11≤1125899906842624) (l12:0≤d12) (u12:d12≤1125899906842624) (l13:0≤d13) (u13:d13≤1125899906842624) (l14:0≤d14) (u14:d14≤1125899906842624) (l15:0≤d15) (u15:d15≤1125899906842624) (w:World):
 Calls Tryd.prog 94 #[.agg #[.int .u64 d0,.int .u64 d1,.int .u64 d2,.int .u64 d3,.int .u64 d4,.int .u64 d5,.int .u64 d6,.int .u64 d7,.int .u64 d8,.int .u64 d9,.int .u64 d10,.int .u64 d11,.int .u64 d12,.int .u64 d13,.int .u64 d14,.int .u64 d15]] w fun e w'=>∃e0 e1 e2 e3 e4 e5 e6 e7 e8 e9 e10 e11 e12 e13 e14 e15 c:Int,e=.returned (.tuple #[.agg #[.int .u64 e0,.int .u64 e1,.int .u64 e2,.int .u64 e3,.int .u64 e4,.int .u64 e5,.int .u64 e6,.int .u64 e7,.int .u64 e8,.int .u64 e9,.int .u64 e10,.int .u64 e11,.int .u64 e12,.int .u64 e13,.int .u64 e14,.int .u64 e15],.int .u64 c])∧Below w.heap.size w w'∧((0≤e0∧e0<65536)∧(0≤e1∧e1<65536)∧(0≤e2∧e2<65536)∧(0≤e3∧e3<65536)∧(0≤e4∧e4<65536)∧(0≤e5∧e5<65536)∧(0≤e6∧e6<65536)∧(0≤e7∧e7<65536)∧(0≤e8∧e8<65536)∧(0≤e9∧e9<65536)∧(0≤e10∧e10<65536)∧(0≤e11∧e11<65536)∧(0≤e12∧e12<65536)∧(0≤e13∧e13<65536)∧(0≤e14∧e14<65536)∧(0≤e15∧e15<65536)∧0≤c∧c≤17180200000)∧v16 e0 e1 e2 e3 e4 e5 e6 e7 e8 e9 e10 e11 e12 e13 e14 e15+115792089237316195423570985008687907853269984665640564039457584007913129639936*c=v16 d0 d1 d2 d3 d4 d5 d6 d7 d8 d9 d10 d11 d12 d13 d14 d15:=by
 go_enter Tryd.func94,Tryd.ntmps94
 go_wp2
 refine wp_loop_rounds 17 ?_;rw[rounds_succ]
 go_wp2
 obtain⟨e0,c0,hq,hr,H0,lc0,uc0,le0,ue0⟩:=cstep0 d0 l0 u0;rw[hq,hr];clear hq hr;rw[rounds_succ]
 go_wp2
 obtain⟨e1,c1,hq,hr,H1,lc1,uc1,le1,ue1⟩:=cstep d1 c0 l1 u1 lc0 uc0;rw[hq,hr];clear hq hr;rw[rounds_succ]
 go_wp2
 obtain⟨e2,c2,hq,hr,H2,lc2,uc2,le2,ue2⟩:=cstep d2 c1 l2 u2 lc1 uc1;rw[hq,hr];clear hq hr;rw[rounds_succ]
 go_wp2
 obtain⟨e3,c3,hq,hr,H3,lc3,uc3,le3,ue3⟩:=cstep d3 c2 l3 u3 lc2 uc2;rw[hq,hr];clear hq hr;rw[rounds_succ]
 go_wp2
 obtain⟨e4,c4,hq,hr,H4,lc4,uc4,le4,ue4⟩:=cstep d4 c3 l4 u4 lc3 uc3;rw[hq,hr];clear hq hr;rw[rounds_succ]
 go_wp2
 obtain⟨e5,c5,hq,hr,H5,lc5,uc5,le5,ue5⟩:=cstep d5 c4 l5 u5 lc4 uc4;rw[hq,hr];clear hq hr;rw[rounds_succ]
 go_wp2
 obtain⟨e6,c6,hq,hr,H6,lc6,uc6,le6,ue6⟩:=cstep d6 c5 l6 u6 lc5 uc5;rw[hq,hr];clear hq hr;rw[rounds_succ]
 go_wp2
 obtain⟨e7,c7,hq,hr,H7,lc7,uc7,le7,ue7⟩:=cstep d7 c6 l7 u7 lc6 uc6;rw[hq,hr];clear hq hr;rw[rounds_succ]
 go_wp2
 obtain⟨e8,c8,hq,hr,H8,lc8,uc8,le8,ue8⟩:=cstep d8 c7 l8 u8 lc7 uc7;rw[hq,hr];clear hq hr;rw[rounds_succ]
 go_wp2
 obtain⟨e9,c9,hq,hr,H9,lc9,uc9,le9,ue9⟩:=cstep d9 c8 l9 u9 lc8 uc8;rw[hq,hr];clear hq hr;rw[rounds_succ]
 go_wp2
 obtain⟨e10,c10,hq,hr,H10,lc10,uc10,le10,ue10⟩:=cstep d10 c9 l10 u10 lc9 uc9;rw[hq,hr];clear hq hr;rw[rounds_succ]
 go_wp2
 obtain⟨e11,c11,hq,hr,H11,lc11,uc11,le11,ue11⟩:=cstep d11 c10 l11 u11 lc10 uc10;rw[hq,hr];clear hq hr;rw[rounds_succ]
 go_wp2
 obtain⟨e12,c12,hq,hr,H12,lc12,uc12,le12,ue12⟩:=cstep d12 c11 l12 u12 lc11 uc11;rw[hq,hr];clear hq hr;rw[rounds_succ]
 go_wp2
 obtain⟨e13,c13,hq,hr,H13,lc13,uc13,le13,ue13⟩:=cstep d13 c12 l13 u13 lc12 uc12;rw[hq,hr];clear hq hr;rw[rounds_succ]
 go_wp2
 obtain⟨e14,c14,hq,hr,H14,lc14,uc14,le14,ue14⟩:=cstep d14 c13 l14 u14 lc13 uc13;rw[hq,hr];clear hq hr;rw[rounds_succ]
 go_wp2
 obtain⟨e15,c15,hq,hr,H15,lc15,uc15,le15,ue15⟩:=cstep d15 c14 l15 u15 lc14 uc14;rw[hq,hr];clear hq hr;rw[rounds_succ]
 go_wp2_with (first|(refine wpList_load_row rfl 34 _ rfl w.heap.size rfl 34 _ (0,0) _ (heap_alloc2_old _ _ _) Tryd.underlying34 rfl (by kernel_rfl) ?_)|(refine wpList_store_row rfl 34 _ _ rfl (w.heap.size+1) _ rfl rfl 34 _ (heap_alloc2_new _ _ _) (by kernel_rfl) rfl (by kernel_rfl) ?_;rw[setRow_alloc_new _ _ _ _ _ _ (by simp)]))
 refine bodyPost_ret (v:=.tuple #[.agg #[.int .u64 e0,.int .u64 e1,.int .u64 e2,.int .u64 e3,.int .u64 e4,.int .u64 e5,.int .u64 e6,.int .u64 e7,.int .u64 e8,.int .u64 e9,.int .u64 e10,.int .u64 e11,.int .u64 e12,.int .u64 e13,.int .u64 e14,.int .u64 e15],.int .u64 c15]) (results_row_tmp Tryd.results94 _ _ (w.heap.size+1) _ _ _ _ _ rfl rfl (heap_alloc2_new _ _ _) Tryd.underlying34 rfl (by kernel_rfl)) rfl ⟨e0,e1,e2,e3,e4,e5,e6,e7,e8,e9,e10,e11,e12,e13,e14,e15,c15,rfl,((Below.refl _ _).alloc (Nat.le_refl _) _).alloc (by simp) _,⟨⟨le0,ue0⟩,⟨le1,ue1⟩,⟨le2,ue2⟩,⟨le3,ue3⟩,⟨le4,ue4⟩,⟨le5,ue5⟩,⟨le6,ue6⟩,⟨le7,ue7⟩,⟨le8,ue8⟩,⟨le9,ue9⟩,⟨le10,ue10⟩,⟨le11,ue11⟩,⟨le12,ue12⟩,⟨le13,ue13⟩,⟨le14,ue14⟩,⟨le15,ue15⟩,lc15,uc15⟩,?_⟩
 have h0:=H0.out;have h1:=H1.out;have h2:=H2.out;have h3:=H3.out;have h4:=H4.out;have h5:=H5.out;have h6:=H6.out;have h7:=H7.out;have h8:=H8.out;have h9:=H9.out;have h10:=H10.out;have h11:=H11.out;have h12:=H12.out;have h13:=H13.out;have h14:=H14.out;have h15:=H15.out;clear l0 u0 lc0 uc0 le0 ue0 l1 u1 lc1 uc1 le1 ue1 l2 u2 lc2 uc2 le2 ue2 l3 u3 lc3 uc3 le3 ue3 l4 u4 lc4 uc4 le4 ue4 l5 u5 lc5 uc5 le5 ue5 l6 u6 lc6 uc6 le6 ue6 l7 u7 lc7 uc7 le7 ue7 l8 u8 lc8 uc8 le8 ue8 l9 u9 lc9 uc9 le9 ue9 l10 u10 lc10 uc10 le10 ue10 l11 u11 lc11 uc11 le11 ue11 l12 u12 lc12 uc12 le12 ue12 l13 u13 lc13 uc13 le13 ue13 l14 u14 lc14 uc14 le14 ue14 l15 u15 lc15 uc15 le15 ue15;simp only[v16,valL];omega
theorem prime_zero (w:World):Calls Tryd.prog 106 #[.int .i64 0] w fun e w'=>e=.returned (.int .u64 65517)∧w'=w:=by
 go_enter Tryd.func106,Tryd.ntmps106
 go_wp2
 go_ret;exact⟨rfl,rfl⟩
theorem prime_last (w:World):Calls Tryd.prog 106 #[.int .i64 15] w fun e w'=>e=.returned (.int .u64 32767)∧w'=w:=by
 go_enter Tryd.func106,Tryd.ntmps106
 go_wp2
 go_ret;exact⟨rfl,rfl⟩
theorem prime_mid (i:Int) (h0:(i==0)=false) (h1:(i==15)=false) (w:World):Calls Tryd.prog 106 #[.int .i64 i] w fun e w'=>e=.returned (.int .u64 65535)∧w'=w:=by
 go_enter Tryd.func106,Tryd.ntmps106
 go_wp2
 go_ret;exact⟨rfl,rfl⟩
set_option maxHeartbeats 4000000 in
theorem allPrime_any (w:World):Calls Tryd.prog 97 #[] w fun e w'=>e=.returned (.agg #[.int .u64 65517,.int .u64 65535,.int .u64 65535,.int .u64 65535,.int .u64 65535,.int .u64 65535,.int .u64 65535,.int .u64 65535,.int .u64 65535,.int .u64 65535,.int .u64 65535,.int .u64 65535,.int .u64 65535,.int .u64 65535,.int .u64 65535,.int .u64 32767])∧Below w.heap.size w w':=by
 go_enter Tryd.func97,Tryd.ntmps97
 go_wp2
 refine wp_loop_rounds 17 ?_;rw[rounds_succ];go_wp2;rw[rounds_succ];go_wp2;rw[rounds_succ];go_wp2;rw[rounds_succ];go_wp2;rw[rounds_succ];go_wp2;rw[rounds_succ];go_wp2;rw[rounds_succ];go_wp2;rw[rounds_succ];go_wp2;rw[rounds_succ];go_wp2;rw[rounds_succ];go_wp2;rw[rounds_succ];go_wp2;rw[rounds_succ];go_wp2;rw[rounds_succ];go_wp2;rw[rounds_succ];go_wp2;rw[rounds_succ];go_wp2;rw[rounds_succ];go_wp2;rw[rounds_succ]
 go_wp2_with (first|(refine wpList_load_row rfl 34 _ rfl (w.heap.size+1) rfl 34 _ (0,0) _ (heap_alloc2_new _ _ _) Tryd.underlying34 rfl (by kernel_rfl) ?_)|(refine wpList_store_row rfl 34 _ _ rfl w.heap.size _ rfl rfl 34 _ (heap_alloc2_old _ _ _) (by kernel_rfl) rfl (by kernel_rfl) ?_;rw[setRow_alloc_old _ _ _ _ (by simp),setRow_alloc_new _ _ _ _ _ _ (by simp)]))
 refine bodyPost_ret (v:=.agg #[.int .u64 65517,.int .u64 65535,.int .u64 65535,.int .u64 65535,.int .u64 65535,.int .u64 65535,.int .u64 65535,.int .u64 65535,.int .u64 65535,.int .u64 65535,.int .u64 65535,.int .u64 65535,.int .u64 65535,.int .u64 65535,.int .u64 65535,.int .u64 32767]) (results_cell_row Tryd.results97 _ _ w.heap.size _ _ _ _ rfl (heap_alloc2_old _ _ _) Tryd.underlying34 rfl (by kernel_rfl)) rfl ⟨rfl,((Below.refl _ _).alloc (Nat.le_refl _) _).alloc (by simp) _⟩
set_option maxHeartbeats 4000000 in
theorem atLeast_any (d0 d1 d2 d3 d4 d5 d6 d7 d8 d9 d10 d11 d12 d13 d14 d15:Int) (l0:0≤d0) (u0:d0<65536) (l1:0≤d1) (u1:d1<65536) (l2:0≤d2) (u2:d2<65536) (l3:0≤d3) (u3:d3<65536) (l4:0≤d4) (u4:d4<65536) (l5:0≤d5) (u5:d5<65536) (l6:0≤d6) (u6:d6<65536) (l7:0≤d7) (u7:d7<65536) (l8:0≤d8) (u8:d8<65536) (l9:0≤d9) (u9:d9<65536) (l10:0≤d10) (u10:d10<65536) (l11:0≤d11) (u11:d11<65536) (l12:0≤d12) (u12:d12<65536) (l13:0≤d13) (u13:d13<65536) (l14:0≤d14) (u14:d14<65536) (l15:0≤d15) (u15:d15<65536) (w:World):
 Calls Tryd.prog 95 #[.agg #[.int .u64 d0,.int .u64 d1,.int .u64 d2,.int .u64 d3,.int .u64 d4,.int .u64 d5,.int .u64 d6,.int .u64 d7,.int .u64 d8,.int .u64 d9,.int .u64 d10,.int .u64 d11,.int .u64 d12,.int .u64 d13,.int .u64 d14,.int .u64 d15]] w fun e w'=>e=.returned (.bool (geP (v16 d0 d1 d2 d3 d4 d5 d6 d7 d8 d9 d10 d11 d12 d13 d14 d15)))∧Below w.heap.size w w':=by
 go_enter Tryd.func95,Tryd.ntmps95
 go_wp2
 refine wp_loop_rounds 17 ?_;rw[rounds_succ]
 go_wp2
 rcases Decidable.em (d15=32767) with rfl|h15
 rotate_left
 ·have hb:(d15 !=32767)=true:=by simp[h15]
  go_quiet ((exact(prime_last _).mono fun _ _ h=>⟨h.1,_,h.2⟩))
  go_wp2
  go_quiet ((exact(prime_last _).mono fun _ _ h=>⟨h.1,_,h.2⟩))
  go_wp2
  go_ret
  exact⟨ret_bool (by unfold geP v16;simp only[valL];exact decide_eq_decide.2 (by constructor<;>(intro;omega))),by repeat (first|exact(Below.refl _ _).alloc (Nat.le_refl _) _|refine below_drN ?_ _)⟩
 go_quiet ((exact(prime_last _).mono fun _ _ h=>⟨h.1,_,h.2⟩))
 go_wp2
 rw[rounds_succ]
 go_wp2
 rcases Decidable.em (d14=65535) with rfl|h14
 rotate_left
 ·have hb:(d14 !=65535)=true:=by simp[h14]
  go_quiet ((exact(prime_mid _ rfl rfl _).mono fun _ _ h=>⟨h.1,_,h.2⟩))
  go_wp2
  go_quiet ((exact(prime_mid _ rfl rfl _).mono fun _ _ h=>⟨h.1,_,h.2⟩))
  go_wp2
  go_ret
  exact⟨ret_bool (by unfold geP v16;simp only[valL];exact decide_eq_decide.2 (by constructor<;>(intro;omega))),by repeat (first|exact(Below.refl _ _).alloc (Nat.le_refl _) _|refine below_drN ?_ _)⟩
 go_quiet ((exact(prime_mid _ rfl rfl _).mono fun _ _ h=>⟨h.1,_,h.2⟩))
 go_wp2
 rw[rounds_succ]
 go_wp2
 rcases Decidable.em (d13=65535) with rfl|h13
 rotate_left
 ·have hb:(d13 !=65535)=true:=by simp[h13]
  go_quiet ((exact(prime_mid _ rfl rfl _).mono fun _ _ h=>⟨h.1,_,h.2⟩))
  go_wp2
  go_quiet ((exact(prime_mid _ rfl rfl _).mono fun _ _ h=>⟨h.1,_,h.2⟩))
  go_wp2
  go_ret
  exact⟨ret_bool (by unfold geP v16;simp only[valL];exact decide_eq_decide.2 (by constructor<;>(intro;omega))),by repeat (first|exact(Below.refl _ _).alloc (Nat.le_refl _) _|refine below_drN ?_ _)⟩
 go_quiet ((exact(prime_mid _ rfl rfl _).mono fun _ _ h=>⟨h.1,_,h.2⟩))
 go_wp2
 rw[rounds_succ]
 go_wp2
 rcases Decidable.em (d12=65535) with rfl|h12
 rotate_left
 ·have hb:(d12 !=65535)=true:=by simp[h12]
  go_quiet ((exact(prime_mid _ rfl rfl _).mono fun _ _ h=>⟨h.1,_,h.2⟩))
  go_wp2
  go_quiet ((exact(prime_mid _ rfl rfl _).mono fun _ _ h=>⟨h.1,_,h.2⟩))
  go_wp2
  go_ret
  exact⟨ret_bool (by unfold geP v16;simp only[valL];exact decide_eq_decide.2 (by constructor<;>(intro;omega))),by repeat (first|exact(Below.refl _ _).alloc (Nat.le_refl _) _|refine below_drN ?_ _)⟩
 go_quiet ((exact(prime_mid _ rfl rfl _).mono fun _ _ h=>⟨h.1,_,h.2⟩))
 go_wp2
 rw[rounds_succ]
 go_wp2
 rcases Decidable.em (d11=65535) with rfl|h11
 rotate_left
 ·have hb:(d11 !=65535)=true:=by simp[h11]
  go_quiet ((exact(prime_mid _ rfl rfl _).mono fun _ _ h=>⟨h.1,_,h.2⟩))
  go_wp2
  go_quiet ((exact(prime_mid _ rfl rfl _).mono fun _ _ h=>⟨h.1,_,h.2⟩))
  go_wp2
  go_ret
  exact⟨ret_bool (by unfold geP v16;simp only[valL];exact decide_eq_decide.2 (by constructor<;>(intro;omega))),by repeat (first|exact(Below.refl _ _).alloc (Nat.le_refl _) _|refine below_drN ?_ _)⟩
 go_quiet ((exact(prime_mid _ rfl rfl _).mono fun _ _ h=>⟨h.1,_,h.2⟩))
 go_wp2
 rw[rounds_succ]
 go_wp2
 rcases Decidable.em (d10=65535) with rfl|h10
 rotate_left
 ·have hb:(d10 !=65535)=true:=by simp[h10]
  go_quiet ((exact(prime_mid _ rfl rfl _).mono fun _ _ h=>⟨h.1,_,h.2⟩))
  go_wp2
  go_quiet ((exact(prime_mid _ rfl rfl _).mono fun _ _ h=>⟨h.1,_,h.2⟩))
  go_wp2
  go_ret
  exact⟨ret_bool (by unfold geP v16;simp only[valL];exact decide_eq_decide.2 (by constructor<;>(intro;omega))),by repeat (first|exact(Below.refl _ _).alloc (Nat.le_refl _) _|refine below_drN ?_ _)⟩
 go_quiet ((exact(prime_mid _ rfl rfl _).mono fun _ _ h=>⟨h.1,_,h.2⟩))
 go_wp2
 rw[rounds_succ]
 go_wp2
 rcases Decidable.em (d9=65535) with rfl|h9
 rotate_left
 ·have hb:(d9 !=65535)=true:=by simp[h9]
  go_quiet ((exact(prime_mid _ rfl rfl _).mono fun _ _ h=>⟨h.1,_,h.2⟩))
  go_wp2
  go_quiet ((exact(prime_mid _ rfl rfl _).mono fun _ _ h=>⟨h.1,_,h.2⟩))
  go_wp2
  go_ret
  exact⟨ret_bool (by unfold geP v16;simp only[valL];exact decide_eq_decide.2 (by constructor<;>(intro;omega))),by repeat (first|exact(Below.refl _ _).alloc (Nat.le_refl _) _|refine below_drN ?_ _)⟩
 go_quiet ((exact(prime_mid _ rfl rfl _).mono fun _ _ h=>⟨h.1,_,h.2⟩))
 go_wp2
 rw[rounds_succ]
 go_wp2
 rcases Decidable.em (d8=65535) with rfl|h8
 rotate_left
 ·have hb:(d8 !=65535)=true:=by simp[h8]
  go_quiet ((exact(prime_mid _ rfl rfl _).mono fun _ _ h=>⟨h.1,_,h.2⟩))
  go_wp2
  go_quiet ((exact(prime_mid _ rfl rfl _).mono fun _ _ h=>⟨h.1,_,h.2⟩))
  go_wp2
  go_ret
  exact⟨ret_bool (by unfold geP v16;simp only[valL];exact decide_eq_decide.2 (by constructor<;>(intro;omega))),by repeat (first|exact(Below.refl _ _).alloc (Nat.le_refl _) _|refine below_drN ?_ _)⟩
 go_quiet ((exact(prime_mid _ rfl rfl _).mono fun _ _ h=>⟨h.1,_,h.2⟩))
 go_wp2
 rw[rounds_succ]
 go_wp2
 rcases Decidable.em (d7=65535) with rfl|h7
 rotate_left
 ·have hb:(d7 !=65535)=true:=by simp[h7]
  go_quiet ((exact(prime_mid _ rfl rfl _).mono fun _ _ h=>⟨h.1,_,h.2⟩))
  go_wp2
  go_quiet ((exact(prime_mid _ rfl rfl _).mono fun _ _ h=>⟨h.1,_,h.2⟩))
  go_wp2
  go_ret
  exact⟨ret_bool (by unfold geP v16;simp only[valL];exact decide_eq_decide.2 (by constructor<;>(intro;omega))),by repeat (first|exact(Below.refl _ _).alloc (Nat.le_refl _) _|refine below_drN ?_ _)⟩
 go_quiet ((exact(prime_mid _ rfl rfl _).mono fun _ _ h=>⟨h.1,_,h.2⟩))
 go_wp2
 rw[rounds_succ]
 go_wp2
 rcases Decidable.em (d6=65535) with rfl|h6
 rotate_left
 ·have hb:(d6 !=65535)=true:=by simp[h6]
  go_quiet ((exact(prime_mid _ rfl rfl _).mono fun _ _ h=>⟨h.1,_,h.2⟩))
  go_wp2
  go_quiet ((exact(prime_mid _ rfl rfl _).mono fun _ _ h=>⟨h.1,_,h.2⟩))
  go_wp2
  go_ret
  exact⟨ret_bool (by unfold geP v16;simp only[valL];exact decide_eq_decide.2 (by constructor<;>(intro;omega))),by repeat (first|exact(Below.refl _ _).alloc (Nat.le_refl _) _|refine below_drN ?_ _)⟩
 go_quiet ((exact(prime_mid _ rfl rfl _).mono fun _ _ h=>⟨h.1,_,h.2⟩))
 go_wp2
 rw[rounds_succ]
 go_wp2
 rcases Decidable.em (d5=65535) with rfl|h5
 rotate_left
 ·have hb:(d5 !=65535)=true:=by simp[h5]
  go_quiet ((exact(prime_mid _ rfl rfl _).mono fun _ _ h=>⟨h.1,_,h.2⟩))
  go_wp2
  go_quiet ((exact(prime_mid _ rfl rfl _).mono fun _ _ h=>⟨h.1,_,h.2⟩))
  go_wp2
  go_ret
  exact⟨ret_bool (by unfold geP v16;simp only[valL];exact decide_eq_decide.2 (by constructor<;>(intro;omega))),by repeat (first|exact(Below.refl _ _).alloc (Nat.le_refl _) _|refine below_drN ?_ _)⟩
 go_quiet ((exact(prime_mid _ rfl rfl _).mono fun _ _ h=>⟨h.1,_,h.2⟩))
 go_wp2
 rw[rounds_succ]
 go_wp2
 rcases Decidable.em (d4=65535) with rfl|h4
 rotate_left
 ·have hb:(d4 !=65535)=true:=by simp[h4]
  go_quiet ((exact(prime_mid _ rfl rfl _).mono fun _ _ h=>⟨h.1,_,h.2⟩))
  go_wp2
  go_quiet ((exact(prime_mid _ rfl rfl _).mono fun _ _ h=>⟨h.1,_,h.2⟩))
  go_wp2
  go_ret
  exact⟨ret_bool (by unfold geP v16;simp only[valL];exact decide_eq_decide.2 (by constructor<;>(intro;omega))),by repeat (first|exact(Below.refl _ _).alloc (Nat.le_refl _) _|refine below_drN ?_ _)⟩
 go_quiet ((exact(prime_mid _ rfl rfl _).mono fun _ _ h=>⟨h.1,_,h.2⟩))
 go_wp2
 rw[rounds_succ]
 go_wp2
 rcases Decidable.em (d3=65535) with rfl|h3
 rotate_left
 ·have hb:(d3 !=65535)=true:=by simp[h3]
  go_quiet ((exact(prime_mid _ rfl rfl _).mono fun _ _ h=>⟨h.1,_,h.2⟩))
  go_wp2
  go_quiet ((exact(prime_mid _ rfl rfl _).mono fun _ _ h=>⟨h.1,_,h.2⟩))
  go_wp2
  go_ret
  exact⟨ret_bool (by unfold geP v16;simp only[valL];exact decide_eq_decide.2 (by constructor<;>(intro;omega))),by repeat (first|exact(Below.refl _ _).alloc (Nat.le_refl _) _|refine below_drN ?_ _)⟩
 go_quiet ((exact(prime_mid _ rfl rfl _).mono fun _ _ h=>⟨h.1,_,h.2⟩))
 go_wp2
 rw[rounds_succ]
 go_wp2
 rcases Decidable.em (d2=65535) with rfl|h2
 rotate_left
 ·have hb:(d2 !=65535)=true:=by simp[h2]
  go_quiet ((exact(prime_mid _ rfl rfl _).mono fun _ _ h=>⟨h.1,_,h.2⟩))
  go_wp2
  go_quiet ((exact(prime_mid _ rfl rfl _).mono fun _ _ h=>⟨h.1,_,h.2⟩))
  go_wp2
  go_ret
  exact⟨ret_bool (by unfold geP v16;simp only[valL];exact decide_eq_decide.2 (by constructor<;>(intro;omega))),by repeat (first|exact(Below.refl _ _).alloc (Nat.le_refl _) _|refine below_drN ?_ _)⟩
 go_quiet ((exact(prime_mid _ rfl rfl _).mono fun _ _ h=>⟨h.1,_,h.2⟩))
 go_wp2
 rw[rounds_succ]
 go_wp2
 rcases Decidable.em (d1=65535) with rfl|h1
 rotate_left
 ·have hb:(d1 !=65535)=true:=by simp[h1]
  go_quiet ((exact(prime_mid _ rfl rfl _).mono fun _ _ h=>⟨h.1,_,h.2⟩))
  go_wp2
  go_quiet ((exact(prime_mid _ rfl rfl _).mono fun _ _ h=>⟨h.1,_,h.2⟩))
  go_wp2
  go_ret
  exact⟨ret_bool (by unfold geP v16;simp only[valL];exact decide_eq_decide.2 (by constructor<;>(intro;omega))),by repeat (first|exact(Below.refl _ _).alloc (Nat.le_refl _) _|refine below_drN ?_ _)⟩
 go_quiet ((exact(prime_mid _ rfl rfl _).mono fun _ _ h=>⟨h.1,_,h.2⟩))
 go_wp2
 rw[rounds_succ]
 go_wp2
 rcases Decidable.em (d0=65517) with rfl|h0
 rotate_left
 ·have hb:(d0 !=65517)=true:=by simp[h0]
  go_quiet ((exact(prime_zero _).mono fun _ _ h=>⟨h.1,_,h.2⟩))
  go_wp2
  go_quiet ((exact(prime_zero _).mono fun _ _ h=>⟨h.1,_,h.2⟩))
  go_wp2
  go_ret
  exact⟨ret_bool (by unfold geP v16;simp only[valL];exact decide_eq_decide.2 (by constructor<;>(intro;omega))),by repeat (first|exact(Below.refl _ _).alloc (Nat.le_refl _) _|refine below_drN ?_ _)⟩
 go_quiet ((exact(prime_zero _).mono fun _ _ h=>⟨h.1,_,h.2⟩))
 go_wp2
 rw[rounds_succ]
 go_wp2
 go_ret
 exact⟨ret_bool (by unfold geP v16;simp only[valL];exact(decide_eq_true (by omega)).symm),by repeat (first|exact(Below.refl _ _).alloc (Nat.le_refl _) _|refine below_drN ?_ _)⟩
end Go.Proofs.YtdcpcdkbhgkmlaaDoor
namespace Go.Proofs.YtdcpcdkbhgkmlaaDoor
set_option maxRecDepth 100000
open Go.RowKit Go.Sort
attribute [local go_sem] setCell_drewN alloc_drewN
theorem mstep (x y b:Int) (l:0≤x) (u:x<65536) (ly:0≤y) (uy:y<65536) (lb:0≤b) (ub:b≤1):∃e b':Int,1-(x+65536-y-b)/65536=b'∧(x+65536-y-b)%65536=e∧Hid (e-65536*b'=x-y-b)∧0≤b'∧b'≤1∧0≤e∧e<65536:=
 ⟨_,_,rfl,rfl,by unfold Hid;omega,by omega,by omega,by omega,by omega⟩
theorem mstep0 (x y:Int) (l:0≤x) (u:x<65536) (ly:0≤y) (uy:y<65536):∃e b':Int,1-(x+65536-y)/65536=b'∧(x+65536-y)%65536=e∧Hid (e-65536*b'=x-y)∧0≤b'∧b'≤1∧0≤e∧e<65536:=
 ⟨_,_,rfl,rfl,by unfold Hid;omega,by omega,by omega,by omega,by omega⟩
set_option maxHeartbeats 4000000 in
theorem minus_any (x0 x1 x2 x3 x4 x5 x6 x7 x8 x9 x10 x11 x12 x13 x14 x15 y0 y1 y2 y3 y4 y5 y6 y7 y8 y9 y10 y11 y12 y13 y14 y15:Int) (l0:0≤x0) (u0:x0<65536) (l1:0≤x1) (u1:x1<65536) (l2:0≤x2) (u2:x2<65536) (l3:0≤x3) (u3:x3<65536) (l4:0≤x4) (u4:x4<65536) (l5:0≤x5) (u5:x5<65536) (l6:0≤x6) (u6:x6<65536) (l7:0≤x7) (u7:x7<65536) (l8:0≤x8) (u8:x8<65536) (l9:0≤x9) (u9:x9<65536) (l10:0≤x10) (u10:x10<65536) (l11:0≤x11) (u11:x11<65536) (l12:0≤x12) (u12:x12<65536) (l13:0≤x13) (u13:x13<65536) (l14:0≤x14) (u14:x14<65536) (l15:0≤x15) (u15:x15<65536) (ly0:0≤y0) (uy0:y0<65536) (ly1:0≤y1) (uy1:y1<65536) (ly2:0≤y2) (uy2:y2<65536) (ly3:0≤y3) (uy3:y3<65536) (ly4:0≤y4) (uy4:y4<65536) (ly5:0≤y5) (uy5:y5<65536) (ly6:0≤y6) (uy6:y6<65536) (ly7:0≤y7) (uy7:y7<65536) (ly8:0≤y8) (uy8:y8<65536) (ly9:0≤y9) (uy9:y9<65536) (ly10:0≤y10) (uy10:y10<65536) (ly11:0≤y11) (uy11:y11<65536) (ly12:0≤y12) (uy12:y12<65536) (ly13:0≤y13) (uy13:y13<65536) (ly14:0≤y14) (uy14:y14<65536) (ly15:0≤y15) (uy15:y15<65536) (w:World):
 Calls Tryd.prog 96 #[.agg #[.int .u64 x0,.int .u64 x1,.int .u64 x2,.int .u64 x3,.int .u64 x4,.int .u64 x5,.int .u64 x6,.int .u64 x7,.int .u64 x8,.int .u64 x9,.int .u64 x10,.int .u64 x11,.int .u64 x12,.int .u64 x13,.int .u64 x14,.int .u64 x15],.agg #[.int .u64 y0,.int .u64 y1,.int .u64 y2,.int .u64 y3,.int .u64 y4,.int .u64 y5,.int .u64 y6,.int .u64 y7,.int .u64 y8,.int .u64 y9,.int .u64 y10,.int .u64 y11,.int .u64 y12,.int .u64 y13,.int .u64 y14,.int .u64 y15]] w fun e w'=>∃e0 e1 e2 e3 e4 e5 e6 e7 e8 e9 e10 e11 e12 e13 e14 e15 c:Int,e=.returned (.agg #[.int .u64 e0,.int .u64 e1,.int .u64 e2,.int .u64 e3,.int .u64 e4,.int .u64 e5,.int .u64 e6,.int .u64 e7,.int .u64 e8,.int .u64 e9,.int .u64 e10,.int .u64 e11,.int .u64 e12,.int .u64 e13,.int .u64 e14,.int .u64 e15])∧Below w.heap.size w w'∧((0≤e0∧e0<65536)∧(0≤e1∧e1<65536)∧(0≤e2∧e2<65536)∧(0≤e3∧e3<65536)∧(0≤e4∧e4<65536)∧(0≤e5∧e5<65536)∧(0≤e6∧e6<65536)∧(0≤e7∧e7<65536)∧(0≤e8∧e8<65536)∧(0≤e9∧e9<65536)∧(0≤e10∧e10<65536)∧(0≤e11∧e11<65536)∧(0≤e12∧e12<65536)∧(0≤e13∧e13<65536)∧(0≤e14∧e14<65536)∧(0≤e15∧e15<65536)∧0≤c∧c≤1)∧v16 e0 e1 e2 e3 e4 e5 e6 e7 e8 e9 e10 e11 e12 e13 e14 e15-115792089237316195423570985008687907853269984665640564039457584007913129639936*c=v16 x0 x1 x2 x3 x4 x5 x6 x7 x8 x9 x10 x11 x12 x13 x14 x15-v16 y0 y1 y2 y3 y4 y5 y6 y7 y8 y9 y10 y11 y12 y13 y14 y15:=by
 go_enter Tryd.func96,Tryd.ntmps96
 go_wp2
 refine wp_loop_rounds 17 ?_;rw[rounds_succ]
 go_wp2
 go_quiet (fail)
 go_wp2
 obtain⟨e0,b0,hq,hr,H0,lb0,ub0,le0,ue0⟩:=mstep0 x0 y0 l0 u0 ly0 uy0;rw[hq,hr];clear hq hr;rw[rounds_succ]
 go_wp2
 go_quiet (fail)
 go_wp2
 obtain⟨e1,b1,hq,hr,H1,lb1,ub1,le1,ue1⟩:=mstep x1 y1 b0 l1 u1 ly1 uy1 lb0 ub0;rw[hq,hr];clear hq hr;rw[rounds_succ]
 go_wp2
 go_quiet (fail)
 go_wp2
 obtain⟨e2,b2,hq,hr,H2,lb2,ub2,le2,ue2⟩:=mstep x2 y2 b1 l2 u2 ly2 uy2 lb1 ub1;rw[hq,hr];clear hq hr;rw[rounds_succ]
 go_wp2
 go_quiet (fail)
 go_wp2
 obtain⟨e3,b3,hq,hr,H3,lb3,ub3,le3,ue3⟩:=mstep x3 y3 b2 l3 u3 ly3 uy3 lb2 ub2;rw[hq,hr];clear hq hr;rw[rounds_succ]
 go_wp2
 go_quiet (fail)
 go_wp2
 obtain⟨e4,b4,hq,hr,H4,lb4,ub4,le4,ue4⟩:=mstep x4 y4 b3 l4 u4 ly4 uy4 lb3 ub3;rw[hq,hr];clear hq hr;rw[rounds_succ]
 go_wp2
 go_quiet (fail)
 go_wp2
 obtain⟨e5,b5,hq,hr,H5,lb5,ub5,le5,ue5⟩:=mstep x5 y5 b4 l5 u5 ly5 uy5 lb4 ub4;rw[hq,hr];clear hq hr;rw[rounds_succ]
 go_wp2
 go_quiet (fail)
 go_wp2
 obtain⟨e6,b6,hq,hr,H6,lb6,ub6,le6,ue6⟩:=mstep x6 y6 b5 l6 u6 ly6 uy6 lb5 ub5;rw[hq,hr];clear hq hr;rw[rounds_succ]
 go_wp2
 go_quiet (fail)
 go_wp2
 obtain⟨e7,b7,hq,hr,H7,lb7,ub7,le7,ue7⟩:=mstep x7 y7 b6 l7 u7 ly7 uy7 lb6 ub6;rw[hq,hr];clear hq hr;rw[rounds_succ]
 go_wp2
 go_quiet (fail)
 go_wp2
 obtain⟨e8,b8,hq,hr,H8,lb8,ub8,le8,ue8⟩:=mstep x8 y8 b7 l8 u8 ly8 uy8 lb7 ub7;rw[hq,hr];clear hq hr;rw[rounds_succ]
 go_wp2
 go_quiet (fail)
 go_wp2
 obtain⟨e9,b9,hq,hr,H9,lb9,ub9,le9,ue9⟩:=mstep x9 y9 b8 l9 u9 ly9 uy9 lb8 ub8;rw[hq,hr];clear hq hr;rw[rounds_succ]
 go_wp2
 go_quiet (fail)
 go_wp2
 obtain⟨e10,b10,hq,hr,H10,lb10,ub10,le10,ue10⟩:=mstep x10 y10 b9 l10 u10 ly10 uy10 lb9 ub9;rw[hq,hr];clear hq hr;rw[rounds_succ]
 go_wp2
 go_quiet (fail)
 go_wp2
 obtain⟨e11,b11,hq,hr,H11,lb11,ub11,le11,ue11⟩:=mstep x11 y11 b10 l11 u11 ly11 uy11 lb10 ub10;rw[hq,hr];clear hq hr;rw[rounds_succ]
 go_wp2
 go_quiet (fail)
 go_wp2
 obtain⟨e12,b12,hq,hr,H12,lb12,ub12,le12,ue12⟩:=mstep x12 y12 b11 l12 u12 ly12 uy12 lb11 ub11;rw[hq,hr];clear hq hr;rw[rounds_succ]
 go_wp2
 go_quiet (fail)
 go_wp2
 obtain⟨e13,b13,hq,hr,H13,lb13,ub13,le13,ue13⟩:=mstep x13 y13 b12 l13 u13 ly13 uy13 lb12 ub12;rw[hq,hr];clear hq hr;rw[rounds_succ]
 go_wp2
 go_quiet (fail)
 go_wp2
 obtain⟨e14,b14,hq,hr,H14,lb14,ub14,le14,ue14⟩:=mstep x14 y14 b13 l14 u14 ly14 uy14 lb13 ub13;rw[hq,hr];clear hq hr;rw[rounds_succ]
 go_wp2
 go_quiet (fail)
 go_wp2
 obtain⟨e15,b15,hq,hr,H15,lb15,ub15,le15,ue15⟩:=mstep x15 y15 b14 l15 u15 ly15 uy15 lb14 ub14;rw[hq,hr];clear hq hr;rw[rounds_succ]
 go_wp2_with (first|(refine wpList_load_row rfl 34 _ rfl (w.heap.size+1+1+1) rfl 34 #[.int .u64 e0,.int .u64 e1,.int .u64 e2,.int .u64 e3,.int .u64 e4,.int .u64 e5,.int .u64 e6,.int .u64 e7,.int .u64 e8,.int .u64 e9,.int .u64 e10,.int .u64 e11,.int .u64 e12,.int .u64 e13,.int .u64 e14,.int .u64 e15] (0,0) _ (by rw[World.heap_drewN,hp4_3]) Tryd.underlying34 rfl (by kernel_rfl) ?_)|(refine wpList_store_row rfl 34 _ _ rfl (w.heap.size+1+1) #[.int .u64 e0,.int .u64 e1,.int .u64 e2,.int .u64 e3,.int .u64 e4,.int .u64 e5,.int .u64 e6,.int .u64 e7,.int .u64 e8,.int .u64 e9,.int .u64 e10,.int .u64 e11,.int .u64 e12,.int .u64 e13,.int .u64 e14,.int .u64 e15] rfl rfl 34 #[.int .u64 0,.int .u64 0,.int .u64 0,.int .u64 0,.int .u64 0,.int .u64 0,.int .u64 0,.int .u64 0,.int .u64 0,.int .u64 0,.int .u64 0,.int .u64 0,.int .u64 0,.int .u64 0,.int .u64 0,.int .u64 0] (by rw[World.heap_drewN,hp4_2]) (by kernel_rfl) rfl (by kernel_rfl) ?_;rw[setRow_drewN,setRow_alloc_old _ _ _ _ (by simp),setRow_alloc_new _ _ _ _ _ _ (by simp)]))
 refine bodyPost_ret (v:=.agg #[.int .u64 e0,.int .u64 e1,.int .u64 e2,.int .u64 e3,.int .u64 e4,.int .u64 e5,.int .u64 e6,.int .u64 e7,.int .u64 e8,.int .u64 e9,.int .u64 e10,.int .u64 e11,.int .u64 e12,.int .u64 e13,.int .u64 e14,.int .u64 e15]) (results_cell_row Tryd.results96 _ _ (w.heap.size+1+1) _ #[.int .u64 e0,.int .u64 e1,.int .u64 e2,.int .u64 e3,.int .u64 e4,.int .u64 e5,.int .u64 e6,.int .u64 e7,.int .u64 e8,.int .u64 e9,.int .u64 e10,.int .u64 e11,.int .u64 e12,.int .u64 e13,.int .u64 e14,.int .u64 e15] _ _ rfl (by rw[World.heap_drewN,hp4_2]) Tryd.underlying34 rfl (by kernel_rfl)) rfl ⟨e0,e1,e2,e3,e4,e5,e6,e7,e8,e9,e10,e11,e12,e13,e14,e15,b15,rfl,below_drN (((((Below.refl _ _).alloc (Nat.le_refl _) _).alloc (by simp) _).alloc (by simp;omega) _).alloc (by simp;omega) _) _,⟨⟨le0,ue0⟩,⟨le1,ue1⟩,⟨le2,ue2⟩,⟨le3,ue3⟩,⟨le4,ue4⟩,⟨le5,ue5⟩,⟨le6,ue6⟩,⟨le7,ue7⟩,⟨le8,ue8⟩,⟨le9,ue9⟩,⟨le10,ue10⟩,⟨le11,ue11⟩,⟨le12,ue12⟩,⟨le13,ue13⟩,⟨le14,ue14⟩,⟨le15,ue15⟩,lb15,ub15⟩,?_⟩
 have h0:=H0.out;have h1:=H1.out;have h2:=H2.out;have h3:=H3.out;have h4:=H4.out;have h5:=H5.out;have h6:=H6.out;have h7:=H7.out;have h8:=H8.out;have h9:=H9.out;have h10:=H10.out;have h11:=H11.out;have h12:=H12.out;have h13:=H13.out;have h14:=H14.out;have h15:=H15.out;clear l0 u0 ly0 uy0 lb0 ub0 le0 ue0 l1 u1 ly1 uy1 lb1 ub1 le1 ue1 l2 u2 ly2 uy2 lb2 ub2 le2 ue2 l3 u3 ly3 uy3 lb3 ub3 le3 ue3 l4 u4 ly4 uy4 lb4 ub4 le4 ue4 l5 u5 ly5 uy5 lb5 ub5 le5 ue5 l6 u6 ly6 uy6 lb6 ub6 le6 ue6 l7 u7 ly7 uy7 lb7 ub7 le7 ue7 l8 u8 ly8 uy8 lb8 ub8 le8 ue8 l9 u9 ly9 uy9 lb9 ub9 le9 ue9 l10 u10 ly10 uy10 lb10 ub10 le10 ue10 l11 u11 ly11 uy11 lb11 ub11 le11 ue11 l12 u12 ly12 uy12 lb12 ub12 le12 ue12 l13 u13 ly13 uy13 lb13 ub13 le13 ue13 l14 u14 ly14 uy14 lb14 ub14 le14 ue14 l15 u15 ly15 uy15 lb15 ub15 le15 ue15;simp only[v16,valL];omega
end Go.Proofs.YtdcpcdkbhgkmlaaDoor
