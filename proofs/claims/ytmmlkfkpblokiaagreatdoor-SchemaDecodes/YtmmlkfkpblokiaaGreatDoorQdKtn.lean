import Derived.Test.YtmmlkfkpblokiaaGreatDoorQdKtm
import Derived.Laws.BitsAllLaws
import Derived.Laws.Externs
import Derived.Test.YtmmlkfkpblokiaaGreatDoorQdXdc
import Derived.Test.YtmmlkfkpblokiaaGreatDoorQdUg
import Derived.Lib.ValidAsc
import Derived.Lib.Endian
import Derived.Lib.EndianBits
namespace Go.Proofs.YtmmlkfkpblokiaaGreatDoor
set_option maxRecDepth 100000
open Go Go.RowKit Go.Sort
attribute [local go_sem] setCell_drewN alloc_drewN
theorem run_bits8 (x:Nat) (w:World):(callFunc 138 #[.float .f64 x]).run Tryz.prog w=.ok (.value (.int .u64 x)) w:=by
 rw[run_callFunc_extern Tryz.func138 (by kernel_rfl) (by kernel_rfl) (by kernel_rfl) (e:=Extern.MathFloatBits.float64bits) (by kernel_rfl)];rfl
theorem run_frombits8 (z:Int) (w:World):(callFunc 117 #[.int .u64 z]).run Tryz.prog w=.ok (.value (.float .f64 z.toNat)) w:=by
 rw[run_callFunc_extern Tryz.func117 (by kernel_rfl) (by kernel_rfl) (by kernel_rfl) (e:=Extern.MathFloatBits.float64frombits) (by kernel_rfl)];rfl
theorem abs_bits8 {b:Nat} (hb:b<18446744073709551616):(bits .andNot .u64 (b:Int) 9223372036854775808).toNat=b%9223372036854775808:=by
 rw[show(9223372036854775808:Int)=((9223372036854775808:Nat):Int) from rfl,u64_andNot_nat b _ hb (by decide),Int.toNat_natCast]
 exact Nat.and_two_pow_sub_one_eq_mod b 63
theorem a_abs8 (b:Nat) (hb:b<18446744073709551616) (w:World):Calls Tryz.prog 121 #[.float .f64 b] w fun e w'=>e=.returned (.float .f64 (b%9223372036854775808))∧Below w.heap.size w w':=by
 have r1:=run_bits8 b;have r2:=run_frombits8 (bits .andNot .u64 (b:Int) 9223372036854775808);rw[abs_bits8 hb] at r2
 go_enter Tryz.func121,Tryz.ntmps121
 go_wp2_with (fail)
 go_ret;exact⟨rfl,.refl _ _⟩
theorem a_nan8 (b:Nat) (w:World):Calls Tryz.prog 118 #[.float .f64 b] w fun e w'=>e=.returned (.bool (FloatKind.f64.format.order b b !=some .eq))∧Below w.heap.size w w':=by
 go_enter Tryz.func118,Tryz.ntmps118
 go_wp2_with (fail)
 go_ret;exact⟨rfl,.refl _ _⟩
theorem a_inf8 (b:Nat) (hb:b<18446744073709551616) (w:World):Calls Tryz.prog 119 #[.float .f64 b,.int .i64 0] w fun e w'=>e=.returned (.bool (FloatKind.f64.format.order (b%9223372036854775808) 9218868437227405311==some .gt))∧Below w.heap.size w w':=by
 have cA:=a_abs8 b hb w
 go_enter Tryz.func119,Tryz.ntmps119
 go_wp2_with (fail)
 refine cA.mono ?_;rintro e_ w1 ⟨rfl,hb1⟩
 go_wp2_with (fail)
 go_ret;exact⟨rfl,hb1⟩
theorem a_sign8 (b:Nat) (hb:b<18446744073709551616) (w:World):Calls Tryz.prog 120 #[.float .f64 b] w fun e w'=>e=.returned (.bool (decide (9223372036854775808≤b)))∧Below w.heap.size w w':=by
 have r1:=run_bits8 b
 have q0:decide (wrap64 (b:Int)<0)=decide (9223372036854775808≤b):=by
  rw[decide_eq_decide];unfold wrap64;omega
 go_enter Tryz.func120,Tryz.ntmps120
 go_wp2_with (fail)
 go_ret
 exact⟨by rw[←q0];rfl,.refl _ _⟩
def flD (n m:Nat):Int:=
 if(FloatKind.f64.format.order n n !=some .eq)=true then 84
 else if(FloatKind.f64.format.order (n%9223372036854775808) 9218868437227405311==some .gt)=true then 84
 else if(FloatKind.f64.format.order n 0==some .eq)=true∧9223372036854775808≤n then 84
 else if(FloatKind.f64.format.order (n%9223372036854775808) (floatOfInt .f64 (m:Int))==some .gt)=true then 83 else 0
set_option maxRecDepth 100000 in
set_option maxHeartbeats 8000000 in
theorem a_flt8 (w:World) (n m:Nat) (hn:n<18446744073709551616):Calls Tryz.prog 93 #[.agg #[.float .f64 (floatOfInt .f64 (m:Int))],.int .u64 (n:Int)] w fun e w'=>e=.returned (.int .i64 (flD n m))∧Below w.heap.size w w':=by
 have r0:=hp1_0 w (.cells #[.float .f64 (floatOfInt .f64 (m:Int))] 183);have hb:Below w.heap.size w (w.alloc (.cells #[.float .f64 (floatOfInt .f64 (m:Int))] 183)):=(Below.refl _ _).alloc (Nat.le_refl _) _;have r2:=run_frombits8 (n:Int);rw[Int.toNat_natCast] at r2;have cN:=a_nan8 n;have cI:=a_inf8 n hn;have cS:=a_sign8 n hn;have cA:=a_abs8 n hn;obtain⟨R,hR⟩:∃R,flD n m=R:=⟨_,rfl⟩;rw[hR];unfold flD at hR
 generalize floatOfInt .f64 (m:Int)=M at *
 generalize hx1:(FloatKind.f64.format.order n n !=some .eq)=x1 at *
 generalize hx2:(FloatKind.f64.format.order (n%9223372036854775808) 9218868437227405311==some .gt)=x2 at *
 generalize hx3:(FloatKind.f64.format.order n 0==some .eq)=x3 at *
 generalize hx4:(FloatKind.f64.format.order (n%9223372036854775808) M==some .gt)=x4 at *
 generalize hx5:decide (9223372036854775808≤n)=x5 at *
 generalize n%9223372036854775808=N at *
 clear hx1 hx2
 go_enter Tryz.func93,Tryz.ntmps93
 go_upto_region 1 with(fail)
 generalize w.alloc (.cells #[.float .f64 M] 183)=w0 at *
 go_wp2_with (fail)
 refine(cN w0).mono ?_;rintro e_ w1 ⟨rfl,hb1⟩;replace r0:=keep hb1 r0;replace hb:=Below.after hb hb1;clear hb1 cN
 cases x1
 ·go_wp2_with (fail)
  refine(cI w1).mono ?_
  rintro e_ w2 ⟨rfl,hb1⟩;replace r0:=keep hb1 r0;replace hb:=Below.after hb hb1;clear hb1 cI
  cases x2
  ·cases x3
   ·go_upto_region 6 with(fail)
    have hbd:Below w2.heap.size w2 w2.drew:=below_drN (Below.refl _ _) 1
    have hS0:(fun W_:World=>Bx W_ w.heap.size #[.float .f64 M]) w2.drew:=⟨_,keep hbd r0⟩
    replace hb:=Below.after hb hbd;refine wp_region_noPanic ?_
    refine wp_region_held (S:=fun W_:World=>Bx W_ w.heap.size #[.float .f64 M]) (by kernel_rfl) ?_
    change wpAnyH _ _ _ _ _ _ _ _ (World.drew _)
    clear r0 hbd
    generalize w2.drew=y1 at *
    refine wpAnyH_take (i:=0) (v:=?va) rfl (by kernel_rfl) (by kernel_rfl) (by kernel_rfl) (fun _ _ _ h=>h) (Or.inl ⟨by rfl,?y1⟩) hS0 ?r1
    case y1=>
     intro w_ hS_
     skip
     go_simp
     try with_reducible rfl
    simp only[Act.put,List.getElem_toArray,List.getElem_cons_zero,List.setIfInBounds_toArray,List.set_cons_succ,List.set_cons_zero]
    refine wpAnyH_take (i:=2) (v:=?vb) rfl (by kernel_rfl) (by kernel_rfl) (by kernel_rfl) (fun _ _ _ h=>h) (Or.inl ⟨by rfl,?y2⟩) hS0 ?r2
    case y2=>
     intro w_ hS_
     skip
     go_simp
     try with_reducible rfl
    simp only[Act.put,List.getElem_toArray,List.getElem_cons_succ,List.getElem_cons_zero,List.setIfInBounds_toArray,List.set_cons_succ,List.set_cons_zero]
    refine wpAnyH_take (i:=3) (v:=.float .f64 M) rfl (by kernel_rfl) (by kernel_rfl) (by kernel_rfl) (fun _ _ _ h=>h) (Or.inl ⟨by rfl,?y3⟩) hS0 ?r3
    case y3=>
     intro w_ hS_;obtain⟨_,h_⟩:=hS_;have c_:=cell_of_row _ _ 0 _ _ _ h_;go_simp
     try with_reducible rfl
    simp only[Act.put,List.getElem_toArray,List.getElem_cons_succ,List.getElem_cons_zero,List.setIfInBounds_toArray,List.set_cons_succ,List.set_cons_zero]
    refine wpAnyH_one (k:=1) (fuel:=2) (by kernel_rfl) rfl (by kernel_rfl) (fun K_ hK=>?_)
    refine wp_call_ex (R:=fun u w'=>u=.float .f64 N∧Below y1.heap.size y1 w') (by kernel_rfl) ((cA y1).mono fun e w' h=>⟨_,h.1,rfl,h.2⟩) (fun u y2 hX_=>?_)
    obtain⟨rfl,hb2⟩:=hX_;replace hS0:=hS0.keep hb2;replace hb:=Below.after hb hb2;refine hK _ _ hS0 ?_;simp only[Act.put,List.getElem_toArray,List.getElem_cons_succ,List.getElem_cons_zero,List.setIfInBounds_toArray,List.set_cons_succ,List.set_cons_zero];clear hK hb2 cA
    refine wpAnyH_take (i:=4) (v:=.bool x4) rfl (by kernel_rfl) (by kernel_rfl) (by kernel_rfl) (fun _ _ _ h=>h) (Or.inl ⟨by rfl,?y4⟩) hS0 ?r4
    case y4=>
     intro w_ hS_
     skip
     go_simp
     try with_reducible rfl
    simp only[Act.put,List.getElem_toArray,List.getElem_cons_succ,List.getElem_cons_zero,List.setIfInBounds_toArray,List.set_cons_succ,List.set_cons_zero]
    refine wpAnyH_take (i:=5) (v:=.bool x4) rfl (by kernel_rfl) (by kernel_rfl) (by kernel_rfl) (fun _ _ _ h=>h) (Or.inl ⟨by rfl,?y5⟩) hS0 ?r5
    case y5=>
     intro w_ hS_
     skip
     go_simp
     try with_reducible rfl
    simp only[Act.put,List.getElem_toArray,List.getElem_cons_succ,List.getElem_cons_zero,List.setIfInBounds_toArray,List.set_cons_succ,List.set_cons_zero]
    refine wpAnyH_done (by kernel_rfl) ?_ _
    refine NoPanic.normal ?_
    cases x4
    ·go_wp2
     go_ret
     exact⟨by rw[←hR];simp,hb⟩
    ·go_wp2
     go_ret
     exact⟨by rw[←hR];simp,hb⟩
   ·go_wp2_with (fail)
    refine(cS w2).mono ?_
    rintro e_ w3 ⟨rfl,hb1⟩;replace r0:=keep hb1 r0;replace hb:=Below.after hb hb1;clear hb1 cS
    cases x5
    ·have hlt:¬9223372036854775808≤n:=by simpa using hx5
     go_upto_region 6 with(fail)
     have hbd:Below w3.heap.size w3 w3.drew:=below_drN (Below.refl _ _) 1
     have hS0:(fun W_:World=>Bx W_ w.heap.size #[.float .f64 M]) w3.drew:=⟨_,keep hbd r0⟩
     replace hb:=Below.after hb hbd;refine wp_region_noPanic ?_
     refine wp_region_held (S:=fun W_:World=>Bx W_ w.heap.size #[.float .f64 M]) (by kernel_rfl) ?_
     change wpAnyH _ _ _ _ _ _ _ _ (World.drew _)
     clear r0 hbd
     generalize w3.drew=y1 at *
     refine wpAnyH_take (i:=0) (v:=?va) rfl (by kernel_rfl) (by kernel_rfl) (by kernel_rfl) (fun _ _ _ h=>h) (Or.inl ⟨by rfl,?y6⟩) hS0 ?r6
     case y6=>
      intro w_ hS_
      skip
      go_simp
      try with_reducible rfl
     simp only[Act.put,List.getElem_toArray,List.getElem_cons_zero,List.setIfInBounds_toArray,List.set_cons_succ,List.set_cons_zero]
     refine wpAnyH_take (i:=2) (v:=?vb) rfl (by kernel_rfl) (by kernel_rfl) (by kernel_rfl) (fun _ _ _ h=>h) (Or.inl ⟨by rfl,?y7⟩) hS0 ?r7
     case y7=>
      intro w_ hS_
      skip
      go_simp
      try with_reducible rfl
     simp only[Act.put,List.getElem_toArray,List.getElem_cons_succ,List.getElem_cons_zero,List.setIfInBounds_toArray,List.set_cons_succ,List.set_cons_zero]
     refine wpAnyH_take (i:=3) (v:=.float .f64 M) rfl (by kernel_rfl) (by kernel_rfl) (by kernel_rfl) (fun _ _ _ h=>h) (Or.inl ⟨by rfl,?y8⟩) hS0 ?r8
     case y8=>
      intro w_ hS_;obtain⟨_,h_⟩:=hS_;have c_:=cell_of_row _ _ 0 _ _ _ h_;go_simp
      try with_reducible rfl
     simp only[Act.put,List.getElem_toArray,List.getElem_cons_succ,List.getElem_cons_zero,List.setIfInBounds_toArray,List.set_cons_succ,List.set_cons_zero]
     refine wpAnyH_one (k:=1) (fuel:=2) (by kernel_rfl) rfl (by kernel_rfl) (fun K_ hK=>?_)
     refine wp_call_ex (R:=fun u w'=>u=.float .f64 N∧Below y1.heap.size y1 w') (by kernel_rfl) ((cA y1).mono fun e w' h=>⟨_,h.1,rfl,h.2⟩) (fun u y2 hX_=>?_)
     obtain⟨rfl,hb2⟩:=hX_;replace hS0:=hS0.keep hb2;replace hb:=Below.after hb hb2;refine hK _ _ hS0 ?_;simp only[Act.put,List.getElem_toArray,List.getElem_cons_succ,List.getElem_cons_zero,List.setIfInBounds_toArray,List.set_cons_succ,List.set_cons_zero];clear hK hb2 cA
     refine wpAnyH_take (i:=4) (v:=.bool x4) rfl (by kernel_rfl) (by kernel_rfl) (by kernel_rfl) (fun _ _ _ h=>h) (Or.inl ⟨by rfl,?y9⟩) hS0 ?r9
     case y9=>
      intro w_ hS_
      skip
      go_simp
      try with_reducible rfl
     simp only[Act.put,List.getElem_toArray,List.getElem_cons_succ,List.getElem_cons_zero,List.setIfInBounds_toArray,List.set_cons_succ,List.set_cons_zero]
     refine wpAnyH_take (i:=5) (v:=.bool x4) rfl (by kernel_rfl) (by kernel_rfl) (by kernel_rfl) (fun _ _ _ h=>h) (Or.inl ⟨by rfl,?y10⟩) hS0 ?r10
     case y10=>
      intro w_ hS_
      skip
      go_simp
      try with_reducible rfl
     simp only[Act.put,List.getElem_toArray,List.getElem_cons_succ,List.getElem_cons_zero,List.setIfInBounds_toArray,List.set_cons_succ,List.set_cons_zero]
     refine wpAnyH_done (by kernel_rfl) ?_ _
     refine NoPanic.normal ?_
     cases x4
     ·go_wp2
      go_ret
      exact⟨by rw[←hR];simp[hlt],hb⟩
     ·go_wp2
      go_ret
      exact⟨by rw[←hR];simp[hlt],hb⟩
    ·have hle:9223372036854775808≤n:=by simpa using hx5
     go_wp2
     go_ret
     exact⟨by rw[←hR];simp[hle],hb⟩
  ·go_wp2
   go_ret
   exact⟨by rw[←hR];rfl,hb⟩
 ·go_wp2
  go_ret
  exact⟨by rw[←hR];rfl,hb⟩
end Go.Proofs.YtmmlkfkpblokiaaGreatDoor
namespace Go.Proofs.YtmmlkfkpblokiaaGreatDoor
set_option maxRecDepth 100000
open Go Go.RowKit Go.Sort
section
variable (utf : List B → Bool) (flE : Nat → Nat → Int)
end
end Go.Proofs.YtmmlkfkpblokiaaGreatDoor
namespace Go.Proofs.YtmmlkfkpblokiaaGreatDoor
set_option maxRecDepth 100000
open Go Go.RowKit Go.Sort
section
variable (utf : List B → Bool) (flE : Nat → Nat → Int)
end
end Go.Proofs.YtmmlkfkpblokiaaGreatDoor
namespace Go.Proofs.YtmmlkfkpblokiaaGreatDoor
set_option maxRecDepth 100000
open Go Go.RowKit Go.Sort
attribute [local go_sem] setCell_drewN alloc_drewN
def u8l (d:List B):List UInt8:=d.map UInt8.ofBitVec
def utD (d:List B):Bool:=Lib.validD (u8l d)
theorem bys_cell {W:World} {a:Option Addr} {n c:Nat} {d:List B} (h:BysB W (.slice a n c) d) (h0:0<d.length):∃b off,a=some ⟨b,off,none⟩∧n=d.length∧b<W.heap.size∧∀j,j<d.length→W.cell? ⟨b,off+j,none⟩=some (.int .u8 (bv (gb d j))):=by
 obtain⟨⟨ao,cap,e,hl,hc,hz⟩,_⟩:=h
 injection e with e1 e2 e3
 subst e1 e2 e3;have hbl:(bl d).length=d.length:=bl_len d
 obtain⟨b,off,ea,hb,_⟩:=hc 0 (by omega)
 refine⟨b,off,ea,hbl,hb,fun j hj=>?_⟩
 obtain⟨b2,off2,ea2,hb2,h2⟩:=hc j (by omega)
 rw[ea] at ea2
 injection ea2 with ea2
 injection ea2 with q1 q2 _
 subst q1 q2;rw[h2,bl_get];rfl
set_option maxRecDepth 100000 in
set_option maxHeartbeats 8000000 in
theorem a_word8 (x0 x1 x2 x3 x4 x5 x6 x7:Nat) (hx:x0<256∧x1<256∧x2<256∧x3<256∧x4<256∧x5<256∧x6<256∧x7<256) (b off n c:Nat) (w:World) (hn:8≤n) (hS:(fun W_:World=>W_.cell? ⟨b,off,none⟩=some (.int .u8 (x0:Int))∧W_.cell? ⟨b,off+1,none⟩=some (.int .u8 (x1:Int))∧W_.cell? ⟨b,off+2,none⟩=some (.int .u8 (x2:Int))∧W_.cell? ⟨b,off+3,none⟩=some (.int .u8 (x3:Int))∧W_.cell? ⟨b,off+4,none⟩=some (.int .u8 (x4:Int))∧W_.cell? ⟨b,off+5,none⟩=some (.int .u8 (x5:Int))∧W_.cell? ⟨b,off+6,none⟩=some (.int .u8 (x6:Int))∧W_.cell? ⟨b,off+7,none⟩=some (.int .u8 (x7:Int))) w):
 Calls Tryz.prog 139 #[.slice (some ⟨b,off,none⟩) n c] w fun e w'=>e=.returned (.int .u64 ((x0+x1*256+x2*65536+x3*16777216+x4*4294967296+x5*1099511627776+x6*281474976710656+x7*72057594037927936:Nat):Int))∧∃q,w'=w.drewN q:=by
 obtain⟨h0,h1,h2,h3,h4,h5,h6,h7⟩:=hx
 have q0:(0:Int)<(n:Int):=by omega
 have q1:(1:Int)<(n:Int):=by omega
 have q2:(2:Int)<(n:Int):=by omega
 have q3:(3:Int)<(n:Int):=by omega
 have q4:(4:Int)<(n:Int):=by omega
 have q5:(5:Int)<(n:Int):=by omega
 have q6:(6:Int)<(n:Int):=by omega
 have q7:(7:Int)<(n:Int):=by omega
 have p0:0<n:=by omega
 have p1:1<n:=by omega
 have p2:2<n:=by omega
 have p3:3<n:=by omega
 have p4:4<n:=by omega
 have p5:5<n:=by omega
 have p6:6<n:=by omega
 have p7:7<n:=by omega
 go_enter Tryz.func139,Tryz.ntmps139
 go_upto_region 2 with(fail)
 have hbd:∃q,w.drew=w.drewN q:=⟨1,rfl⟩
 have hS0:(fun W_:World=>W_.cell? ⟨b,off,none⟩=some (.int .u8 (x0:Int))∧W_.cell? ⟨b,off+1,none⟩=some (.int .u8 (x1:Int))∧W_.cell? ⟨b,off+2,none⟩=some (.int .u8 (x2:Int))∧W_.cell? ⟨b,off+3,none⟩=some (.int .u8 (x3:Int))∧W_.cell? ⟨b,off+4,none⟩=some (.int .u8 (x4:Int))∧W_.cell? ⟨b,off+5,none⟩=some (.int .u8 (x5:Int))∧W_.cell? ⟨b,off+6,none⟩=some (.int .u8 (x6:Int))∧W_.cell? ⟨b,off+7,none⟩=some (.int .u8 (x7:Int))) w.drew:=hS
 refine wp_region_noPanic ?_
 refine wp_region_held (S:=fun W_:World=>W_.cell? ⟨b,off,none⟩=some (.int .u8 (x0:Int))∧W_.cell? ⟨b,off+1,none⟩=some (.int .u8 (x1:Int))∧W_.cell? ⟨b,off+2,none⟩=some (.int .u8 (x2:Int))∧W_.cell? ⟨b,off+3,none⟩=some (.int .u8 (x3:Int))∧W_.cell? ⟨b,off+4,none⟩=some (.int .u8 (x4:Int))∧W_.cell? ⟨b,off+5,none⟩=some (.int .u8 (x5:Int))∧W_.cell? ⟨b,off+6,none⟩=some (.int .u8 (x6:Int))∧W_.cell? ⟨b,off+7,none⟩=some (.int .u8 (x7:Int))) (by kernel_rfl) ?_
 change wpAnyH _ _ _ _ _ _ _ _ (World.drew _)
 generalize w.drew=w1 at *
 refine wpAnyH_take (i:=0) (v:=?v0) rfl (by kernel_rfl) (by kernel_rfl) (by kernel_rfl) (fun _ _ _ h=>h) (Or.inl ⟨by rfl,?y0⟩) hS0 ?r0
 case y0=>
  intro w_ hS_
  skip
  go_simp
  try with_reducible rfl
 simp only[Act.put,List.getElem_toArray,List.getElem_cons_zero,List.setIfInBounds_toArray,List.set_cons_succ,List.set_cons_zero]
 refine wpAnyH_take (i:=1) (v:=?v1) rfl (by kernel_rfl) (by kernel_rfl) (by kernel_rfl) (fun _ _ _ h=>h) (Or.inl ⟨by rfl,?y1⟩) hS0 ?r1
 case y1=>
  intro w_ hS_
  skip
  go_simp
  try with_reducible rfl
 simp only[Act.put,List.getElem_toArray,List.getElem_cons_succ,List.getElem_cons_zero,List.setIfInBounds_toArray,List.set_cons_succ,List.set_cons_zero]
 refine wpAnyH_take (i:=2) (v:=.int .u8 (x0:Int)) rfl (by kernel_rfl) (by kernel_rfl) (by kernel_rfl) (fun _ _ _ h=>h) (Or.inl ⟨by rfl,?y2⟩) hS0 ?r2
 case y2=>
  intro w_ hS_;have c_:=hS_.1;go_simp
  try with_reducible rfl
 simp only[Act.put,List.getElem_toArray,List.getElem_cons_succ,List.getElem_cons_zero,List.setIfInBounds_toArray,List.set_cons_succ,List.set_cons_zero]
 refine wpAnyH_take (i:=3) (v:=?v3) rfl (by kernel_rfl) (by kernel_rfl) (by kernel_rfl) (fun _ _ _ h=>h) (Or.inl ⟨by rfl,?y3⟩) hS0 ?r3
 case y3=>
  intro w_ hS_
  skip
  go_simp
  try with_reducible rfl
 simp only[Act.put,List.getElem_toArray,List.getElem_cons_succ,List.getElem_cons_zero,List.setIfInBounds_toArray,List.set_cons_succ,List.set_cons_zero]
 refine wpAnyH_take (i:=4) (v:=?v4) rfl (by kernel_rfl) (by kernel_rfl) (by kernel_rfl) (fun _ _ _ h=>h) (Or.inl ⟨by rfl,?y4⟩) hS0 ?r4
 case y4=>
  intro w_ hS_
  skip
  go_simp
  try with_reducible rfl
 simp only[Act.put,List.getElem_toArray,List.getElem_cons_succ,List.getElem_cons_zero,List.setIfInBounds_toArray,List.set_cons_succ,List.set_cons_zero]
 refine wpAnyH_take (i:=5) (v:=?v5) rfl (by kernel_rfl) (by kernel_rfl) (by kernel_rfl) (fun _ _ _ h=>h) (Or.inl ⟨by rfl,?y5⟩) hS0 ?r5
 case y5=>
  intro w_ hS_
  skip
  go_simp
  try with_reducible rfl
 simp only[Act.put,List.getElem_toArray,List.getElem_cons_succ,List.getElem_cons_zero,List.setIfInBounds_toArray,List.set_cons_succ,List.set_cons_zero]
 refine wpAnyH_take (i:=6) (v:=.int .u8 (x1:Int)) rfl (by kernel_rfl) (by kernel_rfl) (by kernel_rfl) (fun _ _ _ h=>h) (Or.inl ⟨by rfl,?y6⟩) hS0 ?r6
 case y6=>
  intro w_ hS_;have c_:=hS_.2.1;go_simp
  try with_reducible rfl
 simp only[Act.put,List.getElem_toArray,List.getElem_cons_succ,List.getElem_cons_zero,List.setIfInBounds_toArray,List.set_cons_succ,List.set_cons_zero]
 refine wpAnyH_take (i:=7) (v:=?v7) rfl (by kernel_rfl) (by kernel_rfl) (by kernel_rfl) (fun _ _ _ h=>h) (Or.inl ⟨by rfl,?y7⟩) hS0 ?r7
 case y7=>
  intro w_ hS_
  skip
  go_simp
  try with_reducible rfl
 simp only[Act.put,List.getElem_toArray,List.getElem_cons_succ,List.getElem_cons_zero,List.setIfInBounds_toArray,List.set_cons_succ,List.set_cons_zero]
 refine wpAnyH_take (i:=8) (v:=?v8) rfl (by kernel_rfl) (by kernel_rfl) (by kernel_rfl) (fun _ _ _ h=>h) (Or.inl ⟨by rfl,?y8⟩) hS0 ?r8
 case y8=>
  intro w_ hS_
  skip
  go_simp
  try with_reducible rfl
 simp only[Act.put,List.getElem_toArray,List.getElem_cons_succ,List.getElem_cons_zero,List.setIfInBounds_toArray,List.set_cons_succ,List.set_cons_zero]
 refine wpAnyH_take (i:=9) (v:=?v9) rfl (by kernel_rfl) (by kernel_rfl) (by kernel_rfl) (fun _ _ _ h=>h) (Or.inl ⟨by rfl,?y9⟩) hS0 ?r9
 case y9=>
  intro w_ hS_
  skip
  go_simp
  try with_reducible rfl
 simp only[Act.put,List.getElem_toArray,List.getElem_cons_succ,List.getElem_cons_zero,List.setIfInBounds_toArray,List.set_cons_succ,List.set_cons_zero]
 refine wpAnyH_take (i:=10) (v:=?v10) rfl (by kernel_rfl) (by kernel_rfl) (by kernel_rfl) (fun _ _ _ h=>h) (Or.inl ⟨by rfl,?y10⟩) hS0 ?r10
 case y10=>
  intro w_ hS_
  skip
  go_simp
  try with_reducible rfl
 simp only[Act.put,List.getElem_toArray,List.getElem_cons_succ,List.getElem_cons_zero,List.setIfInBounds_toArray,List.set_cons_succ,List.set_cons_zero]
 refine wpAnyH_take (i:=11) (v:=?v11) rfl (by kernel_rfl) (by kernel_rfl) (by kernel_rfl) (fun _ _ _ h=>h) (Or.inl ⟨by rfl,?y11⟩) hS0 ?r11
 case y11=>
  intro w_ hS_
  skip
  go_simp
  try with_reducible rfl
 simp only[Act.put,List.getElem_toArray,List.getElem_cons_succ,List.getElem_cons_zero,List.setIfInBounds_toArray,List.set_cons_succ,List.set_cons_zero]
 refine wpAnyH_take (i:=12) (v:=.int .u8 (x2:Int)) rfl (by kernel_rfl) (by kernel_rfl) (by kernel_rfl) (fun _ _ _ h=>h) (Or.inl ⟨by rfl,?y12⟩) hS0 ?r12
 case y12=>
  intro w_ hS_;have c_:=hS_.2.2.1;go_simp
  try with_reducible rfl
 simp only[Act.put,List.getElem_toArray,List.getElem_cons_succ,List.getElem_cons_zero,List.setIfInBounds_toArray,List.set_cons_succ,List.set_cons_zero]
 refine wpAnyH_take (i:=13) (v:=?v13) rfl (by kernel_rfl) (by kernel_rfl) (by kernel_rfl) (fun _ _ _ h=>h) (Or.inl ⟨by rfl,?y13⟩) hS0 ?r13
 case y13=>
  intro w_ hS_
  skip
  go_simp
  try with_reducible rfl
 simp only[Act.put,List.getElem_toArray,List.getElem_cons_succ,List.getElem_cons_zero,List.setIfInBounds_toArray,List.set_cons_succ,List.set_cons_zero]
 refine wpAnyH_take (i:=14) (v:=?v14) rfl (by kernel_rfl) (by kernel_rfl) (by kernel_rfl) (fun _ _ _ h=>h) (Or.inl ⟨by rfl,?y14⟩) hS0 ?r14
 case y14=>
  intro w_ hS_
  skip
  go_simp
  try with_reducible rfl
 simp only[Act.put,List.getElem_toArray,List.getElem_cons_succ,List.getElem_cons_zero,List.setIfInBounds_toArray,List.set_cons_succ,List.set_cons_zero]
 refine wpAnyH_take (i:=15) (v:=?v15) rfl (by kernel_rfl) (by kernel_rfl) (by kernel_rfl) (fun _ _ _ h=>h) (Or.inl ⟨by rfl,?y15⟩) hS0 ?r15
 case y15=>
  intro w_ hS_
  skip
  go_simp
  try with_reducible rfl
 simp only[Act.put,List.getElem_toArray,List.getElem_cons_succ,List.getElem_cons_zero,List.setIfInBounds_toArray,List.set_cons_succ,List.set_cons_zero]
 refine wpAnyH_take (i:=16) (v:=?v16) rfl (by kernel_rfl) (by kernel_rfl) (by kernel_rfl) (fun _ _ _ h=>h) (Or.inl ⟨by rfl,?y16⟩) hS0 ?r16
 case y16=>
  intro w_ hS_
  skip
  go_simp
  try with_reducible rfl
 simp only[Act.put,List.getElem_toArray,List.getElem_cons_succ,List.getElem_cons_zero,List.setIfInBounds_toArray,List.set_cons_succ,List.set_cons_zero]
 refine wpAnyH_take (i:=17) (v:=?v17) rfl (by kernel_rfl) (by kernel_rfl) (by kernel_rfl) (fun _ _ _ h=>h) (Or.inl ⟨by rfl,?y17⟩) hS0 ?r17
 case y17=>
  intro w_ hS_
  skip
  go_simp
  try with_reducible rfl
 simp only[Act.put,List.getElem_toArray,List.getElem_cons_succ,List.getElem_cons_zero,List.setIfInBounds_toArray,List.set_cons_succ,List.set_cons_zero]
 refine wpAnyH_take (i:=18) (v:=.int .u8 (x3:Int)) rfl (by kernel_rfl) (by kernel_rfl) (by kernel_rfl) (fun _ _ _ h=>h) (Or.inl ⟨by rfl,?y18⟩) hS0 ?r18
 case y18=>
  intro w_ hS_;have c_:=hS_.2.2.2.1;go_simp
  try with_reducible rfl
 simp only[Act.put,List.getElem_toArray,List.getElem_cons_succ,List.getElem_cons_zero,List.setIfInBounds_toArray,List.set_cons_succ,List.set_cons_zero]
 refine wpAnyH_take (i:=19) (v:=?v19) rfl (by kernel_rfl) (by kernel_rfl) (by kernel_rfl) (fun _ _ _ h=>h) (Or.inl ⟨by rfl,?y19⟩) hS0 ?r19
 case y19=>
  intro w_ hS_
  skip
  go_simp
  try with_reducible rfl
 simp only[Act.put,List.getElem_toArray,List.getElem_cons_succ,List.getElem_cons_zero,List.setIfInBounds_toArray,List.set_cons_succ,List.set_cons_zero]
 refine wpAnyH_take (i:=20) (v:=?v20) rfl (by kernel_rfl) (by kernel_rfl) (by kernel_rfl) (fun _ _ _ h=>h) (Or.inl ⟨by rfl,?y20⟩) hS0 ?r20
 case y20=>
  intro w_ hS_
  skip
  go_simp
  try with_reducible rfl
 simp only[Act.put,List.getElem_toArray,List.getElem_cons_succ,List.getElem_cons_zero,List.setIfInBounds_toArray,List.set_cons_succ,List.set_cons_zero]
 refine wpAnyH_take (i:=21) (v:=?v21) rfl (by kernel_rfl) (by kernel_rfl) (by kernel_rfl) (fun _ _ _ h=>h) (Or.inl ⟨by rfl,?y21⟩) hS0 ?r21
 case y21=>
  intro w_ hS_
  skip
  go_simp
  try with_reducible rfl
 simp only[Act.put,List.getElem_toArray,List.getElem_cons_succ,List.getElem_cons_zero,List.setIfInBounds_toArray,List.set_cons_succ,List.set_cons_zero]
 refine wpAnyH_take (i:=22) (v:=?v22) rfl (by kernel_rfl) (by kernel_rfl) (by kernel_rfl) (fun _ _ _ h=>h) (Or.inl ⟨by rfl,?y22⟩) hS0 ?r22
 case y22=>
  intro w_ hS_
  skip
  go_simp
  try with_reducible rfl
 simp only[Act.put,List.getElem_toArray,List.getElem_cons_succ,List.getElem_cons_zero,List.setIfInBounds_toArray,List.set_cons_succ,List.set_cons_zero]
 refine wpAnyH_take (i:=23) (v:=?v23) rfl (by kernel_rfl) (by kernel_rfl) (by kernel_rfl) (fun _ _ _ h=>h) (Or.inl ⟨by rfl,?y23⟩) hS0 ?r23
 case y23=>
  intro w_ hS_
  skip
  go_simp
  try with_reducible rfl
 simp only[Act.put,List.getElem_toArray,List.getElem_cons_succ,List.getElem_cons_zero,List.setIfInBounds_toArray,List.set_cons_succ,List.set_cons_zero]
 refine wpAnyH_take (i:=24) (v:=.int .u8 (x4:Int)) rfl (by kernel_rfl) (by kernel_rfl) (by kernel_rfl) (fun _ _ _ h=>h) (Or.inl ⟨by rfl,?y24⟩) hS0 ?r24
 case y24=>
  intro w_ hS_;have c_:=hS_.2.2.2.2.1;go_simp
  try with_reducible rfl
 simp only[Act.put,List.getElem_toArray,List.getElem_cons_succ,List.getElem_cons_zero,List.setIfInBounds_toArray,List.set_cons_succ,List.set_cons_zero]
 refine wpAnyH_take (i:=25) (v:=?v25) rfl (by kernel_rfl) (by kernel_rfl) (by kernel_rfl) (fun _ _ _ h=>h) (Or.inl ⟨by rfl,?y25⟩) hS0 ?r25
 case y25=>
  intro w_ hS_
  skip
  go_simp
  try with_reducible rfl
 simp only[Act.put,List.getElem_toArray,List.getElem_cons_succ,List.getElem_cons_zero,List.setIfInBounds_toArray,List.set_cons_succ,List.set_cons_zero]
 refine wpAnyH_take (i:=26) (v:=?v26) rfl (by kernel_rfl) (by kernel_rfl) (by kernel_rfl) (fun _ _ _ h=>h) (Or.inl ⟨by rfl,?y26⟩) hS0 ?r26
 case y26=>
  intro w_ hS_
  skip
  go_simp
  try with_reducible rfl
 simp only[Act.put,List.getElem_toArray,List.getElem_cons_succ,List.getElem_cons_zero,List.setIfInBounds_toArray,List.set_cons_succ,List.set_cons_zero]
 refine wpAnyH_take (i:=27) (v:=?v27) rfl (by kernel_rfl) (by kernel_rfl) (by kernel_rfl) (fun _ _ _ h=>h) (Or.inl ⟨by rfl,?y27⟩) hS0 ?r27
 case y27=>
  intro w_ hS_
  skip
  go_simp
  try with_reducible rfl
 simp only[Act.put,List.getElem_toArray,List.getElem_cons_succ,List.getElem_cons_zero,List.setIfInBounds_toArray,List.set_cons_succ,List.set_cons_zero]
 refine wpAnyH_take (i:=28) (v:=?v28) rfl (by kernel_rfl) (by kernel_rfl) (by kernel_rfl) (fun _ _ _ h=>h) (Or.inl ⟨by rfl,?y28⟩) hS0 ?r28
 case y28=>
  intro w_ hS_
  skip
  go_simp
  try with_reducible rfl
 simp only[Act.put,List.getElem_toArray,List.getElem_cons_succ,List.getElem_cons_zero,List.setIfInBounds_toArray,List.set_cons_succ,List.set_cons_zero]
 refine wpAnyH_take (i:=29) (v:=?v29) rfl (by kernel_rfl) (by kernel_rfl) (by kernel_rfl) (fun _ _ _ h=>h) (Or.inl ⟨by rfl,?y29⟩) hS0 ?r29
 case y29=>
  intro w_ hS_
  skip
  go_simp
  try with_reducible rfl
 simp only[Act.put,List.getElem_toArray,List.getElem_cons_succ,List.getElem_cons_zero,List.setIfInBounds_toArray,List.set_cons_succ,List.set_cons_zero]
 refine wpAnyH_take (i:=30) (v:=.int .u8 (x5:Int)) rfl (by kernel_rfl) (by kernel_rfl) (by kernel_rfl) (fun _ _ _ h=>h) (Or.inl ⟨by rfl,?y30⟩) hS0 ?r30
 case y30=>
  intro w_ hS_;have c_:=hS_.2.2.2.2.2.1;go_simp
  try with_reducible rfl
 simp only[Act.put,List.getElem_toArray,List.getElem_cons_succ,List.getElem_cons_zero,List.setIfInBounds_toArray,List.set_cons_succ,List.set_cons_zero]
 refine wpAnyH_take (i:=31) (v:=?v31) rfl (by kernel_rfl) (by kernel_rfl) (by kernel_rfl) (fun _ _ _ h=>h) (Or.inl ⟨by rfl,?y31⟩) hS0 ?r31
 case y31=>
  intro w_ hS_
  skip
  go_simp
  try with_reducible rfl
 simp only[Act.put,List.getElem_toArray,List.getElem_cons_succ,List.getElem_cons_zero,List.setIfInBounds_toArray,List.set_cons_succ,List.set_cons_zero]
 refine wpAnyH_take (i:=32) (v:=?v32) rfl (by kernel_rfl) (by kernel_rfl) (by kernel_rfl) (fun _ _ _ h=>h) (Or.inl ⟨by rfl,?y32⟩) hS0 ?r32
 case y32=>
  intro w_ hS_
  skip
  go_simp
  try with_reducible rfl
 simp only[Act.put,List.getElem_toArray,List.getElem_cons_succ,List.getElem_cons_zero,List.setIfInBounds_toArray,List.set_cons_succ,List.set_cons_zero]
 refine wpAnyH_take (i:=33) (v:=?v33) rfl (by kernel_rfl) (by kernel_rfl) (by kernel_rfl) (fun _ _ _ h=>h) (Or.inl ⟨by rfl,?y33⟩) hS0 ?r33
 case y33=>
  intro w_ hS_
  skip
  go_simp
  try with_reducible rfl
 simp only[Act.put,List.getElem_toArray,List.getElem_cons_succ,List.getElem_cons_zero,List.setIfInBounds_toArray,List.set_cons_succ,List.set_cons_zero]
 refine wpAnyH_take (i:=34) (v:=?v34) rfl (by kernel_rfl) (by kernel_rfl) (by kernel_rfl) (fun _ _ _ h=>h) (Or.inl ⟨by rfl,?y34⟩) hS0 ?r34
 case y34=>
  intro w_ hS_
  skip
  go_simp
  try with_reducible rfl
 simp only[Act.put,List.getElem_toArray,List.getElem_cons_succ,List.getElem_cons_zero,List.setIfInBounds_toArray,List.set_cons_succ,List.set_cons_zero]
 refine wpAnyH_take (i:=35) (v:=?v35) rfl (by kernel_rfl) (by kernel_rfl) (by kernel_rfl) (fun _ _ _ h=>h) (Or.inl ⟨by rfl,?y35⟩) hS0 ?r35
 case y35=>
  intro w_ hS_
  skip
  go_simp
  try with_reducible rfl
 simp only[Act.put,List.getElem_toArray,List.getElem_cons_succ,List.getElem_cons_zero,List.setIfInBounds_toArray,List.set_cons_succ,List.set_cons_zero]
 refine wpAnyH_take (i:=36) (v:=.int .u8 (x6:Int)) rfl (by kernel_rfl) (by kernel_rfl) (by kernel_rfl) (fun _ _ _ h=>h) (Or.inl ⟨by rfl,?y36⟩) hS0 ?r36
 case y36=>
  intro w_ hS_;have c_:=hS_.2.2.2.2.2.2.1;go_simp
  try with_reducible rfl
 simp only[Act.put,List.getElem_toArray,List.getElem_cons_succ,List.getElem_cons_zero,List.setIfInBounds_toArray,List.set_cons_succ,List.set_cons_zero]
 refine wpAnyH_take (i:=37) (v:=?v37) rfl (by kernel_rfl) (by kernel_rfl) (by kernel_rfl) (fun _ _ _ h=>h) (Or.inl ⟨by rfl,?y37⟩) hS0 ?r37
 case y37=>
  intro w_ hS_
  skip
  go_simp
  try with_reducible rfl
 simp only[Act.put,List.getElem_toArray,List.getElem_cons_succ,List.getElem_cons_zero,List.setIfInBounds_toArray,List.set_cons_succ,List.set_cons_zero]
 refine wpAnyH_take (i:=38) (v:=?v38) rfl (by kernel_rfl) (by kernel_rfl) (by kernel_rfl) (fun _ _ _ h=>h) (Or.inl ⟨by rfl,?y38⟩) hS0 ?r38
 case y38=>
  intro w_ hS_
  skip
  go_simp
  try with_reducible rfl
 simp only[Act.put,List.getElem_toArray,List.getElem_cons_succ,List.getElem_cons_zero,List.setIfInBounds_toArray,List.set_cons_succ,List.set_cons_zero]
 refine wpAnyH_take (i:=39) (v:=?v39) rfl (by kernel_rfl) (by kernel_rfl) (by kernel_rfl) (fun _ _ _ h=>h) (Or.inl ⟨by rfl,?y39⟩) hS0 ?r39
 case y39=>
  intro w_ hS_
  skip
  go_simp
  try with_reducible rfl
 simp only[Act.put,List.getElem_toArray,List.getElem_cons_succ,List.getElem_cons_zero,List.setIfInBounds_toArray,List.set_cons_succ,List.set_cons_zero]
 refine wpAnyH_take (i:=40) (v:=?v40) rfl (by kernel_rfl) (by kernel_rfl) (by kernel_rfl) (fun _ _ _ h=>h) (Or.inl ⟨by rfl,?y40⟩) hS0 ?r40
 case y40=>
  intro w_ hS_
  skip
  go_simp
  try with_reducible rfl
 simp only[Act.put,List.getElem_toArray,List.getElem_cons_succ,List.getElem_cons_zero,List.setIfInBounds_toArray,List.set_cons_succ,List.set_cons_zero]
 refine wpAnyH_take (i:=41) (v:=?v41) rfl (by kernel_rfl) (by kernel_rfl) (by kernel_rfl) (fun _ _ _ h=>h) (Or.inl ⟨by rfl,?y41⟩) hS0 ?r41
 case y41=>
  intro w_ hS_
  skip
  go_simp
  try with_reducible rfl
 simp only[Act.put,List.getElem_toArray,List.getElem_cons_succ,List.getElem_cons_zero,List.setIfInBounds_toArray,List.set_cons_succ,List.set_cons_zero]
 refine wpAnyH_take (i:=42) (v:=.int .u8 (x7:Int)) rfl (by kernel_rfl) (by kernel_rfl) (by kernel_rfl) (fun _ _ _ h=>h) (Or.inl ⟨by rfl,?y42⟩) hS0 ?r42
 case y42=>
  intro w_ hS_;have c_:=hS_.2.2.2.2.2.2.2;go_simp
  try with_reducible rfl
 simp only[Act.put,List.getElem_toArray,List.getElem_cons_succ,List.getElem_cons_zero,List.setIfInBounds_toArray,List.set_cons_succ,List.set_cons_zero]
 refine wpAnyH_take (i:=43) (v:=?v43) rfl (by kernel_rfl) (by kernel_rfl) (by kernel_rfl) (fun _ _ _ h=>h) (Or.inl ⟨by rfl,?y43⟩) hS0 ?r43
 case y43=>
  intro w_ hS_
  skip
  go_simp
  try with_reducible rfl
 simp only[Act.put,List.getElem_toArray,List.getElem_cons_succ,List.getElem_cons_zero,List.setIfInBounds_toArray,List.set_cons_succ,List.set_cons_zero]
 refine wpAnyH_take (i:=44) (v:=?v44) rfl (by kernel_rfl) (by kernel_rfl) (by kernel_rfl) (fun _ _ _ h=>h) (Or.inl ⟨by rfl,?y44⟩) hS0 ?r44
 case y44=>
  intro w_ hS_
  skip
  go_simp
  try with_reducible rfl
 simp only[Act.put,List.getElem_toArray,List.getElem_cons_succ,List.getElem_cons_zero,List.setIfInBounds_toArray,List.set_cons_succ,List.set_cons_zero]
 refine wpAnyH_take (i:=45) (v:=?v45) rfl (by kernel_rfl) (by kernel_rfl) (by kernel_rfl) (fun _ _ _ h=>h) (Or.inl ⟨by rfl,?y45⟩) hS0 ?r45
 case y45=>
  intro w_ hS_
  skip
  go_simp
  try with_reducible rfl
 simp only[Act.put,List.getElem_toArray,List.getElem_cons_succ,List.getElem_cons_zero,List.setIfInBounds_toArray,List.set_cons_succ,List.set_cons_zero]
 refine wpAnyH_take (i:=46) (v:=?v46) rfl (by kernel_rfl) (by kernel_rfl) (by kernel_rfl) (fun _ _ _ h=>h) (Or.inl ⟨by rfl,?y46⟩) hS0 ?r46
 case y46=>
  intro w_ hS_
  skip
  go_simp
  try with_reducible rfl
 simp only[Act.put,List.getElem_toArray,List.getElem_cons_succ,List.getElem_cons_zero,List.setIfInBounds_toArray,List.set_cons_succ,List.set_cons_zero]
 refine wpAnyH_done (by kernel_rfl) ?_ _
 refine NoPanic.normal ?_
 go_wp2
 go_ret;refine⟨congrArg Ending.returned (congrArg (Value.int IntKind.u64) (?_:(_:Int)=_)),hbd⟩;clear hS hS0 hbd
 rw[show IntKind.wrap .u64 (x0:Int)=(x0:Int) from u64_wrap_id _ (by omega) (by omega)]
 rw[show IntKind.wrap .u64 (x1:Int)=(x1:Int) from u64_wrap_id _ (by omega) (by omega)]
 rw[show IntKind.wrap .u64 (x2:Int)=(x2:Int) from u64_wrap_id _ (by omega) (by omega)]
 rw[show IntKind.wrap .u64 (x3:Int)=(x3:Int) from u64_wrap_id _ (by omega) (by omega)]
 rw[show IntKind.wrap .u64 (x4:Int)=(x4:Int) from u64_wrap_id _ (by omega) (by omega)]
 rw[show IntKind.wrap .u64 (x5:Int)=(x5:Int) from u64_wrap_id _ (by omega) (by omega)]
 rw[show IntKind.wrap .u64 (x6:Int)=(x6:Int) from u64_wrap_id _ (by omega) (by omega)]
 rw[show IntKind.wrap .u64 (x7:Int)=(x7:Int) from u64_wrap_id _ (by omega) (by omega)]
 rw[show IntKind.wrap .u64 ((x1:Int)*256)=(x1:Int)*256 from u64_wrap_id _ (by omega) (by omega)]
 rw[show IntKind.wrap .u64 ((x2:Int)*65536)=(x2:Int)*65536 from u64_wrap_id _ (by omega) (by omega)]
 rw[show IntKind.wrap .u64 ((x3:Int)*16777216)=(x3:Int)*16777216 from u64_wrap_id _ (by omega) (by omega)]
 rw[show IntKind.wrap .u64 ((x4:Int)*4294967296)=(x4:Int)*4294967296 from u64_wrap_id _ (by omega) (by omega)]
 rw[show IntKind.wrap .u64 ((x5:Int)*1099511627776)=(x5:Int)*1099511627776 from u64_wrap_id _ (by omega) (by omega)]
 rw[show IntKind.wrap .u64 ((x6:Int)*281474976710656)=(x6:Int)*281474976710656 from u64_wrap_id _ (by omega) (by omega)]
 rw[show IntKind.wrap .u64 ((x7:Int)*72057594037927936)=(x7:Int)*72057594037927936 from u64_wrap_id _ (by omega) (by omega)]
 rw[show bits .or .u64 ((x0:Int)) ((x1:Int)*256)=(x0:Int)+(x1:Int)*256 by apply u64_or8<;>omega]
 rw[show bits .or .u64 ((x0:Int)+(x1:Int)*256) ((x2:Int)*65536)=(x0:Int)+(x1:Int)*256+(x2:Int)*65536 by apply u64_or16<;>omega]
 rw[show bits .or .u64 ((x0:Int)+(x1:Int)*256+(x2:Int)*65536) ((x3:Int)*16777216)=(x0:Int)+(x1:Int)*256+(x2:Int)*65536+(x3:Int)*16777216 by apply u64_or24<;>omega]
 rw[show bits .or .u64 ((x0:Int)+(x1:Int)*256+(x2:Int)*65536+(x3:Int)*16777216) ((x4:Int)*4294967296)=(x0:Int)+(x1:Int)*256+(x2:Int)*65536+(x3:Int)*16777216+(x4:Int)*4294967296 by apply u64_or32<;>omega]
 rw[show bits .or .u64 ((x0:Int)+(x1:Int)*256+(x2:Int)*65536+(x3:Int)*16777216+(x4:Int)*4294967296) ((x5:Int)*1099511627776)=(x0:Int)+(x1:Int)*256+(x2:Int)*65536+(x3:Int)*16777216+(x4:Int)*4294967296+(x5:Int)*1099511627776 by apply u64_or40<;>omega]
 rw[show bits .or .u64 ((x0:Int)+(x1:Int)*256+(x2:Int)*65536+(x3:Int)*16777216+(x4:Int)*4294967296+(x5:Int)*1099511627776) ((x6:Int)*281474976710656)=(x0:Int)+(x1:Int)*256+(x2:Int)*65536+(x3:Int)*16777216+(x4:Int)*4294967296+(x5:Int)*1099511627776+(x6:Int)*281474976710656 by apply u64_or48<;>omega]
 rw[show bits .or .u64 ((x0:Int)+(x1:Int)*256+(x2:Int)*65536+(x3:Int)*16777216+(x4:Int)*4294967296+(x5:Int)*1099511627776+(x6:Int)*281474976710656) ((x7:Int)*72057594037927936)=(x0:Int)+(x1:Int)*256+(x2:Int)*65536+(x3:Int)*16777216+(x4:Int)*4294967296+(x5:Int)*1099511627776+(x6:Int)*281474976710656+(x7:Int)*72057594037927936 by apply u64_or56<;>omega]
 clear q0 q1 q2 q3 q4 q5 q6 q7 p0 p1 p2 p3 p4 p5 p6 p7 h0 h1 h2 h3 h4 h5 h6 h7 hn;omega
end Go.Proofs.YtmmlkfkpblokiaaGreatDoor
namespace Go.Proofs.YtmmlkfkpblokiaaGreatDoor
set_option maxRecDepth 100000
open Go Go.RowKit Go.Sort
def gN (d:List B) (i:Nat):Nat:=(d.getD i 0).toNat
theorem gN_lt (d:List B) (i:Nat):gN d i<256:=(d.getD i 0).isLt
theorem gN_u8 (d:List B) (i:Nat):((u8l d).getD i 0).toNat=gN d i:=by
 unfold u8l gN;rw[List.getD_eq_getElem?_getD,List.getD_eq_getElem?_getD,List.getElem?_map]
 cases d[i]? <;>rfl
theorem yu8l_drop (d:List B) (k:Nat):(u8l d).drop k=u8l (d.drop k):=by unfold u8l;rw[List.map_drop]
theorem yu8l_ne {d:List B} (h:d≠[]):u8l d≠[]:=by
 cases d with
 |nil=>exact absurd rfl h
 |cons x t=>unfold u8l;simp
theorem yutD_1 {d:List B} (h:d≠[]) (h0:gN d 0<128):utD d=utD (d.drop 1):=by
 cases d with
 |nil=>exact absurd rfl h
 |cons x t=>exact Lib.validD_cons (UInt8.ofBitVec x) (u8l t) h0
theorem yutD_lead {d:List B} (h:d≠[]) (h0:128≤gN d 0):utD d=match Lib.checkN d.length (gN d 1) (gN d 2) (gN d 3) (Lib.firstT (gN d 0)%8) (Lib.accLo (Lib.firstT (gN d 0)/16)) (Lib.accHi (Lib.firstT (gN d 0)/16)) with
 |none=>false
 |some k=>utD (d.drop k):=by
 have e:=Lib.validD_lead (u8l d) (yu8l_ne h) (by rw[gN_u8];exact h0)
 rw[gN_u8,gN_u8,gN_u8,gN_u8,show(u8l d).length=d.length from by unfold u8l;simp] at e
 unfold utD;rw[e]
 cases Lib.checkN d.length (gN d 1) (gN d 2) (gN d 3) (Lib.firstT (gN d 0)%8) (Lib.accLo (Lib.firstT (gN d 0)/16)) (Lib.accHi (Lib.firstT (gN d 0)/16)) with
 |none=>rfl
 |some k=>simp only[yu8l_drop]
theorem yutD_x {d:List B} (h:d≠[]) (h0:128≤gN d 0) (h1:gN d 0<192∨248≤gN d 0):utD d=false:=by
 rw[yutD_lead h h0]
 have hf:Lib.firstT (gN d 0)=241:=by
  unfold Lib.firstT
  repeat' split
  all_goals omega
 rw[hf];rfl
theorem yutD_of {d:List B} (h:d≠[]) (h0:128≤gN d 0) (C:Prop) [Decidable C] {k:Nat} (hk:Lib.checkN d.length (gN d 1) (gN d 2) (gN d 3) (Lib.firstT (gN d 0)%8) (Lib.accLo (Lib.firstT (gN d 0)/16)) (Lib.accHi (Lib.firstT (gN d 0)/16))=if C then none else some k):utD d=if C then false else utD (d.drop k):=by
 rw[yutD_lead h h0,hk]
 by_cases q:C
 ·rw[if_pos q,if_pos q]
 ·rw[if_neg q,if_neg q]
theorem ck_2 (d:List B) (fl lo hi:Nat) (C:Prop) [Decidable C] (e1:Lib.firstT (gN d 0)=fl) (e2:fl%8=2) (e3:Lib.accLo (fl/16)=lo) (e4:Lib.accHi (fl/16)=hi) (hiff:(d.length<2∨gN d 1<lo∨hi<gN d 1)↔C):Lib.checkN d.length (gN d 1) (gN d 2) (gN d 3) (Lib.firstT (gN d 0)%8) (Lib.accLo (Lib.firstT (gN d 0)/16)) (Lib.accHi (Lib.firstT (gN d 0)/16))=if C then none else some 2:=by
 rw[e1,e2,e3,e4]
 show(if d.length<2∨gN d 1<lo∨hi<gN d 1 then none else some 2)=_
 by_cases q:C
 ·rw[if_pos q,if_pos (hiff.2 q)]
 ·rw[if_neg q,if_neg (fun z=>q (hiff.1 z))]
theorem ck_3 (d:List B) (fl lo hi:Nat) (C:Prop) [Decidable C] (e1:Lib.firstT (gN d 0)=fl) (e2:fl%8=3) (e3:Lib.accLo (fl/16)=lo) (e4:Lib.accHi (fl/16)=hi) (hiff:(d.length<3∨gN d 1<lo∨hi<gN d 1∨gN d 2<128∨191<gN d 2)↔C):Lib.checkN d.length (gN d 1) (gN d 2) (gN d 3) (Lib.firstT (gN d 0)%8) (Lib.accLo (Lib.firstT (gN d 0)/16)) (Lib.accHi (Lib.firstT (gN d 0)/16))=if C then none else some 3:=by
 rw[e1,e2,e3,e4]
 show(if d.length<3∨gN d 1<lo∨hi<gN d 1∨gN d 2<128∨191<gN d 2 then none else some 3)=_
 by_cases q:C
 ·rw[if_pos q,if_pos (hiff.2 q)]
 ·rw[if_neg q,if_neg (fun z=>q (hiff.1 z))]
theorem ck_4 (d:List B) (fl lo hi:Nat) (C:Prop) [Decidable C] (e1:Lib.firstT (gN d 0)=fl) (e2:fl%8=4) (e3:Lib.accLo (fl/16)=lo) (e4:Lib.accHi (fl/16)=hi) (hiff:(d.length<4∨gN d 1<lo∨hi<gN d 1∨gN d 2<128∨191<gN d 2∨gN d 3<128∨191<gN d 3)↔C):Lib.checkN d.length (gN d 1) (gN d 2) (gN d 3) (Lib.firstT (gN d 0)%8) (Lib.accLo (Lib.firstT (gN d 0)/16)) (Lib.accHi (Lib.firstT (gN d 0)/16))=if C then none else some 4:=by
 rw[e1,e2,e3,e4]
 show(if d.length<4∨gN d 1<lo∨hi<gN d 1∨gN d 2<128∨191<gN d 2∨gN d 3<128∨191<gN d 3 then none else some 4)=_
 by_cases q:C
 ·rw[if_pos q,if_pos (hiff.2 q)]
 ·rw[if_neg q,if_neg (fun z=>q (hiff.1 z))]
theorem ck_x (d:List B) (C:Prop) [Decidable C] (n:Nat) (e1:Lib.firstT (gN d 0)=241) (hC:C):Lib.checkN d.length (gN d 1) (gN d 2) (gN d 3) (Lib.firstT (gN d 0)%8) (Lib.accLo (Lib.firstT (gN d 0)/16)) (Lib.accHi (Lib.firstT (gN d 0)/16))=if C then none else some n:=by
 rw[e1,if_pos hC];rfl
theorem yutD_2 {d:List B} (h:d≠[]) (h0:192≤gN d 0) (h1:gN d 0<224):utD d=if d.length<2∨gN d 1<128∨192≤gN d 1∨(gN d 0-192)*64+(gN d 1-128)<128 then false else utD (d.drop 2):=by
 have g1:=gN_lt d 1
 refine yutD_of h (by omega) (d.length<2∨gN d 1<128∨192≤gN d 1∨(gN d 0-192)*64+(gN d 1-128)<128) ?_
 by_cases q:gN d 0<194
 ·exact ck_x d _ 2 (by unfold Lib.firstT;rw[if_neg (by omega),if_pos q]) (by omega)
 ·exact ck_2 d 2 128 191 _ (by unfold Lib.firstT;rw[if_neg (by omega),if_neg q,if_pos h1]) rfl rfl rfl (by omega)
theorem yutD_3 {d:List B} (h:d≠[]) (h0:224≤gN d 0) (h1:gN d 0<240):utD d=if d.length<3∨gN d 1<128∨192≤gN d 1∨gN d 2<128∨192≤gN d 2∨((gN d 0-224)*64+(gN d 1-128))*64+(gN d 2-128)<2048∨(55296≤((gN d 0-224)*64+(gN d 1-128))*64+(gN d 2-128)∧((gN d 0-224)*64+(gN d 1-128))*64+(gN d 2-128)≤57343) then false else utD (d.drop 3):=by
 have g1:=gN_lt d 1;have g2:=gN_lt d 2
 refine yutD_of h (by omega) (d.length<3∨gN d 1<128∨192≤gN d 1∨gN d 2<128∨192≤gN d 2∨((gN d 0-224)*64+(gN d 1-128))*64+(gN d 2-128)<2048∨(55296≤((gN d 0-224)*64+(gN d 1-128))*64+(gN d 2-128)∧((gN d 0-224)*64+(gN d 1-128))*64+(gN d 2-128)≤57343)) ?_
 by_cases c1:gN d 0=224
 ·exact ck_3 d 19 160 191 _ (by rw[c1];decide) rfl rfl rfl (by omega)
 by_cases c2:gN d 0<237
 ·exact ck_3 d 3 128 191 _ (by simp[Lib.firstT,show¬gN d 0<128 by omega,show¬gN d 0<194 by omega,show¬gN d 0<224 by omega,c1,c2]) rfl rfl rfl (by omega)
 by_cases c3:gN d 0=237
 ·exact ck_3 d 35 128 159 _ (by rw[c3];decide) rfl rfl rfl (by omega)
 ·exact ck_3 d 3 128 191 _ (by simp[Lib.firstT,show¬gN d 0<128 by omega,show¬gN d 0<194 by omega,show¬gN d 0<224 by omega,c1,c2,c3,h1]) rfl rfl rfl (by omega)
theorem yutD_4 {d:List B} (h:d≠[]) (h0:240≤gN d 0) (h1:gN d 0<248):utD d=if d.length<4∨gN d 1<128∨192≤gN d 1∨gN d 2<128∨192≤gN d 2∨gN d 3<128∨192≤gN d 3∨(((gN d 0-240)*64+(gN d 1-128))*64+(gN d 2-128))*64+(gN d 3-128)<65536∨1114111<(((gN d 0-240)*64+(gN d 1-128))*64+(gN d 2-128))*64+(gN d 3-128) then false else utD (d.drop 4):=by
 have g1:=gN_lt d 1;have g2:=gN_lt d 2;have g3:=gN_lt d 3
 refine yutD_of h (by omega) (d.length<4∨gN d 1<128∨192≤gN d 1∨gN d 2<128∨192≤gN d 2∨gN d 3<128∨192≤gN d 3∨(((gN d 0-240)*64+(gN d 1-128))*64+(gN d 2-128))*64+(gN d 3-128)<65536∨1114111<(((gN d 0-240)*64+(gN d 1-128))*64+(gN d 2-128))*64+(gN d 3-128)) ?_
 by_cases c1:gN d 0=240
 ·exact ck_4 d 52 144 191 _ (by rw[c1];decide) rfl rfl rfl (by omega)
 by_cases c2:gN d 0<244
 ·exact ck_4 d 4 128 191 _ (by simp[Lib.firstT,show¬gN d 0<128 by omega,show¬gN d 0<194 by omega,show¬gN d 0<224 by omega,show¬gN d 0=224 by omega,show¬gN d 0<237 by omega,show¬gN d 0=237 by omega,show¬gN d 0<240 by omega,c1,c2]) rfl rfl rfl (by omega)
 by_cases c3:gN d 0=244
 ·exact ck_4 d 68 128 143 _ (by rw[c3];decide) rfl rfl rfl (by omega)
 ·exact ck_x d _ 4 (by simp[Lib.firstT,show¬gN d 0<128 by omega,show¬gN d 0<194 by omega,show¬gN d 0<224 by omega,show¬gN d 0=224 by omega,show¬gN d 0<237 by omega,show¬gN d 0=237 by omega,show¬gN d 0<240 by omega,c1,c2,c3]) (by omega)
end Go.Proofs.YtmmlkfkpblokiaaGreatDoor
