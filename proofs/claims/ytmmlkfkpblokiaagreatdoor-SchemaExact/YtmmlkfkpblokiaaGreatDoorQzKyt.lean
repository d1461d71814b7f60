import Derived.Test.YtmmlkfkpblokiaaGreatDoorQzKtl
import Derived.Laws.Externs
import Derived.Lib.ValidAsc
import Derived.Lib.Endian
import Derived.Lib.EndianBits
set_option maxRecDepth 100000
set_option maxHeartbeats 16000000
namespace Go.Proofs.YtmmlkfkpblokiaaGreatDoor
open Go Go.RowKit Go.Sort
attribute [local go_sem] setCell_drewN alloc_drewN
def Zvr (y:VR):Prop:=∃m:Nat,m<18446744073709551616∧y=⟨m,none,0,0,none,0,0⟩
def Vat (cs:Array Value) (i:Nat) (y:VR):Prop:=∀c,c<3→cs[i*3+c]? =(vrv y).toList[c]?
structure Wpd (S:Nat→Prop) (W V:World):Prop where
 os:V.os=W.os
 tape:V.tape=W.tape
 output:V.output=W.output
 size:W.heap.size≤V.heap.size
 out:∀b:Nat,b<W.heap.size→¬S b→V.heap[b]? =W.heap[b]?
 byt:∀(b:Nat) (cs:Array Value),W.heap[b]? =some (.cells cs 5 (0,0))→∃cs':Array Value,V.heap[b]? =some (.cells cs' 5 (0,0))∧cs'.size=cs.size∧∀(j:Nat) (z:B),cs[j]? =some (.int .u8 (bv z))→∃z':B,cs'[j]? =some (.int .u8 (bv z'))
 val:∀(b:Nat) (cs:Array Value),W.heap[b]? =some (.cells cs 27 (0,0))→∃cs':Array Value,V.heap[b]? =some (.cells cs' 27 (0,0))∧cs'.size=cs.size∧∀i y,Vat cs i y→∃y',(y'=y∨Zvr y')∧Vat cs' i y'
theorem Wpd.blw {S:Nat→Prop} {W V:World} (hb:Below W.heap.size W V):Wpd S W V:=
 ⟨hb.os,hb.tape,hb.output,hb.size,fun b h _=>hb.block b h,fun b cs h=>⟨cs,(hb.block b (lt_of_row h)).trans h,rfl,fun _ z q=>⟨z,q⟩⟩,fun b cs h=>⟨cs,(hb.block b (lt_of_row h)).trans h,rfl,fun _ y q=>⟨y,.inl rfl,q⟩⟩⟩
theorem Wpd.refl (S:Nat→Prop) (W:World):Wpd S W W:=.blw (Below.refl _ _)
theorem Wpd.trans {S:Nat→Prop} {W V U:World} (h:Wpd S W V) (k:Wpd S V U):Wpd S W U:=by
 refine⟨k.os.trans h.os,k.tape.trans h.tape,k.output.trans h.output,Nat.le_trans h.size k.size,fun b hb hS=>(k.out b (Nat.lt_of_lt_of_le hb h.size) hS).trans (h.out b hb hS),fun b cs hc=>?_,fun b cs hc=>?_⟩
 ·obtain⟨c1,h1,h2,h3⟩:=h.byt b cs hc
  obtain⟨c2,k1,k2,k3⟩:=k.byt b c1 h1
  refine⟨c2,k1,k2.trans h2,fun j z q=>?_⟩
  obtain⟨z',q'⟩:=h3 j z q;exact k3 j z' q'
 ·obtain⟨c1,h1,h2,h3⟩:=h.val b cs hc
  obtain⟨c2,k1,k2,k3⟩:=k.val b c1 h1
  refine⟨c2,k1,k2.trans h2,fun i y q=>?_⟩
  obtain⟨y1,e1,q1⟩:=h3 i y q;obtain⟨y2,e2,q2⟩:=k3 i y1 q1;refine⟨y2,?_,q2⟩
  rcases e2 with e2|e2
  ·rw[e2];exact e1
  ·exact .inr e2
theorem Wpd.wid {S T:Nat→Prop} {W V:World} (h:Wpd S W V) (hk:∀b,b<W.heap.size→S b→T b):Wpd T W V:=⟨h.os,h.tape,h.output,h.size,fun b hb hT=>h.out b hb (fun q=>hT (hk b hb q)),h.byt,h.val⟩
theorem Wpd.low {S:Nat→Prop} {W V:World} {n:Nat} (h:Wpd S W V) (hS:∀b,S b→n≤b) (hn:n≤W.heap.size):Below n W V:=
 ⟨h.os,h.tape,h.output,h.size,fun k hk=>h.out k (by omega) (fun q=>by have:=hS k q;omega)⟩
theorem row_tags {W:World} {b:Nat} {cs ds:Array Value} (h:W.heap[b]? =some (.cells cs 5 (0,0))) (k:W.heap[b]? =some (.cells ds 27 (0,0))):False:=by
 rw[h] at k
 injection k with k
 injection k with _ k2 _
 revert k2
 decide
theorem Wpd.mkB {S:Nat→Prop} {W V:World} {g:Nat} {cur cs':Array Value} (h1:V.os=W.os) (h2:V.tape=W.tape) (h3:V.output=W.output) (h4:W.heap.size≤V.heap.size) (ho:∀b,b≠g→V.heap[b]? =W.heap[b]?)
 (hg:W.heap[g]? =some (.cells cur 5 (0,0))) (hS:S g) (hV:V.heap[g]? =some (.cells cs' 5 (0,0))) (hs:cs'.size=cur.size) (hb:∀(j:Nat) (z:B),cur[j]? =some (.int .u8 (bv z))→∃z':B,cs'[j]? =some (.int .u8 (bv z'))):Wpd S W V:=by
 refine⟨h1,h2,h3,h4,fun b _ hn=>ho b (fun e=>hn (e▸hS)),fun b cs hc=>?_,fun b cs hc=>?_⟩
 ·by_cases e:b=g
  ·subst e
   rw[hg] at hc
   injection hc with hc
   injection hc with hc _ _
   subst hc;exact⟨cs',hV,hs,hb⟩
  ·exact⟨cs,(ho b e).trans hc,rfl,fun j z q=>⟨z,q⟩⟩
 ·by_cases e:b=g
  ·subst e
   exact(row_tags hg hc).elim
  ·exact⟨cs,(ho b e).trans hc,rfl,fun i y q=>⟨y,.inl rfl,q⟩⟩
theorem Wpd.mkV {S:Nat→Prop} {W V:World} {g:Nat} {cur cs':Array Value} (h1:V.os=W.os) (h2:V.tape=W.tape) (h3:V.output=W.output) (h4:W.heap.size≤V.heap.size) (ho:∀b,b≠g→V.heap[b]? =W.heap[b]?)
 (hg:W.heap[g]? =some (.cells cur 27 (0,0))) (hS:S g) (hV:V.heap[g]? =some (.cells cs' 27 (0,0))) (hs:cs'.size=cur.size) (hb:∀i y,Vat cur i y→∃y',(y'=y∨Zvr y')∧Vat cs' i y'):Wpd S W V:=by
 refine⟨h1,h2,h3,h4,fun b _ hn=>ho b (fun e=>hn (e▸hS)),fun b cs hc=>?_,fun b cs hc=>?_⟩
 ·by_cases e:b=g
  ·subst e
   exact(row_tags hc hg).elim
  ·exact⟨cs,(ho b e).trans hc,rfl,fun j z q=>⟨z,q⟩⟩
 ·by_cases e:b=g
  ·subst e
   rw[hg] at hc
   injection hc with hc
   injection hc with hc _ _
   subst hc;exact⟨cs',hV,hs,hb⟩
  ·exact⟨cs,(ho b e).trans hc,rfl,fun i y q=>⟨y,.inl rfl,q⟩⟩
theorem wip_nil {W:World} {S:Nat→Prop} {y:VR} (h:Zvr y) (n:Nat):Wip W S (n+1) y:=by
 obtain⟨m,_,rfl⟩:=h
 exact .mk n _ [] [] ⟨rfl,.inl ⟨rfl,rfl⟩⟩ (fun k q=>by cases q) ⟨rfl,.inl ⟨rfl,rfl⟩⟩ (fun k q=>by cases q) (by simp) (by simp) (fun i hi=>by simp at hi)
def App (e:TypeId) (size:Nat) (w w':World) (v:Value) (n:Nat) (news:List Value):Prop:=
 (∃g cur,v.ownBlock=some g∧w.heap[g]? =some (.cells cur e (0,0))∧n*size+news.length≤cur.size∧w'=w.setRow g (cur.toList.take (n*size)++news++cur.toList.drop (n*size+news.length)).toArray)∨Below w.heap.size w w'
theorem app_get {cur:Array Value} {a:Nat} {news:List Value} (h:a+news.length≤cur.size) (j:Nat):(cur.toList.take a++news++cur.toList.drop (a+news.length)).toArray[j]? =if j<a then cur[j]? else if j<a+news.length then news[j-a]? else cur[j]? :=by
 have hl:(cur.toList.take a).length=a:=by rw[List.length_take,Array.length_toList];omega
 rw[List.getElem?_toArray]
 by_cases q1:j<a
 ·rw[if_pos q1,List.getElem?_append_left (by rw[List.length_append,hl];omega),List.getElem?_append_left (by rw[hl];exact q1),List.getElem?_take_of_lt q1,Array.getElem?_toList]
 ·rw[if_neg q1]
  by_cases q2:j<a+news.length
  ·rw[if_pos q2,List.getElem?_append_left (by rw[List.length_append,hl];omega),List.getElem?_append_right (by rw[hl];omega),hl]
  ·rw[if_neg q2,List.getElem?_append_right (by rw[List.length_append,hl];omega),List.length_append,hl,List.getElem?_drop,Array.getElem?_toList]
   congr 1
   omega
theorem app_size {cur:Array Value} {a:Nat} {news:List Value} (h:a+news.length≤cur.size):(cur.toList.take a++news++cur.toList.drop (a+news.length)).toArray.size=cur.size:=by
 simp only[List.size_toArray,List.length_append,List.length_take,List.length_drop,Array.length_toList];omega
theorem App.byt {S:Nat→Prop} {w w':World} {v:Value} {n:Nat} {news:List Value} (h:App 5 1 w w' v n news) (hS:∀k,v.ownBlock=some k→S k) (hn:∀j,j<news.length→∃z:B,news[j]? =some (.int .u8 (bv z))):Wpd S w w':=by
 rcases h with⟨g,cur,hv,hg,hf,rfl⟩|hb
 ·refine .mkB rfl rfl rfl (by simp[World.setRow]) (fun b hb=>setRow_other w g b _ hb) hg (hS g hv) (setRow_heap w g cur _ _ _ hg) (app_size hf) (fun j z q=>?_)
  rw[app_get hf]
  split
  ·exact⟨z,q⟩
  split
  ·exact hn _ (by omega)
  ·exact⟨z,q⟩
 ·exact .blw hb
theorem App.val {S:Nat→Prop} {w w':World} {v:Value} {n:Nat} {news:List Value} (h:App 27 3 w w' v n news) (hS:∀k,v.ownBlock=some k→S k) (m:Nat) (hl:news.length=m*3) (hn:∀i,i<m→∃y,Zvr y∧∀c,c<3→news[i*3+c]? =(vrv y).toList[c]?):Wpd S w w':=by
 rcases h with⟨g,cur,hv,hg,hf,rfl⟩|hb
 ·refine .mkV rfl rfl rfl (by simp[World.setRow]) (fun b hb=>setRow_other w g b _ hb) hg (hS g hv) (setRow_heap w g cur _ _ _ hg) (app_size hf) (fun i y q=>?_)
  by_cases q1:i<n
  ·exact⟨y,.inl rfl,fun c hc=>by rw[app_get hf,if_pos (by omega)];exact q c hc⟩
  by_cases q2:i<n+m
  ·obtain⟨y',z1,z2⟩:=hn (i-n) (by omega)
   refine⟨y',.inr z1,fun c hc=>?_⟩
   rw[app_get hf,if_neg (by omega),if_pos (by omega),←z2 c hc]
   congr 1
   omega
  ·exact⟨y,.inl rfl,fun c hc=>by rw[app_get hf,if_neg (by omega),if_neg (by omega)];exact q c hc⟩
 ·exact .blw hb
theorem run_bits8 (x:Nat) (w:World):(callFunc 138 #[.float .f64 x]).run Tryz.prog w=.ok (.value (.int .u64 x)) w:=by
 rw[run_callFunc_extern Tryz.func138 (by kernel_rfl) (by kernel_rfl) (by kernel_rfl) (e:=Extern.MathFloatBits.float64bits) (by kernel_rfl)];rfl
theorem run_frombits8 (z:Int) (w:World):(callFunc 117 #[.int .u64 z]).run Tryz.prog w=.ok (.value (.float .f64 z.toNat)) w:=by
 rw[run_callFunc_extern Tryz.func117 (by kernel_rfl) (by kernel_rfl) (by kernel_rfl) (e:=Extern.MathFloatBits.float64frombits) (by kernel_rfl)];rfl
theorem abs_bits8 {b:Nat} (hb:b<18446744073709551616):(bits .andNot .u64 (b:Int) 9223372036854775808).toNat=b%9223372036854775808:=by
 rw[show(9223372036854775808:Int)=((9223372036854775808:Nat):Int) from rfl,u64_andNot_nat b _ hb (by decide),Int.toNat_natCast]
 exact Nat.and_two_pow_sub_one_eq_mod b 63
theorem a_abs8 (b:Nat) (hb:b<18446744073709551616) (w:World):Calls Tryz.prog 121 #[.float .f64 b] w fun e w'=>e=.returned (.float .f64 (b%9223372036854775808))∧Below w.heap.size w w':=by
 have r1:=run_bits8 b;have r2:=run_frombits8 (bits .andNot .u64 (b:Int) 9223372036854775808);rw[abs_bits8 hb] at r2
 go_enter Tryz.func121,Tryz.ntmps121
 go_wp2_with (fail)
 go_ret;exact⟨rfl,.refl _ _⟩
theorem a_nan8 (b:Nat) (w:World):Calls Tryz.prog 118 #[.float .f64 b] w fun e w'=>e=.returned (.bool (FloatKind.f64.format.order b b !=some .eq))∧Below w.heap.size w w':=by
 go_enter Tryz.func118,Tryz.ntmps118
 go_wp2_with (fail)
 go_ret;exact⟨rfl,.refl _ _⟩
theorem a_inf8 (b:Nat) (hb:b<18446744073709551616) (w:World):Calls Tryz.prog 119 #[.float .f64 b,.int .i64 0] w fun e w'=>e=.returned (.bool (FloatKind.f64.format.order (b%9223372036854775808) 9218868437227405311==some .gt))∧Below w.heap.size w w':=by
 have cA:=a_abs8 b hb w
 go_enter Tryz.func119,Tryz.ntmps119
 go_wp2_with (fail)
 refine cA.mono ?_;rintro e_ w1 ⟨rfl,hb1⟩
 go_wp2_with (fail)
 go_ret;exact⟨rfl,hb1⟩
theorem a_sign8 (b:Nat) (hb:b<18446744073709551616) (w:World):Calls Tryz.prog 120 #[.float .f64 b] w fun e w'=>e=.returned (.bool (decide (9223372036854775808≤b)))∧Below w.heap.size w w':=by
 have r1:=run_bits8 b
 have q0:decide (wrap64 (b:Int)<0)=decide (9223372036854775808≤b):=by
  rw[decide_eq_decide];unfold wrap64;omega
 go_enter Tryz.func120,Tryz.ntmps120
 go_wp2_with (fail)
 go_ret
 exact⟨by rw[←q0];rfl,.refl _ _⟩
def flD (n m:Nat):Int:=
 if(FloatKind.f64.format.order n n !=some .eq)=true then 84
 else if(FloatKind.f64.format.order (n%9223372036854775808) 9218868437227405311==some .gt)=true then 84
 else if(FloatKind.f64.format.order n 0==some .eq)=true∧9223372036854775808≤n then 84
 else if(FloatKind.f64.format.order (n%9223372036854775808) (floatOfInt .f64 (m:Int))==some .gt)=true then 83 else 0
theorem a_flt8 (w:World) (n m:Nat) (hn:n<18446744073709551616):Calls Tryz.prog 93 #[.agg #[.float .f64 (floatOfInt .f64 (m:Int))],.int .u64 (n:Int)] w fun e w'=>e=.returned (.int .i64 (flD n m))∧Below w.heap.size w w':=by
 have r0:=hp1_0 w (.cells #[.float .f64 (floatOfInt .f64 (m:Int))] 183);have hb:Below w.heap.size w (w.alloc (.cells #[.float .f64 (floatOfInt .f64 (m:Int))] 183)):=(Below.refl _ _).alloc (Nat.le_refl _) _;have r2:=run_frombits8 (n:Int);rw[Int.toNat_natCast] at r2;have cN:=a_nan8 n;have cI:=a_inf8 n hn;have cS:=a_sign8 n hn;have cA:=a_abs8 n hn;obtain⟨R,hR⟩:∃R,flD n m=R:=⟨_,rfl⟩;rw[hR];unfold flD at hR
 generalize floatOfInt .f64 (m:Int)=M at *
 generalize hx1:(FloatKind.f64.format.order n n !=some .eq)=x1 at *
 generalize hx2:(FloatKind.f64.format.order (n%9223372036854775808) 9218868437227405311==some .gt)=x2 at *
 generalize hx3:(FloatKind.f64.format.order n 0==some .eq)=x3 at *
 generalize hx4:(FloatKind.f64.format.order (n%9223372036854775808) M==some .gt)=x4 at *
 generalize hx5:decide (9223372036854775808≤n)=x5 at *
 generalize n%9223372036854775808=N at *
 clear hx1 hx2
 go_enter Tryz.func93,Tryz.ntmps93
 go_upto_region 1 with(fail)
 generalize w.alloc (.cells #[.float .f64 M] 183)=w0 at *
 go_wp2_with (fail)
 refine(cN w0).mono ?_;rintro e_ w1 ⟨rfl,hb1⟩;replace r0:=keep hb1 r0;replace hb:=Below.after hb hb1;clear hb1 cN
 cases x1
 ·go_wp2_with (fail)
  refine(cI w1).mono ?_
  rintro e_ w2 ⟨rfl,hb1⟩;replace r0:=keep hb1 r0;replace hb:=Below.after hb hb1;clear hb1 cI
  cases x2
  ·cases x3
   ·go_upto_region 6 with(fail)
    have hbd:Below w2.heap.size w2 w2.drew:=below_drN (Below.refl _ _) 1
    have hS0:(fun W_:World=>Bx W_ w.heap.size #[.float .f64 M]) w2.drew:=⟨_,keep hbd r0⟩
    replace hb:=Below.after hb hbd;refine wp_region_noPanic ?_
    refine wp_region_held (S:=fun W_:World=>Bx W_ w.heap.size #[.float .f64 M]) (by kernel_rfl) ?_
    change wpAnyH _ _ _ _ _ _ _ _ (World.drew _)
    clear r0 hbd
    generalize w2.drew=y1 at *
    refine wTy 0 ?va rfl ?y1 hS0 ?r1
    case y1=>
     intro w_ hS_
     skip
     go_simp
     try with_reducible rfl
    simp only[Act.put,ZPa,ZPc,ZPd,ZPe,ZPf];refine wTy 2 ?vb rfl ?y2 hS0 ?r2
    case y2=>
     intro w_ hS_
     skip
     go_simp
     try with_reducible rfl
    simp only[Act.put,ZPa,ZPb,ZPc,ZPd,ZPe,ZPf];refine wTy 3 (.float .f64 M) rfl ?y3 hS0 ?r3
    case y3=>
     intro w_ hS_;obtain⟨_,h_⟩:=hS_;have c_:=cell_of_row _ _ 0 _ _ _ h_;go_simp
     try with_reducible rfl
    simp only[Act.put,ZPa,ZPb,ZPc,ZPd,ZPe,ZPf]
    refine wpAnyH_one (k:=1) (fuel:=2) (by kernel_rfl) rfl (by kernel_rfl) (fun K_ hK=>?_)
    refine wp_call_ex (R:=fun u w'=>u=.float .f64 N∧Below y1.heap.size y1 w') (by kernel_rfl) ((cA y1).mono fun e w' h=>⟨_,h.1,rfl,h.2⟩) (fun u y2 hX_=>?_)
    obtain⟨rfl,hb2⟩:=hX_;replace hS0:=hS0.keep hb2;replace hb:=Below.after hb hb2;refine hK _ _ hS0 ?_;simp only[Act.put,ZPa,ZPb,ZPc,ZPd,ZPe,ZPf];clear hK hb2 cA;refine wTy 4 (.bool x4) rfl ?y4 hS0 ?r4
    case y4=>
     intro w_ hS_
     skip
     go_simp
     try with_reducible rfl
    simp only[Act.put,ZPa,ZPb,ZPc,ZPd,ZPe,ZPf];refine wTy 5 (.bool x4) rfl ?y5 hS0 ?r5
    case y5=>
     intro w_ hS_
     skip
     go_simp
     try with_reducible rfl
    simp only[Act.put,ZPa,ZPb,ZPc,ZPd,ZPe,ZPf]
    refine wpAnyH_done (by kernel_rfl) ?_ _
    refine NoPanic.normal ?_
    cases x4
    ·go_wp2
     go_ret
     exact⟨by rw[←hR];simp,hb⟩
    ·go_wp2
     go_ret
     exact⟨by rw[←hR];simp,hb⟩
   ·go_wp2_with (fail)
    refine(cS w2).mono ?_
    rintro e_ w3 ⟨rfl,hb1⟩;replace r0:=keep hb1 r0;replace hb:=Below.after hb hb1;clear hb1 cS
    cases x5
    ·have hlt:¬9223372036854775808≤n:=by simpa using hx5
     go_upto_region 6 with(fail)
     have hbd:Below w3.heap.size w3 w3.drew:=below_drN (Below.refl _ _) 1
     have hS0:(fun W_:World=>Bx W_ w.heap.size #[.float .f64 M]) w3.drew:=⟨_,keep hbd r0⟩
     replace hb:=Below.after hb hbd;refine wp_region_noPanic ?_
     refine wp_region_held (S:=fun W_:World=>Bx W_ w.heap.size #[.float .f64 M]) (by kernel_rfl) ?_
     change wpAnyH _ _ _ _ _ _ _ _ (World.drew _)
     clear r0 hbd
     generalize w3.drew=y1 at *
     refine wTy 0 ?va rfl ?y6 hS0 ?r6
     case y6=>
      intro w_ hS_
      skip
      go_simp
      try with_reducible rfl
     simp only[Act.put,ZPa,ZPc,ZPd,ZPe,ZPf];refine wTy 2 ?vb rfl ?y7 hS0 ?r7
     case y7=>
      intro w_ hS_
      skip
      go_simp
      try with_reducible rfl
     simp only[Act.put,ZPa,ZPb,ZPc,ZPd,ZPe,ZPf];refine wTy 3 (.float .f64 M) rfl ?y8 hS0 ?r8
     case y8=>
      intro w_ hS_;obtain⟨_,h_⟩:=hS_;have c_:=cell_of_row _ _ 0 _ _ _ h_;go_simp
      try with_reducible rfl
     simp only[Act.put,ZPa,ZPb,ZPc,ZPd,ZPe,ZPf]
     refine wpAnyH_one (k:=1) (fuel:=2) (by kernel_rfl) rfl (by kernel_rfl) (fun K_ hK=>?_)
     refine wp_call_ex (R:=fun u w'=>u=.float .f64 N∧Below y1.heap.size y1 w') (by kernel_rfl) ((cA y1).mono fun e w' h=>⟨_,h.1,rfl,h.2⟩) (fun u y2 hX_=>?_)
     obtain⟨rfl,hb2⟩:=hX_;replace hS0:=hS0.keep hb2;replace hb:=Below.after hb hb2;refine hK _ _ hS0 ?_;simp only[Act.put,ZPa,ZPb,ZPc,ZPd,ZPe,ZPf];clear hK hb2 cA;refine wTy 4 (.bool x4) rfl ?y9 hS0 ?r9
     case y9=>
      intro w_ hS_
      skip
      go_simp
      try with_reducible rfl
     simp only[Act.put,ZPa,ZPb,ZPc,ZPd,ZPe,ZPf];refine wTy 5 (.bool x4) rfl ?y10 hS0 ?r10
     case y10=>
      intro w_ hS_
      skip
      go_simp
      try with_reducible rfl
     simp only[Act.put,ZPa,ZPb,ZPc,ZPd,ZPe,ZPf]
     refine wpAnyH_done (by kernel_rfl) ?_ _
     refine NoPanic.normal ?_
     cases x4
     ·go_wp2
      go_ret
      exact⟨by rw[←hR];simp[hlt],hb⟩
     ·go_wp2
      go_ret
      exact⟨by rw[←hR];simp[hlt],hb⟩
    ·have hle:9223372036854775808≤n:=by simpa using hx5
     go_wp2
     go_ret
     exact⟨by rw[←hR];simp[hle],hb⟩
  ·go_wp2
   go_ret
   exact⟨by rw[←hR];rfl,hb⟩
 ·go_wp2
  go_ret
  exact⟨by rw[←hR];rfl,hb⟩
end Go.Proofs.YtmmlkfkpblokiaaGreatDoor
namespace Go.Proofs.YtmmlkfkpblokiaaGreatDoor
open Go Go.RowKit Go.Sort
section
variable (utf : List B → Bool) (flE : Nat → Nat → Int)
end
inductive NmT:VT→Prop
 |mk (n:Nat) (d:List B) (ps:List VT) (hn:n<18446744073709551616) (hd:d.length≤140737488351232) (h:∀p∈ps,NmT p):NmT (.mk n d ps)
theorem VtM.nm {W:World} {S:Nat→Prop} {x:VR} {X:VT} (h:VtM W S x X):NmT X:=by
 induction h with
 |mk x bs xs ps hn hdl hbl hd hdc hds hpl hxl hpc hpm hps hP hs ih=>
  refine .mk _ _ _ hn hbl (fun p hp=>?_)
  obtain⟨i,hi,e⟩:=List.getElem_of_mem hp;have:=ih i hi;rw[gvt,List.getD_eq_getElem?_getD,List.getElem?_eq_getElem hi] at this;rw[←e];exact this
section
variable (utf : List B → Bool) (flE : Nat → Nat → Int)
end
end Go.Proofs.YtmmlkfkpblokiaaGreatDoor
namespace Go.Proofs.YtmmlkfkpblokiaaGreatDoor
open Go Go.RowKit Go.Sort
attribute [local go_sem] setCell_drewN alloc_drewN
def u8l (d:List B):List UInt8:=d.map UInt8.ofBitVec
def utD (d:List B):Bool:=Lib.validD (u8l d)
theorem bys_cell {W:World} {a:Option Addr} {n c:Nat} {d:List B} (h:BysB W (.slice a n c) d) (h0:0<d.length):∃b off,a=some ⟨b,off,none⟩∧n=d.length∧b<W.heap.size∧∀j,j<d.length→W.cell? ⟨b,off+j,none⟩=some (.int .u8 (bv (gb d j))):=by
 obtain⟨⟨ao,cap,e,hl,hc,hz⟩,_⟩:=h
 injection e with e1 e2 e3
 subst e1 e2 e3;have hbl:(bl d).length=d.length:=bl_len d
 obtain⟨b,off,ea,hb,_⟩:=hc 0 (by omega)
 refine⟨b,off,ea,hbl,hb,fun j hj=>?_⟩
 obtain⟨b2,off2,ea2,hb2,h2⟩:=hc j (by omega)
 rw[ea] at ea2
 injection ea2 with ea2
 injection ea2 with q1 q2 _
 subst q1 q2;rw[h2,bl_get];rfl
theorem a_word8 (x0 x1 x2 x3 x4 x5 x6 x7:Nat) (hx:x0<256∧x1<256∧x2<256∧x3<256∧x4<256∧x5<256∧x6<256∧x7<256) (b off n c:Nat) (w:World) (hn:8≤n) (hS:(fun W_:World=>W_.cell? ⟨b,off,none⟩=some (.int .u8 (x0:Int))∧W_.cell? ⟨b,off+1,none⟩=some (.int .u8 (x1:Int))∧W_.cell? ⟨b,off+2,none⟩=some (.int .u8 (x2:Int))∧W_.cell? ⟨b,off+3,none⟩=some (.int .u8 (x3:Int))∧W_.cell? ⟨b,off+4,none⟩=some (.int .u8 (x4:Int))∧W_.cell? ⟨b,off+5,none⟩=some (.int .u8 (x5:Int))∧W_.cell? ⟨b,off+6,none⟩=some (.int .u8 (x6:Int))∧W_.cell? ⟨b,off+7,none⟩=some (.int .u8 (x7:Int))) w):
 Calls Tryz.prog 139 #[.slice (some ⟨b,off,none⟩) n c] w fun e w'=>e=.returned (.int .u64 ((x0+x1*256+x2*65536+x3*16777216+x4*4294967296+x5*1099511627776+x6*281474976710656+x7*72057594037927936:Nat):Int))∧∃q,w'=w.drewN q:=by
 obtain⟨h0,h1,h2,h3,h4,h5,h6,h7⟩:=hx
 have q0:(0:Int)<(n:Int):=by omega
 have q1:(1:Int)<(n:Int):=by omega
 have q2:(2:Int)<(n:Int):=by omega
 have q3:(3:Int)<(n:Int):=by omega
 have q4:(4:Int)<(n:Int):=by omega
 have q5:(5:Int)<(n:Int):=by omega
 have q6:(6:Int)<(n:Int):=by omega
 have q7:(7:Int)<(n:Int):=by omega
 have p0:0<n:=by omega
 have p1:1<n:=by omega
 have p2:2<n:=by omega
 have p3:3<n:=by omega
 have p4:4<n:=by omega
 have p5:5<n:=by omega
 have p6:6<n:=by omega
 have p7:7<n:=by omega
 go_enter Tryz.func139,Tryz.ntmps139
 go_upto_region 2 with(fail)
 have hbd:∃q,w.drew=w.drewN q:=⟨1,rfl⟩
 have hS0:(fun W_:World=>W_.cell? ⟨b,off,none⟩=some (.int .u8 (x0:Int))∧W_.cell? ⟨b,off+1,none⟩=some (.int .u8 (x1:Int))∧W_.cell? ⟨b,off+2,none⟩=some (.int .u8 (x2:Int))∧W_.cell? ⟨b,off+3,none⟩=some (.int .u8 (x3:Int))∧W_.cell? ⟨b,off+4,none⟩=some (.int .u8 (x4:Int))∧W_.cell? ⟨b,off+5,none⟩=some (.int .u8 (x5:Int))∧W_.cell? ⟨b,off+6,none⟩=some (.int .u8 (x6:Int))∧W_.cell? ⟨b,off+7,none⟩=some (.int .u8 (x7:Int))) w.drew:=hS
 refine wp_region_noPanic ?_
 refine wp_region_held (S:=fun W_:World=>W_.cell? ⟨b,off,none⟩=some (.int .u8 (x0:Int))∧W_.cell? ⟨b,off+1,none⟩=some (.int .u8 (x1:Int))∧W_.cell? ⟨b,off+2,none⟩=some (.int .u8 (x2:Int))∧W_.cell? ⟨b,off+3,none⟩=some (.int .u8 (x3:Int))∧W_.cell? ⟨b,off+4,none⟩=some (.int .u8 (x4:Int))∧W_.cell? ⟨b,off+5,none⟩=some (.int .u8 (x5:Int))∧W_.cell? ⟨b,off+6,none⟩=some (.int .u8 (x6:Int))∧W_.cell? ⟨b,off+7,none⟩=some (.int .u8 (x7:Int))) (by kernel_rfl) ?_
 change wpAnyH _ _ _ _ _ _ _ _ (World.drew _)
 generalize w.drew=w1 at *
 refine wTy 0 ?v0 rfl ?y0 hS0 ?r0
 case y0=>
  intro w_ hS_
  skip
  go_simp
  try with_reducible rfl
 simp only[Act.put,ZPa,ZPc,ZPd,ZPe,ZPf];refine wTy 1 ?v1 rfl ?y1 hS0 ?r1
 case y1=>
  intro w_ hS_
  skip
  go_simp
  try with_reducible rfl
 simp only[Act.put,ZPa,ZPb,ZPc,ZPd,ZPe,ZPf];refine wTy 2 (.int .u8 (x0:Int)) rfl ?y2 hS0 ?r2
 case y2=>
  intro w_ hS_;have c_:=hS_.1;go_simp
  try with_reducible rfl
 simp only[Act.put,ZPa,ZPb,ZPc,ZPd,ZPe,ZPf];refine wTy 3 ?v3 rfl ?y3 hS0 ?r3
 case y3=>
  intro w_ hS_
  skip
  go_simp
  try with_reducible rfl
 simp only[Act.put,ZPa,ZPb,ZPc,ZPd,ZPe,ZPf];refine wTy 4 ?v4 rfl ?y4 hS0 ?r4
 case y4=>
  intro w_ hS_
  skip
  go_simp
  try with_reducible rfl
 simp only[Act.put,ZPa,ZPb,ZPc,ZPd,ZPe,ZPf];refine wTy 5 ?v5 rfl ?y5 hS0 ?r5
 case y5=>
  intro w_ hS_
  skip
  go_simp
  try with_reducible rfl
 simp only[Act.put,ZPa,ZPb,ZPc,ZPd,ZPe,ZPf];refine wTy 6 (.int .u8 (x1:Int)) rfl ?y6 hS0 ?r6
 case y6=>
  intro w_ hS_;have c_:=hS_.2.1;go_simp
  try with_reducible rfl
 simp only[Act.put,ZPa,ZPb,ZPc,ZPd,ZPe,ZPf];refine wTy 7 ?v7 rfl ?y7 hS0 ?r7
 case y7=>
  intro w_ hS_
  skip
  go_simp
  try with_reducible rfl
 simp only[Act.put,ZPa,ZPb,ZPc,ZPd,ZPe,ZPf];refine wTy 8 ?v8 rfl ?y8 hS0 ?r8
 case y8=>
  intro w_ hS_
  skip
  go_simp
  try with_reducible rfl
 simp only[Act.put,ZPa,ZPb,ZPc,ZPd,ZPe,ZPf];refine wTy 9 ?v9 rfl ?y9 hS0 ?r9
 case y9=>
  intro w_ hS_
  skip
  go_simp
  try with_reducible rfl
 simp only[Act.put,ZPa,ZPb,ZPc,ZPd,ZPe,ZPf];refine wTy 10 ?v10 rfl ?y10 hS0 ?r10
 case y10=>
  intro w_ hS_
  skip
  go_simp
  try with_reducible rfl
 simp only[Act.put,ZPa,ZPb,ZPc,ZPd,ZPe,ZPf];refine wTy 11 ?v11 rfl ?y11 hS0 ?r11
 case y11=>
  intro w_ hS_
  skip
  go_simp
  try with_reducible rfl
 simp only[Act.put,ZPa,ZPb,ZPc,ZPd,ZPe,ZPf];refine wTy 12 (.int .u8 (x2:Int)) rfl ?y12 hS0 ?r12
 case y12=>
  intro w_ hS_;have c_:=hS_.2.2.1;go_simp
  try with_reducible rfl
 simp only[Act.put,ZPa,ZPb,ZPc,ZPd,ZPe,ZPf];refine wTy 13 ?v13 rfl ?y13 hS0 ?r13
 case y13=>
  intro w_ hS_
  skip
  go_simp
  try with_reducible rfl
 simp only[Act.put,ZPa,ZPb,ZPc,ZPd,ZPe,ZPf];refine wTy 14 ?v14 rfl ?y14 hS0 ?r14
 case y14=>
  intro w_ hS_
  skip
  go_simp
  try with_reducible rfl
 simp only[Act.put,ZPa,ZPb,ZPc,ZPd,ZPe,ZPf];refine wTy 15 ?v15 rfl ?y15 hS0 ?r15
 case y15=>
  intro w_ hS_
  skip
  go_simp
  try with_reducible rfl
 simp only[Act.put,ZPa,ZPb,ZPc,ZPd,ZPe,ZPf];refine wTy 16 ?v16 rfl ?y16 hS0 ?r16
 case y16=>
  intro w_ hS_
  skip
  go_simp
  try with_reducible rfl
 simp only[Act.put,ZPa,ZPb,ZPc,ZPd,ZPe,ZPf];refine wTy 17 ?v17 rfl ?y17 hS0 ?r17
 case y17=>
  intro w_ hS_
  skip
  go_simp
  try with_reducible rfl
 simp only[Act.put,ZPa,ZPb,ZPc,ZPd,ZPe,ZPf];refine wTy 18 (.int .u8 (x3:Int)) rfl ?y18 hS0 ?r18
 case y18=>
  intro w_ hS_;have c_:=hS_.2.2.2.1;go_simp
  try with_reducible rfl
 simp only[Act.put,ZPa,ZPb,ZPc,ZPd,ZPe,ZPf];refine wTy 19 ?v19 rfl ?y19 hS0 ?r19
 case y19=>
  intro w_ hS_
  skip
  go_simp
  try with_reducible rfl
 simp only[Act.put,ZPa,ZPb,ZPc,ZPd,ZPe,ZPf];refine wTy 20 ?v20 rfl ?y20 hS0 ?r20
 case y20=>
  intro w_ hS_
  skip
  go_simp
  try with_reducible rfl
 simp only[Act.put,ZPa,ZPb,ZPc,ZPd,ZPe,ZPf];refine wTy 21 ?v21 rfl ?y21 hS0 ?r21
 case y21=>
  intro w_ hS_
  skip
  go_simp
  try with_reducible rfl
 simp only[Act.put,ZPa,ZPb,ZPc,ZPd,ZPe,ZPf];refine wTy 22 ?v22 rfl ?y22 hS0 ?r22
 case y22=>
  intro w_ hS_
  skip
  go_simp
  try with_reducible rfl
 simp only[Act.put,ZPa,ZPb,ZPc,ZPd,ZPe,ZPf];refine wTy 23 ?v23 rfl ?y23 hS0 ?r23
 case y23=>
  intro w_ hS_
  skip
  go_simp
  try with_reducible rfl
 simp only[Act.put,ZPa,ZPb,ZPc,ZPd,ZPe,ZPf];refine wTy 24 (.int .u8 (x4:Int)) rfl ?y24 hS0 ?r24
 case y24=>
  intro w_ hS_;have c_:=hS_.2.2.2.2.1;go_simp
  try with_reducible rfl
 simp only[Act.put,ZPa,ZPb,ZPc,ZPd,ZPe,ZPf];refine wTy 25 ?v25 rfl ?y25 hS0 ?r25
 case y25=>
  intro w_ hS_
  skip
  go_simp
  try with_reducible rfl
 simp only[Act.put,ZPa,ZPb,ZPc,ZPd,ZPe,ZPf];refine wTy 26 ?v26 rfl ?y26 hS0 ?r26
 case y26=>
  intro w_ hS_
  skip
  go_simp
  try with_reducible rfl
 simp only[Act.put,ZPa,ZPb,ZPc,ZPd,ZPe,ZPf];refine wTy 27 ?v27 rfl ?y27 hS0 ?r27
 case y27=>
  intro w_ hS_
  skip
  go_simp
  try with_reducible rfl
 simp only[Act.put,ZPa,ZPb,ZPc,ZPd,ZPe,ZPf];refine wTy 28 ?v28 rfl ?y28 hS0 ?r28
 case y28=>
  intro w_ hS_
  skip
  go_simp
  try with_reducible rfl
 simp only[Act.put,ZPa,ZPb,ZPc,ZPd,ZPe,ZPf];refine wTy 29 ?v29 rfl ?y29 hS0 ?r29
 case y29=>
  intro w_ hS_
  skip
  go_simp
  try with_reducible rfl
 simp only[Act.put,ZPa,ZPb,ZPc,ZPd,ZPe,ZPf];refine wTy 30 (.int .u8 (x5:Int)) rfl ?y30 hS0 ?r30
 case y30=>
  intro w_ hS_;have c_:=hS_.2.2.2.2.2.1;go_simp
  try with_reducible rfl
 simp only[Act.put,ZPa,ZPb,ZPc,ZPd,ZPe,ZPf];refine wTy 31 ?v31 rfl ?y31 hS0 ?r31
 case y31=>
  intro w_ hS_
  skip
  go_simp
  try with_reducible rfl
 simp only[Act.put,ZPa,ZPb,ZPc,ZPd,ZPe,ZPf];refine wTy 32 ?v32 rfl ?y32 hS0 ?r32
 case y32=>
  intro w_ hS_
  skip
  go_simp
  try with_reducible rfl
 simp only[Act.put,ZPa,ZPb,ZPc,ZPd,ZPe,ZPf];refine wTy 33 ?v33 rfl ?y33 hS0 ?r33
 case y33=>
  intro w_ hS_
  skip
  go_simp
  try with_reducible rfl
 simp only[Act.put,ZPa,ZPb,ZPc,ZPd,ZPe,ZPf];refine wTy 34 ?v34 rfl ?y34 hS0 ?r34
 case y34=>
  intro w_ hS_
  skip
  go_simp
  try with_reducible rfl
 simp only[Act.put,ZPa,ZPb,ZPc,ZPd,ZPe,ZPf];refine wTy 35 ?v35 rfl ?y35 hS0 ?r35
 case y35=>
  intro w_ hS_
  skip
  go_simp
  try with_reducible rfl
 simp only[Act.put,ZPa,ZPb,ZPc,ZPd,ZPe,ZPf];refine wTy 36 (.int .u8 (x6:Int)) rfl ?y36 hS0 ?r36
 case y36=>
  intro w_ hS_;have c_:=hS_.2.2.2.2.2.2.1;go_simp
  try with_reducible rfl
 simp only[Act.put,ZPa,ZPb,ZPc,ZPd,ZPe,ZPf];refine wTy 37 ?v37 rfl ?y37 hS0 ?r37
 case y37=>
  intro w_ hS_
  skip
  go_simp
  try with_reducible rfl
 simp only[Act.put,ZPa,ZPb,ZPc,ZPd,ZPe,ZPf];refine wTy 38 ?v38 rfl ?y38 hS0 ?r38
 case y38=>
  intro w_ hS_
  skip
  go_simp
  try with_reducible rfl
 simp only[Act.put,ZPa,ZPb,ZPc,ZPd,ZPe,ZPf];refine wTy 39 ?v39 rfl ?y39 hS0 ?r39
 case y39=>
  intro w_ hS_
  skip
  go_simp
  try with_reducible rfl
 simp only[Act.put,ZPa,ZPb,ZPc,ZPd,ZPe,ZPf];refine wTy 40 ?v40 rfl ?y40 hS0 ?r40
 case y40=>
  intro w_ hS_
  skip
  go_simp
  try with_reducible rfl
 simp only[Act.put,ZPa,ZPb,ZPc,ZPd,ZPe,ZPf];refine wTy 41 ?v41 rfl ?y41 hS0 ?r41
 case y41=>
  intro w_ hS_
  skip
  go_simp
  try with_reducible rfl
 simp only[Act.put,ZPa,ZPb,ZPc,ZPd,ZPe,ZPf];refine wTy 42 (.int .u8 (x7:Int)) rfl ?y42 hS0 ?r42
 case y42=>
  intro w_ hS_;have c_:=hS_.2.2.2.2.2.2.2;go_simp
  try with_reducible rfl
 simp only[Act.put,ZPa,ZPb,ZPc,ZPd,ZPe,ZPf];refine wTy 43 ?v43 rfl ?y43 hS0 ?r43
 case y43=>
  intro w_ hS_
  skip
  go_simp
  try with_reducible rfl
 simp only[Act.put,ZPa,ZPb,ZPc,ZPd,ZPe,ZPf];refine wTy 44 ?v44 rfl ?y44 hS0 ?r44
 case y44=>
  intro w_ hS_
  skip
  go_simp
  try with_reducible rfl
 simp only[Act.put,ZPa,ZPb,ZPc,ZPd,ZPe,ZPf];refine wTy 45 ?v45 rfl ?y45 hS0 ?r45
 case y45=>
  intro w_ hS_
  skip
  go_simp
  try with_reducible rfl
 simp only[Act.put,ZPa,ZPb,ZPc,ZPd,ZPe,ZPf];refine wTy 46 ?v46 rfl ?y46 hS0 ?r46
 case y46=>
  intro w_ hS_
  skip
  go_simp
  try with_reducible rfl
 simp only[Act.put,ZPa,ZPb,ZPc,ZPd,ZPe,ZPf]
 refine wpAnyH_done (by kernel_rfl) ?_ _
 refine NoPanic.normal ?_
 go_wp2
 go_ret;refine⟨congrArg Ending.returned (congrArg (Value.int IntKind.u64) (?_:(_:Int)=_)),hbd⟩;clear hS hS0 hbd
 rw[show IntKind.wrap .u64 (x0:Int)=(x0:Int) from u64_wrap_id _ (by omega) (by omega)]
 rw[show IntKind.wrap .u64 (x1:Int)=(x1:Int) from u64_wrap_id _ (by omega) (by omega)]
 rw[show IntKind.wrap .u64 (x2:Int)=(x2:Int) from u64_wrap_id _ (by omega) (by omega)]
 rw[show IntKind.wrap .u64 (x3:Int)=(x3:Int) from u64_wrap_id _ (by omega) (by omega)]
 rw[show IntKind.wrap .u64 (x4:Int)=(x4:Int) from u64_wrap_id _ (by omega) (by omega)]
 rw[show IntKind.wrap .u64 (x5:Int)=(x5:Int) from u64_wrap_id _ (by omega) (by omega)]
 rw[show IntKind.wrap .u64 (x6:Int)=(x6:Int) from u64_wrap_id _ (by omega) (by omega)]
 rw[show IntKind.wrap .u64 (x7:Int)=(x7:Int) from u64_wrap_id _ (by omega) (by omega)]
 rw[show IntKind.wrap .u64 ((x1:Int)*256)=(x1:Int)*256 from u64_wrap_id _ (by omega) (by omega)]
 rw[show IntKind.wrap .u64 ((x2:Int)*65536)=(x2:Int)*65536 from u64_wrap_id _ (by omega) (by omega)]
 rw[show IntKind.wrap .u64 ((x3:Int)*16777216)=(x3:Int)*16777216 from u64_wrap_id _ (by omega) (by omega)]
 rw[show IntKind.wrap .u64 ((x4:Int)*4294967296)=(x4:Int)*4294967296 from u64_wrap_id _ (by omega) (by omega)]
 rw[show IntKind.wrap .u64 ((x5:Int)*1099511627776)=(x5:Int)*1099511627776 from u64_wrap_id _ (by omega) (by omega)]
 rw[show IntKind.wrap .u64 ((x6:Int)*281474976710656)=(x6:Int)*281474976710656 from u64_wrap_id _ (by omega) (by omega)]
 rw[show IntKind.wrap .u64 ((x7:Int)*72057594037927936)=(x7:Int)*72057594037927936 from u64_wrap_id _ (by omega) (by omega)]
 rw[show bits .or .u64 ((x0:Int)) ((x1:Int)*256)=(x0:Int)+(x1:Int)*256 by apply u64_or8<;>omega]
 rw[show bits .or .u64 ((x0:Int)+(x1:Int)*256) ((x2:Int)*65536)=(x0:Int)+(x1:Int)*256+(x2:Int)*65536 by apply u64_or16<;>omega]
 rw[show bits .or .u64 ((x0:Int)+(x1:Int)*256+(x2:Int)*65536) ((x3:Int)*16777216)=(x0:Int)+(x1:Int)*256+(x2:Int)*65536+(x3:Int)*16777216 by apply u64_or24<;>omega]
 rw[show bits .or .u64 ((x0:Int)+(x1:Int)*256+(x2:Int)*65536+(x3:Int)*16777216) ((x4:Int)*4294967296)=(x0:Int)+(x1:Int)*256+(x2:Int)*65536+(x3:Int)*16777216+(x4:Int)*4294967296 by apply u64_or32<;>omega]
 rw[show bits .or .u64 ((x0:Int)+(x1:Int)*256+(x2:Int)*65536+(x3:Int)*16777216+(x4:Int)*4294967296) ((x5:Int)*1099511627776)=(x0:Int)+(x1:Int)*256+(x2:Int)*65536+(x3:Int)*16777216+(x4:Int)*4294967296+(x5:Int)*1099511627776 by apply u64_or40<;>omega]
 rw[show bits .or .u64 ((x0:Int)+(x1:Int)*256+(x2:Int)*65536+(x3:Int)*16777216+(x4:Int)*4294967296+(x5:Int)*1099511627776) ((x6:Int)*281474976710656)=(x0:Int)+(x1:Int)*256+(x2:Int)*65536+(x3:Int)*16777216+(x4:Int)*4294967296+(x5:Int)*1099511627776+(x6:Int)*281474976710656 by apply u64_or48<;>omega]
 rw[show bits .or .u64 ((x0:Int)+(x1:Int)*256+(x2:Int)*65536+(x3:Int)*16777216+(x4:Int)*4294967296+(x5:Int)*1099511627776+(x6:Int)*281474976710656) ((x7:Int)*72057594037927936)=(x0:Int)+(x1:Int)*256+(x2:Int)*65536+(x3:Int)*16777216+(x4:Int)*4294967296+(x5:Int)*1099511627776+(x6:Int)*281474976710656+(x7:Int)*72057594037927936 by apply u64_or56<;>omega]
 clear q0 q1 q2 q3 q4 q5 q6 q7 p0 p1 p2 p3 p4 p5 p6 p7 h0 h1 h2 h3 h4 h5 h6 h7 hn;omega
end Go.Proofs.YtmmlkfkpblokiaaGreatDoor
namespace Go.Proofs.YtmmlkfkpblokiaaGreatDoor
open Go Go.RowKit Go.Sort
def gN (d:List B) (i:Nat):Nat:=(d.getD i 0).toNat
theorem gN_lt (d:List B) (i:Nat):gN d i<256:=(d.getD i 0).isLt
theorem gN_u8 (d:List B) (i:Nat):((u8l d).getD i 0).toNat=gN d i:=by
 unfold u8l gN;rw[List.getD_eq_getElem?_getD,List.getD_eq_getElem?_getD,List.getElem?_map]
 cases d[i]? <;>rfl
theorem yu8l_drop (d:List B) (k:Nat):(u8l d).drop k=u8l (d.drop k):=by unfold u8l;rw[List.map_drop]
theorem yu8l_ne {d:List B} (h:d≠[]):u8l d≠[]:=by
 cases d with
 |nil=>exact absurd rfl h
 |cons x t=>unfold u8l;simp
theorem yutD_1 {d:List B} (h:d≠[]) (h0:gN d 0<128):utD d=utD (d.drop 1):=by
 cases d with
 |nil=>exact absurd rfl h
 |cons x t=>exact Lib.validD_cons (UInt8.ofBitVec x) (u8l t) h0
theorem yutD_lead {d:List B} (h:d≠[]) (h0:128≤gN d 0):utD d=match Lib.checkN d.length (gN d 1) (gN d 2) (gN d 3) (Lib.firstT (gN d 0)%8) (Lib.accLo (Lib.firstT (gN d 0)/16)) (Lib.accHi (Lib.firstT (gN d 0)/16)) with
 |none=>false
 |some k=>utD (d.drop k):=by
 have e:=Lib.validD_lead (u8l d) (yu8l_ne h) (by rw[gN_u8];exact h0)
 rw[gN_u8,gN_u8,gN_u8,gN_u8,show(u8l d).length=d.length from by unfold u8l;simp] at e
 unfold utD;rw[e]
 cases Lib.checkN d.length (gN d 1) (gN d 2) (gN d 3) (Lib.firstT (gN d 0)%8) (Lib.accLo (Lib.firstT (gN d 0)/16)) (Lib.accHi (Lib.firstT (gN d 0)/16)) with
 |none=>rfl
 |some k=>simp only[yu8l_drop]
theorem yutD_x {d:List B} (h:d≠[]) (h0:128≤gN d 0) (h1:gN d 0<192∨248≤gN d 0):utD d=false:=by
 rw[yutD_lead h h0]
 have hf:Lib.firstT (gN d 0)=241:=by
  unfold Lib.firstT
  repeat' split
  all_goals omega
 rw[hf];rfl
theorem yutD_of {d:List B} (h:d≠[]) (h0:128≤gN d 0) (C:Prop) [Decidable C] {k:Nat} (hk:Lib.checkN d.length (gN d 1) (gN d 2) (gN d 3) (Lib.firstT (gN d 0)%8) (Lib.accLo (Lib.firstT (gN d 0)/16)) (Lib.accHi (Lib.firstT (gN d 0)/16))=if C then none else some k):utD d=if C then false else utD (d.drop k):=by
 rw[yutD_lead h h0,hk]
 by_cases q:C
 ·rw[if_pos q,if_pos q]
 ·rw[if_neg q,if_neg q]
theorem ck_2 (d:List B) (fl lo hi:Nat) (C:Prop) [Decidable C] (e1:Lib.firstT (gN d 0)=fl) (e2:fl%8=2) (e3:Lib.accLo (fl/16)=lo) (e4:Lib.accHi (fl/16)=hi) (hiff:(d.length<2∨gN d 1<lo∨hi<gN d 1)↔C):Lib.checkN d.length (gN d 1) (gN d 2) (gN d 3) (Lib.firstT (gN d 0)%8) (Lib.accLo (Lib.firstT (gN d 0)/16)) (Lib.accHi (Lib.firstT (gN d 0)/16))=if C then none else some 2:=by
 rw[e1,e2,e3,e4]
 show(if d.length<2∨gN d 1<lo∨hi<gN d 1 then none else some 2)=_
 by_cases q:C
 ·rw[if_pos q,if_pos (hiff.2 q)]
 ·rw[if_neg q,if_neg (fun z=>q (hiff.1 z))]
theorem ck_3 (d:List B) (fl lo hi:Nat) (C:Prop) [Decidable C] (e1:Lib.firstT (gN d 0)=fl) (e2:fl%8=3) (e3:Lib.accLo (fl/16)=lo) (e4:Lib.accHi (fl/16)=hi) (hiff:(d.length<3∨gN d 1<lo∨hi<gN d 1∨gN d 2<128∨191<gN d 2)↔C):Lib.checkN d.length (gN d 1) (gN d 2) (gN d 3) (Lib.firstT (gN d 0)%8) (Lib.accLo (Lib.firstT (gN d 0)/16)) (Lib.accHi (Lib.firstT (gN d 0)/16))=if C then none else some 3:=by
 rw[e1,e2,e3,e4]
 show(if d.length<3∨gN d 1<lo∨hi<gN d 1∨gN d 2<128∨191<gN d 2 then none else some 3)=_
 by_cases q:C
 ·rw[if_pos q,if_pos (hiff.2 q)]
 ·rw[if_neg q,if_neg (fun z=>q (hiff.1 z))]
theorem ck_4 (d:List B) (fl lo hi:Nat) (C:Prop) [Decidable C] (e1:Lib.firstT (gN d 0)=fl) (e2:fl%8=4) (e3:Lib.accLo (fl/16)=lo) (e4:Lib.accHi (fl/16)=hi) (hiff:(d.length<4∨gN d 1<lo∨hi<gN d 1∨gN d 2<128∨191<gN d 2∨gN d 3<128∨191<gN d 3)↔C):Lib.checkN d.length (gN d 1) (gN d 2) (gN d 3) (Lib.firstT (gN d 0)%8) (Lib.accLo (Lib.firstT (gN d 0)/16)) (Lib.accHi (Lib.firstT (gN d 0)/16))=if C then none else some 4:=by
 rw[e1,e2,e3,e4]
 show(if d.length<4∨gN d 1<lo∨hi<gN d 1∨gN d 2<128∨191<gN d 2∨gN d 3<128∨191<gN d 3 then none else some 4)=_
 by_cases q:C
 ·rw[if_pos q,if_pos (hiff.2 q)]
 ·rw[if_neg q,if_neg (fun z=>q (hiff.1 z))]
theorem ck_x (d:List B) (C:Prop) [Decidable C] (n:Nat) (e1:Lib.firstT (gN d 0)=241) (hC:C):Lib.checkN d.length (gN d 1) (gN d 2) (gN d 3) (Lib.firstT (gN d 0)%8) (Lib.accLo (Lib.firstT (gN d 0)/16)) (Lib.accHi (Lib.firstT (gN d 0)/16))=if C then none else some n:=by
 rw[e1,if_pos hC];rfl
theorem yutD_2 {d:List B} (h:d≠[]) (h0:192≤gN d 0) (h1:gN d 0<224):utD d=if d.length<2∨gN d 1<128∨192≤gN d 1∨(gN d 0-192)*64+(gN d 1-128)<128 then false else utD (d.drop 2):=by
 have g1:=gN_lt d 1
 refine yutD_of h (by omega) (d.length<2∨gN d 1<128∨192≤gN d 1∨(gN d 0-192)*64+(gN d 1-128)<128) ?_
 by_cases q:gN d 0<194
 ·exact ck_x d _ 2 (by unfold Lib.firstT;rw[if_neg (by omega),if_pos q]) (by omega)
 ·exact ck_2 d 2 128 191 _ (by unfold Lib.firstT;rw[if_neg (by omega),if_neg q,if_pos h1]) rfl rfl rfl (by omega)
theorem yutD_3 {d:List B} (h:d≠[]) (h0:224≤gN d 0) (h1:gN d 0<240):utD d=if d.length<3∨gN d 1<128∨192≤gN d 1∨gN d 2<128∨192≤gN d 2∨((gN d 0-224)*64+(gN d 1-128))*64+(gN d 2-128)<2048∨(55296≤((gN d 0-224)*64+(gN d 1-128))*64+(gN d 2-128)∧((gN d 0-224)*64+(gN d 1-128))*64+(gN d 2-128)≤57343) then false else utD (d.drop 3):=by
 have g1:=gN_lt d 1;have g2:=gN_lt d 2
 refine yutD_of h (by omega) (d.length<3∨gN d 1<128∨192≤gN d 1∨gN d 2<128∨192≤gN d 2∨((gN d 0-224)*64+(gN d 1-128))*64+(gN d 2-128)<2048∨(55296≤((gN d 0-224)*64+(gN d 1-128))*64+(gN d 2-128)∧((gN d 0-224)*64+(gN d 1-128))*64+(gN d 2-128)≤57343)) ?_
 by_cases c1:gN d 0=224
 ·exact ck_3 d 19 160 191 _ (by rw[c1];decide) rfl rfl rfl (by omega)
 by_cases c2:gN d 0<237
 ·exact ck_3 d 3 128 191 _ (by simp[Lib.firstT,show¬gN d 0<128 by omega,show¬gN d 0<194 by omega,show¬gN d 0<224 by omega,c1,c2]) rfl rfl rfl (by omega)
 by_cases c3:gN d 0=237
 ·exact ck_3 d 35 128 159 _ (by rw[c3];decide) rfl rfl rfl (by omega)
 ·exact ck_3 d 3 128 191 _ (by simp[Lib.firstT,show¬gN d 0<128 by omega,show¬gN d 0<194 by omega,show¬gN d 0<224 by omega,c1,c2,c3,h1]) rfl rfl rfl (by omega)
theorem yutD_4 {d:List B} (h:d≠[]) (h0:240≤gN d 0) (h1:gN d 0<248):utD d=if d.length<4∨gN d 1<128∨192≤gN d 1∨gN d 2<128∨192≤gN d 2∨gN d 3<128∨192≤gN d 3∨(((gN d 0-240)*64+(gN d 1-128))*64+(gN d 2-128))*64+(gN d 3-128)<65536∨1114111<(((gN d 0-240)*64+(gN d 1-128))*64+(gN d 2-128))*64+(gN d 3-128) then false else utD (d.drop 4):=by
 have g1:=gN_lt d 1;have g2:=gN_lt d 2;have g3:=gN_lt d 3
 refine yutD_of h (by omega) (d.length<4∨gN d 1<128∨192≤gN d 1∨gN d 2<128∨192≤gN d 2∨gN d 3<128∨192≤gN d 3∨(((gN d 0-240)*64+(gN d 1-128))*64+(gN d 2-128))*64+(gN d 3-128)<65536∨1114111<(((gN d 0-240)*64+(gN d 1-128))*64+(gN d 2-128))*64+(gN d 3-128)) ?_
 by_cases c1:gN d 0=240
 ·exact ck_4 d 52 144 191 _ (by rw[c1];decide) rfl rfl rfl (by omega)
 by_cases c2:gN d 0<244
 ·exact ck_4 d 4 128 191 _ (by simp[Lib.firstT,show¬gN d 0<128 by omega,show¬gN d 0<194 by omega,show¬gN d 0<224 by omega,show¬gN d 0=224 by omega,show¬gN d 0<237 by omega,show¬gN d 0=237 by omega,show¬gN d 0<240 by omega,c1,c2]) rfl rfl rfl (by omega)
 by_cases c3:gN d 0=244
 ·exact ck_4 d 68 128 143 _ (by rw[c3];decide) rfl rfl rfl (by omega)
 ·exact ck_x d _ 4 (by simp[Lib.firstT,show¬gN d 0<128 by omega,show¬gN d 0<194 by omega,show¬gN d 0<224 by omega,show¬gN d 0=224 by omega,show¬gN d 0<237 by omega,show¬gN d 0=237 by omega,show¬gN d 0<240 by omega,c1,c2,c3]) (by omega)
end Go.Proofs.YtmmlkfkpblokiaaGreatDoor
namespace Go.Proofs.YtmmlkfkpblokiaaGreatDoor
open Go Go.RowKit Go.Sort
attribute [local go_sem] setCell_drewN alloc_drewN
theorem gN_drop (d:List B) (k i:Nat):gN (d.drop k) i=gN d (k+i):=by
 unfold gN;rw[List.getD_eq_getElem?_getD,List.getD_eq_getElem?_getD,List.getElem?_drop]
theorem gN_bv (d:List B) (j:Nat):bv (gb d j)=((gN d j:Nat):Int):=rfl
theorem r_Text {W:World} {v:Value} {d:List B} (hB:BysB W v d) (w:World) (hw:Below W.heap.size W w):Calls Tryz.prog 99 #[v] w fun e w'=>e=.returned (.bool (utD d))∧Below w.heap.size w w':=by
 obtain⟨ao,cap,rfl⟩:=hB.form;have hB1:=hB.keep hw;have hdl:=hB.2.1;clear hB hw;obtain⟨R,hR⟩:∃R,utD d=R:=⟨_,rfl⟩;rw[hR]
 go_enter Tryz.func99,Tryz.ntmps99
 go_wp2_with (fail)
 go_loopw [3,4,5,6,7] (fun i _ _ _ _ wr=>∃k:Nat,k≤d.length∧i=.int .i64 k∧utD (d.drop k)=R∧Below w.heap.size w wr) (fun i _ _ _ _ _=>d.length-(intOf i).toNat)
 case atStart=>exact⟨0,by omega,rfl,hR,Below.refl _ _⟩
 case round=>
  clear hR;obtain⟨k,hk,rfl,hR,hb⟩:=hrel
  rcases Nat.lt_or_ge k d.length with hlt|hge
  ·have hBr:=hB1.keep hb
   obtain⟨b,off,rfl,_,_,hcell⟩:=bys_cell hBr (by omega)
   have hpl:(d.drop k).length=d.length-k:=List.length_drop
   have hpn:d.drop k≠[]:=fun e=>by rw[e] at hpl;simp at hpl;omega
   have hce:∀i,k+i<d.length→wr.cell? ⟨b,off+(k+i),none⟩=some (.int .u8 ((gN (d.drop k) i:Nat):Int)):=fun i hi=>by rw[hcell (k+i) hi,gN_bv,gN_drop]
   have hdr:∀i,(d.drop k).drop i=d.drop (k+i):=fun i=>by rw[List.drop_drop]
   have c0:=hce 0 hlt;rw[Nat.add_zero] at c0
   have q0:(k:Int)<(d.length:Int):=by omega
   have l0:=gN_lt (d.drop k) 0
   have hU1:=fun h=>yutD_1 (d:=d.drop k) hpn h
   have hUx:=fun h h'=>yutD_x (d:=d.drop k) hpn h h'
   have hU2:=fun h h'=>yutD_2 (d:=d.drop k) hpn h h'
   have hU3:=fun h h'=>yutD_3 (d:=d.drop k) hpn h h'
   have hU4:=fun h h'=>yutD_4 (d:=d.drop k) hpn h h'
   simp only[hdr] at hU1 hU2 hU3 hU4;simp only[hpl] at hU2 hU3 hU4;rw[hR] at hU1 hUx hU2 hU3 hU4;have l1:=gN_lt (d.drop k) 1;have l2:=gN_lt (d.drop k) 2;have l3:=gN_lt (d.drop k) 3;have hce1:=hce 1;have hce2:=hce 2;have hce3:=hce 3;clear hce hcell hBr hpl hpn hdr hR hk
   generalize gN (d.drop k) 0=x0 at *
   generalize gN (d.drop k) 1=x1 at *
   generalize gN (d.drop k) 2=x2 at *
   generalize gN (d.drop k) 3=x3 at *
   replace hU1:=hide hU1;replace hU2:=hide hU2;replace hU3:=hide hU3;replace hU4:=hide hU4;replace hUx:=hide hUx;replace hce1:=hide hce1;replace hce2:=hide hce2;replace hce3:=hide hce3
   generalize hN:d.length=N at *
   replace hN:=hide hN
   by_cases h1:x0<128
   ·have f1:(x0:Int)<128:=by omega
    have f2:(0:Int)≤(x0:Int):=by omega
    have g0:(k:Int)+1≤(N:Int):=by omega
    have hU:=hide (hU1.out h1);clear hU1 hU2 hU3 hU4 hUx h1 hce1 hce2 hce3
    go_upto_region 17 with(fail)
    refine wp_loop_rounds 1 ?_;rw[rounds_succ]
    go_upto_region 22 with(fail)
    have f3:decide ((1114111:Int)<(x0:Int))=false:=decide_eq_false (by omega)
    have f4:decide ((55296:Int)≤(x0:Int))=false:=decide_eq_false (by omega)
    go_wp2_with (fail)
    exact⟨⟨k+1,by omega,by push_cast;rfl,hU.out.symm,hb⟩,by simp only[intOf];omega⟩
   by_cases h2:x0<192
   ·have hU:=hide (hUx.out (by omega) (by omega))
    have f2:(128:Int)≤(x0:Int):=by omega
    clear hU1 hU2 hU3 hU4 hUx h1 hce1 hce2 hce3
    have f1:(x0:Int)<192:=by omega
    have f3:(x0:Int)<224:=by omega
    have f4:(x0:Int)<240:=by omega
    go_wp2_with (fail)
    go_ret
    exact⟨by rw[hU.out];rfl,hb⟩
   by_cases h8:248≤x0
   ·have hU:=hide (hUx.out (by omega) (by omega))
    have f2:(128:Int)≤(x0:Int):=by omega
    clear hU1 hU2 hU3 hU4 hUx h1 hce1 hce2 hce3
    have f1:(248:Int)≤(x0:Int):=by omega
    have f3:(224:Int)≤(x0:Int):=by omega
    have f4:(240:Int)≤(x0:Int):=by omega
    have f5:(192:Int)≤(x0:Int):=by omega
    go_wp2_with (fail)
    go_ret
    exact⟨by rw[hU.out];rfl,hb⟩
   by_cases h2:x0<224
   ·have f0:(192:Int)≤(x0:Int):=by omega
    have f1:(x0:Int)<224:=by omega
    have f2:(128:Int)≤(x0:Int):=by omega
    have hU:=hide (hU2.out (by omega) (by omega))
    clear hU1 hU2 hU3 hU4 hUx h1
    by_cases hn:N<k+2
    ·have g0:(N:Int)<(k:Int)+2:=by omega
     go_wp2_with (fail)
     go_ret
     exact⟨by rw[hU.out,if_pos (by omega)];rfl,hb⟩
    have g0:(k:Int)+2≤(N:Int):=by omega
    have c1:=hce1.out (by omega)
    have p1:(k:Int)+1<(N:Int):=by omega
    have pn1:k+1<N:=by omega
    clear hce1 hce2 hce3
    go_wp2_with (fail)
    refine wp_loop_rounds 2 ?_;rw[rounds_succ]
    by_cases hl1:x1<128
    ·have e1:(x1:Int)<128:=by omega
     go_wp2_with (fail)
     go_ret
     exact⟨by rw[hU.out,if_pos (by omega)];rfl,hb⟩
    have e1:(128:Int)≤(x1:Int):=by omega
    by_cases hh1:192≤x1
    ·have e1:(192:Int)≤(x1:Int):=by omega
     go_wp2_with (fail)
     go_ret
     exact⟨by rw[hU.out,if_pos (by omega)];rfl,hb⟩
    have d1:(x1:Int)<192:=by omega
    go_wp2_with (fail)
    rw[rounds_succ]
    go_upto_region 22 with(fail)
    have hV:(((x0:Int)-192)*64+((x1:Int)-128))=((((x0-192)*64+(x1-128)):Nat):Int):=by omega
    rw[hV];have hU2:=hU.out
    generalize hW:((x0-192)*64+(x1-128))=V at *
    clear hV hU
    by_cases hc20:V<128
    ·have z1:decide ((V:Int)<128)=true:=decide_eq_true (by omega)
     go_wp2_with (fail)
     go_ret
     exact⟨by rw[hU2,if_pos (by omega)];rfl,hb⟩
    have z1:decide ((V:Int)<128)=false:=decide_eq_false (by omega)
    have z2:decide ((1114111:Int)<(V:Int))=false:=decide_eq_false (by omega)
    have z3:decide ((55296:Int)≤(V:Int))=false:=decide_eq_false (by omega)
    go_wp2_with (fail)
    exact⟨⟨k+2,by omega,by push_cast;rfl,by rw[hU2,if_neg (by omega)],hb⟩,by simp only[intOf];omega⟩
   by_cases h3:x0<240
   ·have f0:(224:Int)≤(x0:Int):=by omega
    have f1:(x0:Int)<240:=by omega
    have f2:(128:Int)≤(x0:Int):=by omega
    have f3:(192:Int)≤(x0:Int):=by omega
    have f4:(224:Int)≤(x0:Int):=by omega
    have hU:=hide (hU3.out (by omega) (by omega))
    clear hU1 hU2 hU3 hU4 hUx h1
    by_cases hn:N<k+3
    ·have g0:(N:Int)<(k:Int)+3:=by omega
     go_wp2_with (fail)
     go_ret
     exact⟨by rw[hU.out,if_pos (by omega)];rfl,hb⟩
    have g0:(k:Int)+3≤(N:Int):=by omega
    have c1:=hce1.out (by omega)
    have p1:(k:Int)+1<(N:Int):=by omega
    have pn1:k+1<N:=by omega
    have c2:=hce2.out (by omega)
    have p2:(k:Int)+2<(N:Int):=by omega
    have pn2:k+2<N:=by omega
    clear hce1 hce2 hce3
    go_wp2_with (fail)
    refine wp_loop_rounds 3 ?_;rw[rounds_succ]
    by_cases hl1:x1<128
    ·have e1:(x1:Int)<128:=by omega
     go_wp2_with (fail)
     go_ret
     exact⟨by rw[hU.out,if_pos (by omega)];rfl,hb⟩
    have e1:(128:Int)≤(x1:Int):=by omega
    by_cases hh1:192≤x1
    ·have e1:(192:Int)≤(x1:Int):=by omega
     go_wp2_with (fail)
     go_ret
     exact⟨by rw[hU.out,if_pos (by omega)];rfl,hb⟩
    have d1:(x1:Int)<192:=by omega
    go_wp2_with (fail)
    rw[rounds_succ]
    by_cases hl2:x2<128
    ·have e1:(x2:Int)<128:=by omega
     go_wp2_with (fail)
     go_ret
     exact⟨by rw[hU.out,if_pos (by omega)];rfl,hb⟩
    have e2:(128:Int)≤(x2:Int):=by omega
    by_cases hh2:192≤x2
    ·have e1:(192:Int)≤(x2:Int):=by omega
     go_wp2_with (fail)
     go_ret
     exact⟨by rw[hU.out,if_pos (by omega)];rfl,hb⟩
    have d2:(x2:Int)<192:=by omega
    go_wp2_with (fail)
    rw[rounds_succ]
    go_upto_region 22 with(fail)
    have hV:((((x0:Int)-224)*64+((x1:Int)-128))*64+((x2:Int)-128))=(((((x0-224)*64+(x1-128))*64+(x2-128)):Nat):Int):=by omega
    rw[hV];have hU2:=hU.out
    generalize hW:(((x0-224)*64+(x1-128))*64+(x2-128))=V at *
    clear hV hU
    by_cases hc29:V<2048
    ·have z1:decide ((V:Int)<2048)=true:=decide_eq_true (by omega)
     go_wp2_with (fail)
     go_ret
     exact⟨by rw[hU2,if_pos (by omega)];rfl,hb⟩
    have z1:decide ((V:Int)<2048)=false:=decide_eq_false (by omega)
    have z2:decide ((1114111:Int)<(V:Int))=false:=decide_eq_false (by omega)
    by_cases hs:55296≤V
    rotate_left
    ·have z3:decide ((55296:Int)≤(V:Int))=false:=decide_eq_false (by omega)
     go_wp2_with (fail)
     exact⟨⟨k+3,by omega,by push_cast;rfl,by rw[hU2,if_neg (by omega)],hb⟩,by simp only[intOf];omega⟩
    have z3:decide ((55296:Int)≤(V:Int))=true:=decide_eq_true (by omega)
    by_cases hc34:V≤57343
    ·have z4:decide ((V:Int)≤57343)=true:=decide_eq_true (by omega)
     go_wp2_with (fail)
     go_ret
     exact⟨by rw[hU2,if_pos (by omega)];rfl,hb⟩
    have z4:decide ((V:Int)≤57343)=false:=decide_eq_false (by omega)
    go_wp2_with (fail)
    exact⟨⟨k+3,by omega,by push_cast;rfl,by rw[hU2,if_neg (by omega)],hb⟩,by simp only[intOf];omega⟩
   have f0:(240:Int)≤(x0:Int):=by omega
   have f1:(x0:Int)<248:=by omega
   have f2:(128:Int)≤(x0:Int):=by omega
   have f3:(192:Int)≤(x0:Int):=by omega
   have f4:(224:Int)≤(x0:Int):=by omega
   have hU:=hide (hU4.out (by omega) (by omega))
   clear hU1 hU2 hU3 hU4 hUx h1
   by_cases hn:N<k+4
   ·have g0:(N:Int)<(k:Int)+4:=by omega
    go_wp2_with (fail)
    go_ret
    exact⟨by rw[hU.out,if_pos (by omega)];rfl,hb⟩
   have g0:(k:Int)+4≤(N:Int):=by omega
   have c1:=hce1.out (by omega)
   have p1:(k:Int)+1<(N:Int):=by omega
   have pn1:k+1<N:=by omega
   have c2:=hce2.out (by omega)
   have p2:(k:Int)+2<(N:Int):=by omega
   have pn2:k+2<N:=by omega
   have c3:=hce3.out (by omega)
   have p3:(k:Int)+3<(N:Int):=by omega
   have pn3:k+3<N:=by omega
   clear hce1 hce2 hce3
   go_wp2_with (fail)
   refine wp_loop_rounds 4 ?_;rw[rounds_succ]
   by_cases hl1:x1<128
   ·have e1:(x1:Int)<128:=by omega
    go_wp2_with (fail)
    go_ret
    exact⟨by rw[hU.out,if_pos (by omega)];rfl,hb⟩
   have e1:(128:Int)≤(x1:Int):=by omega
   by_cases hh1:192≤x1
   ·have e1:(192:Int)≤(x1:Int):=by omega
    go_wp2_with (fail)
    go_ret
    exact⟨by rw[hU.out,if_pos (by omega)];rfl,hb⟩
   have d1:(x1:Int)<192:=by omega
   go_wp2_with (fail)
   rw[rounds_succ]
   by_cases hl2:x2<128
   ·have e1:(x2:Int)<128:=by omega
    go_wp2_with (fail)
    go_ret
    exact⟨by rw[hU.out,if_pos (by omega)];rfl,hb⟩
   have e2:(128:Int)≤(x2:Int):=by omega
   by_cases hh2:192≤x2
   ·have e1:(192:Int)≤(x2:Int):=by omega
    go_wp2_with (fail)
    go_ret
    exact⟨by rw[hU.out,if_pos (by omega)];rfl,hb⟩
   have d2:(x2:Int)<192:=by omega
   go_wp2_with (fail)
   rw[rounds_succ]
   by_cases hl3:x3<128
   ·have e1:(x3:Int)<128:=by omega
    go_wp2_with (fail)
    go_ret
    exact⟨by rw[hU.out,if_pos (by omega)];rfl,hb⟩
   have e3:(128:Int)≤(x3:Int):=by omega
   by_cases hh3:192≤x3
   ·have e1:(192:Int)≤(x3:Int):=by omega
    go_wp2_with (fail)
    go_ret
    exact⟨by rw[hU.out,if_pos (by omega)];rfl,hb⟩
   have d3:(x3:Int)<192:=by omega
   go_wp2_with (fail)
   rw[rounds_succ]
   go_upto_region 22 with(fail)
   have hV:(((((x0:Int)-240)*64+((x1:Int)-128))*64+((x2:Int)-128))*64+((x3:Int)-128))=((((((x0-240)*64+(x1-128))*64+(x2-128))*64+(x3-128)):Nat):Int):=by omega
   rw[hV];have hU2:=hU.out
   generalize hW:((((x0-240)*64+(x1-128))*64+(x2-128))*64+(x3-128))=V at *
   clear hV hU
   by_cases hc36:V<65536
   ·have z1:decide ((V:Int)<65536)=true:=decide_eq_true (by omega)
    go_wp2_with (fail)
    go_ret
    exact⟨by rw[hU2,if_pos (by omega)];rfl,hb⟩
   have z1:decide ((V:Int)<65536)=false:=decide_eq_false (by omega)
   by_cases hc38:1114111<V
   ·have z2:decide ((1114111:Int)<(V:Int))=true:=decide_eq_true (by omega)
    go_wp2_with (fail)
    go_ret
    exact⟨by rw[hU2,if_pos (by omega)];rfl,hb⟩
   have z2:decide ((1114111:Int)<(V:Int))=false:=decide_eq_false (by omega)
   have z3:decide ((55296:Int)≤(V:Int))=true:=decide_eq_true (by omega)
   have z4:decide ((V:Int)≤57343)=false:=decide_eq_false (by omega)
   go_wp2_with (fail)
   exact⟨⟨k+4,by omega,by push_cast;rfl,by rw[hU2,if_neg (by omega)],hb⟩,by simp only[intOf];omega⟩
  ·obtain rfl:k=d.length:=by omega
   rw[List.drop_length] at hR
   have hR2:R=true:=by rw[←hR];rfl
   have q0:(d.length:Int)≤(d.length:Int):=Int.le_refl _;clear hR
   go_wp2_with (fail)
   go_ret
   exact⟨by rw[hR2];rfl,hb⟩
end Go.Proofs.YtmmlkfkpblokiaaGreatDoor
