import Derived.Test.YtmmlkfkpblokiaaGreatDoorQdKtn
import Derived.Deep.Cut
import Ieee.Arith
import Derived.Test.YtmmlkfkpblokiaaGreatDoorQdIrb
import Derived.Test.YtmmlkfkpblokiaaGreatDoorQdUb
namespace Go.Proofs.YtmmlkfkpblokiaaGreatDoor
set_option maxRecDepth 100000
open Go Go.RowKit Go.Sort
attribute [local go_sem] setCell_drewN alloc_drewN
theorem gN_drop (d:List B) (k i:Nat):gN (d.drop k) i=gN d (k+i):=by
 unfold gN;rw[List.getD_eq_getElem?_getD,List.getD_eq_getElem?_getD,List.getElem?_drop]
theorem gN_bv (d:List B) (j:Nat):bv (gb d j)=((gN d j:Nat):Int):=rfl
set_option maxRecDepth 100000 in
set_option maxHeartbeats 16000000 in
theorem r_Text {W:World} {v:Value} {d:List B} (hB:BysB W v d) (w:World) (hw:Below W.heap.size W w):Calls Tryz.prog 99 #[v] w fun e w'=>e=.returned (.bool (utD d))∧Below w.heap.size w w':=by
 obtain⟨ao,cap,rfl⟩:=hB.form;have hB1:=hB.keep hw;have hdl:=hB.2.1;clear hB hw;obtain⟨R,hR⟩:∃R,utD d=R:=⟨_,rfl⟩;rw[hR]
 go_enter Tryz.func99,Tryz.ntmps99
 go_wp2_with (fail)
 go_loopw [3,4,5,6,7] (fun i _ _ _ _ wr=>∃k:Nat,k≤d.length∧i=.int .i64 k∧utD (d.drop k)=R∧Below w.heap.size w wr) (fun i _ _ _ _ _=>d.length-(intOf i).toNat)
 case atStart=>exact⟨0,by omega,rfl,hR,Below.refl _ _⟩
 case round=>
  clear hR;obtain⟨k,hk,rfl,hR,hb⟩:=hrel
  rcases Nat.lt_or_ge k d.length with hlt|hge
  ·have hBr:=hB1.keep hb
   obtain⟨b,off,rfl,_,_,hcell⟩:=bys_cell hBr (by omega)
   have hpl:(d.drop k).length=d.length-k:=List.length_drop
   have hpn:d.drop k≠[]:=fun e=>by rw[e] at hpl;simp at hpl;omega
   have hce:∀i,k+i<d.length→wr.cell? ⟨b,off+(k+i),none⟩=some (.int .u8 ((gN (d.drop k) i:Nat):Int)):=fun i hi=>by rw[hcell (k+i) hi,gN_bv,gN_drop]
   have hdr:∀i,(d.drop k).drop i=d.drop (k+i):=fun i=>by rw[List.drop_drop]
   have c0:=hce 0 hlt;rw[Nat.add_zero] at c0
   have q0:(k:Int)<(d.length:Int):=by omega
   have l0:=gN_lt (d.drop k) 0
   have hU1:=fun h=>yutD_1 (d:=d.drop k) hpn h
   have hUx:=fun h h'=>yutD_x (d:=d.drop k) hpn h h'
   have hU2:=fun h h'=>yutD_2 (d:=d.drop k) hpn h h'
   have hU3:=fun h h'=>yutD_3 (d:=d.drop k) hpn h h'
   have hU4:=fun h h'=>yutD_4 (d:=d.drop k) hpn h h'
   simp only[hdr] at hU1 hU2 hU3 hU4;simp only[hpl] at hU2 hU3 hU4;rw[hR] at hU1 hUx hU2 hU3 hU4;have l1:=gN_lt (d.drop k) 1;have l2:=gN_lt (d.drop k) 2;have l3:=gN_lt (d.drop k) 3;have hce1:=hce 1;have hce2:=hce 2;have hce3:=hce 3;clear hce hcell hBr hpl hpn hdr hR hk
   generalize gN (d.drop k) 0=x0 at *
   generalize gN (d.drop k) 1=x1 at *
   generalize gN (d.drop k) 2=x2 at *
   generalize gN (d.drop k) 3=x3 at *
   replace hU1:=hide hU1;replace hU2:=hide hU2;replace hU3:=hide hU3;replace hU4:=hide hU4;replace hUx:=hide hUx;replace hce1:=hide hce1;replace hce2:=hide hce2;replace hce3:=hide hce3
   generalize hN:d.length=N at *
   replace hN:=hide hN
   by_cases h1:x0<128
   ·have f1:(x0:Int)<128:=by omega
    have f2:(0:Int)≤(x0:Int):=by omega
    have g0:(k:Int)+1≤(N:Int):=by omega
    have hU:=hide (hU1.out h1);clear hU1 hU2 hU3 hU4 hUx h1 hce1 hce2 hce3
    go_upto_region 17 with(fail)
    refine wp_loop_rounds 1 ?_;rw[rounds_succ]
    go_upto_region 22 with(fail)
    have f3:decide ((1114111:Int)<(x0:Int))=false:=decide_eq_false (by omega)
    have f4:decide ((55296:Int)≤(x0:Int))=false:=decide_eq_false (by omega)
    go_wp2_with (fail)
    exact⟨⟨k+1,by omega,by push_cast;rfl,hU.out.symm,hb⟩,by simp only[intOf];omega⟩
   by_cases h2:x0<192
   ·have hU:=hide (hUx.out (by omega) (by omega))
    have f2:(128:Int)≤(x0:Int):=by omega
    clear hU1 hU2 hU3 hU4 hUx h1 hce1 hce2 hce3
    have f1:(x0:Int)<192:=by omega
    have f3:(x0:Int)<224:=by omega
    have f4:(x0:Int)<240:=by omega
    go_wp2_with (fail)
    go_ret
    exact⟨by rw[hU.out];rfl,hb⟩
   by_cases h8:248≤x0
   ·have hU:=hide (hUx.out (by omega) (by omega))
    have f2:(128:Int)≤(x0:Int):=by omega
    clear hU1 hU2 hU3 hU4 hUx h1 hce1 hce2 hce3
    have f1:(248:Int)≤(x0:Int):=by omega
    have f3:(224:Int)≤(x0:Int):=by omega
    have f4:(240:Int)≤(x0:Int):=by omega
    have f5:(192:Int)≤(x0:Int):=by omega
    go_wp2_with (fail)
    go_ret
    exact⟨by rw[hU.out];rfl,hb⟩
   by_cases h2:x0<224
   ·have f0:(192:Int)≤(x0:Int):=by omega
    have f1:(x0:Int)<224:=by omega
    have f2:(128:Int)≤(x0:Int):=by omega
    have hU:=hide (hU2.out (by omega) (by omega))
    clear hU1 hU2 hU3 hU4 hUx h1
    by_cases hn:N<k+2
    ·have g0:(N:Int)<(k:Int)+2:=by omega
     go_wp2_with (fail)
     go_ret
     exact⟨by rw[hU.out,if_pos (by omega)];rfl,hb⟩
    have g0:(k:Int)+2≤(N:Int):=by omega
    have c1:=hce1.out (by omega)
    have p1:(k:Int)+1<(N:Int):=by omega
    have pn1:k+1<N:=by omega
    clear hce1 hce2 hce3
    go_wp2_with (fail)
    refine wp_loop_rounds 2 ?_;rw[rounds_succ]
    by_cases hl1:x1<128
    ·have e1:(x1:Int)<128:=by omega
     go_wp2_with (fail)
     go_ret
     exact⟨by rw[hU.out,if_pos (by omega)];rfl,hb⟩
    have e1:(128:Int)≤(x1:Int):=by omega
    by_cases hh1:192≤x1
    ·have e1:(192:Int)≤(x1:Int):=by omega
     go_wp2_with (fail)
     go_ret
     exact⟨by rw[hU.out,if_pos (by omega)];rfl,hb⟩
    have d1:(x1:Int)<192:=by omega
    go_wp2_with (fail)
    rw[rounds_succ]
    go_upto_region 22 with(fail)
    have hV:(((x0:Int)-192)*64+((x1:Int)-128))=((((x0-192)*64+(x1-128)):Nat):Int):=by omega
    rw[hV];have hU2:=hU.out
    generalize hW:((x0-192)*64+(x1-128))=V at *
    clear hV hU
    by_cases hc20:V<128
    ·have z1:decide ((V:Int)<128)=true:=decide_eq_true (by omega)
     go_wp2_with (fail)
     go_ret
     exact⟨by rw[hU2,if_pos (by omega)];rfl,hb⟩
    have z1:decide ((V:Int)<128)=false:=decide_eq_false (by omega)
    have z2:decide ((1114111:Int)<(V:Int))=false:=decide_eq_false (by omega)
    have z3:decide ((55296:Int)≤(V:Int))=false:=decide_eq_false (by omega)
    go_wp2_with (fail)
    exact⟨⟨k+2,by omega,by push_cast;rfl,by rw[hU2,if_neg (by omega)],hb⟩,by simp only[intOf];omega⟩
   by_cases h3:x0<240
   ·have f0:(224:Int)≤(x0:Int):=by omega
    have f1:(x0:Int)<240:=by omega
    have f2:(128:Int)≤(x0:Int):=by omega
    have f3:(192:Int)≤(x0:Int):=by omega
    have f4:(224:Int)≤(x0:Int):=by omega
    have hU:=hide (hU3.out (by omega) (by omega))
    clear hU1 hU2 hU3 hU4 hUx h1
    by_cases hn:N<k+3
    ·have g0:(N:Int)<(k:Int)+3:=by omega
     go_wp2_with (fail)
     go_ret
     exact⟨by rw[hU.out,if_pos (by omega)];rfl,hb⟩
    have g0:(k:Int)+3≤(N:Int):=by omega
    have c1:=hce1.out (by omega)
    have p1:(k:Int)+1<(N:Int):=by omega
    have pn1:k+1<N:=by omega
    have c2:=hce2.out (by omega)
    have p2:(k:Int)+2<(N:Int):=by omega
    have pn2:k+2<N:=by omega
    clear hce1 hce2 hce3
    go_wp2_with (fail)
    refine wp_loop_rounds 3 ?_;rw[rounds_succ]
    by_cases hl1:x1<128
    ·have e1:(x1:Int)<128:=by omega
     go_wp2_with (fail)
     go_ret
     exact⟨by rw[hU.out,if_pos (by omega)];rfl,hb⟩
    have e1:(128:Int)≤(x1:Int):=by omega
    by_cases hh1:192≤x1
    ·have e1:(192:Int)≤(x1:Int):=by omega
     go_wp2_with (fail)
     go_ret
     exact⟨by rw[hU.out,if_pos (by omega)];rfl,hb⟩
    have d1:(x1:Int)<192:=by omega
    go_wp2_with (fail)
    rw[rounds_succ]
    by_cases hl2:x2<128
    ·have e1:(x2:Int)<128:=by omega
     go_wp2_with (fail)
     go_ret
     exact⟨by rw[hU.out,if_pos (by omega)];rfl,hb⟩
    have e2:(128:Int)≤(x2:Int):=by omega
    by_cases hh2:192≤x2
    ·have e1:(192:Int)≤(x2:Int):=by omega
     go_wp2_with (fail)
     go_ret
     exact⟨by rw[hU.out,if_pos (by omega)];rfl,hb⟩
    have d2:(x2:Int)<192:=by omega
    go_wp2_with (fail)
    rw[rounds_succ]
    go_upto_region 22 with(fail)
    have hV:((((x0:Int)-224)*64+((x1:Int)-128))*64+((x2:Int)-128))=(((((x0-224)*64+(x1-128))*64+(x2-128)):Nat):Int):=by omega
    rw[hV];have hU2:=hU.out
    generalize hW:(((x0-224)*64+(x1-128))*64+(x2-128))=V at *
    clear hV hU
    by_cases hc29:V<2048
    ·have z1:decide ((V:Int)<2048)=true:=decide_eq_true (by omega)
     go_wp2_with (fail)
     go_ret
     exact⟨by rw[hU2,if_pos (by omega)];rfl,hb⟩
    have z1:decide ((V:Int)<2048)=false:=decide_eq_false (by omega)
    have z2:decide ((1114111:Int)<(V:Int))=false:=decide_eq_false (by omega)
    by_cases hs:55296≤V
    rotate_left
    ·have z3:decide ((55296:Int)≤(V:Int))=false:=decide_eq_false (by omega)
     go_wp2_with (fail)
     exact⟨⟨k+3,by omega,by push_cast;rfl,by rw[hU2,if_neg (by omega)],hb⟩,by simp only[intOf];omega⟩
    have z3:decide ((55296:Int)≤(V:Int))=true:=decide_eq_true (by omega)
    by_cases hc34:V≤57343
    ·have z4:decide ((V:Int)≤57343)=true:=decide_eq_true (by omega)
     go_wp2_with (fail)
     go_ret
     exact⟨by rw[hU2,if_pos (by omega)];rfl,hb⟩
    have z4:decide ((V:Int)≤57343)=false:=decide_eq_false (by omega)
    go_wp2_with (fail)
    exact⟨⟨k+3,by omega,by push_cast;rfl,by rw[hU2,if_neg (by omega)],hb⟩,by simp only[intOf];omega⟩
   have f0:(240:Int)≤(x0:Int):=by omega
   have f1:(x0:Int)<248:=by omega
   have f2:(128:Int)≤(x0:Int):=by omega
   have f3:(192:Int)≤(x0:Int):=by omega
   have f4:(224:Int)≤(x0:Int):=by omega
   have hU:=hide (hU4.out (by omega) (by omega))
   clear hU1 hU2 hU3 hU4 hUx h1
   by_cases hn:N<k+4
   ·have g0:(N:Int)<(k:Int)+4:=by omega
    go_wp2_with (fail)
    go_ret
    exact⟨by rw[hU.out,if_pos (by omega)];rfl,hb⟩
   have g0:(k:Int)+4≤(N:Int):=by omega
   have c1:=hce1.out (by omega)
   have p1:(k:Int)+1<(N:Int):=by omega
   have pn1:k+1<N:=by omega
   have c2:=hce2.out (by omega)
   have p2:(k:Int)+2<(N:Int):=by omega
   have pn2:k+2<N:=by omega
   have c3:=hce3.out (by omega)
   have p3:(k:Int)+3<(N:Int):=by omega
   have pn3:k+3<N:=by omega
   clear hce1 hce2 hce3
   go_wp2_with (fail)
   refine wp_loop_rounds 4 ?_;rw[rounds_succ]
   by_cases hl1:x1<128
   ·have e1:(x1:Int)<128:=by omega
    go_wp2_with (fail)
    go_ret
    exact⟨by rw[hU.out,if_pos (by omega)];rfl,hb⟩
   have e1:(128:Int)≤(x1:Int):=by omega
   by_cases hh1:192≤x1
   ·have e1:(192:Int)≤(x1:Int):=by omega
    go_wp2_with (fail)
    go_ret
    exact⟨by rw[hU.out,if_pos (by omega)];rfl,hb⟩
   have d1:(x1:Int)<192:=by omega
   go_wp2_with (fail)
   rw[rounds_succ]
   by_cases hl2:x2<128
   ·have e1:(x2:Int)<128:=by omega
    go_wp2_with (fail)
    go_ret
    exact⟨by rw[hU.out,if_pos (by omega)];rfl,hb⟩
   have e2:(128:Int)≤(x2:Int):=by omega
   by_cases hh2:192≤x2
   ·have e1:(192:Int)≤(x2:Int):=by omega
    go_wp2_with (fail)
    go_ret
    exact⟨by rw[hU.out,if_pos (by omega)];rfl,hb⟩
   have d2:(x2:Int)<192:=by omega
   go_wp2_with (fail)
   rw[rounds_succ]
   by_cases hl3:x3<128
   ·have e1:(x3:Int)<128:=by omega
    go_wp2_with (fail)
    go_ret
    exact⟨by rw[hU.out,if_pos (by omega)];rfl,hb⟩
   have e3:(128:Int)≤(x3:Int):=by omega
   by_cases hh3:192≤x3
   ·have e1:(192:Int)≤(x3:Int):=by omega
    go_wp2_with (fail)
    go_ret
    exact⟨by rw[hU.out,if_pos (by omega)];rfl,hb⟩
   have d3:(x3:Int)<192:=by omega
   go_wp2_with (fail)
   rw[rounds_succ]
   go_upto_region 22 with(fail)
   have hV:(((((x0:Int)-240)*64+((x1:Int)-128))*64+((x2:Int)-128))*64+((x3:Int)-128))=((((((x0-240)*64+(x1-128))*64+(x2-128))*64+(x3-128)):Nat):Int):=by omega
   rw[hV];have hU2:=hU.out
   generalize hW:((((x0-240)*64+(x1-128))*64+(x2-128))*64+(x3-128))=V at *
   clear hV hU
   by_cases hc36:V<65536
   ·have z1:decide ((V:Int)<65536)=true:=decide_eq_true (by omega)
    go_wp2_with (fail)
    go_ret
    exact⟨by rw[hU2,if_pos (by omega)];rfl,hb⟩
   have z1:decide ((V:Int)<65536)=false:=decide_eq_false (by omega)
   by_cases hc38:1114111<V
   ·have z2:decide ((1114111:Int)<(V:Int))=true:=decide_eq_true (by omega)
    go_wp2_with (fail)
    go_ret
    exact⟨by rw[hU2,if_pos (by omega)];rfl,hb⟩
   have z2:decide ((1114111:Int)<(V:Int))=false:=decide_eq_false (by omega)
   have z3:decide ((55296:Int)≤(V:Int))=true:=decide_eq_true (by omega)
   have z4:decide ((V:Int)≤57343)=false:=decide_eq_false (by omega)
   go_wp2_with (fail)
   exact⟨⟨k+4,by omega,by push_cast;rfl,by rw[hU2,if_neg (by omega)],hb⟩,by simp only[intOf];omega⟩
  ·obtain rfl:k=d.length:=by omega
   rw[List.drop_length] at hR
   have hR2:R=true:=by rw[←hR];rfl
   have q0:(d.length:Int)≤(d.length:Int):=Int.le_refl _;clear hR
   go_wp2_with (fail)
   go_ret
   exact⟨by rw[hR2];rfl,hb⟩
end Go.Proofs.YtmmlkfkpblokiaaGreatDoor
namespace Go.Proofs.YtmmlkfkpblokiaaGreatDoor
set_option maxRecDepth 100000
open Ieee
def rnd (n d:Nat):Nat:=n/2^d+(decide (2^d<2*(n%2^d))||(2^d==2*(n%2^d)&&n/2^d%2==1)).toNat
theorem rnd_down {n d:Nat} (h:2*(n%2^d)<2^d):rnd n d=n/2^d:=by
 unfold rnd
 rw[decide_eq_false (by omega),show(2^d==2*(n%2^d))=false from beq_eq_false_iff_ne.2 (by omega)];rfl
theorem cut_rnd (s:Bool) (n d:Nat):Toward.even.cut s n d=rnd n d:=by
 by_cases h:d≤n.log2+2
 ·simp only[Toward.cut,rnd,Nat.min_eq_left h,Nat.one_shiftLeft]
 ·have h':n.log2+2≤d:=by omega
  have h1:n<2^(n.log2+1):=Nat.lt_log2_self
  have h2:2^(n.log2+2)=2*2^(n.log2+1):=by rw[show n.log2+2=(n.log2+1)+1 from rfl,Nat.pow_succ];omega
  have h3:2^(n.log2+2)≤2^d:=Nat.pow_le_pow_right (by omega) h'
  have hn:n<2^d:=by omega
  rw[rnd_down (by rw[Nat.mod_eq_of_lt hn];omega),Nat.div_eq_of_lt hn]
  simp only[Toward.cut,Nat.min_eq_right h',Nat.one_shiftLeft]
  have h4:n<2^(n.log2+2):=by omega
  rw[Nat.div_eq_of_lt h4,Nat.mod_eq_of_lt h4,decide_eq_false (by omega),show(2^(n.log2+2)==2*n)=false from beq_eq_false_iff_ne.2 (by omega)]
  rfl
def mg (r:Nat):Nat:=if r<2^52 then r else 2^52+r%2^52
def ex (r:Nat):Nat:=r/2^52-1
def val (r:Nat):Nat:=mg r*2^ex r
theorem read_fin {b:Nat} (h:b%2^63<2047*2^52):double.read b=.number (b/2^63%2==1) (mg (b%2^63)) (-1074+(ex (b%2^63):Int)):=by
 have e1:double.signWeight=2^63:=by decide
 have e2:double.binade=2^52:=by decide
 have e3:double.infRung=2047*2^52:=by decide
 have e4:double.leastPlace= -1074:=by decide
 unfold Format.read;rw[e1,e2,e3,e4]
 generalize b%2^63=r at *
 dsimp only;unfold mg ex
 by_cases h1:r<2^52
 ·rw[if_pos h1,if_pos h1,Nat.div_eq_of_lt h1];rfl
 ·rw[if_neg h1,if_neg h1,if_pos h]
theorem mg_lt (r:Nat):mg r<2^53:=by
 unfold mg
 have:=Nat.mod_lt r (show 0<2^52 by decide)
 split<;>omega
theorem val_mono {r q:Nat} (h:r≤q):val r≤val q:=by
 have hm:=mg_lt r;have hd:r/2^52≤q/2^52:=Nat.div_le_div_right h;have e1:=Nat.div_add_mod r (2^52);have e2:=Nat.div_add_mod q (2^52);unfold val
 by_cases h1:ex r=ex q
 ·rw[h1]
  refine Nat.mul_le_mul_right _ ?_
  unfold ex at h1;unfold mg
  split<;>split<;>omega
 ·have h2:ex r+1≤ex q:=by unfold ex at *;omega
  have h3:¬q<2^52:=by
   intro x;have:=Nat.div_eq_of_lt x;unfold ex at h2;omega
  have h4:2^52≤mg q:=by unfold mg;rw[if_neg h3];omega
  calc mg r*2^ex r≤2^53*2^ex r:=Nat.mul_le_mul_right _ (by omega)
   _=2^52*2^(ex r+1):=by rw[←Nat.pow_add,←Nat.pow_add];congr 1;omega
   _≤2^52*2^ex q:=Nat.mul_le_mul_left _ (Nat.pow_le_pow_right (by omega) h2)
   _≤mg q*2^ex q:=Nat.mul_le_mul_right _ h4
theorem val_lt {r q:Nat} (h:r<q):val r<val q:=by
 refine Nat.lt_of_lt_of_le ?_ (val_mono (show r+1≤q from h))
 have hd:(r+1)/2^52=r/2^52∨(r+1)/2^52=r/2^52+1:=by omega
 have hm:=mg_lt r;unfold val
 by_cases h1:ex r=ex (r+1)
 ·rw[h1]
  refine Nat.mul_lt_mul_of_pos_right ?_ (Nat.two_pow_pos _)
  unfold ex at h1;unfold mg
  split<;>split<;>omega
 ·have h2:ex (r+1)=ex r+1:=by unfold ex at *;omega
  have h3:2^52≤mg (r+1):=by
   unfold mg;split
   ·rename_i x
    have:=Nat.div_eq_of_lt x
    unfold ex at h2;omega
   ·omega
  rw[h2,Nat.pow_succ,←Nat.mul_assoc,Nat.mul_right_comm]
  exact Nat.mul_lt_mul_of_pos_right (by omega) (Nat.two_pow_pos _)
def sg (s:Bool) (n:Nat):Int:=if s then-(n:Int) else n
theorem signed_eq (s:Bool) (m k:Nat):signed s m k=sg s (m*2^k):=by
 unfold signed sg;rw[Nat.shiftLeft_eq]
theorem sg_mul (s:Bool) (m k:Nat):sg s (m*k)=sg s m*(k:Int):=by
 unfold sg;cases s
 ·simp
 ·simp[Int.neg_mul]
theorem cmp_mul (a b:Int) {k:Nat} (h:0<k):compare (a*(k:Int)) (b*(k:Int))=compare a b:=by
 have hk:(0:Int)<(k:Int):=by omega
 have i1:a*(k:Int)<b*(k:Int)↔a<b:=Int.mul_lt_mul_right hk
 have i2:a*(k:Int)=b*(k:Int)↔a=b:=⟨fun e=>Int.eq_of_mul_eq_mul_right (by omega) e,fun e=>by rw[e]⟩
 simp only[compare,compareOfLessAndEq,i1,i2]
theorem order_fin {a b:Nat} (ha:a%2^63<2047*2^52) (hb:b%2^63<2047*2^52):
 double.order a b=some (compare (sg (a/2^63%2==1) (val (a%2^63))) (sg (b/2^63%2==1) (val (b%2^63)))):=by
 unfold Format.order;rw[read_fin ha,read_fin hb];unfold Datum.order;simp only[signed_eq]
 congr 1
 generalize (a/2^63%2==1)=s;generalize (b/2^63%2==1)=t;generalize a%2^63=r;generalize b%2^63=q
 have hx:∃c:Nat,(min (-1074+(ex r:Int)) (-1074+(ex q:Int)))= -1074+(c:Int)∧c≤ex r∧c≤ex q:=⟨min (ex r) (ex q),by omega,by omega,by omega⟩
 obtain⟨c,e,h1,h2⟩:=hx
 rw[e,show(-1074+(ex r:Int)-(-1074+(c:Int))).toNat=ex r-c by omega,show(-1074+(ex q:Int)-(-1074+(c:Int))).toNat=ex q-c by omega]
 rw[←cmp_mul _ _ (Nat.two_pow_pos c),←sg_mul,←sg_mul,Nat.mul_assoc,Nat.mul_assoc,←Nat.pow_add,←Nat.pow_add,Nat.sub_add_cancel h1,Nat.sub_add_cancel h2];rfl
theorem nearest_eq (s:Bool) {m:Nat} (p:Int) (hm:m≠0):double.nearest s m p=double.word s (min ((max (p+m.log2-52) (-1074)+1074).toNat*2^52+rnd (m*2^(p-max (p+m.log2-52) (-1074)).toNat) (max (p+m.log2-52) (-1074)-p).toNat) (2047*2^52)):=by
 have e2:double.binade=2^52:=by decide
 have e3:double.infRung=2047*2^52:=by decide
 have e4:double.leastPlace= -1074:=by decide
 have e5:(double.fractionBits:Int)=52:=by decide
 unfold Format.nearest;rw[if_neg hm,e2,e3,e4,e5];simp only[cut_rnd,Nat.shiftLeft_eq,Int.sub_neg]
theorem sg_false (n:Nat):sg false n=n:=rfl
theorem sg_true (n:Nat):sg true n= -(n:Int):=rfl
def c7:Nat:=10000000*2^29
theorem read_inf {b:Nat} (h:b%2^63=2047*2^52):double.read b=.infinity (b/2^63%2==1):=by
 have e1:double.signWeight=2^63:=by decide
 have e2:double.binade=2^52:=by decide
 have e3:double.infRung=2047*2^52:=by decide
 unfold Format.read;rw[e1,e2,e3];dsimp only
 rw[h,if_neg (by decide),if_neg (by decide),if_pos rfl]
theorem read_nan {b:Nat} (h:2047*2^52<b%2^63):∃t,double.read b=.nan (b/2^63%2==1) t:=by
 have e1:double.signWeight=2^63:=by decide
 have e2:double.binade=2^52:=by decide
 have e3:double.infRung=2047*2^52:=by decide
 unfold Format.read;rw[e1,e2,e3];dsimp only
 rw[if_neg (by omega),if_neg (by omega),if_neg (by omega)]
 exact⟨_,rfl⟩
end Go.Proofs.YtmmlkfkpblokiaaGreatDoor
namespace Go.Proofs.YtmmlkfkpblokiaaGreatDoor
set_option maxRecDepth 100000
open Go Go.RowKit Go.Sort Ieee
def whw (m:Nat):Nat:=if m=0 then 0 else if 52<m.log2 then(1023+m.log2)*2^52 else(1022+m.log2)*2^52+m*2^(52-m.log2)
theorem rnd_zero (n:Nat):rnd n 0=n:=by
 unfold rnd
 simp[Nat.mod_one]
theorem log2_le53 {m:Nat} (h0:m≠0) (h:m≤2^53):m.log2≤53:=by
 rcases Nat.lt_or_ge 53 m.log2 with q|q
 ·exfalso
  have h1:2^m.log2≤m:=Nat.log2_self_le h0
  have h2:2^54≤2^m.log2:=Nat.pow_le_pow_right (by omega) q
  have h3:(2:Nat)^54=2*2^53:=by decide
  omega
 ·exact q
theorem whw_word {m:Nat} (h:m≤2^53):floatOfInt .f64 (m:Int)=whw m:=by
 show double.nearest (decide ((m:Int)<0)) (m:Int).natAbs 0=whw m
 rw[decide_eq_false (by omega),Int.natAbs_natCast]
 unfold whw
 by_cases h0:m=0
 ·rw[if_pos h0,h0];rfl
 rw[if_neg h0,nearest_eq false 0 h0];have hl:=log2_le53 h0 h;have h1:2^m.log2≤m:=Nat.log2_self_le h0;have h2:m<2^(m.log2+1):=Nat.lt_log2_self;unfold Format.word
 rw[if_neg (by decide)]
 generalize m.log2=k at *
 by_cases q:52<k
 ·obtain rfl:k=53:=by omega
  rw[if_pos q]
  have hm:m=2^53:=by omega
  rw[hm];clear hm h h0 h1 h2 hl q
  decide+kernel
 ·rw[if_neg q,show max ((0:Int)+(k:Int)-52) (-1074)=(k:Int)-52 by omega,show((k:Int)-52-0).toNat=0 by omega,rnd_zero,show((0:Int)-((k:Int)-52)).toNat=52-k by omega,show((k:Int)-52+1074).toNat=1022+k by omega]
  refine Nat.min_eq_left ?_
  have h3:m*2^(52-k)≤2^(k+1)*2^(52-k):=Nat.mul_le_mul_right _ (by omega)
  rw[←Nat.pow_add,show k+1+(52-k)=53 by omega] at h3
  have h4:(1022+k)*2^52≤1074*2^52:=Nat.mul_le_mul_right _ (by omega)
  exact Nat.le_trans (Nat.add_le_add h4 h3) (by decide)
theorem whw_lt {m:Nat} (h:m≤2^53):whw m<2047*2^52:=by
 unfold whw
 by_cases h0:m=0
 ·rw[if_pos h0];decide
 rw[if_neg h0];have hl:=log2_le53 h0 h;have h2:m<2^(m.log2+1):=Nat.lt_log2_self
 generalize m.log2=k at *
 by_cases q:52<k
 ·obtain rfl:k=53:=by omega
  rw[if_pos q]
  exact Nat.mul_lt_mul_of_pos_right (by decide) (Nat.two_pow_pos 52)
 ·rw[if_neg q]
  have h3:m*2^(52-k)≤2^(k+1)*2^(52-k):=Nat.mul_le_mul_right _ (by omega)
  rw[←Nat.pow_add,show k+1+(52-k)=53 by omega] at h3
  have h4:(1022+k)*2^52≤1074*2^52:=Nat.mul_le_mul_right _ (by omega)
  exact Nat.lt_of_le_of_lt (Nat.add_le_add h4 h3) (by decide)
theorem val_0:val 0=0:=rfl
theorem flD_bits {n m:Nat} (hn:n<2^64) (hm:m≤2^53):flD n m=if 2047*2^52≤n%2^63∨n=2^63 then 84 else if whw m<n%2^63 then 83 else 0:=by
 have hW:=whw_lt hm;unfold flD
 rw[whw_word hm,show FloatKind.f64.format=double from rfl,show(9223372036854775808:Nat)=2^63 by decide,show(9218868437227405311:Nat)=2047*2^52-1 by decide]
 generalize whw m=w at *
 have hr:n%2^63<2^63:=Nat.mod_lt _ (by decide)
 have hd:n%2^63/2^63=0:=Nat.div_eq_of_lt hr
 have hz:(n%2^63/2^63%2==1)=false:=by rw[hd];rfl
 rcases Nat.lt_trichotomy (n%2^63) (2047*2^52) with q|q|q
 ·have e1:double.order n n=some .eq:=by
   rw[order_fin q q]
   congr 1
   simp[compare,compareOfLessAndEq]
  have q2:n%2^63%2^63<2047*2^52:=by rw[Nat.mod_mod];exact q
  have e2:(double.order (n%2^63) (2047*2^52-1)==some .gt)=false:=by
   rw[order_fin q2 (by decide),hz,Nat.mod_mod,show((2047*2^52-1)/2^63%2==1)=false by decide,show(2047*2^52-1)%2^63=2047*2^52-1 by decide,sg_false,sg_false]
   have:=val_mono (show n%2^63≤2047*2^52-1 by omega)
   generalize val (n%2^63)=a at *
   generalize val (2047*2^52-1)=b at *
   simp only[compare,compareOfLessAndEq]
   split
   ·rfl
   ·rw[if_pos (by omega)];rfl
  have e3:(double.order n 0==some .eq)=decide (n%2^63=0):=by
   rw[order_fin q (by decide),show(0/2^63%2==1)=false by decide,show 0%2^63=0 by decide,sg_false,val_0]
   by_cases h0:n%2^63=0
   ·rw[h0,val_0]
    simp[sg,compare,compareOfLessAndEq]
   ·have hv:=val_lt (show 0<n%2^63 by omega)
    rw[val_0] at hv
    generalize val (n%2^63)=a at *
    rw[decide_eq_false h0]
    cases hs:(n/2^63%2==1)
    ·rw[sg_false]
     simp only[compare,compareOfLessAndEq]
     rw[if_neg (by omega),if_neg (by omega)]
     rfl
    ·rw[sg_true]
     simp only[compare,compareOfLessAndEq]
     rw[if_pos (by omega)]
     rfl
  have e4:(double.order (n%2^63) w==some .gt)=decide (w<n%2^63):=by
   rw[order_fin q2 (by rw[Nat.mod_eq_of_lt (by omega)];exact hW),hz,Nat.mod_mod,show(w/2^63%2==1)=false by rw[Nat.div_eq_of_lt (by omega)];rfl,Nat.mod_eq_of_lt (show w<2^63 by omega),sg_false,sg_false]
   rcases Nat.lt_trichotomy w (n%2^63) with x|x|x
   ·have:=val_lt x
    generalize val (n%2^63)=a at *
    generalize val w=b at *
    rw[decide_eq_true x];simp only[compare,compareOfLessAndEq]
    rw[if_neg (by omega),if_neg (by omega)]
    rfl
   ·rw[←x,decide_eq_false (by omega)]
    simp[compare,compareOfLessAndEq]
   ·have:=val_lt x
    generalize val (n%2^63)=a at *
    generalize val w=b at *
    rw[decide_eq_false (by omega)]
    simp only[compare,compareOfLessAndEq]
    rw[if_pos (by omega)]
    rfl
  rw[e1,e2,e3,e4];simp only[bne_self_eq_false,Bool.false_eq_true,if_false,decide_eq_true_eq]
  by_cases h63:n=2^63
  ·rw[if_pos (by subst h63;decide),if_pos (.inr h63)]
  ·rw[if_neg (show¬(n%2^63=0∧2^63≤n) by omega),if_neg (show¬(2047*2^52≤n%2^63∨n=2^63) by omega)]
 ·have e1:double.order n n=some .eq:=by
   unfold Format.order;rw[read_inf q]
   simp[Datum.order,compare,compareOfLessAndEq]
  have e2:(double.order (n%2^63) (2047*2^52-1)==some .gt)=true:=by
   unfold Format.order
   rw[read_inf (by rw[Nat.mod_mod];exact q),hz,read_fin (b:=2047*2^52-1) (by decide)]
   rfl
  rw[e1,e2,if_neg (by decide),if_pos rfl,if_pos (show 2047*2^52≤n%2^63∨n=2^63 from .inl (by omega))]
 ·have e1:double.order n n=none:=by
   obtain⟨t,ht⟩:=read_nan q;unfold Format.order;rw[ht];rfl
  rw[e1,if_pos (by decide),if_pos (show 2047*2^52≤n%2^63∨n=2^63 from .inl (by omega))]
end Go.Proofs.YtmmlkfkpblokiaaGreatDoor
namespace Go.Proofs.YtmmlkfkpblokiaaGreatDoor
set_option maxRecDepth 100000
open Go Go.RowKit Go.Sort
attribute [local go_sem] setCell_drewN alloc_drewN
theorem whole_div {m k:Nat}:(m/2^k>1)↔(m≠0∧k<m.log2):=by
 constructor
 ·intro h
  have h0:m≠0:=by intro e;subst e;simp at h
  refine⟨h0,?_⟩
  rcases Nat.lt_or_ge k m.log2 with q|q
  ·exact q
  ·exfalso
   have h2:m<2^(m.log2+1):=Nat.lt_log2_self
   have h3:2^(m.log2+1)≤2^(k+1):=Nat.pow_le_pow_right (by omega) (by omega)
   have h4:m/2^k<2:=Nat.div_lt_of_lt_mul (by rw[←Nat.pow_succ];omega)
   omega
 ·rintro⟨h0,q⟩
  have h1:2^m.log2≤m:=Nat.log2_self_le h0
  have h3:2^(k+1)≤2^m.log2:=Nat.pow_le_pow_right (by omega) q
  have h4:2≤m/2^k:=(Nat.le_div_iff_mul_le (Nat.two_pow_pos k)).2 (by rw[Nat.mul_comm,←Nat.pow_succ];omega)
  omega
theorem whole_lo {m k:Nat} (h0:m≠0) (hk:m.log2=k) (h:k≤52):((m:Int)*2^(52-k))%18446744073709551616=((m*2^(52-k):Nat):Int)∧2^52≤m*2^(52-k)∧m*2^(52-k)<2^53:=by
 subst hk;have h1:2^m.log2≤m:=Nat.log2_self_le h0;have h2:m<2^(m.log2+1):=Nat.lt_log2_self;have h3:m*2^(52-m.log2)<2^(m.log2+1)*2^(52-m.log2):=Nat.mul_lt_mul_of_pos_right h2 (Nat.two_pow_pos _);have h4:2^m.log2*2^(52-m.log2)≤m*2^(52-m.log2):=Nat.mul_le_mul_right _ h1
 rw[←Nat.pow_add,show m.log2+1+(52-m.log2)=53 by omega] at h3
 rw[←Nat.pow_add,show m.log2+(52-m.log2)=52 by omega] at h4
 refine⟨?_,h4,h3⟩
 rw[show((m:Int)*2^(52-m.log2))=((m*2^(52-m.log2):Nat):Int) by push_cast;rfl]
 omega
set_option maxRecDepth 100000 in
set_option maxHeartbeats 4000000 in
theorem r_whole (m:Nat) (hm:m≤9007199254740992) (w:World):Calls Tryz.prog 134 #[.int .u64 (m:Int)] w fun e w'=>e=.returned (.int .u64 (whw m:Int))∧Below w.heap.size w w':=by
 have hb:=Below.refl w.heap.size w
 by_cases h0:m=0
 ·subst h0
  go_enter Tryz.func134,Tryz.ntmps134
  go_wp2
  go_ret;exact⟨rfl,hb⟩
 have hz:¬((m:Int)=0):=by omega
 have hl:=log2_le53 h0 hm
 have hW:whw m=if 52<m.log2 then(1023+m.log2)*2^52 else(1022+m.log2)*2^52+m*2^(52-m.log2):=if_neg h0
 replace hW:=hide hW
 have hdv:=hide (fun k=>@whole_div m k)
 go_enter Tryz.func134,Tryz.ntmps134
 go_wp2_with (fail)
 go_loopw [3] (fun p wr=>∃k:Nat,k≤m.log2∧p=.int .u64 k∧Below w.heap.size w wr) (fun p _=>m.log2-(intOf p).toNat)
 case atStart=>exact⟨0,by omega,rfl,hb⟩
 case round=>
  clear hb;obtain⟨k,hk,rfl,hb⟩:=hrel
  rcases Nat.lt_or_ge k m.log2 with q|q
  ·have hd:(1:Int)<(m:Int)/2^k:=by have:=(hdv.out k).2 ⟨h0,q⟩;exact_mod_cast this
   go_wp2_with (fail)
   exact⟨⟨k+1,q,by push_cast;rfl,hb⟩,by simp only[intOf];omega⟩
  ·have hkk:m.log2=k:=by omega
   have hd:(m:Int)/2^k≤1:=by
    have:¬m/2^k>1:=fun z=>Nat.lt_irrefl _ (Nat.lt_of_lt_of_le ((hdv.out k).1 z).2 q)
    have h2:m/2^k≤1:=Nat.le_of_not_lt this
    exact_mod_cast h2
   rw[hkk] at hW
   rcases Nat.lt_or_ge 52 k with q2|q2
   ·have hd2:(52:Int)<(k:Int):=by omega
    go_wp2_with (fail)
    go_ret
    have e:(1023+(k:Int))*4503599627370496=(((1023+k)*2^52:Nat):Int):=by omega
    exact⟨by rw[hW.out,if_pos q2,←e];rfl,hb⟩
   ·have hd2:(k:Int)≤52:=by omega
    obtain⟨e1,e2,e3⟩:=whole_lo h0 hkk q2
    go_wp2_with (fail)
    go_ret;refine⟨?_,hb⟩
    rw[hW.out,if_neg (by omega)]
    have w1:IntKind.u64.wrap ((m:Int)*2^(52-k))=((m*2^(52-k):Nat):Int):=by rw[IntKind.wrap_u64];exact e1
    rw[w1]
    generalize m*2^(52-k)=M at *
    have w2:IntKind.u64.wrap (IntKind.u64.wrap ((1023+(k:Int))*4503599627370496+(M:Int))-4503599627370496)=(((1022+k)*2^52+M:Nat):Int):=by
     rw[IntKind.wrap_u64,IntKind.wrap_u64];omega
    rw[w2];rfl
set_option maxRecDepth 100000 in
set_option maxHeartbeats 4000000 in
theorem r_Float (n m:Nat) (hn:n<18446744073709551616) (hm:m≤9007199254740992) (w:World):Calls Tryz.prog 100 #[.int .u64 (n:Int),.int .u64 (m:Int)] w fun e w'=>e=.returned (.int .i64 (flD n m))∧Below w.heap.size w w':=by
 have hb:=Below.refl w.heap.size w;have cW:=r_whole m hm
 have hF:flD n m=if 9218868437227405312≤n%9223372036854775808∨n=9223372036854775808 then 84 else if whw m<n%9223372036854775808 then 83 else 0:=flD_bits hn hm
 replace hF:=hide hF
 generalize whw m=M at *
 have e0:(n:Int)%9223372036854775808=((n%9223372036854775808:Nat):Int):=by omega
 obtain⟨r,eR⟩:∃r,(n:Int)%9223372036854775808=r:=⟨_,rfl⟩;rw[eR] at e0
 by_cases h1:9218868437227405312≤n%9223372036854775808
 ·have h2:(9218868437227405312:Int)≤r:=by omega
  go_enter Tryz.func100,Tryz.ntmps100
  go_upto_region 2 with(fail)
  rw[eR];clear eR e0;replace h1:=hide h1
  go_wp2_with (fail)
  go_ret
  exact⟨by rw[hF.out,if_pos (.inl h1.out)];rfl,hb⟩
 have h2:r<9218868437227405312:=by omega
 by_cases h3:n=9223372036854775808
 ·have h4:((n:Int)==9223372036854775808)=true:=by simp;omega
  go_enter Tryz.func100,Tryz.ntmps100
  go_upto_region 2 with(fail)
  clear eR e0;replace h3:=hide h3
  go_wp2_with (fail)
  go_ret
  exact⟨by rw[hF.out,if_pos (.inr h3.out)];rfl,hb⟩
 have h4:((n:Int)==9223372036854775808)=false:=by simp;omega
 go_enter Tryz.func100,Tryz.ntmps100
 go_upto_region 2 with(fail)
 rw[eR];clear eR;replace e0:=hide e0;replace h1:=hide h1;replace h3:=hide h3
 go_wp2_with (fail)
 refine(cW _).mono ?_;rintro e_ w1 ⟨rfl,hb1⟩
 by_cases h5:M<n%9223372036854775808
 ·have h6:(M:Int)<r:=by have:=e0.out;omega
  replace h5:=hide h5
  go_wp2_with (fail)
  go_ret
  exact⟨by rw[hF.out,if_neg (by have:=h1.out;have:=h3.out;omega),if_pos h5.out];rfl,hb1⟩
 ·have h6:r≤(M:Int):=by have:=e0.out;omega
  replace h5:=hide h5
  go_wp2_with (fail)
  go_ret
  exact⟨by rw[hF.out,if_neg (by have:=h1.out;have:=h3.out;omega),if_neg h5.out];rfl,hb1⟩
end Go.Proofs.YtmmlkfkpblokiaaGreatDoor
namespace Go.Proofs.YtmmlkfkpblokiaaGreatDoor
set_option maxRecDepth 100000
open Go Go.RowKit Go.Sort
attribute [local go_sem] setCell_drewN alloc_drewN
def slr (t:Slt) (u:Value):Array Value:=#[.int .i64 t.no,.int .i64 t.kind,.int .u64 (t.least:Int),.int .u64 (t.most:Int),u]
set_option maxRecDepth 100000 in
set_option maxHeartbeats 4000000 in
theorem r_within (n:Int) (no k l m:Int) (so:Option Addr) (sn sc:Nat) (w:World):Calls Tryz.prog 87 #[.int .u64 n,.agg #[.int .i64 no,.int .i64 k,.int .u64 l,.int .u64 m,.slice so sn sc]] w fun e w'=>e=.returned (.bool (wth n l m==0))∧Below w.heap.size w w':=by
 have hb:∀o,Below w.heap.size w (w.alloc o):=fun o=>(Below.refl _ _).alloc (Nat.le_refl _) _
 rcases Int.lt_or_le n l with q|q
 ·have e:(wth n l m==0)=false:=by unfold wth;rw[if_pos (.inl q)];rfl
  have hd:decide (n≥l)=false:=by simpa using q
  rw[e]
  go_enter Tryz.func87,Tryz.ntmps87
  go_wp2
  go_ret;exact⟨rfl,hb _⟩
 ·have hd:decide (n≥l)=true:=by simpa using q
  rcases Int.lt_or_le m n with q2|q2
  ·have e:(wth n l m==0)=false:=by unfold wth;rw[if_pos (.inr q2)];rfl
   have hd2:decide (n≤m)=false:=by simpa using q2
   rw[e]
   go_enter Tryz.func87,Tryz.ntmps87
   go_wp2
   go_ret;exact⟨rfl,hb _⟩
  ·have e:(wth n l m==0)=true:=by unfold wth;rw[if_neg (by omega)];rfl
   have hd2:decide (n≤m)=true:=by simpa using q2
   rw[e]
   go_enter Tryz.func87,Tryz.ntmps87
   go_wp2
   go_ret;exact⟨rfl,hb _⟩
theorem infoSlt:(Tryz.prog.info? 88).map (·.size)=some 5:=by kernel_rfl
theorem wth_two (n l m:Int):wth n l m=0∨wth n l m=83:=by unfold wth;split;exact .inr rfl;exact .inl rfl
set_option maxRecDepth 100000 in
set_option maxHeartbeats 8000000 in
theorem r_plainN (no k l m:Int) (hk:k=1∨k=2∨k=3) (so:Option Addr) (sn sc:Nat) (n:Nat) (da:Option Addr) (dl dc:Nat) (pa:Option Addr) (pl pc:Nat) (w:World):
 Calls Tryz.prog 75 #[.agg #[.int .i64 no,.int .i64 k,.int .u64 l,.int .u64 m,.slice so sn sc],.agg #[.int .u64 (n:Int),.slice da dl dc,.slice pa pl pc]] w fun e w'=>e=.returned (.int .i64 (if pbad false n dl pl then 84 else wth (n:Int) l m))∧Below w.heap.size w w':=by
 have hb:Below w.heap.size w ((w.alloc (.cells #[.int .i64 no,.int .i64 k,.int .u64 l,.int .u64 m,.slice so sn sc] 88)).alloc (.cells #[.int .u64 (n:Int),.slice da dl dc,.slice pa pl pc] 27)):=((Below.refl _ _).alloc (Nat.le_refl _) _).alloc (by simp) _
 have r0:=hp2_0 w (.cells #[.int .i64 no,.int .i64 k,.int .u64 l,.int .u64 m,.slice so sn sc] 88) (.cells #[.int .u64 (n:Int),.slice da dl dc,.slice pa pl pc] 27);have cW:=r_within (n:Int) no k l m so sn sc
 obtain⟨R,hR⟩:∃R,(if pbad false n dl pl then 84 else wth (n:Int) l m)=R:=⟨_,rfl⟩
 rw[hR]
 rcases hbad:pbad false n dl pl
 ·rw[hbad,if_neg Bool.false_ne_true] at hR
  obtain rfl:pl=0:=by
   rcases Nat.eq_zero_or_pos pl with q|q
   ·exact q
   ·simp[pbad,q] at hbad
  obtain rfl:dl=0:=by
   rcases Nat.eq_zero_or_pos dl with q|q
   ·exact q
   ·simp[pbad,q] at hbad
  clear hbad
  rcases wth_two (n:Int) l m with hz|hz
  ·rw[hz] at cW hR
   replace cW:∀V,Calls Tryz.prog 87 #[.int .u64 (n:Int),.agg #[.int .i64 no,.int .i64 k,.int .u64 l,.int .u64 m,.slice so sn sc]] V fun e w'=>e=.returned (.bool true)∧Below V.heap.size V w':=cW
   replace hR:=hide hR;clear hz
   rcases hk with rfl|rfl|rfl
   all_goals
    go_enter Tryz.func75,Tryz.ntmps75
    go_wp2_with (first|(refine wpList_load_want rfl 88 _ rfl w.heap.size rfl 88 _ (0,0) _ r0 Tryz.underlying88 rfl infoSlt ?_)|fail)
    refine(cW _).mono ?_;rintro e_ w1 ⟨rfl,hb1⟩;replace hb1:=Below.after hb hb1
    go_wp2
    go_ret
    exact⟨by rw[←hR.out];rfl,hb1⟩
  ·rw[hz] at cW hR
   replace cW:∀V,Calls Tryz.prog 87 #[.int .u64 (n:Int),.agg #[.int .i64 no,.int .i64 k,.int .u64 l,.int .u64 m,.slice so sn sc]] V fun e w'=>e=.returned (.bool false)∧Below V.heap.size V w':=cW
   replace hR:=hide hR;clear hz
   rcases hk with rfl|rfl|rfl
   all_goals
    go_enter Tryz.func75,Tryz.ntmps75
    go_wp2_with (first|(refine wpList_load_want rfl 88 _ rfl w.heap.size rfl 88 _ (0,0) _ r0 Tryz.underlying88 rfl infoSlt ?_)|fail)
    refine(cW _).mono ?_;rintro e_ w1 ⟨rfl,hb1⟩;replace hb1:=Below.after hb hb1
    go_wp2
    go_ret
    exact⟨by rw[←hR.out];rfl,hb1⟩
 ·rw[hbad,if_pos rfl] at hR
  replace hR:=hide hR
  rcases Nat.eq_zero_or_pos dl with rfl|hdp
  ·have hq:0<pl:=by simpa[pbad] using hbad
   have hd:decide ((pl:Int)>0)=true:=by simp;omega
   clear hbad
   rcases hk with rfl|rfl|rfl
   all_goals
    go_enter Tryz.func75,Tryz.ntmps75
    go_wp2
    go_ret
    exact⟨by rw[←hR.out];rfl,hb⟩
  ·have hd:decide ((dl:Int)>0)=true:=by simp;omega
   clear hbad
   rcases hk with rfl|rfl|rfl
   all_goals
    go_enter Tryz.func75,Tryz.ntmps75
    go_wp2
    go_ret
    exact⟨by rw[←hR.out];rfl,hb⟩
set_option maxRecDepth 100000 in
set_option maxHeartbeats 8000000 in
theorem r_plainB (no k l m:Int) (hk:k=5) (so:Option Addr) (sn sc:Nat) (n:Nat) (da:Option Addr) (dl dc:Nat) (hdl:dl<9223372036854775808) (pa:Option Addr) (pl pc:Nat) (w:World):
 Calls Tryz.prog 75 #[.agg #[.int .i64 no,.int .i64 k,.int .u64 l,.int .u64 m,.slice so sn sc],.agg #[.int .u64 (n:Int),.slice da dl dc,.slice pa pl pc]] w fun e w'=>e=.returned (.int .i64 (if pbad true n dl pl then 84 else wth (dl:Int) l m))∧Below w.heap.size w w':=by
 have hb:Below w.heap.size w ((w.alloc (.cells #[.int .i64 no,.int .i64 k,.int .u64 l,.int .u64 m,.slice so sn sc] 88)).alloc (.cells #[.int .u64 (n:Int),.slice da dl dc,.slice pa pl pc] 27)):=((Below.refl _ _).alloc (Nat.le_refl _) _).alloc (by simp) _
 have r0:=hp2_0 w (.cells #[.int .i64 no,.int .i64 k,.int .u64 l,.int .u64 m,.slice so sn sc] 88) (.cells #[.int .u64 (n:Int),.slice da dl dc,.slice pa pl pc] 27);have cW:=r_within (dl:Int) no k l m so sn sc
 obtain⟨R,hR⟩:∃R,(if pbad true n dl pl then 84 else wth (dl:Int) l m)=R:=⟨_,rfl⟩
 rw[hR]
 rcases hbad:pbad true n dl pl
 ·rw[hbad,if_neg Bool.false_ne_true] at hR
  obtain rfl:pl=0:=by
   rcases Nat.eq_zero_or_pos pl with q|q
   ·exact q
   ·simp[pbad,q] at hbad
  obtain rfl:n=0:=by
   rcases Nat.eq_zero_or_pos n with q|q
   ·exact q
   ·simp[pbad,show n≠0 by omega] at hbad
  clear hbad
  rcases wth_two (dl:Int) l m with hz|hz
  ·rw[hz] at cW hR
   replace cW:∀V,Calls Tryz.prog 87 #[.int .u64 (dl:Int),.agg #[.int .i64 no,.int .i64 k,.int .u64 l,.int .u64 m,.slice so sn sc]] V fun e w'=>e=.returned (.bool true)∧Below V.heap.size V w':=cW
   replace hR:=hide hR;clear hz;subst hk
   all_goals
    go_enter Tryz.func75,Tryz.ntmps75
    go_wp2_with (first|(refine wpList_load_want rfl 88 _ rfl w.heap.size rfl 88 _ (0,0) _ r0 Tryz.underlying88 rfl infoSlt ?_)|fail)
    refine(cW _).mono ?_;rintro e_ w1 ⟨rfl,hb1⟩
    have c1:w1.cell? ⟨w.heap.size,1,none⟩=some (.int .i64 5):=by rw[cell_of_row _ _ _ _ _ _ (keep hb1 r0)];rfl
    replace hb1:=Below.after hb hb1
    go_wp2
    go_ret
    exact⟨by rw[←hR.out];rfl,hb1⟩
  ·rw[hz] at cW hR
   replace cW:∀V,Calls Tryz.prog 87 #[.int .u64 (dl:Int),.agg #[.int .i64 no,.int .i64 k,.int .u64 l,.int .u64 m,.slice so sn sc]] V fun e w'=>e=.returned (.bool false)∧Below V.heap.size V w':=cW
   replace hR:=hide hR;clear hz;subst hk
   all_goals
    go_enter Tryz.func75,Tryz.ntmps75
    go_wp2_with (first|(refine wpList_load_want rfl 88 _ rfl w.heap.size rfl 88 _ (0,0) _ r0 Tryz.underlying88 rfl infoSlt ?_)|fail)
    refine(cW _).mono ?_;rintro e_ w1 ⟨rfl,hb1⟩;replace hb1:=Below.after hb hb1
    go_wp2
    go_ret
    exact⟨by rw[←hR.out];rfl,hb1⟩
 ·rw[hbad,if_pos rfl] at hR
  replace hR:=hide hR
  rcases Nat.eq_zero_or_pos n with rfl|hnp
  ·have hq:0<pl:=by simpa[pbad] using hbad
   have hd:decide ((pl:Int)>0)=true:=by simp;omega
   clear hbad;subst hk
   go_enter Tryz.func75,Tryz.ntmps75
   go_wp2
   go_ret
   exact⟨by rw[←hR.out];rfl,hb⟩
  ·have hd:((n:Int)==0)=false:=by simp;omega
   have hd2:¬(n:Int)=0:=by omega
   clear hbad;subst hk
   go_enter Tryz.func75,Tryz.ntmps75
   go_wp2
   go_ret
   exact⟨by rw[←hR.out];rfl,hb⟩
set_option maxRecDepth 100000 in
set_option maxHeartbeats 8000000 in
theorem r_plainG (no l m:Int) (so:Option Addr) (sn sc:Nat) (n:Nat) (da:Option Addr) (dl dc:Nat) (pa:Option Addr) (pl pc:Nat) (w:World):
 Calls Tryz.prog 75 #[.agg #[.int .i64 no,.int .i64 4,.int .u64 l,.int .u64 m,.slice so sn sc],.agg #[.int .u64 (n:Int),.slice da dl dc,.slice pa pl pc]] w fun e w'=>e=.returned (.int .i64 (if pbad false n dl pl then 84 else wth (n:Int) 0 1))∧Below w.heap.size w w':=by
 have hb:Below w.heap.size w ((w.alloc (.cells #[.int .i64 no,.int .i64 4,.int .u64 l,.int .u64 m,.slice so sn sc] 88)).alloc (.cells #[.int .u64 (n:Int),.slice da dl dc,.slice pa pl pc] 27)):=((Below.refl _ _).alloc (Nat.le_refl _) _).alloc (by simp) _
 obtain⟨R,hR⟩:∃R,(if pbad false n dl pl then 84 else wth (n:Int) 0 1)=R:=⟨_,rfl⟩
 rw[hR]
 rcases hbad:pbad false n dl pl
 ·rw[hbad,if_neg Bool.false_ne_true] at hR
  obtain rfl:pl=0:=by
   rcases Nat.eq_zero_or_pos pl with q|q
   ·exact q
   ·simp[pbad,q] at hbad
  obtain rfl:dl=0:=by
   rcases Nat.eq_zero_or_pos dl with q|q
   ·exact q
   ·simp[pbad,q] at hbad
  clear hbad
  rcases Int.lt_or_le 1 (n:Int) with q|q
  ·have hz:wth (n:Int) 0 1=83:=by unfold wth;rw[if_pos (.inr q)]
   have hd:decide ((n:Int)>1)=true:=by simpa using q
   rw[hz] at hR;replace hR:=hide hR;clear hz
   go_enter Tryz.func75,Tryz.ntmps75
   go_wp2
   go_ret
   exact⟨by rw[←hR.out];rfl,hb⟩
  ·have hz:wth (n:Int) 0 1=0:=by unfold wth;rw[if_neg (by omega)]
   have hd:decide ((n:Int)>1)=false:=by simpa using q
   rw[hz] at hR;replace hR:=hide hR;clear hz
   go_enter Tryz.func75,Tryz.ntmps75
   go_wp2
   go_ret
   exact⟨by rw[←hR.out];rfl,hb⟩
 ·rw[hbad,if_pos rfl] at hR
  replace hR:=hide hR
  rcases Nat.eq_zero_or_pos dl with rfl|hdp
  ·have hq:0<pl:=by simpa[pbad] using hbad
   have hd:decide ((pl:Int)>0)=true:=by simp;omega
   clear hbad
   go_enter Tryz.func75,Tryz.ntmps75
   go_wp2
   go_ret
   exact⟨by rw[←hR.out];rfl,hb⟩
  ·have hd:decide ((dl:Int)>0)=true:=by simp;omega
   clear hbad
   go_enter Tryz.func75,Tryz.ntmps75
   go_wp2
   go_ret
   exact⟨by rw[←hR.out];rfl,hb⟩
end Go.Proofs.YtmmlkfkpblokiaaGreatDoor
namespace Go.Proofs.YtmmlkfkpblokiaaGreatDoor
set_option maxRecDepth 100000
open Go Go.RowKit Go.Sort
attribute [local go_sem] setCell_drewN alloc_drewN
end Go.Proofs.YtmmlkfkpblokiaaGreatDoor
