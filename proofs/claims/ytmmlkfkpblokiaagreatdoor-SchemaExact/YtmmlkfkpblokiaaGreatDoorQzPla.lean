import Derived.Test.YtmmlkfkpblokiaaGreatDoorQzKyt
import Ieee.Arith
set_option maxRecDepth 100000
set_option maxHeartbeats 16000000
namespace Go.Proofs.YtmmlkfkpblokiaaGreatDoor
open Ieee
def rnd (n d:Nat):Nat:=n/2^d+(decide (2^d<2*(n%2^d))||(2^d==2*(n%2^d)&&n/2^d%2==1)).toNat
theorem rnd_down {n d:Nat} (h:2*(n%2^d)<2^d):rnd n d=n/2^d:=by
 unfold rnd
 rw[decide_eq_false (by omega),show(2^d==2*(n%2^d))=false from beq_eq_false_iff_ne.2 (by omega)];rfl
theorem cut_rnd (s:Bool) (n d:Nat):Toward.even.cut s n d=rnd n d:=by
 by_cases h:d≤n.log2+2
 ·simp only[Toward.cut,rnd,Nat.min_eq_left h,Nat.one_shiftLeft]
 ·have h':n.log2+2≤d:=by omega
  have h1:n<2^(n.log2+1):=Nat.lt_log2_self
  have h2:2^(n.log2+2)=2*2^(n.log2+1):=by rw[show n.log2+2=(n.log2+1)+1 from rfl,Nat.pow_succ];omega
  have h3:2^(n.log2+2)≤2^d:=Nat.pow_le_pow_right (by omega) h'
  have hn:n<2^d:=by omega
  rw[rnd_down (by rw[Nat.mod_eq_of_lt hn];omega),Nat.div_eq_of_lt hn]
  simp only[Toward.cut,Nat.min_eq_right h',Nat.one_shiftLeft]
  have h4:n<2^(n.log2+2):=by omega
  rw[Nat.div_eq_of_lt h4,Nat.mod_eq_of_lt h4,decide_eq_false (by omega),show(2^(n.log2+2)==2*n)=false from beq_eq_false_iff_ne.2 (by omega)]
  rfl
def mg (r:Nat):Nat:=if r<2^52 then r else 2^52+r%2^52
def ex (r:Nat):Nat:=r/2^52-1
def val (r:Nat):Nat:=mg r*2^ex r
theorem read_fin {b:Nat} (h:b%2^63<2047*2^52):double.read b=.number (b/2^63%2==1) (mg (b%2^63)) (-1074+(ex (b%2^63):Int)):=by
 have e1:double.signWeight=2^63:=by decide
 have e2:double.binade=2^52:=by decide
 have e3:double.infRung=2047*2^52:=by decide
 have e4:double.leastPlace= -1074:=by decide
 unfold Format.read;rw[e1,e2,e3,e4]
 generalize b%2^63=r at *
 dsimp only;unfold mg ex
 by_cases h1:r<2^52
 ·rw[if_pos h1,if_pos h1,Nat.div_eq_of_lt h1];rfl
 ·rw[if_neg h1,if_neg h1,if_pos h]
theorem mg_lt (r:Nat):mg r<2^53:=by
 unfold mg
 have:=Nat.mod_lt r (show 0<2^52 by decide)
 split<;>omega
theorem val_mono {r q:Nat} (h:r≤q):val r≤val q:=by
 have hm:=mg_lt r;have hd:r/2^52≤q/2^52:=Nat.div_le_div_right h;have e1:=Nat.div_add_mod r (2^52);have e2:=Nat.div_add_mod q (2^52);unfold val
 by_cases h1:ex r=ex q
 ·rw[h1]
  refine Nat.mul_le_mul_right _ ?_
  unfold ex at h1;unfold mg
  split<;>split<;>omega
 ·have h2:ex r+1≤ex q:=by unfold ex at *;omega
  have h3:¬q<2^52:=by
   intro x;have:=Nat.div_eq_of_lt x;unfold ex at h2;omega
  have h4:2^52≤mg q:=by unfold mg;rw[if_neg h3];omega
  calc mg r*2^ex r≤2^53*2^ex r:=Nat.mul_le_mul_right _ (by omega)
   _=2^52*2^(ex r+1):=by rw[←Nat.pow_add,←Nat.pow_add];congr 1;omega
   _≤2^52*2^ex q:=Nat.mul_le_mul_left _ (Nat.pow_le_pow_right (by omega) h2)
   _≤mg q*2^ex q:=Nat.mul_le_mul_right _ h4
theorem val_lt {r q:Nat} (h:r<q):val r<val q:=by
 refine Nat.lt_of_lt_of_le ?_ (val_mono (show r+1≤q from h))
 have hd:(r+1)/2^52=r/2^52∨(r+1)/2^52=r/2^52+1:=by omega
 have hm:=mg_lt r;unfold val
 by_cases h1:ex r=ex (r+1)
 ·rw[h1]
  refine Nat.mul_lt_mul_of_pos_right ?_ (Nat.two_pow_pos _)
  unfold ex at h1;unfold mg
  split<;>split<;>omega
 ·have h2:ex (r+1)=ex r+1:=by unfold ex at *;omega
  have h3:2^52≤mg (r+1):=by
   unfold mg;split
   ·rename_i x
    have:=Nat.div_eq_of_lt x
    unfold ex at h2;omega
   ·omega
  rw[h2,Nat.pow_succ,←Nat.mul_assoc,Nat.mul_right_comm]
  exact Nat.mul_lt_mul_of_pos_right (by omega) (Nat.two_pow_pos _)
def sg (s:Bool) (n:Nat):Int:=if s then-(n:Int) else n
theorem signed_eq (s:Bool) (m k:Nat):signed s m k=sg s (m*2^k):=by
 unfold signed sg;rw[Nat.shiftLeft_eq]
theorem sg_mul (s:Bool) (m k:Nat):sg s (m*k)=sg s m*(k:Int):=by
 unfold sg;cases s
 ·simp
 ·simp[Int.neg_mul]
theorem cmp_mul (a b:Int) {k:Nat} (h:0<k):compare (a*(k:Int)) (b*(k:Int))=compare a b:=by
 have hk:(0:Int)<(k:Int):=by omega
 have i1:a*(k:Int)<b*(k:Int)↔a<b:=Int.mul_lt_mul_right hk
 have i2:a*(k:Int)=b*(k:Int)↔a=b:=⟨fun e=>Int.eq_of_mul_eq_mul_right (by omega) e,fun e=>by rw[e]⟩
 simp only[compare,compareOfLessAndEq,i1,i2]
theorem order_fin {a b:Nat} (ha:a%2^63<2047*2^52) (hb:b%2^63<2047*2^52):
 double.order a b=some (compare (sg (a/2^63%2==1) (val (a%2^63))) (sg (b/2^63%2==1) (val (b%2^63)))):=by
 unfold Format.order;rw[read_fin ha,read_fin hb];unfold Datum.order;simp only[signed_eq]
 congr 1
 generalize (a/2^63%2==1)=s;generalize (b/2^63%2==1)=t;generalize a%2^63=r;generalize b%2^63=q
 have hx:∃c:Nat,(min (-1074+(ex r:Int)) (-1074+(ex q:Int)))= -1074+(c:Int)∧c≤ex r∧c≤ex q:=⟨min (ex r) (ex q),by omega,by omega,by omega⟩
 obtain⟨c,e,h1,h2⟩:=hx
 rw[e,show(-1074+(ex r:Int)-(-1074+(c:Int))).toNat=ex r-c by omega,show(-1074+(ex q:Int)-(-1074+(c:Int))).toNat=ex q-c by omega]
 rw[←cmp_mul _ _ (Nat.two_pow_pos c),←sg_mul,←sg_mul,Nat.mul_assoc,Nat.mul_assoc,←Nat.pow_add,←Nat.pow_add,Nat.sub_add_cancel h1,Nat.sub_add_cancel h2];rfl
theorem nearest_eq (s:Bool) {m:Nat} (p:Int) (hm:m≠0):double.nearest s m p=double.word s (min ((max (p+m.log2-52) (-1074)+1074).toNat*2^52+rnd (m*2^(p-max (p+m.log2-52) (-1074)).toNat) (max (p+m.log2-52) (-1074)-p).toNat) (2047*2^52)):=by
 have e2:double.binade=2^52:=by decide
 have e3:double.infRung=2047*2^52:=by decide
 have e4:double.leastPlace= -1074:=by decide
 have e5:(double.fractionBits:Int)=52:=by decide
 unfold Format.nearest;rw[if_neg hm,e2,e3,e4,e5];simp only[cut_rnd,Nat.shiftLeft_eq,Int.sub_neg]
theorem sg_false (n:Nat):sg false n=n:=rfl
theorem sg_true (n:Nat):sg true n= -(n:Int):=rfl
def c7:Nat:=10000000*2^29
theorem read_inf {b:Nat} (h:b%2^63=2047*2^52):double.read b=.infinity (b/2^63%2==1):=by
 have e1:double.signWeight=2^63:=by decide
 have e2:double.binade=2^52:=by decide
 have e3:double.infRung=2047*2^52:=by decide
 unfold Format.read;rw[e1,e2,e3];dsimp only
 rw[h,if_neg (by decide),if_neg (by decide),if_pos rfl]
theorem read_nan {b:Nat} (h:2047*2^52<b%2^63):∃t,double.read b=.nan (b/2^63%2==1) t:=by
 have e1:double.signWeight=2^63:=by decide
 have e2:double.binade=2^52:=by decide
 have e3:double.infRung=2047*2^52:=by decide
 unfold Format.read;rw[e1,e2,e3];dsimp only
 rw[if_neg (by omega),if_neg (by omega),if_neg (by omega)]
 exact⟨_,rfl⟩
end Go.Proofs.YtmmlkfkpblokiaaGreatDoor
namespace Go.Proofs.YtmmlkfkpblokiaaGreatDoor
open Go Go.RowKit Go.Sort Ieee
def whw (m:Nat):Nat:=if m=0 then 0 else if 52<m.log2 then(1023+m.log2)*2^52 else(1022+m.log2)*2^52+m*2^(52-m.log2)
theorem rnd_zero (n:Nat):rnd n 0=n:=by
 unfold rnd
 simp[Nat.mod_one]
theorem log2_le53 {m:Nat} (h0:m≠0) (h:m≤2^53):m.log2≤53:=by
 rcases Nat.lt_or_ge 53 m.log2 with q|q
 ·exfalso
  have h1:2^m.log2≤m:=Nat.log2_self_le h0
  have h2:2^54≤2^m.log2:=Nat.pow_le_pow_right (by omega) q
  have h3:(2:Nat)^54=2*2^53:=by decide
  omega
 ·exact q
theorem whw_word {m:Nat} (h:m≤2^53):floatOfInt .f64 (m:Int)=whw m:=by
 show double.nearest (decide ((m:Int)<0)) (m:Int).natAbs 0=whw m
 rw[decide_eq_false (by omega),Int.natAbs_natCast]
 unfold whw
 by_cases h0:m=0
 ·rw[if_pos h0,h0];rfl
 rw[if_neg h0,nearest_eq false 0 h0];have hl:=log2_le53 h0 h;have h1:2^m.log2≤m:=Nat.log2_self_le h0;have h2:m<2^(m.log2+1):=Nat.lt_log2_self;unfold Format.word
 rw[if_neg (by decide)]
 generalize m.log2=k at *
 by_cases q:52<k
 ·obtain rfl:k=53:=by omega
  rw[if_pos q]
  have hm:m=2^53:=by omega
  rw[hm];clear hm h h0 h1 h2 hl q
  decide+kernel
 ·rw[if_neg q,show max ((0:Int)+(k:Int)-52) (-1074)=(k:Int)-52 by omega,show((k:Int)-52-0).toNat=0 by omega,rnd_zero,show((0:Int)-((k:Int)-52)).toNat=52-k by omega,show((k:Int)-52+1074).toNat=1022+k by omega]
  refine Nat.min_eq_left ?_
  have h3:m*2^(52-k)≤2^(k+1)*2^(52-k):=Nat.mul_le_mul_right _ (by omega)
  rw[←Nat.pow_add,show k+1+(52-k)=53 by omega] at h3
  have h4:(1022+k)*2^52≤1074*2^52:=Nat.mul_le_mul_right _ (by omega)
  exact Nat.le_trans (Nat.add_le_add h4 h3) (by decide)
theorem whw_lt {m:Nat} (h:m≤2^53):whw m<2047*2^52:=by
 unfold whw
 by_cases h0:m=0
 ·rw[if_pos h0];decide
 rw[if_neg h0];have hl:=log2_le53 h0 h;have h2:m<2^(m.log2+1):=Nat.lt_log2_self
 generalize m.log2=k at *
 by_cases q:52<k
 ·obtain rfl:k=53:=by omega
  rw[if_pos q]
  exact Nat.mul_lt_mul_of_pos_right (by decide) (Nat.two_pow_pos 52)
 ·rw[if_neg q]
  have h3:m*2^(52-k)≤2^(k+1)*2^(52-k):=Nat.mul_le_mul_right _ (by omega)
  rw[←Nat.pow_add,show k+1+(52-k)=53 by omega] at h3
  have h4:(1022+k)*2^52≤1074*2^52:=Nat.mul_le_mul_right _ (by omega)
  exact Nat.lt_of_le_of_lt (Nat.add_le_add h4 h3) (by decide)
theorem val_0:val 0=0:=rfl
theorem flD_bits {n m:Nat} (hn:n<2^64) (hm:m≤2^53):flD n m=if 2047*2^52≤n%2^63∨n=2^63 then 84 else if whw m<n%2^63 then 83 else 0:=by
 have hW:=whw_lt hm;unfold flD
 rw[whw_word hm,show FloatKind.f64.format=double from rfl,show(9223372036854775808:Nat)=2^63 by decide,show(9218868437227405311:Nat)=2047*2^52-1 by decide]
 generalize whw m=w at *
 have hr:n%2^63<2^63:=Nat.mod_lt _ (by decide)
 have hd:n%2^63/2^63=0:=Nat.div_eq_of_lt hr
 have hz:(n%2^63/2^63%2==1)=false:=by rw[hd];rfl
 rcases Nat.lt_trichotomy (n%2^63) (2047*2^52) with q|q|q
 ·have e1:double.order n n=some .eq:=by
   rw[order_fin q q]
   congr 1
   simp[compare,compareOfLessAndEq]
  have q2:n%2^63%2^63<2047*2^52:=by rw[Nat.mod_mod];exact q
  have e2:(double.order (n%2^63) (2047*2^52-1)==some .gt)=false:=by
   rw[order_fin q2 (by decide),hz,Nat.mod_mod,show((2047*2^52-1)/2^63%2==1)=false by decide,show(2047*2^52-1)%2^63=2047*2^52-1 by decide,sg_false,sg_false]
   have:=val_mono (show n%2^63≤2047*2^52-1 by omega)
   generalize val (n%2^63)=a at *
   generalize val (2047*2^52-1)=b at *
   simp only[compare,compareOfLessAndEq]
   split
   ·rfl
   ·rw[if_pos (by omega)];rfl
  have e3:(double.order n 0==some .eq)=decide (n%2^63=0):=by
   rw[order_fin q (by decide),show(0/2^63%2==1)=false by decide,show 0%2^63=0 by decide,sg_false,val_0]
   by_cases h0:n%2^63=0
   ·rw[h0,val_0]
    simp[sg,compare,compareOfLessAndEq]
   ·have hv:=val_lt (show 0<n%2^63 by omega)
    rw[val_0] at hv
    generalize val (n%2^63)=a at *
    rw[decide_eq_false h0]
    cases hs:(n/2^63%2==1)
    ·rw[sg_false]
     simp only[compare,compareOfLessAndEq]
     rw[if_neg (by omega),if_neg (by omega)]
     rfl
    ·rw[sg_true]
     simp only[compare,compareOfLessAndEq]
     rw[if_pos (by omega)]
     rfl
  have e4:(double.order (n%2^63) w==some .gt)=decide (w<n%2^63):=by
   rw[order_fin q2 (by rw[Nat.mod_eq_of_lt (by omega)];exact hW),hz,Nat.mod_mod,show(w/2^63%2==1)=false by rw[Nat.div_eq_of_lt (by omega)];rfl,Nat.mod_eq_of_lt (show w<2^63 by omega),sg_false,sg_false]
   rcases Nat.lt_trichotomy w (n%2^63) with x|x|x
   ·have:=val_lt x
    generalize val (n%2^63)=a at *
    generalize val w=b at *
    rw[decide_eq_true x];simp only[compare,compareOfLessAndEq]
    rw[if_neg (by omega),if_neg (by omega)]
    rfl
   ·rw[←x,decide_eq_false (by omega)]
    simp[compare,compareOfLessAndEq]
   ·have:=val_lt x
    generalize val (n%2^63)=a at *
    generalize val w=b at *
    rw[decide_eq_false (by omega)]
    simp only[compare,compareOfLessAndEq]
    rw[if_pos (by omega)]
    rfl
  rw[e1,e2,e3,e4];simp only[bne_self_eq_false,Bool.false_eq_true,if_false,decide_eq_true_eq]
  by_cases h63:n=2^63
  ·rw[if_pos (by subst h63;decide),if_pos (.inr h63)]
  ·rw[if_neg (show¬(n%2^63=0∧2^63≤n) by omega),if_neg (show¬(2047*2^52≤n%2^63∨n=2^63) by omega)]
 ·have e1:double.order n n=some .eq:=by
   unfold Format.order;rw[read_inf q]
   simp[Datum.order,compare,compareOfLessAndEq]
  have e2:(double.order (n%2^63) (2047*2^52-1)==some .gt)=true:=by
   unfold Format.order
   rw[read_inf (by rw[Nat.mod_mod];exact q),hz,read_fin (b:=2047*2^52-1) (by decide)]
   rfl
  rw[e1,e2,if_neg (by decide),if_pos rfl,if_pos (show 2047*2^52≤n%2^63∨n=2^63 from .inl (by omega))]
 ·have e1:double.order n n=none:=by
   obtain⟨t,ht⟩:=read_nan q;unfold Format.order;rw[ht];rfl
  rw[e1,if_pos (by decide),if_pos (show 2047*2^52≤n%2^63∨n=2^63 from .inl (by omega))]
end Go.Proofs.YtmmlkfkpblokiaaGreatDoor
namespace Go.Proofs.YtmmlkfkpblokiaaGreatDoor
open Go Go.RowKit Go.Sort
attribute [local go_sem] setCell_drewN alloc_drewN
theorem whole_div {m k:Nat}:(m/2^k>1)↔(m≠0∧k<m.log2):=by
 constructor
 ·intro h
  have h0:m≠0:=by intro e;subst e;simp at h
  refine⟨h0,?_⟩
  rcases Nat.lt_or_ge k m.log2 with q|q
  ·exact q
  ·exfalso
   have h2:m<2^(m.log2+1):=Nat.lt_log2_self
   have h3:2^(m.log2+1)≤2^(k+1):=Nat.pow_le_pow_right (by omega) (by omega)
   have h4:m/2^k<2:=Nat.div_lt_of_lt_mul (by rw[←Nat.pow_succ];omega)
   omega
 ·rintro⟨h0,q⟩
  have h1:2^m.log2≤m:=Nat.log2_self_le h0
  have h3:2^(k+1)≤2^m.log2:=Nat.pow_le_pow_right (by omega) q
  have h4:2≤m/2^k:=(Nat.le_div_iff_mul_le (Nat.two_pow_pos k)).2 (by rw[Nat.mul_comm,←Nat.pow_succ];omega)
  omega
theorem whole_lo {m k:Nat} (h0:m≠0) (hk:m.log2=k) (h:k≤52):((m:Int)*2^(52-k))%18446744073709551616=((m*2^(52-k):Nat):Int)∧2^52≤m*2^(52-k)∧m*2^(52-k)<2^53:=by
 subst hk;have h1:2^m.log2≤m:=Nat.log2_self_le h0;have h2:m<2^(m.log2+1):=Nat.lt_log2_self;have h3:m*2^(52-m.log2)<2^(m.log2+1)*2^(52-m.log2):=Nat.mul_lt_mul_of_pos_right h2 (Nat.two_pow_pos _);have h4:2^m.log2*2^(52-m.log2)≤m*2^(52-m.log2):=Nat.mul_le_mul_right _ h1
 rw[←Nat.pow_add,show m.log2+1+(52-m.log2)=53 by omega] at h3
 rw[←Nat.pow_add,show m.log2+(52-m.log2)=52 by omega] at h4
 refine⟨?_,h4,h3⟩
 rw[show((m:Int)*2^(52-m.log2))=((m*2^(52-m.log2):Nat):Int) by push_cast;rfl]
 omega
theorem r_whole (m:Nat) (hm:m≤9007199254740992) (w:World):Calls Tryz.prog 134 #[.int .u64 (m:Int)] w fun e w'=>e=.returned (.int .u64 (whw m:Int))∧Below w.heap.size w w':=by
 have hb:=Below.refl w.heap.size w
 by_cases h0:m=0
 ·subst h0
  go_enter Tryz.func134,Tryz.ntmps134
  go_wp2
  go_ret;exact⟨rfl,hb⟩
 have hz:¬((m:Int)=0):=by omega
 have hl:=log2_le53 h0 hm
 have hW:whw m=if 52<m.log2 then(1023+m.log2)*2^52 else(1022+m.log2)*2^52+m*2^(52-m.log2):=if_neg h0
 replace hW:=hide hW
 have hdv:=hide (fun k=>@whole_div m k)
 go_enter Tryz.func134,Tryz.ntmps134
 go_wp2_with (fail)
 go_loopw [3] (fun p wr=>∃k:Nat,k≤m.log2∧p=.int .u64 k∧Below w.heap.size w wr) (fun p _=>m.log2-(intOf p).toNat)
 case atStart=>exact⟨0,by omega,rfl,hb⟩
 case round=>
  clear hb;obtain⟨k,hk,rfl,hb⟩:=hrel
  rcases Nat.lt_or_ge k m.log2 with q|q
  ·have hd:(1:Int)<(m:Int)/2^k:=by have:=(hdv.out k).2 ⟨h0,q⟩;exact_mod_cast this
   go_wp2_with (fail)
   exact⟨⟨k+1,q,by push_cast;rfl,hb⟩,by simp only[intOf];omega⟩
  ·have hkk:m.log2=k:=by omega
   have hd:(m:Int)/2^k≤1:=by
    have:¬m/2^k>1:=fun z=>Nat.lt_irrefl _ (Nat.lt_of_lt_of_le ((hdv.out k).1 z).2 q)
    have h2:m/2^k≤1:=Nat.le_of_not_lt this
    exact_mod_cast h2
   rw[hkk] at hW
   rcases Nat.lt_or_ge 52 k with q2|q2
   ·have hd2:(52:Int)<(k:Int):=by omega
    go_wp2_with (fail)
    go_ret
    have e:(1023+(k:Int))*4503599627370496=(((1023+k)*2^52:Nat):Int):=by omega
    exact⟨by rw[hW.out,if_pos q2,←e];rfl,hb⟩
   ·have hd2:(k:Int)≤52:=by omega
    obtain⟨e1,e2,e3⟩:=whole_lo h0 hkk q2
    go_wp2_with (fail)
    go_ret;refine⟨?_,hb⟩
    rw[hW.out,if_neg (by omega)]
    have w1:IntKind.u64.wrap ((m:Int)*2^(52-k))=((m*2^(52-k):Nat):Int):=by rw[IntKind.wrap_u64];exact e1
    rw[w1]
    generalize m*2^(52-k)=M at *
    have w2:IntKind.u64.wrap (IntKind.u64.wrap ((1023+(k:Int))*4503599627370496+(M:Int))-4503599627370496)=(((1022+k)*2^52+M:Nat):Int):=by
     rw[IntKind.wrap_u64,IntKind.wrap_u64];omega
    rw[w2];rfl
theorem r_Float (n m:Nat) (hn:n<18446744073709551616) (hm:m≤9007199254740992) (w:World):Calls Tryz.prog 100 #[.int .u64 (n:Int),.int .u64 (m:Int)] w fun e w'=>e=.returned (.int .i64 (flD n m))∧Below w.heap.size w w':=by
 have hb:=Below.refl w.heap.size w;have cW:=r_whole m hm
 have hF:flD n m=if 9218868437227405312≤n%9223372036854775808∨n=9223372036854775808 then 84 else if whw m<n%9223372036854775808 then 83 else 0:=flD_bits hn hm
 replace hF:=hide hF
 generalize whw m=M at *
 have e0:(n:Int)%9223372036854775808=((n%9223372036854775808:Nat):Int):=by omega
 obtain⟨r,eR⟩:∃r,(n:Int)%9223372036854775808=r:=⟨_,rfl⟩;rw[eR] at e0
 by_cases h1:9218868437227405312≤n%9223372036854775808
 ·have h2:(9218868437227405312:Int)≤r:=by omega
  go_enter Tryz.func100,Tryz.ntmps100
  go_upto_region 2 with(fail)
  rw[eR];clear eR e0;replace h1:=hide h1
  go_wp2_with (fail)
  go_ret
  exact⟨by rw[hF.out,if_pos (.inl h1.out)];rfl,hb⟩
 have h2:r<9218868437227405312:=by omega
 by_cases h3:n=9223372036854775808
 ·have h4:((n:Int)==9223372036854775808)=true:=by simp;omega
  go_enter Tryz.func100,Tryz.ntmps100
  go_upto_region 2 with(fail)
  clear eR e0;replace h3:=hide h3
  go_wp2_with (fail)
  go_ret
  exact⟨by rw[hF.out,if_pos (.inr h3.out)];rfl,hb⟩
 have h4:((n:Int)==9223372036854775808)=false:=by simp;omega
 go_enter Tryz.func100,Tryz.ntmps100
 go_upto_region 2 with(fail)
 rw[eR];clear eR;replace e0:=hide e0;replace h1:=hide h1;replace h3:=hide h3
 go_wp2_with (fail)
 refine(cW _).mono ?_;rintro e_ w1 ⟨rfl,hb1⟩
 by_cases h5:M<n%9223372036854775808
 ·have h6:(M:Int)<r:=by have:=e0.out;omega
  replace h5:=hide h5
  go_wp2_with (fail)
  go_ret
  exact⟨by rw[hF.out,if_neg (by have:=h1.out;have:=h3.out;omega),if_pos h5.out];rfl,hb1⟩
 ·have h6:r≤(M:Int):=by have:=e0.out;omega
  replace h5:=hide h5
  go_wp2_with (fail)
  go_ret
  exact⟨by rw[hF.out,if_neg (by have:=h1.out;have:=h3.out;omega),if_neg h5.out];rfl,hb1⟩
def slr (t:Slt) (u:Value):Array Value:=#[.int .i64 t.no,.int .i64 t.kind,.int .u64 (t.least:Int),.int .u64 (t.most:Int),u]
theorem r_within (n:Int) (no k l m:Int) (so:Option Addr) (sn sc:Nat) (w:World):Calls Tryz.prog 87 #[.int .u64 n,.agg #[.int .i64 no,.int .i64 k,.int .u64 l,.int .u64 m,.slice so sn sc]] w fun e w'=>e=.returned (.bool (wth n l m==0))∧Below w.heap.size w w':=by
 have hb:∀o,Below w.heap.size w (w.alloc o):=fun o=>(Below.refl _ _).alloc (Nat.le_refl _) _
 rcases Int.lt_or_le n l with q|q
 ·have e:(wth n l m==0)=false:=by unfold wth;rw[if_pos (.inl q)];rfl
  have hd:decide (n≥l)=false:=by simpa using q
  rw[e]
  go_enter Tryz.func87,Tryz.ntmps87
  go_wp2
  go_ret;exact⟨rfl,hb _⟩
 ·have hd:decide (n≥l)=true:=by simpa using q
  rcases Int.lt_or_le m n with q2|q2
  ·have e:(wth n l m==0)=false:=by unfold wth;rw[if_pos (.inr q2)];rfl
   have hd2:decide (n≤m)=false:=by simpa using q2
   rw[e]
   go_enter Tryz.func87,Tryz.ntmps87
   go_wp2
   go_ret;exact⟨rfl,hb _⟩
  ·have e:(wth n l m==0)=true:=by unfold wth;rw[if_neg (by omega)];rfl
   have hd2:decide (n≤m)=true:=by simpa using q2
   rw[e]
   go_enter Tryz.func87,Tryz.ntmps87
   go_wp2
   go_ret;exact⟨rfl,hb _⟩
theorem infoSlt:(Tryz.prog.info? 88).map (·.size)=some 5:=by kernel_rfl
theorem wth_two (n l m:Int):wth n l m=0∨wth n l m=83:=by unfold wth;split;exact .inr rfl;exact .inl rfl
theorem r_plainN (no k l m:Int) (hk:k=1∨k=2∨k=3) (so:Option Addr) (sn sc:Nat) (n:Nat) (da:Option Addr) (dl dc:Nat) (pa:Option Addr) (pl pc:Nat) (w:World):
 Calls Tryz.prog 75 #[.agg #[.int .i64 no,.int .i64 k,.int .u64 l,.int .u64 m,.slice so sn sc],.agg #[.int .u64 (n:Int),.slice da dl dc,.slice pa pl pc]] w fun e w'=>e=.returned (.int .i64 (if pbad false n dl pl then 84 else wth (n:Int) l m))∧Below w.heap.size w w':=by
 have hb:Below w.heap.size w ((w.alloc (.cells #[.int .i64 no,.int .i64 k,.int .u64 l,.int .u64 m,.slice so sn sc] 88)).alloc (.cells #[.int .u64 (n:Int),.slice da dl dc,.slice pa pl pc] 27)):=((Below.refl _ _).alloc (Nat.le_refl _) _).alloc (by simp) _
 have r0:=hp2_0 w (.cells #[.int .i64 no,.int .i64 k,.int .u64 l,.int .u64 m,.slice so sn sc] 88) (.cells #[.int .u64 (n:Int),.slice da dl dc,.slice pa pl pc] 27);have cW:=r_within (n:Int) no k l m so sn sc
 obtain⟨R,hR⟩:∃R,(if pbad false n dl pl then 84 else wth (n:Int) l m)=R:=⟨_,rfl⟩
 rw[hR]
 rcases hbad:pbad false n dl pl
 ·rw[hbad,if_neg Bool.false_ne_true] at hR
  obtain rfl:pl=0:=by
   rcases Nat.eq_zero_or_pos pl with q|q
   ·exact q
   ·simp[pbad,q] at hbad
  obtain rfl:dl=0:=by
   rcases Nat.eq_zero_or_pos dl with q|q
   ·exact q
   ·simp[pbad,q] at hbad
  clear hbad
  rcases wth_two (n:Int) l m with hz|hz
  ·rw[hz] at cW hR
   replace cW:∀V,Calls Tryz.prog 87 #[.int .u64 (n:Int),.agg #[.int .i64 no,.int .i64 k,.int .u64 l,.int .u64 m,.slice so sn sc]] V fun e w'=>e=.returned (.bool true)∧Below V.heap.size V w':=cW
   replace hR:=hide hR;clear hz
   rcases hk with rfl|rfl|rfl
   all_goals
    go_enter Tryz.func75,Tryz.ntmps75
    go_wp2_with (first|(refine wpList_load_want rfl 88 _ rfl w.heap.size rfl 88 _ (0,0) _ r0 Tryz.underlying88 rfl infoSlt ?_)|fail)
    refine(cW _).mono ?_;rintro e_ w1 ⟨rfl,hb1⟩;replace hb1:=Below.after hb hb1
    go_wp2
    go_ret
    exact⟨by rw[←hR.out];rfl,hb1⟩
  ·rw[hz] at cW hR
   replace cW:∀V,Calls Tryz.prog 87 #[.int .u64 (n:Int),.agg #[.int .i64 no,.int .i64 k,.int .u64 l,.int .u64 m,.slice so sn sc]] V fun e w'=>e=.returned (.bool false)∧Below V.heap.size V w':=cW
   replace hR:=hide hR;clear hz
   rcases hk with rfl|rfl|rfl
   all_goals
    go_enter Tryz.func75,Tryz.ntmps75
    go_wp2_with (first|(refine wpList_load_want rfl 88 _ rfl w.heap.size rfl 88 _ (0,0) _ r0 Tryz.underlying88 rfl infoSlt ?_)|fail)
    refine(cW _).mono ?_;rintro e_ w1 ⟨rfl,hb1⟩;replace hb1:=Below.after hb hb1
    go_wp2
    go_ret
    exact⟨by rw[←hR.out];rfl,hb1⟩
 ·rw[hbad,if_pos rfl] at hR
  replace hR:=hide hR
  rcases Nat.eq_zero_or_pos dl with rfl|hdp
  ·have hq:0<pl:=by simpa[pbad] using hbad
   have hd:decide ((pl:Int)>0)=true:=by simp;omega
   clear hbad
   rcases hk with rfl|rfl|rfl
   all_goals
    go_enter Tryz.func75,Tryz.ntmps75
    go_wp2
    go_ret
    exact⟨by rw[←hR.out];rfl,hb⟩
  ·have hd:decide ((dl:Int)>0)=true:=by simp;omega
   clear hbad
   rcases hk with rfl|rfl|rfl
   all_goals
    go_enter Tryz.func75,Tryz.ntmps75
    go_wp2
    go_ret
    exact⟨by rw[←hR.out];rfl,hb⟩
theorem r_plainB (no k l m:Int) (hk:k=5) (so:Option Addr) (sn sc:Nat) (n:Nat) (da:Option Addr) (dl dc:Nat) (hdl:dl<9223372036854775808) (pa:Option Addr) (pl pc:Nat) (w:World):
 Calls Tryz.prog 75 #[.agg #[.int .i64 no,.int .i64 k,.int .u64 l,.int .u64 m,.slice so sn sc],.agg #[.int .u64 (n:Int),.slice da dl dc,.slice pa pl pc]] w fun e w'=>e=.returned (.int .i64 (if pbad true n dl pl then 84 else wth (dl:Int) l m))∧Below w.heap.size w w':=by
 have hb:Below w.heap.size w ((w.alloc (.cells #[.int .i64 no,.int .i64 k,.int .u64 l,.int .u64 m,.slice so sn sc] 88)).alloc (.cells #[.int .u64 (n:Int),.slice da dl dc,.slice pa pl pc] 27)):=((Below.refl _ _).alloc (Nat.le_refl _) _).alloc (by simp) _
 have r0:=hp2_0 w (.cells #[.int .i64 no,.int .i64 k,.int .u64 l,.int .u64 m,.slice so sn sc] 88) (.cells #[.int .u64 (n:Int),.slice da dl dc,.slice pa pl pc] 27);have cW:=r_within (dl:Int) no k l m so sn sc
 obtain⟨R,hR⟩:∃R,(if pbad true n dl pl then 84 else wth (dl:Int) l m)=R:=⟨_,rfl⟩
 rw[hR]
 rcases hbad:pbad true n dl pl
 ·rw[hbad,if_neg Bool.false_ne_true] at hR
  obtain rfl:pl=0:=by
   rcases Nat.eq_zero_or_pos pl with q|q
   ·exact q
   ·simp[pbad,q] at hbad
  obtain rfl:n=0:=by
   rcases Nat.eq_zero_or_pos n with q|q
   ·exact q
   ·simp[pbad,show n≠0 by omega] at hbad
  clear hbad
  rcases wth_two (dl:Int) l m with hz|hz
  ·rw[hz] at cW hR
   replace cW:∀V,Calls Tryz.prog 87 #[.int .u64 (dl:Int),.agg #[.int .i64 no,.int .i64 k,.int .u64 l,.int .u64 m,.slice so sn sc]] V fun e w'=>e=.returned (.bool true)∧Below V.heap.size V w':=cW
   replace hR:=hide hR;clear hz;subst hk
   all_goals
    go_enter Tryz.func75,Tryz.ntmps75
    go_wp2_with (first|(refine wpList_load_want rfl 88 _ rfl w.heap.size rfl 88 _ (0,0) _ r0 Tryz.underlying88 rfl infoSlt ?_)|fail)
    refine(cW _).mono ?_;rintro e_ w1 ⟨rfl,hb1⟩
    have c1:w1.cell? ⟨w.heap.size,1,none⟩=some (.int .i64 5):=by rw[cell_of_row _ _ _ _ _ _ (keep hb1 r0)];rfl
    replace hb1:=Below.after hb hb1
    go_wp2
    go_ret
    exact⟨by rw[←hR.out];rfl,hb1⟩
  ·rw[hz] at cW hR
   replace cW:∀V,Calls Tryz.prog 87 #[.int .u64 (dl:Int),.agg #[.int .i64 no,.int .i64 k,.int .u64 l,.int .u64 m,.slice so sn sc]] V fun e w'=>e=.returned (.bool false)∧Below V.heap.size V w':=cW
   replace hR:=hide hR;clear hz;subst hk
   all_goals
    go_enter Tryz.func75,Tryz.ntmps75
    go_wp2_with (first|(refine wpList_load_want rfl 88 _ rfl w.heap.size rfl 88 _ (0,0) _ r0 Tryz.underlying88 rfl infoSlt ?_)|fail)
    refine(cW _).mono ?_;rintro e_ w1 ⟨rfl,hb1⟩;replace hb1:=Below.after hb hb1
    go_wp2
    go_ret
    exact⟨by rw[←hR.out];rfl,hb1⟩
 ·rw[hbad,if_pos rfl] at hR
  replace hR:=hide hR
  rcases Nat.eq_zero_or_pos n with rfl|hnp
  ·have hq:0<pl:=by simpa[pbad] using hbad
   have hd:decide ((pl:Int)>0)=true:=by simp;omega
   clear hbad;subst hk
   go_enter Tryz.func75,Tryz.ntmps75
   go_wp2
   go_ret
   exact⟨by rw[←hR.out];rfl,hb⟩
  ·have hd:((n:Int)==0)=false:=by simp;omega
   have hd2:¬(n:Int)=0:=by omega
   clear hbad;subst hk
   go_enter Tryz.func75,Tryz.ntmps75
   go_wp2
   go_ret
   exact⟨by rw[←hR.out];rfl,hb⟩
theorem r_plainG (no l m:Int) (so:Option Addr) (sn sc:Nat) (n:Nat) (da:Option Addr) (dl dc:Nat) (pa:Option Addr) (pl pc:Nat) (w:World):
 Calls Tryz.prog 75 #[.agg #[.int .i64 no,.int .i64 4,.int .u64 l,.int .u64 m,.slice so sn sc],.agg #[.int .u64 (n:Int),.slice da dl dc,.slice pa pl pc]] w fun e w'=>e=.returned (.int .i64 (if pbad false n dl pl then 84 else wth (n:Int) 0 1))∧Below w.heap.size w w':=by
 have hb:Below w.heap.size w ((w.alloc (.cells #[.int .i64 no,.int .i64 4,.int .u64 l,.int .u64 m,.slice so sn sc] 88)).alloc (.cells #[.int .u64 (n:Int),.slice da dl dc,.slice pa pl pc] 27)):=((Below.refl _ _).alloc (Nat.le_refl _) _).alloc (by simp) _
 obtain⟨R,hR⟩:∃R,(if pbad false n dl pl then 84 else wth (n:Int) 0 1)=R:=⟨_,rfl⟩
 rw[hR]
 rcases hbad:pbad false n dl pl
 ·rw[hbad,if_neg Bool.false_ne_true] at hR
  obtain rfl:pl=0:=by
   rcases Nat.eq_zero_or_pos pl with q|q
   ·exact q
   ·simp[pbad,q] at hbad
  obtain rfl:dl=0:=by
   rcases Nat.eq_zero_or_pos dl with q|q
   ·exact q
   ·simp[pbad,q] at hbad
  clear hbad
  rcases Int.lt_or_le 1 (n:Int) with q|q
  ·have hz:wth (n:Int) 0 1=83:=by unfold wth;rw[if_pos (.inr q)]
   have hd:decide ((n:Int)>1)=true:=by simpa using q
   rw[hz] at hR;replace hR:=hide hR;clear hz
   go_enter Tryz.func75,Tryz.ntmps75
   go_wp2
   go_ret
   exact⟨by rw[←hR.out];rfl,hb⟩
  ·have hz:wth (n:Int) 0 1=0:=by unfold wth;rw[if_neg (by omega)]
   have hd:decide ((n:Int)>1)=false:=by simpa using q
   rw[hz] at hR;replace hR:=hide hR;clear hz
   go_enter Tryz.func75,Tryz.ntmps75
   go_wp2
   go_ret
   exact⟨by rw[←hR.out];rfl,hb⟩
 ·rw[hbad,if_pos rfl] at hR
  replace hR:=hide hR
  rcases Nat.eq_zero_or_pos dl with rfl|hdp
  ·have hq:0<pl:=by simpa[pbad] using hbad
   have hd:decide ((pl:Int)>0)=true:=by simp;omega
   clear hbad
   go_enter Tryz.func75,Tryz.ntmps75
   go_wp2
   go_ret
   exact⟨by rw[←hR.out];rfl,hb⟩
  ·have hd:decide ((dl:Int)>0)=true:=by simp;omega
   clear hbad
   go_enter Tryz.func75,Tryz.ntmps75
   go_wp2
   go_ret
   exact⟨by rw[←hR.out];rfl,hb⟩
def vlg:List VT→Int→Int
 |[],l=>l
 | .mk _ d ps::xs,l=>if 0≤l then vlg xs (vlg ps (l-1-((d.length/64:Nat):Int))) else l
def vlf (X:VT) (l:Int):Int:=vlg X.parts (l-1-((X.dat.length/64:Nat):Int))
theorem vlg_cons (x:VT) (xs:List VT) (l:Int):vlg (x::xs) l=if 0≤l then vlg xs (vlf x l) else l:=by
 cases x
 rw[vlg];rfl
theorem vlg_neg {ps:List VT} {l:Int} (h:l<0):vlg ps l=l:=by
 cases ps with
 |nil=>rw[vlg]
 |cons x xs=>rw[vlg_cons,if_neg (by omega)]
theorem nm_dat {X:VT} (h:NmT X):X.dat.length≤140737488351232∧∀p∈X.parts,NmT p:=by
 cases h with
 |mk n d ps hn hd h=>exact⟨hd,h⟩
theorem vlg_bd:∀(ps:List VT) (l:Int),(∀p∈ps,NmT p)→-4398046511104≤l→l≤10000→-4398046511104≤vlg ps l∧vlg ps l≤10000
 |[],l,_,h1,h2=>by rw[vlg];exact⟨h1,h2⟩
 | .mk n d ps::xs,l,h,h1,h2=>by
  have hx:=nm_dat (h (.mk n d ps) (by simp))
  have hd:d.length≤140737488351232:=hx.1;rw[vlg]
  by_cases h0:0≤l
  ·rw[if_pos h0]
   obtain⟨b1,b2⟩:=vlg_bd ps (l-1-((d.length/64:Nat):Int)) hx.2 (by omega) (by omega)
   exact vlg_bd xs _ (fun p hp=>h p (by simp[hp])) b1 b2
  ·rw[if_neg h0]
   exact⟨h1,h2⟩
theorem a_valueLeft {W:World} {S:Nat→Prop} {x:VR} {X:VT} (h:VtM W S x X):∀(w:World) (l:Int),Below W.heap.size W w→0≤l→l≤10000→Calls Tryz.prog 24 #[.agg (vrv x),.int .i64 l] w fun e w'=>e=.returned (.int .i64 (vlf X l))∧Below w.heap.size w w':=by
 induction h with
 |mk x bs xs ps hn hdl hbl hd hdc hds hpl hxl hpc hpm hps hP hs ih=>
  intro w l hw h0 h1
  have hnp:∀p∈ps,NmT p:=fun p hp=>by
   obtain⟨i,hi,e⟩:=List.getElem_of_mem hp;have:=(hs i hi).nm;rw[gvt,List.getD_eq_getElem?_getD,List.getElem?_eq_getElem hi] at this;rw[←e];exact this
  have hpsb:∀i,i<ps.length→(∀b off,x.pa=some ⟨b,off,none⟩→b<W.heap.size):=fun i hi b off e=>(hps _ ((lv_pos (by omega)).trans e)).2
  clear hs hps hds hd;obtain⟨xn,xda,xdl,xdc,xpa,xpl,xpc⟩:=x;simp only at hn hdl hdc hpl hpc hP hpsb;subst hpl;unfold vrv vrw;obtain⟨R,hR⟩:∃R,vlf (.mk xn bs ps) l=R:=⟨_,rfl⟩;rw[hR]
  have eq64:((xdl/64:Nat):Int)=(xdl:Int)/64:=by omega
  have eR:R=vlg (ps.drop 0) (l-1-(xdl:Int)/64):=by rw[←eq64,←hR,hdl];rfl
  have bd0: -4398046511104≤l-1-(xdl:Int)/64∧l-1-(xdl:Int)/64≤10000:=by omega
  have q1:IntKind.wrap .i64 (l-1)=l-1:=by rw[IntKind.wrap_i64];omega
  have q2:IntKind.wrap .i64 (l-1-(xdl:Int)/64)=l-1-(xdl:Int)/64:=by rw[IntKind.wrap_i64];omega
  have q3:IntKind.wrap .i64 ((xdl:Int)/64)=(xdl:Int)/64:=by rw[IntKind.wrap_i64];omega
  clear hdl eq64 hbl;have hb:Below w.heap.size w (w.alloc (.cells #[.int .u64 (xn:Int),.slice xda xdl xdc,.slice xpa ps.length xpc] 27)):=(Below.refl _ _).alloc (Nat.le_refl _) _;have r0:=hp1_0 w (.cells #[.int .u64 (xn:Int),.slice xda xdl xdc,.slice xpa ps.length xpc] 27);have HP:=hide hP;have HI:=hide ih;replace eR:=hide eR;clear hR hP ih
  go_enter Tryz.func24,Tryz.ntmps24
  go_upto_region 1 with(fail)
  generalize w.alloc (.cells #[.int .u64 (xn:Int),.slice xda xdl xdc,.slice xpa ps.length xpc] 27)=w0 at *
  have c1:=cell_of_row _ _ 1 _ _ _ r0
  go_wp2_with (fail)
  clear c1
  go_loopw [1,5] (fun lv i wr=>∃(k:Nat) (l2:Int),k≤ps.length∧i=.int .i64 k∧lv=.int .i64 l2∧R=vlg (ps.drop k) l2∧-4398046511104≤l2∧l2≤10000∧Below w0.heap.size w0 wr) (fun _ i _=>ps.length-(intOf i).toNat)
  case atStart=>exact⟨0,_,by omega,rfl,rfl,eR.out,bd0.1,bd0.2,Below.refl _ _⟩
  case round=>
   clear eR bd0 q1 q2 q3;obtain⟨k,l2,hk,rfl,rfl,eR,b1,b2,hby⟩:=hrel;have rr:=keep hby r0;have c2:=cell_of_row _ _ 2 _ _ _ rr;have hbw:=Below.after hb hby
   by_cases hlt:k<ps.length
   ·have hd2:decide ((k:Int)<(ps.length:Int))=true:=by simp;omega
    by_cases hl0:0≤l2
    ·have hd3:decide (l2≥0)=true:=by simpa using hl0
     obtain⟨b,off,hxe,hra⟩:=HP.out k hlt
     subst hxe;have hbl:b<W.heap.size:=hpsb k hlt _ _ rfl;have hpw:=rangeS_keep2 hra (hw.trans (hbw.mono hw.size)) hbl;rw[vdrop ps k hlt,vlg_cons,if_pos hl0] at eR
     have hbd:=vlg_bd [gvt ps k] l2 (fun p hp=>by
      have:p=gvt ps k:=by simpa using hp
      subst this
      exact hnp _ (by rw[gvt,List.getD_eq_getElem?_getD,List.getElem?_eq_getElem hlt];exact List.getElem_mem hlt)) b1 b2
     rw[vlg_cons,if_pos hl0,vlg] at hbd;have cI:=HI.out k hlt wr l2 (hw.trans (hbw.mono hw.size)) hl0 b2
     generalize vlf (gvt ps k) l2=L3 at *
     generalize gx xs k=z at *
     obtain⟨zn,zda,zdl,zdc,zpa,zpl,zpc⟩:=z
     unfold vrv vrw at *
     replace cI:=hide cI;replace eR:=hide eR;clear hra HP HI
     go_wp2_with (first|(refine wpList_load_mid rfl 27 _ rfl b (off+k*3) rfl _ _ hpw Tryz.underlying27 rfl infoV ?_)|fail)
     refine cI.out.mono ?_;rintro e_ w3 ⟨rfl,hb3⟩;replace hby:=Below.after hby hb3;clear cI hb3 hpw c2 rr
     go_wp2_with (fail)
     refine⟨⟨k+1,L3,by omega,by go_num,rfl,eR.out,hbd.1,hbd.2,hby⟩,?_⟩
     simp[intOf];omega
    ·have hd3:decide (l2≥0)=false:=by simpa using hl0
     rw[vlg_neg (by omega)] at eR
     replace eR:=hide eR;clear HP HI
     go_wp2_with (fail)
     go_ret
     exact⟨by rw[eR.out];rfl,hbw⟩
   ·have hd2:decide ((k:Int)<(ps.length:Int))=false:=by simp;omega
    rw[List.drop_of_length_le (by omega),vlg] at eR
    replace eR:=hide eR;clear HP HI
    go_wp2_with (fail)
    go_ret
    exact⟨by rw[eR.out];rfl,hbw⟩
def bgV (X:VT):Bool:=decide (vlf X 10000<0)
theorem a_bigValue {S:Nat→Prop} {x:VR} {X:VT} (w:World) (h:VtM w S x X):Calls Tryz.prog 8 #[.agg (vrv x)] w fun e w'=>e=.returned (.bool (bgV X))∧Below w.heap.size w w':=by
 have cV:=fun V hV=>a_valueLeft h V 10000 hV (by decide) (by decide)
 clear h;unfold bgV
 generalize vlf X 10000=L at *
 obtain⟨zn,zda,zdl,zdc,zpa,zpl,zpc⟩:=x
 unfold vrv vrw at *
 have hb:Below w.heap.size w (w.alloc (.cells #[.int .u64 (zn:Int),.slice zda zdl zdc,.slice zpa zpl zpc] 27)):=(Below.refl _ _).alloc (Nat.le_refl _) _;have r0:=hp1_0 w (.cells #[.int .u64 (zn:Int),.slice zda zdl zdc,.slice zpa zpl zpc] 27);have cV1:=cV _ hb;clear cV
 go_enter Tryz.func8,Tryz.ntmps8
 go_upto_region 1 with(fail)
 generalize w.alloc (.cells #[.int .u64 (zn:Int),.slice zda zdl zdc,.slice zpa zpl zpc] 27)=w0 at *
 go_wp2_with (first|(refine wpList_load_want rfl 27 _ rfl w.heap.size rfl 27 #[.int .u64 (zn:Int),.slice zda zdl zdc,.slice zpa zpl zpc] (0,0) _ r0 Tryz.underlying27 rfl infoV ?_)|fail)
 refine cV1.mono ?_;rintro e_ w1 ⟨rfl,hb1⟩;replace hb:=Below.after hb hb1
 go_wp2_with (fail)
 go_ret;exact⟨rfl,hb⟩
theorem conv_byT {W:World} {v:Value} {bs:List Int} (h:Bys W v bs):(convert 24 9 v).run Tryz.prog W=.ok (.string (strOfNums bs)) W:=by
 obtain⟨ao,cap,rfl,_,hc,_⟩:=h
 cases ao with
 |none=>
  have:bs=[]:=by
   cases bs with
   |nil=>rfl
   |cons x xs=>obtain⟨b,off,e,_⟩:=hc 0 (by simp);cases e
  subst this;exact run_convert_bytes_nil W 24 5 Tryz.underlying24 Tryz.underlying5 _ _ 9 Tryz.underlying9
 |some ad=>
  rcases Nat.eq_zero_or_pos bs.length with e0|e0
  ·have:bs=[]:=List.eq_nil_of_length_eq_zero e0
   subst this
   obtain⟨b,off,sp⟩:=ad;rw[run_convert_bytes_string W 24 9 5 _ _ _ Tryz.underlying24 Tryz.underlying5 Tryz.underlying9]
   have:=run_bytesToString (P:=Tryz.prog) W ⟨b,off,sp⟩ 0 cap [] (by rfl)
   exact this
  ·obtain⟨b,off,e,_⟩:=hc 0 e0
   cases e
   exact run_convert_bytes_arg W 24 5 Tryz.underlying24 Tryz.underlying5 b off bs.length cap bs rfl (fun i hi=>by
    obtain⟨b',off',e,_,h⟩:=hc i hi
    cases e
    exact h) 9 Tryz.underlying9
theorem str_injT {a b:List Int} (ha:∀z∈a,0≤z∧z<256) (hb:∀z∈b,0≤z∧z<256) (h:strOfNums a=strOfNums b):a=b:=by
 have h1:=congrArg (fun x=>x.data.toList) h
 simp only[strOfNums_data] at h1
 have key:∀(a b:List Int),(∀z∈a,0≤z∧z<256)→(∀z∈b,0≤z∧z<256)→a.map (fun n=>UInt8.ofNat n.toNat)=b.map (fun n=>UInt8.ofNat n.toNat)→a=b:=by
  intro a
  induction a with
  |nil=>intro b _ _ h;cases b with
   |nil=>rfl
   |cons y ys=>simp at h
  |cons x xs ih=>intro b ha hb h;cases b with
   |nil=>simp at h
   |cons y ys=>
    simp only[List.map_cons,List.cons.injEq] at h
    have hx:=ha x (by simp)
    have hy:=hb y (by simp)
    have e:=congrArg UInt8.toNat h.1;simp only[UInt8.toNat_ofNat'] at e
    rw[Nat.mod_eq_of_lt (by omega),Nat.mod_eq_of_lt (by omega)] at e
    have exy:x=y:=by omega
    rw[exy,ih ys (fun z h=>ha z (by simp[h])) (fun z h=>hb z (by simp[h])) h.2]
 exact key a b ha hb h1
theorem bytes_of {a b:ByteArray} (h:a.toList=b.toList):a=b:=by
 rw[ByteArray.toList_eq,ByteArray.toList_eq] at h;exact Go.WideShapes.bytes_inj h
theorem map_inj8:∀(a b:List B),a.map bv=b.map bv→a=b
 |[],[],_=>rfl
 |[],_::_,h=>by simp at h
 |_::_,[],h=>by simp at h
 |x::a,y::b,h=>by
  rw[List.map_cons,List.map_cons] at h
  injection h with h1 h2
  rw[map_inj8 a b h2,show x=y from BitVec.eq_of_toNat_eq (by unfold bv at h1;omega)]
theorem bl_inj8 {a b:List B} (h:bl a=bl b):a=b:=by
 unfold bl at h;exact map_inj8 a b h
theorem bl_b8 (a:List B):∀z∈bl a,0≤z∧z<256:=by
 intro z hz;unfold bl at hz;obtain⟨x,_,rfl⟩:=List.mem_map.1 hz;unfold bv;have:=x.isLt;omega
theorem str_eq8 (a b:List B):((strOfNums (bl a)).toList==(strOfNums (bl b)).toList)=decide (a=b):=by
 by_cases h:a=b
 ·subst h;simp
 ·rw[decide_eq_false h]
  simp only[beq_eq_false_iff_ne,ne_eq]
  intro e;exact h (bl_inj8 (str_injT (bl_b8 a) (bl_b8 b) (bytes_of e)))
theorem vt_ext {ps qs:List VT} (hl:ps.length=qs.length) (h:∀i,i<ps.length→gvt ps i=gvt qs i):ps=qs:=by
 refine List.ext_getElem hl (fun i h1 h2=>?_)
 have:=h i h1
 rwa [gvt,gvt,List.getD_eq_getElem?_getD,List.getD_eq_getElem?_getD,List.getElem?_eq_getElem h1,List.getElem?_eq_getElem h2] at this
theorem a_same {W:World} {S:Nat→Prop} {x:VR} {X:VT} (h:VtM W S x X):∀(T:Nat→Prop) (y:VR) (Y:VT) (w:World),Below W.heap.size W w→VtM w T y Y→Calls Tryz.prog 19 #[.agg (vrv x),.agg (vrv y)] w fun e w'=>e=.returned (.bool (@decide (X=Y) (Classical.propDecidable _)))∧Below w.heap.size w w':=by
 induction h with
 |mk x d xs ps hn hdl hbl hd hdc hds hpl hxl hpc hpm hps hP hs ih=>
  intro T y Y w hw hy
  cases hy with
  |mk y yd ys qs hyn hydl hybl hyd hydc hyds hypl hyxl hypc hypm hyps hyP hys=>
  have hpsb:∀(b off:Nat),0<ps.length→x.pa=some ⟨b,off,none⟩→b<W.heap.size:=fun b off h0 e=>(hps _ ((lv_pos (by omega)).trans e)).2
  have hqsb:∀(b off:Nat),0<qs.length→y.pa=some ⟨b,off,none⟩→b<w.heap.size:=fun b off h0 e=>(hyps _ ((lv_pos (by omega)).trans e)).2
  clear hs hps hds hyps hyds;obtain⟨xn,xda,xdl,xdc,xpa,xpl,xpc⟩:=x;obtain⟨yn,yda,ydl,ydc,ypa,ypl,ypc⟩:=y;simp only at hn hdl hbl hd hdc hpl hpc hP hpsb hyn hydl hybl hyd hydc hypl hypc hyP hqsb;subst hpl hypl hdl hydl;unfold vrv vrw
  have hb:Below w.heap.size w ((w.alloc (.cells #[.int .u64 (xn:Int),.slice xda d.length xdc,.slice xpa ps.length xpc] 27)).alloc (.cells #[.int .u64 (yn:Int),.slice yda yd.length ydc,.slice ypa qs.length ypc] 27)):=((Below.refl _ _).alloc (Nat.le_refl _) _).alloc (by simp) _
  have r0:=hp2_0 w (.cells #[.int .u64 (xn:Int),.slice xda d.length xdc,.slice xpa ps.length xpc] 27) (.cells #[.int .u64 (yn:Int),.slice yda yd.length ydc,.slice ypa qs.length ypc] 27);have r1:=hp2_1 w (.cells #[.int .u64 (xn:Int),.slice xda d.length xdc,.slice xpa ps.length xpc] 27) (.cells #[.int .u64 (yn:Int),.slice yda yd.length ydc,.slice ypa qs.length ypc] 27);have bX:=((hd.keep hw).keep hb).1;have bY:=(hyd.keep hb).1;obtain⟨R,hR⟩:∃R,@decide (VT.mk xn d ps=VT.mk yn yd qs) (Classical.propDecidable _)=R:=⟨_,rfl⟩;rw[hR];have hE:=str_eq8 d yd;have kX:=conv_byT bX;have kY:=conv_byT bY;have HP:=hide hP;have HQ:=hide hyP;have HI:=hide ih;have HY:=hide hys;replace hR:=hide hR;clear hP hyP ih hys hd hyd
  go_enter Tryz.func19,Tryz.ntmps19
  go_upto_region 1 with(fail)
  generalize ((w.alloc (.cells #[.int .u64 (xn:Int),.slice xda d.length xdc,.slice xpa ps.length xpc] 27)).alloc (.cells #[.int .u64 (yn:Int),.slice yda yd.length ydc,.slice ypa qs.length ypc] 27))=w2 at *
  have c0:=cell_of_row _ _ 0 _ _ _ r0;have c1:=cell_of_row _ _ 1 _ _ _ r0;have c2:=cell_of_row _ _ 2 _ _ _ r0;have e0:=cell_of_row _ _ 0 _ _ _ r1;have e1:=cell_of_row _ _ 1 _ _ _ r1;have e2:=cell_of_row _ _ 2 _ _ _ r1
  by_cases hnn:xn=yn
  ·subst hnn
   by_cases hdd:d=yd
   ·subst hdd
    rw[decide_eq_true rfl] at hE
    by_cases hll:ps.length=qs.length
    ·rw[←hll] at e2 r1
     go_wp2_with (fail)
     go_loopw [5] (fun i wr=>∃k:Nat,k≤ps.length∧i=.int .i64 k∧(∀j,j<k→gvt ps j=gvt qs j)∧Below w2.heap.size w2 wr) (fun i _=>ps.length-(intOf i).toNat)
     case atStart=>exact⟨0,by omega,rfl,fun j hj=>by omega,Below.refl _ _⟩
     case round=>
      obtain⟨k,hk,rfl,hpre,hby⟩:=hrel;have rx:=keep hby r0;have ry:=keep hby r1;have cx:=cell_of_row _ _ 2 _ _ _ rx;clear c0 c1 c2 e0 e1 e2 kX kY bX bY hE;have hWr:Below W.heap.size W wr:=hw.trans ((Below.after hb hby).mono hw.size)
      by_cases hlt:k<ps.length
      ·have hd2:decide ((k:Int)<(ps.length:Int))=true:=by simp;omega
       have hi9:0≤(k:Int)∧(k:Int)<(ps.length:Int):=by omega
       obtain⟨b,off,hxe,hra⟩:=HP.out k hlt
       obtain⟨b2,off2,hye,hrb⟩:=HQ.out k (by omega)
       have hbl:=hpsb b off (by omega) hxe
       have hbl2:=hqsb b2 off2 (by omega) hye
       subst hxe hye;have hpw:=rangeS_keep2 hra hWr hbl;have hqw:=rangeS_keep2 hrb (Below.after hb hby) hbl2;have hbd:Below wr.heap.size wr wr.drew:=below_drN (Below.refl _ _) 1;have hszw:=hw.size;have hszr:=(Below.after hb hby).size
       have cI:=HI.out k hlt T (gx ys k) (gvt qs k) wr.drew (hWr.trans (hbd.mono hWr.size)) (((HY.out k (by omega)).blw (Below.after hb hby)).blw hbd)
       obtain⟨Bq,hBq⟩:∃Bq,@decide (gvt ps k=gvt qs k) (Classical.propDecidable _)=Bq:=⟨_,rfl⟩;rw[hBq] at cI
       generalize gx xs k=zx at *
       generalize gx ys k=zy at *
       obtain⟨an,ada,adl,adc,apa,apl,apc⟩:=zx;obtain⟨cn,cda,cdl,cdc,cpa,cpl,cpc⟩:=zy;unfold vrv vrw at hpw hqw cI
       have hS0:(fun W_:World=>Bx W_ w.heap.size #[.int .u64 (xn:Int),.slice xda d.length xdc,.slice (some ⟨b,off,none⟩) ps.length xpc]∧Bx W_ (w.heap.size+1) #[.int .u64 (xn:Int),.slice yda d.length ydc,.slice (some ⟨b2,off2,none⟩) ps.length ypc]∧W_.rangeAt b (off+k*3) [.int .u64 (an:Int),.slice ada adl adc,.slice apa apl apc]∧W_.rangeAt b2 (off2+k*3) [.int .u64 (cn:Int),.slice cda cdl cdc,.slice cpa cpl cpc]) wr.drew:=⟨⟨_,keep hbd rx⟩,⟨_,keep hbd ry⟩,rangeS_keep2 hpw hbd (by omega),rangeS_keep2 hqw hbd (by omega)⟩
       have hbr:=hby;replace hby:=Below.after hby hbd;clear HP HQ HI HY hra hrb hpw hqw rx ry hbr hWr;replace hBq:=hide hBq
       go_upto_region 6 with(fail)
       clear cx;refine wp_region_noPanic ?_
       refine wp_region_held (S:=fun W_:World=>Bx W_ w.heap.size #[.int .u64 (xn:Int),.slice xda d.length xdc,.slice (some ⟨b,off,none⟩) ps.length xpc]∧Bx W_ (w.heap.size+1) #[.int .u64 (xn:Int),.slice yda d.length ydc,.slice (some ⟨b2,off2,none⟩) ps.length ypc]∧W_.rangeAt b (off+k*3) [.int .u64 (an:Int),.slice ada adl adc,.slice apa apl apc]∧W_.rangeAt b2 (off2+k*3) [.int .u64 (cn:Int),.slice cda cdl cdc,.slice cpa cpl cpc]) (by kernel_rfl) ?_
       change wpAnyH _ _ _ _ _ _ _ _ (World.drew _)
       have hszd:=hbd.size
       generalize wr.drew=y1 at *
       refine wTy 0 ?va rfl ?y1 hS0 ?r1
       case y1=>
        intro w_ hS_
        skip
        go_simp
        try with_reducible rfl
       simp only[Act.put,ZPa,ZPc,ZPd,ZPe,ZPf];refine wTy 1 (.slice (some ⟨b,off,none⟩) ps.length xpc) rfl ?y2 hS0 ?r2
       case y2=>
        intro w_ hS_;obtain⟨_,h_⟩:=hS_.1;have c_:=cell_of_row _ _ 2 _ _ _ h_;go_simp
        try with_reducible rfl
       simp only[Act.put,ZPa,ZPb,ZPc,ZPd,ZPe,ZPf];refine wTy 2 ?vb rfl ?y3 hS0 ?r3
       case y3=>
        intro w_ hS_
        skip
        go_simp
        try with_reducible rfl
       simp only[Act.put,ZPa,ZPb,ZPc,ZPd,ZPe,ZPf];refine wTy 3 (.pointer (some ⟨b,off+k*3,none⟩)) rfl ?y4 hS0 ?r4
       case y4=>
        intro w_ hS_
        skip
        go_simp
        try with_reducible rfl
       simp only[Act.put,ZPa,ZPb,ZPc,ZPd,ZPe,ZPf]
       refine wTk (i:=4) (v:=.agg #[.int .u64 (an:Int),.slice ada adl adc,.slice apa apl apc]) rfl (yieldsIf_load_mid (by rfl) 27 _ rfl b (off+k*3) rfl [.int .u64 (an:Int),.slice ada adl adc,.slice apa apl apc] _ (fun _ h=>h.2.2.1) Tryz.underlying27 rfl infoV) hS0 ?_
       simp only[Act.put,ZPa,ZPb,ZPc,ZPd,ZPe,ZPf];refine wTy 5 ?vc rfl ?y5 hS0 ?r5
       case y5=>
        intro w_ hS_
        skip
        go_simp
        try with_reducible rfl
       simp only[Act.put,ZPa,ZPb,ZPc,ZPd,ZPe,ZPf];refine wTy 6 (.slice (some ⟨b2,off2,none⟩) ps.length ypc) rfl ?y6 hS0 ?r6
       case y6=>
        intro w_ hS_;obtain⟨_,h_⟩:=hS_.2.1;have c_:=cell_of_row _ _ 2 _ _ _ h_;go_simp
        try with_reducible rfl
       simp only[Act.put,ZPa,ZPb,ZPc,ZPd,ZPe,ZPf];refine wTy 7 ?vd rfl ?y7 hS0 ?r7
       case y7=>
        intro w_ hS_
        skip
        go_simp
        try with_reducible rfl
       simp only[Act.put,ZPa,ZPb,ZPc,ZPd,ZPe,ZPf];refine wTy 8 (.pointer (some ⟨b2,off2+k*3,none⟩)) rfl ?y8 hS0 ?r8
       case y8=>
        intro w_ hS_
        skip
        go_simp
        try with_reducible rfl
       simp only[Act.put,ZPa,ZPb,ZPc,ZPd,ZPe,ZPf]
       refine wTk (i:=9) (v:=.agg #[.int .u64 (cn:Int),.slice cda cdl cdc,.slice cpa cpl cpc]) rfl (yieldsIf_load_mid (by rfl) 27 _ rfl b2 (off2+k*3) rfl [.int .u64 (cn:Int),.slice cda cdl cdc,.slice cpa cpl cpc] _ (fun _ h=>h.2.2.2) Tryz.underlying27 rfl infoV) hS0 ?_
       simp only[Act.put,ZPa,ZPb,ZPc,ZPd,ZPe,ZPf]
       refine wpAnyH_one (k:=10) (fuel:=1) (by kernel_rfl) rfl (by kernel_rfl) (fun K_ hK=>?_)
       refine wp_call_ex (R:=fun u w'=>u=.bool Bq∧Below y1.heap.size y1 w') (by kernel_rfl) (cI.mono fun e w' h=>⟨_,h.1,rfl,h.2⟩) (fun u y2 hX_=>?_)
       obtain⟨rfl,hb2⟩:=hX_
       replace hS0:(fun W_:World=>Bx W_ w.heap.size #[.int .u64 (xn:Int),.slice xda d.length xdc,.slice (some ⟨b,off,none⟩) ps.length xpc]∧Bx W_ (w.heap.size+1) #[.int .u64 (xn:Int),.slice yda d.length ydc,.slice (some ⟨b2,off2,none⟩) ps.length ypc]∧W_.rangeAt b (off+k*3) [.int .u64 (an:Int),.slice ada adl adc,.slice apa apl apc]∧W_.rangeAt b2 (off2+k*3) [.int .u64 (cn:Int),.slice cda cdl cdc,.slice cpa cpl cpc]) y2:=⟨hS0.1.keep hb2,hS0.2.1.keep hb2,rangeS_keep2 hS0.2.2.1 hb2 (by omega),rangeS_keep2 hS0.2.2.2 hb2 (by omega)⟩
       replace hby:=Below.after hby hb2;refine hK _ _ hS0 ?_;simp only[Act.put,ZPa,ZPb,ZPc,ZPd,ZPe,ZPf];clear hK hb2 cI;refine wTy 11 (.bool (!Bq)) rfl ?y9 hS0 ?r9
       case y9=>
        intro w_ hS_
        skip
        go_simp
        try with_reducible rfl
       simp only[Act.put,ZPa,ZPb,ZPc,ZPd,ZPe,ZPf]
       refine wpAnyH_done (by kernel_rfl) ?_ _
       refine NoPanic.normal ?_
       cases Bq with
       |true=>
        have he:gvt ps k=gvt qs k:=by
         have:=hBq.out;exact @of_decide_eq_true _ (Classical.propDecidable _) this
        clear hS0 hBq
        go_wp2_with (fail)
        refine⟨⟨k+1,by omega,by go_num,fun j hj=>by
         rcases Nat.lt_or_ge j k with q|q
         ·exact hpre j q
         ·obtain rfl:j=k:=by omega
          exact he,hby⟩,?_⟩
        simp[intOf];omega
       |false=>
        have he:¬gvt ps k=gvt qs k:=by
         have:=hBq.out;exact @of_decide_eq_false _ (Classical.propDecidable _) this
        have eR:R=false:=by
         rw[←hR.out]
         exact @decide_eq_false _ (Classical.propDecidable _) (fun e=>by injection e with _ _ e3;exact he (by rw[e3]))
        have hfin:=Below.after hb hby;replace eR:=hide eR;clear hS0 hBq hR he
        go_wp2_with (fail)
        go_ret
        exact⟨by rw[eR.out];rfl,hfin⟩
      ·have hd2:decide ((k:Int)<(ps.length:Int))=false:=by simp;omega
       have eR:R=true:=by
        rw[←hR.out]
        exact @decide_eq_true _ (Classical.propDecidable _) (by rw[vt_ext hll (fun i hi=>hpre i (by omega))])
       have hfin:=Below.after hb hby;replace eR:=hide eR;clear HP HQ HI HY hR rx ry
       go_wp2_with (fail)
       go_ret
       exact⟨by rw[eR.out];rfl,hfin⟩
    ·have hlf:((ps.length:Int)==(qs.length:Int))=false:=by simp;omega
     have hlf2:¬(ps.length:Int)=(qs.length:Int):=by omega
     have eR:R=false:=by
      rw[←hR.out]
      exact @decide_eq_false _ (Classical.propDecidable _) (fun e=>by injection e with _ _ e3;exact hll (by rw[e3]))
     replace eR:=hide eR;clear HP HQ HI HY hR
     go_wp2_with (fail)
     go_ret
     exact⟨by rw[eR.out];rfl,hb⟩
   ·rw[decide_eq_false hdd] at hE
    have eR:R=false:=by
     rw[←hR.out]
     exact @decide_eq_false _ (Classical.propDecidable _) (fun e=>by injection e with _ e2 _;exact hdd e2)
    replace eR:=hide eR;clear HP HQ HI HY hR
    go_wp2_with (fail)
    go_ret
    exact⟨by rw[eR.out];rfl,hb⟩
  ·have hnf:((xn:Int)==(yn:Int))=false:=by simp;omega
   have hnf2:¬(xn:Int)=(yn:Int):=by omega
   have eR:R=false:=by
    rw[←hR.out]
    exact @decide_eq_false _ (Classical.propDecidable _) (fun e=>by injection e with e1 _ _;exact hnn e1)
   replace eR:=hide eR;clear HP HQ HI HY hR
   go_wp2_with (fail)
   go_ret
   exact⟨by rw[eR.out];rfl,hb⟩
def Asc8 (d:List B) (k:Nat):Prop:=∀b∈(u8l d).take k,b.toNat<128
theorem asc_skip {d:List B} {k:Nat} (h:Asc8 d k):utD (d.drop k)=utD d:=by
 unfold utD u8l;rw[List.map_drop];exact(Lib.validD_ascii k _ h).symm
theorem asc_add8 {d:List B} {a b:Nat} (ha:Asc8 d a) (hb:Asc8 (d.drop a) b):Asc8 d (a+b):=by
 intro x hx;rw[List.take_add] at hx
 rcases List.mem_append.1 hx with h|h
 ·exact ha x h
 ·refine hb x ?_
  unfold u8l at h⊢
  rw[List.map_drop];exact h
theorem asc_one8 {b:B} {r:List B} (h:b.toNat<128):Asc8 (b::r) 1:=by
 intro x hx
 have:x=UInt8.ofBitVec b:=by simpa[u8l] using hx
 rw[this];exact h
theorem word_of {W:World} {a:Option Addr} {n c:Nat} {d:List B} (hB:BysB W (.slice a n c) d) (h8:8≤d.length):∃A:Nat,A<18446744073709551616∧(A&&&9259542123273814144=0↔Asc8 d 8)∧
 ∀V,Below W.heap.size W V→Calls Tryz.prog 139 #[.slice a n c] V fun e w'=>e=.returned (.int .u64 (A:Int))∧∃q,w'=V.drewN q:=by
 obtain⟨b,off,rfl,hn,hb,hcell⟩:=bys_cell hB (by omega)
 match d,h8 with
 |b0::b1::b2::b3::b4::b5::b6::b7::r,_=>
  have l0:=b0.isLt;have l1:=b1.isLt;have l2:=b2.isLt;have l3:=b3.isLt;have l4:=b4.isLt;have l5:=b5.isLt;have l6:=b6.isLt;have l7:=b7.isLt
  refine⟨b0.toNat+b1.toNat*256+b2.toNat*65536+b3.toNat*16777216+b4.toNat*4294967296+b5.toNat*1099511627776+b6.toNat*281474976710656+b7.toNat*72057594037927936,by omega,?_,fun V hV=>?_⟩
  ·have hm:=Lib.leNat_mask [UInt8.ofBitVec b0,UInt8.ofBitVec b1,UInt8.ofBitVec b2,UInt8.ofBitVec b3,UInt8.ofBitVec b4,UInt8.ofBitVec b5,UInt8.ofBitVec b6,UInt8.ofBitVec b7]
   have e1:Lib.leNat [UInt8.ofBitVec b0,UInt8.ofBitVec b1,UInt8.ofBitVec b2,UInt8.ofBitVec b3,UInt8.ofBitVec b4,UInt8.ofBitVec b5,UInt8.ofBitVec b6,UInt8.ofBitVec b7]=b0.toNat+b1.toNat*256+b2.toNat*65536+b3.toNat*16777216+b4.toNat*4294967296+b5.toNat*1099511627776+b6.toNat*281474976710656+b7.toNat*72057594037927936:=by
    simp only[Lib.leNat]
    show b0.toNat+256*(b1.toNat+256*(b2.toNat+256*(b3.toNat+256*(b4.toNat+256*(b5.toNat+256*(b6.toNat+256*(b7.toNat+256*0)))))))=_
    omega
   rw[e1] at hm
   rw[show Lib.maskN [UInt8.ofBitVec b0,UInt8.ofBitVec b1,UInt8.ofBitVec b2,UInt8.ofBitVec b3,UInt8.ofBitVec b4,UInt8.ofBitVec b5,UInt8.ofBitVec b6,UInt8.ofBitVec b7].length=9259542123273814144 from Lib.maskN8] at hm
   rw[hm];exact Iff.rfl
  ·have hc:=fun j hj=>(hV.cell (p:=⟨b,off+j,none⟩) hb).trans (hcell j hj)
   exact a_word8 b0.toNat b1.toNat b2.toNat b3.toNat b4.toNat b5.toNat b6.toNat b7.toNat ⟨by omega,by omega,by omega,by omega,by omega,by omega,by omega,by omega⟩ b off n c V (by rw[hn];simp) ⟨hc 0 (by simp),hc 1 (by simp),hc 2 (by simp),hc 3 (by simp),hc 4 (by simp),hc 5 (by simp),hc 6 (by simp),hc 7 (by simp)⟩
end Go.Proofs.YtmmlkfkpblokiaaGreatDoor
