import Derived.Below
import Derived.Laws.BitsAllLaws
import Derived.Shelf.Bits.Mul64
import Derived.WalkKit
import Derived.ChangeKeysEq
import Derived.Laws.StructEq
namespace Go.Proofs.YtdcpcdkbhgkmlaaDoor
set_option maxRecDepth 100000
open Go.RowKit
def dg (n:Int) (i:Nat):Int:=n/65536^i%65536
theorem dg_bd (n:Int) (i:Nat):0≤dg n i∧dg n i<65536:=by unfold dg;omega
def valL:List Int→Int
 |[]=>0
 |d::ds=>d+65536*valL ds
theorem dg_zero (d v:Int) (h0:0≤d) (h1:d<65536):dg (d+65536*v) 0=d:=by unfold dg;simp;omega
theorem dg_succ (d v:Int) (i:Nat) (h0:0≤d) (h1:d<65536):dg (d+65536*v) (i+1)=dg v i:=by
 unfold dg
 have e:(65536:Int)^(i+1)=65536*65536^i:=by rw[Int.pow_succ,Int.mul_comm]
 rw[e,←Int.ediv_ediv_of_nonneg (by omega)]
 have:(d+65536*v)/65536=v:=by omega
 rw[this]
theorem dg_valL:∀(ds:List Int) (_:∀d∈ds,0≤d∧d<65536) (i:Nat) (h:i<ds.length),dg (valL ds) i=ds[i]
 |d::ds,hd,0,_=>by
  have:=hd d (by simp)
  simpa[valL] using dg_zero d (valL ds) this.1 this.2
 |d::ds,hd,i+1,h=>by
  have:=hd d (by simp)
  have h2:=dg_valL ds (fun x hx=>hd x (by simp[hx])) i (by simpa using h)
  simp only[valL];rw[dg_succ d (valL ds) i this.1 this.2,h2]
  simp
theorem valL_lt:∀(ds:List Int) (_:∀d∈ds,0≤d∧d<65536),0≤valL ds∧valL ds<65536^ds.length
 |[],_=>by simp[valL]
 |d::ds,hd=>by
  have h1:=hd d (by simp)
  have h2:=valL_lt ds (fun x hx=>hd x (by simp[hx]))
  simp only[valL,List.length_cons]
  have e:(65536:Int)^(ds.length+1)=65536*65536^ds.length:=by rw[Int.pow_succ,Int.mul_comm]
  rw[e];omega
def prm:Int:=57896044618658097711785492504343953926634992332820282019728792003956564819949
def geP (n:Int):Bool:=decide (57896044618658097711785492504343953926634992332820282019728792003956564819949≤n)
def v16 (d0 d1 d2 d3 d4 d5 d6 d7 d8 d9 d10 d11 d12 d13 d14 d15:Int):Int:=valL [d0,d1,d2,d3,d4,d5,d6,d7,d8,d9,d10,d11,d12,d13,d14,d15]
end Go.Proofs.YtdcpcdkbhgkmlaaDoor
namespace Go.Proofs.YtdcpcdkbhgkmlaaDoor
set_option maxRecDepth 100000
open Go.RowKit
def fold1 (v:Int):Int:=v%57896044618658097711785492504343953926634992332820282019728792003956564819968+19*(v/57896044618658097711785492504343953926634992332820282019728792003956564819968)
def foldK:Nat→Int→Int
 |0,v=>v
 |k+1,v=>fold1 (foldK k v)
theorem hide {p:Prop} (h:p):Hid p:=h
theorem fold1_mod (v:Int):fold1 v%prm=v%prm:=by
 unfold fold1 prm
 have e:v%57896044618658097711785492504343953926634992332820282019728792003956564819968+19*(v/57896044618658097711785492504343953926634992332820282019728792003956564819968)=
  v-57896044618658097711785492504343953926634992332820282019728792003956564819949*(v/57896044618658097711785492504343953926634992332820282019728792003956564819968):=by omega
 rw[e,Int.sub_mul_emod_self_left]
theorem fold3 (N:Int) (h0:0≤N) (h1:N≤1989323510513129302046236010170218017325036105421427022219231999999999999999999999999999999999):
 0≤foldK 3 N∧foldK 3 N<57896044618658097711785492504343953926634992332820282019728792003956564819968∧foldK 3 N%prm=N%prm:=by
 refine⟨?_,?_,by simp only[foldK,fold1_mod]⟩
 ·simp only[foldK,fold1];omega
 ·simp only[foldK,fold1];omega
theorem dg_v16 (e0 e1 e2 e3 e4 e5 e6 e7 e8 e9 e10 e11 e12 e13 e14 e15:Int) (h:∀d∈[e0,e1,e2,e3,e4,e5,e6,e7,e8,e9,e10,e11,e12,e13,e14,e15],0≤d∧d<65536):dg (v16 e0 e1 e2 e3 e4 e5 e6 e7 e8 e9 e10 e11 e12 e13 e14 e15) 0=e0∧dg (v16 e0 e1 e2 e3 e4 e5 e6 e7 e8 e9 e10 e11 e12 e13 e14 e15) 1=e1∧dg (v16 e0 e1 e2 e3 e4 e5 e6 e7 e8 e9 e10 e11 e12 e13 e14 e15) 2=e2∧dg (v16 e0 e1 e2 e3 e4 e5 e6 e7 e8 e9 e10 e11 e12 e13 e14 e15) 3=e3∧dg (v16 e0 e1 e2 e3 e4 e5 e6 e7 e8 e9 e10 e11 e12 e13 e14 e15) 4=e4∧dg (v16 e0 e1 e2 e3 e4 e5 e6 e7 e8 e9 e10 e11 e12 e13 e14 e15) 5=e5∧dg (v16 e0 e1 e2 e3 e4 e5 e6 e7 e8 e9 e10 e11 e12 e13 e14 e15) 6=e6∧dg (v16 e0 e1 e2 e3 e4 e5 e6 e7 e8 e9 e10 e11 e12 e13 e14 e15) 7=e7∧dg (v16 e0 e1 e2 e3 e4 e5 e6 e7 e8 e9 e10 e11 e12 e13 e14 e15) 8=e8∧dg (v16 e0 e1 e2 e3 e4 e5 e6 e7 e8 e9 e10 e11 e12 e13 e14 e15) 9=e9∧dg (v16 e0 e1 e2 e3 e4 e5 e6 e7 e8 e9 e10 e11 e12 e13 e14 e15) 10=e10∧dg (v16 e0 e1 e2 e3 e4 e5 e6 e7 e8 e9 e10 e11 e12 e13 e14 e15) 11=e11∧dg (v16 e0 e1 e2 e3 e4 e5 e6 e7 e8 e9 e10 e11 e12 e13 e14 e15) 12=e12∧dg (v16 e0 e1 e2 e3 e4 e5 e6 e7 e8 e9 e10 e11 e12 e13 e14 e15) 13=e13∧dg (v16 e0 e1 e2 e3 e4 e5 e6 e7 e8 e9 e10 e11 e12 e13 e14 e15) 14=e14∧dg (v16 e0 e1 e2 e3 e4 e5 e6 e7 e8 e9 e10 e11 e12 e13 e14 e15) 15=e15:=
 ⟨dg_valL _ h 0 (by simp),dg_valL _ h 1 (by simp),dg_valL _ h 2 (by simp),dg_valL _ h 3 (by simp),dg_valL _ h 4 (by simp),dg_valL _ h 5 (by simp),dg_valL _ h 6 (by simp),dg_valL _ h 7 (by simp),dg_valL _ h 8 (by simp),dg_valL _ h 9 (by simp),dg_valL _ h 10 (by simp),dg_valL _ h 11 (by simp),dg_valL _ h 12 (by simp),dg_valL _ h 13 (by simp),dg_valL _ h 14 (by simp),dg_valL _ h 15 (by simp)⟩
theorem v16_bd (e0 e1 e2 e3 e4 e5 e6 e7 e8 e9 e10 e11 e12 e13 e14 e15:Int) (h:∀d∈[e0,e1,e2,e3,e4,e5,e6,e7,e8,e9,e10,e11,e12,e13,e14,e15],0≤d∧d<65536):0≤v16 e0 e1 e2 e3 e4 e5 e6 e7 e8 e9 e10 e11 e12 e13 e14 e15∧v16 e0 e1 e2 e3 e4 e5 e6 e7 e8 e9 e10 e11 e12 e13 e14 e15<115792089237316195423570985008687907853269984665640564039457584007913129639936:=by
 have:=valL_lt _ h
 simpa[v16] using this
theorem fold_step (e0 e1 e2 e3 e4 e5 e6 e7 e8 e9 e10 e11 e12 e13 e14 e15 c:Int) (le0:0≤e0) (ue0:e0<65536) (le1:0≤e1) (ue1:e1<65536) (le2:0≤e2) (ue2:e2<65536) (le3:0≤e3) (ue3:e3<65536) (le4:0≤e4) (ue4:e4<65536) (le5:0≤e5) (ue5:e5<65536) (le6:0≤e6) (ue6:e6<65536) (le7:0≤e7) (ue7:e7<65536) (le8:0≤e8) (ue8:e8<65536) (le9:0≤e9) (ue9:e9<65536) (le10:0≤e10) (ue10:e10<65536) (le11:0≤e11) (ue11:e11<65536) (le12:0≤e12) (ue12:e12<65536) (le13:0≤e13) (ue13:e13<65536) (le14:0≤e14) (ue14:e14<65536):
 v16 (e0+(c*2+e15/32768)*19) e1 e2 e3 e4 e5 e6 e7 e8 e9 e10 e11 e12 e13 e14 (e15%32768)=fold1 (v16 e0 e1 e2 e3 e4 e5 e6 e7 e8 e9 e10 e11 e12 e13 e14 e15+115792089237316195423570985008687907853269984665640564039457584007913129639936*c):=by
 have hX:=v16_bd e0 e1 e2 e3 e4 e5 e6 e7 e8 e9 e10 e11 e12 e13 e14 (e15%32768) (by intro d hd;simp only[List.mem_cons,List.not_mem_nil,or_false] at hd;rcases hd with rfl|rfl|rfl|rfl|rfl|rfl|rfl|rfl|rfl|rfl|rfl|rfl|rfl|rfl|rfl|rfl<;>constructor<;>omega)
 have h1:v16 (e0+(c*2+e15/32768)*19) e1 e2 e3 e4 e5 e6 e7 e8 e9 e10 e11 e12 e13 e14 (e15%32768)=v16 e0 e1 e2 e3 e4 e5 e6 e7 e8 e9 e10 e11 e12 e13 e14 (e15%32768)+19*(c*2+e15/32768):=by simp only[v16,valL];omega
 have h2:v16 e0 e1 e2 e3 e4 e5 e6 e7 e8 e9 e10 e11 e12 e13 e14 e15+115792089237316195423570985008687907853269984665640564039457584007913129639936*c=v16 e0 e1 e2 e3 e4 e5 e6 e7 e8 e9 e10 e11 e12 e13 e14 (e15%32768)+57896044618658097711785492504343953926634992332820282019728792003956564819968*(c*2+e15/32768):=by simp only[v16,valL];omega
 have h3:v16 e0 e1 e2 e3 e4 e5 e6 e7 e8 e9 e10 e11 e12 e13 e14 (e15%32768)<57896044618658097711785492504343953926634992332820282019728792003956564819968:=by simp only[v16,valL];omega
 rw[h1,h2];unfold fold1
 generalize v16 e0 e1 e2 e3 e4 e5 e6 e7 e8 e9 e10 e11 e12 e13 e14 (e15%32768)=X at *
 generalize c*2+e15/32768=h at *
 omega
end Go.Proofs.YtdcpcdkbhgkmlaaDoor
namespace Go.Proofs.YtdcpcdkbhgkmlaaDoor
set_option maxRecDepth 100000
open Go.RowKit
def byt (n:Int) (i:Nat):Int:=n/256^i%256
theorem byt_bd (n:Int) (i:Nat):0≤byt n i∧byt n i<256:=by unfold byt;omega
def valB:List Int→Int
 |[]=>0
 |d::ds=>d+256*valB ds
theorem byt_zero (d v:Int) (h0:0≤d) (h1:d<256):byt (d+256*v) 0=d:=by unfold byt;simp;omega
theorem byt_succ (d v:Int) (i:Nat) (h0:0≤d) (h1:d<256):byt (d+256*v) (i+1)=byt v i:=by
 unfold byt
 have e:(256:Int)^(i+1)=256*256^i:=by rw[Int.pow_succ,Int.mul_comm]
 rw[e,←Int.ediv_ediv_of_nonneg (by omega)]
 have:(d+256*v)/256=v:=by omega
 rw[this]
theorem byt_valB:∀(ds:List Int) (_:∀d∈ds,0≤d∧d<256) (i:Nat) (h:i<ds.length),byt (valB ds) i=ds[i]
 |d::ds,hd,0,_=>by
  have:=hd d (by simp)
  simpa[valB] using byt_zero d (valB ds) this.1 this.2
 |d::ds,hd,i+1,h=>by
  have:=hd d (by simp)
  have h2:=byt_valB ds (fun x hx=>hd x (by simp[hx])) i (by simpa using h)
  simp only[valB];rw[byt_succ d (valB ds) i this.1 this.2,h2]
  simp
theorem dg_low (n:Int) (i:Nat):dg n i%256=byt n (2*i):=by
 unfold dg byt
 have e:(256:Int)^(2*i)=65536^i:=by rw[Int.pow_mul];rfl
 rw[e,Int.emod_emod_of_dvd _ (by decide)]
theorem dg_high (n:Int) (i:Nat):dg n i/256=byt n (2*i+1):=by
 unfold dg byt
 have e:(256:Int)^(2*i+1)=65536^i*256:=by rw[Int.pow_succ,Int.pow_mul];rfl
 rw[e,←Int.ediv_ediv_of_nonneg (Int.pow_nonneg (by decide))]
 generalize n/65536^i=x;omega
def kv (b0 b1 b2 b3 b4 b5 b6 b7 b8 b9 b10 b11 b12 b13 b14 b15 b16 b17 b18 b19 b20 b21 b22 b23 b24 b25 b26 b27 b28 b29 b30 b31:Int):Int:=valB [b0,b1,b2,b3,b4,b5,b6,b7,b8,b9,b10,b11,b12,b13,b14,b15,b16,b17,b18,b19,b20,b21,b22,b23,b24,b25,b26,b27,b28,b29,b30,b31]
theorem kv_v16 (b0 b1 b2 b3 b4 b5 b6 b7 b8 b9 b10 b11 b12 b13 b14 b15 b16 b17 b18 b19 b20 b21 b22 b23 b24 b25 b26 b27 b28 b29 b30 b31:Int) (lo0:0≤b0) (hi0:b0<256) (lo1:0≤b1) (hi1:b1<256) (lo2:0≤b2) (hi2:b2<256) (lo3:0≤b3) (hi3:b3<256) (lo4:0≤b4) (hi4:b4<256) (lo5:0≤b5) (hi5:b5<256) (lo6:0≤b6) (hi6:b6<256) (lo7:0≤b7) (hi7:b7<256) (lo8:0≤b8) (hi8:b8<256) (lo9:0≤b9) (hi9:b9<256) (lo10:0≤b10) (hi10:b10<256) (lo11:0≤b11) (hi11:b11<256) (lo12:0≤b12) (hi12:b12<256) (lo13:0≤b13) (hi13:b13<256) (lo14:0≤b14) (hi14:b14<256) (lo15:0≤b15) (hi15:b15<256) (lo16:0≤b16) (hi16:b16<256) (lo17:0≤b17) (hi17:b17<256) (lo18:0≤b18) (hi18:b18<256) (lo19:0≤b19) (hi19:b19<256) (lo20:0≤b20) (hi20:b20<256) (lo21:0≤b21) (hi21:b21<256) (lo22:0≤b22) (hi22:b22<256) (lo23:0≤b23) (hi23:b23<256) (lo24:0≤b24) (hi24:b24<256) (lo25:0≤b25) (hi25:b25<256) (lo26:0≤b26) (hi26:b26<256) (lo27:0≤b27) (hi27:b27<256) (lo28:0≤b28) (hi28:b28<256) (lo29:0≤b29) (hi29:b29<256):
 v16 (b0+256*b1) (b2+256*b3) (b4+256*b5) (b6+256*b7) (b8+256*b9) (b10+256*b11) (b12+256*b13) (b14+256*b15) (b16+256*b17) (b18+256*b19) (b20+256*b21) (b22+256*b23) (b24+256*b25) (b26+256*b27) (b28+256*b29) ((b30+256*b31)%32768)=kv b0 b1 b2 b3 b4 b5 b6 b7 b8 b9 b10 b11 b12 b13 b14 b15 b16 b17 b18 b19 b20 b21 b22 b23 b24 b25 b26 b27 b28 b29 b30 b31%57896044618658097711785492504343953926634992332820282019728792003956564819968:=by
 have h:kv b0 b1 b2 b3 b4 b5 b6 b7 b8 b9 b10 b11 b12 b13 b14 b15 b16 b17 b18 b19 b20 b21 b22 b23 b24 b25 b26 b27 b28 b29 b30 b31=v16 (b0+256*b1) (b2+256*b3) (b4+256*b5) (b6+256*b7) (b8+256*b9) (b10+256*b11) (b12+256*b13) (b14+256*b15) (b16+256*b17) (b18+256*b19) (b20+256*b21) (b22+256*b23) (b24+256*b25) (b26+256*b27) (b28+256*b29) ((b30+256*b31)%32768)+57896044618658097711785492504343953926634992332820282019728792003956564819968*((b30+256*b31)/32768):=by simp only[kv,v16,valL,valB];omega
 have h0:0≤v16 (b0+256*b1) (b2+256*b3) (b4+256*b5) (b6+256*b7) (b8+256*b9) (b10+256*b11) (b12+256*b13) (b14+256*b15) (b16+256*b17) (b18+256*b19) (b20+256*b21) (b22+256*b23) (b24+256*b25) (b26+256*b27) (b28+256*b29) ((b30+256*b31)%32768)∧v16 (b0+256*b1) (b2+256*b3) (b4+256*b5) (b6+256*b7) (b8+256*b9) (b10+256*b11) (b12+256*b13) (b14+256*b15) (b16+256*b17) (b18+256*b19) (b20+256*b21) (b22+256*b23) (b24+256*b25) (b26+256*b27) (b28+256*b29) ((b30+256*b31)%32768)<57896044618658097711785492504343953926634992332820282019728792003956564819968:=by simp only[v16,valL];omega
 rw[h]
 generalize v16 (b0+256*b1) (b2+256*b3) (b4+256*b5) (b6+256*b7) (b8+256*b9) (b10+256*b11) (b12+256*b13) (b14+256*b15) (b16+256*b17) (b18+256*b19) (b20+256*b21) (b22+256*b23) (b24+256*b25) (b26+256*b27) (b28+256*b29) ((b30+256*b31)%32768)=X at *
 omega
end Go.Proofs.YtdcpcdkbhgkmlaaDoor
namespace Go.Proofs.YtdcpcdkbhgkmlaaDoor
set_option maxRecDepth 100000
open Go Go.RowKit
theorem and51 (x:Int) (h0:0≤x) (h1:x<18446744073709551616):bits .and .u64 x 2251799813685247=x%2251799813685248:=by
 rw[u64_and x 2251799813685247 h0 h1 (by decide) (by decide)]
 have e:(2251799813685247:Int).toNat=2^51-1:=by decide
 rw[e,Nat.and_two_pow_sub_one_eq_mod];omega
theorem or_sum (i:Nat) (x y:Int) (hx0:0≤x) (hx:x<2^i) (hy0:0≤y) (hy:y<18446744073709551616) (hm:y%2^i=0) (hx1:x<18446744073709551616):bits .or .u64 x y=x+y:=by
 obtain⟨a,rfl⟩:=Int.eq_ofNat_of_zero_le hx0;obtain⟨b,rfl⟩:=Int.eq_ofNat_of_zero_le hy0
 rw[u64_or_nat a b (by omega) (by omega),Nat.or_comm,nat_join i b a (by exact_mod_cast hm) (by exact_mod_cast hx)]
 omega
def v5 (a0 a1 a2 a3 a4:Int):Int:=a0+2251799813685248*(a1+2251799813685248*(a2+2251799813685248*(a3+2251799813685248*a4)))
def lb (m:Int) (i:Nat):Int:=m/2251799813685248^i%2251799813685248
theorem lb_bd (m:Int) (i:Nat):0≤lb m i∧lb m i<2251799813685248:=by unfold lb;omega
theorem lb_v5 (a0 a1 a2 a3 a4:Int) (l0:0≤a0) (u0:a0<2251799813685248) (l1:0≤a1) (u1:a1<2251799813685248) (l2:0≤a2) (u2:a2<2251799813685248) (l3:0≤a3) (u3:a3<2251799813685248) (l4:0≤a4) (u4:a4<2251799813685248):
 lb (v5 a0 a1 a2 a3 a4) 0=a0∧lb (v5 a0 a1 a2 a3 a4) 1=a1∧lb (v5 a0 a1 a2 a3 a4) 2=a2∧lb (v5 a0 a1 a2 a3 a4) 3=a3∧lb (v5 a0 a1 a2 a3 a4) 4=a4:=by
 unfold lb v5;simp only[Int.pow_zero,Int.ediv_one,Int.pow_succ,Int.one_mul]
 refine⟨?_,?_,?_,?_,?_⟩<;>omega
theorem v5_lb (m:Int) (h0:0≤m) (h1:m<57896044618658097711785492504343953926634992332820282019728792003956564819968):v5 (lb m 0) (lb m 1) (lb m 2) (lb m 3) (lb m 4)=m:=by
 unfold lb v5;simp only[Int.pow_zero,Int.ediv_one,Int.pow_succ,Int.one_mul];omega
def q8 (b0 b1 b2 b3 b4 b5 b6 b7:Int):Int:=b0+256*(b1+256*(b2+256*(b3+256*(b4+256*(b5+256*(b6+256*b7))))))
theorem q8_bd (b0 b1 b2 b3 b4 b5 b6 b7:Int) (l0:0≤b0∧b0<256) (l1:0≤b1∧b1<256) (l2:0≤b2∧b2<256) (l3:0≤b3∧b3<256) (l4:0≤b4∧b4<256) (l5:0≤b5∧b5<256) (l6:0≤b6∧b6<256) (l7:0≤b7∧b7<256):
 0≤q8 b0 b1 b2 b3 b4 b5 b6 b7∧q8 b0 b1 b2 b3 b4 b5 b6 b7<18446744073709551616:=by unfold q8;omega
theorem q8_or (b0 b1 b2 b3 b4 b5 b6 b7:Int) (l0:0≤b0∧b0<256) (l1:0≤b1∧b1<256) (l2:0≤b2∧b2<256) (l3:0≤b3∧b3<256) (l4:0≤b4∧b4<256) (l5:0≤b5∧b5<256) (l6:0≤b6∧b6<256) (l7:0≤b7∧b7<256):
 bits .or .u64 (bits .or .u64 (bits .or .u64 (bits .or .u64 (bits .or .u64 (bits .or .u64 (bits .or .u64 (bits .or .u64 0 b0) (b1*256)) (b2*65536)) (b3*16777216)) (b4*4294967296)) (b5*1099511627776)) (b6*281474976710656)) (b7*72057594037927936)=q8 b0 b1 b2 b3 b4 b5 b6 b7:=by
 rw[or_sum 0 0 b0 (by decide) (by decide) l0.1 (by omega) (by simp) (by decide),Int.zero_add]
 rw[or_sum 8 b0 (b1*256) (by omega) (by omega) (by omega) (by omega) (by omega) (by omega)]
 rw[or_sum 16 _ (b2*65536) (by omega) (by omega) (by omega) (by omega) (by omega) (by omega)]
 rw[or_sum 24 _ (b3*16777216) (by omega) (by omega) (by omega) (by omega) (by omega) (by omega)]
 rw[or_sum 32 _ (b4*4294967296) (by omega) (by omega) (by omega) (by omega) (by omega) (by omega)]
 rw[or_sum 40 _ (b5*1099511627776) (by omega) (by omega) (by omega) (by omega) (by omega) (by omega)]
 rw[or_sum 48 _ (b6*281474976710656) (by omega) (by omega) (by omega) (by omega) (by omega) (by omega)]
 rw[or_sum 56 _ (b7*72057594037927936) (by omega) (by omega) (by omega) (by omega) (by omega) (by omega)]
 unfold q8;omega
theorem kv_q8 (b0 b1 b2 b3 b4 b5 b6 b7 b8 b9 b10 b11 b12 b13 b14 b15 b16 b17 b18 b19 b20 b21 b22 b23 b24 b25 b26 b27 b28 b29 b30 b31:Int):kv b0 b1 b2 b3 b4 b5 b6 b7 b8 b9 b10 b11 b12 b13 b14 b15 b16 b17 b18 b19 b20 b21 b22 b23 b24 b25 b26 b27 b28 b29 b30 b31=q8 b0 b1 b2 b3 b4 b5 b6 b7+18446744073709551616*(q8 b8 b9 b10 b11 b12 b13 b14 b15+18446744073709551616*(q8 b16 b17 b18 b19 b20 b21 b22 b23+18446744073709551616*q8 b24 b25 b26 b27 b28 b29 b30 b31)):=by
 simp only[kv,valB,q8];omega
theorem mid51 (j:Nat) (x y m:Int) (hx0:0≤x) (hx:x<2^j) (hx1:x<18446744073709551616) (hy:(y*m%18446744073709551616)%2^j=0):bits .and .u64 (bits .or .u64 x (IntKind.u64.wrap (y*m))) 2251799813685247=(x+y*m%18446744073709551616)%2251799813685248:=by
 rw[IntKind.wrap_u64,or_sum j x _ hx0 hx (by omega) (by omega) hy hx1]
 by_cases h:x+y*m%18446744073709551616<18446744073709551616
 ·rw[and51 _ (by omega) h]
 ·exfalso
  have h2:y*m%18446744073709551616<18446744073709551616:=by omega
  have h3:0≤y*m%18446744073709551616:=by omega
  have h4:=or_sum j x (y*m%18446744073709551616) hx0 hx h3 h2 hy hx1;obtain⟨c,hc⟩:=Int.eq_ofNat_of_zero_le hx0;obtain⟨d,hd⟩:=Int.eq_ofNat_of_zero_le h3
  rw[hc,hd,u64_or_nat c d (by omega) (by omega)] at h4
  have h5:c|||d<2^64:=Nat.or_lt_two_pow (by omega) (by omega)
  omega
theorem from_limbs (q0 q1 q2 q3:Int) (l0:0≤q0) (u0:q0<18446744073709551616) (l1:0≤q1) (u1:q1<18446744073709551616) (l2:0≤q2) (u2:q2<18446744073709551616) (l3:0≤q3) (u3:q3<18446744073709551616):
 bits .and .u64 q0 2251799813685247=lb (q0+18446744073709551616*(q1+18446744073709551616*(q2+18446744073709551616*q3))) 0∧
 bits .and .u64 (bits .or .u64 (q0/2251799813685248) (IntKind.u64.wrap (q1*8192))) 2251799813685247=lb (q0+18446744073709551616*(q1+18446744073709551616*(q2+18446744073709551616*q3))) 1∧
 bits .and .u64 (bits .or .u64 (q1/274877906944) (IntKind.u64.wrap (q2*67108864))) 2251799813685247=lb (q0+18446744073709551616*(q1+18446744073709551616*(q2+18446744073709551616*q3))) 2∧
 bits .and .u64 (bits .or .u64 (q2/33554432) (IntKind.u64.wrap (q3*549755813888))) 2251799813685247=lb (q0+18446744073709551616*(q1+18446744073709551616*(q2+18446744073709551616*q3))) 3∧
 bits .and .u64 (q3/4096) 2251799813685247=lb (q0+18446744073709551616*(q1+18446744073709551616*(q2+18446744073709551616*q3))) 4:=by
 rw[and51 q0 l0 u0,and51 (q3/4096) (by omega) (by omega),mid51 13 (q0/2251799813685248) q1 8192 (by omega) (by omega) (by omega) (by omega),mid51 26 (q1/274877906944) q2 67108864 (by omega) (by omega) (by omega) (by omega),mid51 39 (q2/33554432) q3 549755813888 (by omega) (by omega) (by omega) (by omega)]
 unfold lb;simp only[Int.pow_zero,Int.ediv_one,Int.pow_succ,Int.one_mul]
 refine⟨?_,?_,?_,?_,?_⟩<;>omega
end Go.Proofs.YtdcpcdkbhgkmlaaDoor
namespace Go.Proofs.YtdcpcdkbhgkmlaaDoor
set_option maxRecDepth 100000
open Go Go.RowKit
theorem byt_split (i j:Nat) (n:Int):byt n (i+j)=byt (n/256^i) j:=by
 unfold byt
 rw[Int.pow_add,←Int.ediv_ediv_of_nonneg (Int.pow_nonneg (by decide))]
theorem word_bytes (N M:Int) (h0:0≤N) (h1:N<18446744073709551616):N%256=byt (N+18446744073709551616*M) 0∧N/256%256=byt (N+18446744073709551616*M) 1∧N/65536%256=byt (N+18446744073709551616*M) 2∧N/16777216%256=byt (N+18446744073709551616*M) 3∧N/4294967296%256=byt (N+18446744073709551616*M) 4∧N/1099511627776%256=byt (N+18446744073709551616*M) 5∧N/281474976710656%256=byt (N+18446744073709551616*M) 6∧N/72057594037927936=byt (N+18446744073709551616*M) 7:=by
 unfold byt;simp only[Int.pow_zero,Int.ediv_one,Int.pow_succ,Int.one_mul]
 refine⟨?_,?_,?_,?_,?_,?_,?_,?_⟩<;>omega
theorem word_next (N M:Int) (j:Nat) (h0:0≤N) (h1:N<18446744073709551616):byt (N+18446744073709551616*M) (8+j)=byt M j:=by
 rw[byt_split]
 have:(N+18446744073709551616*M)/256^8=M:=by
  have e:(256:Int)^8=18446744073709551616:=by decide
  rw[e];omega
 rw[this]
theorem words_bytes (N0 N1 N2 N3:Int) (l0:0≤N0) (u0:N0<18446744073709551616) (l1:0≤N1) (u1:N1<18446744073709551616) (l2:0≤N2) (u2:N2<18446744073709551616) (l3:0≤N3) (u3:N3<18446744073709551616):
 N0%256=byt (N0+18446744073709551616*(N1+18446744073709551616*(N2+18446744073709551616*N3))) 0∧N0/256%256=byt (N0+18446744073709551616*(N1+18446744073709551616*(N2+18446744073709551616*N3))) 1∧N0/65536%256=byt (N0+18446744073709551616*(N1+18446744073709551616*(N2+18446744073709551616*N3))) 2∧N0/16777216%256=byt (N0+18446744073709551616*(N1+18446744073709551616*(N2+18446744073709551616*N3))) 3∧N0/4294967296%256=byt (N0+18446744073709551616*(N1+18446744073709551616*(N2+18446744073709551616*N3))) 4∧N0/1099511627776%256=byt (N0+18446744073709551616*(N1+18446744073709551616*(N2+18446744073709551616*N3))) 5∧N0/281474976710656%256=byt (N0+18446744073709551616*(N1+18446744073709551616*(N2+18446744073709551616*N3))) 6∧N0/72057594037927936=byt (N0+18446744073709551616*(N1+18446744073709551616*(N2+18446744073709551616*N3))) 7∧N1%256=byt (N0+18446744073709551616*(N1+18446744073709551616*(N2+18446744073709551616*N3))) 8∧N1/256%256=byt (N0+18446744073709551616*(N1+18446744073709551616*(N2+18446744073709551616*N3))) 9∧N1/65536%256=byt (N0+18446744073709551616*(N1+18446744073709551616*(N2+18446744073709551616*N3))) 10∧N1/16777216%256=byt (N0+18446744073709551616*(N1+18446744073709551616*(N2+18446744073709551616*N3))) 11∧N1/4294967296%256=byt (N0+18446744073709551616*(N1+18446744073709551616*(N2+18446744073709551616*N3))) 12∧N1/1099511627776%256=byt (N0+18446744073709551616*(N1+18446744073709551616*(N2+18446744073709551616*N3))) 13∧N1/281474976710656%256=byt (N0+18446744073709551616*(N1+18446744073709551616*(N2+18446744073709551616*N3))) 14∧N1/72057594037927936=byt (N0+18446744073709551616*(N1+18446744073709551616*(N2+18446744073709551616*N3))) 15∧N2%256=byt (N0+18446744073709551616*(N1+18446744073709551616*(N2+18446744073709551616*N3))) 16∧N2/256%256=byt (N0+18446744073709551616*(N1+18446744073709551616*(N2+18446744073709551616*N3))) 17∧N2/65536%256=byt (N0+18446744073709551616*(N1+18446744073709551616*(N2+18446744073709551616*N3))) 18∧N2/16777216%256=byt (N0+18446744073709551616*(N1+18446744073709551616*(N2+18446744073709551616*N3))) 19∧N2/4294967296%256=byt (N0+18446744073709551616*(N1+18446744073709551616*(N2+18446744073709551616*N3))) 20∧N2/1099511627776%256=byt (N0+18446744073709551616*(N1+18446744073709551616*(N2+18446744073709551616*N3))) 21∧N2/281474976710656%256=byt (N0+18446744073709551616*(N1+18446744073709551616*(N2+18446744073709551616*N3))) 22∧N2/72057594037927936=byt (N0+18446744073709551616*(N1+18446744073709551616*(N2+18446744073709551616*N3))) 23∧N3%256=byt (N0+18446744073709551616*(N1+18446744073709551616*(N2+18446744073709551616*N3))) 24∧N3/256%256=byt (N0+18446744073709551616*(N1+18446744073709551616*(N2+18446744073709551616*N3))) 25∧N3/65536%256=byt (N0+18446744073709551616*(N1+18446744073709551616*(N2+18446744073709551616*N3))) 26∧N3/16777216%256=byt (N0+18446744073709551616*(N1+18446744073709551616*(N2+18446744073709551616*N3))) 27∧N3/4294967296%256=byt (N0+18446744073709551616*(N1+18446744073709551616*(N2+18446744073709551616*N3))) 28∧N3/1099511627776%256=byt (N0+18446744073709551616*(N1+18446744073709551616*(N2+18446744073709551616*N3))) 29∧N3/281474976710656%256=byt (N0+18446744073709551616*(N1+18446744073709551616*(N2+18446744073709551616*N3))) 30∧N3/72057594037927936=byt (N0+18446744073709551616*(N1+18446744073709551616*(N2+18446744073709551616*N3))) 31:=by
 have h0:=word_bytes N0 (N1+18446744073709551616*(N2+18446744073709551616*N3)) l0 u0;have h1:=word_bytes N1 (N2+18446744073709551616*N3) l1 u1;have h2:=word_bytes N2 N3 l2 u2;have h3:=word_bytes N3 0 l3 u3
 have n0:=fun j=>word_next N0 (N1+18446744073709551616*(N2+18446744073709551616*N3)) j l0 u0
 have n1:=fun j=>word_next N1 (N2+18446744073709551616*N3) j l1 u1
 have n2:=fun j=>word_next N2 N3 j l2 u2
 simp only[Int.mul_zero,Int.add_zero] at h3;obtain⟨a0,a1,a2,a3,a4,a5,a6,a7⟩:=h0;obtain⟨b0,b1,b2,b3,b4,b5,b6,b7⟩:=h1;obtain⟨c0,c1,c2,c3,c4,c5,c6,c7⟩:=h2;obtain⟨d0,d1,d2,d3,d4,d5,d6,d7⟩:=h3;exact⟨a0,a1,a2,a3,a4,a5,a6,a7,b0.trans (n0 0).symm,b1.trans (n0 1).symm,b2.trans (n0 2).symm,b3.trans (n0 3).symm,b4.trans (n0 4).symm,b5.trans (n0 5).symm,b6.trans (n0 6).symm,b7.trans (n0 7).symm,c0.trans ((n1 0).symm.trans (n0 8).symm),c1.trans ((n1 1).symm.trans (n0 9).symm),c2.trans ((n1 2).symm.trans (n0 10).symm),c3.trans ((n1 3).symm.trans (n0 11).symm),c4.trans ((n1 4).symm.trans (n0 12).symm),c5.trans ((n1 5).symm.trans (n0 13).symm),c6.trans ((n1 6).symm.trans (n0 14).symm),c7.trans ((n1 7).symm.trans (n0 15).symm),d0.trans ((n2 0).symm.trans ((n1 8).symm.trans (n0 16).symm)),d1.trans ((n2 1).symm.trans ((n1 9).symm.trans (n0 17).symm)),d2.trans ((n2 2).symm.trans ((n1 10).symm.trans (n0 18).symm)),d3.trans ((n2 3).symm.trans ((n1 11).symm.trans (n0 19).symm)),d4.trans ((n2 4).symm.trans ((n1 12).symm.trans (n0 20).symm)),d5.trans ((n2 5).symm.trans ((n1 13).symm.trans (n0 21).symm)),d6.trans ((n2 6).symm.trans ((n1 14).symm.trans (n0 22).symm)),d7.trans ((n2 7).symm.trans ((n1 15).symm.trans (n0 23).symm))⟩
theorem words_v5 (m0 m1 m2 m3 m4:Int):
 (m0+m1*2251799813685248%18446744073709551616)+18446744073709551616*((m1/8192+m2*274877906944%18446744073709551616)+18446744073709551616*((m2/67108864+m3*33554432%18446744073709551616)+18446744073709551616*(m3/549755813888+m4*4096)))=v5 m0 m1 m2 m3 m4:=by
 unfold v5;omega
end Go.Proofs.YtdcpcdkbhgkmlaaDoor
namespace Go.Proofs.YtdcpcdkbhgkmlaaDoor
set_option maxRecDepth 100000
open Go Go.RowKit
theorem mul_bd (a b A B:Int) (ha0:0≤a) (ha:a≤A) (hb0:0≤b) (hb:b≤B):0≤a*b∧a*b≤A*B:=
 ⟨Int.mul_nonneg ha0 hb0,Int.mul_le_mul ha hb hb0 (Int.le_trans ha0 ha)⟩
theorem wide_high (x y:Int) (hx0:0≤x) (hy0:0≤y) (hs:x+y<340282366920938463463374607431768211456):
 (x/18446744073709551616+y/18446744073709551616+(x%18446744073709551616+y%18446744073709551616)/18446744073709551616)%18446744073709551616=(x+y)/18446744073709551616∧
 (x%18446744073709551616+y%18446744073709551616)%18446744073709551616=(x+y)%18446744073709551616:=by omega
theorem over_num (x:Int) (h0:0≤x) (h1:x<41538374868278621028243970633760768):
 bits .or .u64 (x/18446744073709551616*8192) (x%18446744073709551616/2251799813685248)=x/2251799813685248:=by
 have h2:x/18446744073709551616<2251799813685248:=by omega
 obtain⟨a,ha⟩:=Int.eq_ofNat_of_zero_le (show 0≤x/18446744073709551616*8192 by omega)
 obtain⟨b,hb⟩:=Int.eq_ofNat_of_zero_le (show 0≤x%18446744073709551616/2251799813685248 by omega)
 rw[ha,hb,u64_or_nat a b (by omega) (by omega),nat_join 13 a b (by omega) (by omega)]
 omega
def jn (i:Nat) (r0 r1 r2 r3 r4:Int):Int:=match i with
 |0=>(r0%2251799813685248+19*(r4/2251799813685248))%2251799813685248+19*((r4%2251799813685248+r3/2251799813685248)/2251799813685248)
 |1=>(r1%2251799813685248+r0/2251799813685248)%2251799813685248+(r0%2251799813685248+19*(r4/2251799813685248))/2251799813685248
 |2=>(r2%2251799813685248+r1/2251799813685248)%2251799813685248+(r1%2251799813685248+r0/2251799813685248)/2251799813685248
 |3=>(r3%2251799813685248+r2/2251799813685248)%2251799813685248+(r2%2251799813685248+r1/2251799813685248)/2251799813685248
 |_=>(r4%2251799813685248+r3/2251799813685248)%2251799813685248+(r3%2251799813685248+r2/2251799813685248)/2251799813685248
theorem jn_bd (r0 r1 r2 r3 r4:Int) (l0:0≤r0) (u0:r0<2596148429267413814265248164610048) (l1:0≤r1) (u1:r1<2596148429267413814265248164610048) (l2:0≤r2) (u2:r2<2596148429267413814265248164610048) (l3:0≤r3) (u3:r3<2596148429267413814265248164610048) (l4:0≤r4) (u4:r4<162259276829213363391578010288128):
 (0≤jn 0 r0 r1 r2 r3 r4∧jn 0 r0 r1 r2 r3 r4<4503599627370496)∧(0≤jn 1 r0 r1 r2 r3 r4∧jn 1 r0 r1 r2 r3 r4<4503599627370496)∧(0≤jn 2 r0 r1 r2 r3 r4∧jn 2 r0 r1 r2 r3 r4<4503599627370496)∧(0≤jn 3 r0 r1 r2 r3 r4∧jn 3 r0 r1 r2 r3 r4<4503599627370496)∧(0≤jn 4 r0 r1 r2 r3 r4∧jn 4 r0 r1 r2 r3 r4<4503599627370496):=by
 simp only[jn];omega
theorem jn_val (r0 r1 r2 r3 r4:Int):v5 (jn 0 r0 r1 r2 r3 r4) (jn 1 r0 r1 r2 r3 r4) (jn 2 r0 r1 r2 r3 r4) (jn 3 r0 r1 r2 r3 r4) (jn 4 r0 r1 r2 r3 r4)%prm=v5 r0 r1 r2 r3 r4%prm:=by
 have e:v5 (jn 0 r0 r1 r2 r3 r4) (jn 1 r0 r1 r2 r3 r4) (jn 2 r0 r1 r2 r3 r4) (jn 3 r0 r1 r2 r3 r4) (jn 4 r0 r1 r2 r3 r4)=v5 r0 r1 r2 r3 r4-prm*(r4/2251799813685248+(r4%2251799813685248+r3/2251799813685248)/2251799813685248):=by
  simp only[jn,v5,prm];omega
 rw[e,Int.sub_mul_emod_self_left]
theorem jn_wrap (r0 r1 r2 r3 r4:Int) (l0:0≤r0) (u0:r0<2596148429267413814265248164610048) (l1:0≤r1) (u1:r1<2596148429267413814265248164610048) (l2:0≤r2) (u2:r2<2596148429267413814265248164610048) (l3:0≤r3) (u3:r3<2596148429267413814265248164610048) (l4:0≤r4) (u4:r4<162259276829213363391578010288128):
 IntKind.u64.wrap ((r0%2251799813685248+19*(r4/2251799813685248))%2251799813685248+19*((r4%2251799813685248+r3/2251799813685248)/2251799813685248))=jn 0 r0 r1 r2 r3 r4∧IntKind.u64.wrap ((r1%2251799813685248+r0/2251799813685248)%2251799813685248+(r0%2251799813685248+19*(r4/2251799813685248))/2251799813685248)=jn 1 r0 r1 r2 r3 r4∧IntKind.u64.wrap ((r2%2251799813685248+r1/2251799813685248)%2251799813685248+(r1%2251799813685248+r0/2251799813685248)/2251799813685248)=jn 2 r0 r1 r2 r3 r4∧IntKind.u64.wrap ((r3%2251799813685248+r2/2251799813685248)%2251799813685248+(r2%2251799813685248+r1/2251799813685248)/2251799813685248)=jn 3 r0 r1 r2 r3 r4∧IntKind.u64.wrap ((r4%2251799813685248+r3/2251799813685248)%2251799813685248+(r3%2251799813685248+r2/2251799813685248)/2251799813685248)=jn 4 r0 r1 r2 r3 r4:=by
 simp only[jn,IntKind.wrap_u64]
 refine⟨?_,?_,?_,?_,?_⟩<;>omega
end Go.Proofs.YtdcpcdkbhgkmlaaDoor
namespace Go.Proofs.YtdcpcdkbhgkmlaaDoor
set_option maxRecDepth 100000
open Go.RowKit
def sumN:Nat→(Nat→Int)→Int
 |0,_=>0
 |n+1,f=>sumN n f+65536^n*f n
def upd (g:Nat→Int) (k:Nat) (v:Int):Nat→Int:=fun i=>if i=k then g i+v else g i
theorem sumN_upd_out (g:Nat→Int) (k:Nat) (v:Int):∀n,n≤k→sumN n (upd g k v)=sumN n g
 |0,_=>rfl
 |n+1,h=>by
  simp only[sumN]
  rw[sumN_upd_out g k v n (by omega)]
  have:upd g k v n=g n:=by simp only[upd];rw[if_neg (by omega)]
  rw[this]
theorem sumN_upd (g:Nat→Int) (k:Nat) (v:Int):∀n,k<n→sumN n (upd g k v)=sumN n g+65536^k*v
 |n+1,h=>by
  simp only[sumN]
  by_cases e:k=n
  ·subst e
   rw[sumN_upd_out g k v k (Nat.le_refl _)]
   have:upd g k v k=g k+v:=by simp[upd]
   rw[this,Int.mul_add];omega
  ·rw[sumN_upd g k v n (by omega)]
   have:upd g k v n=g n:=by simp only[upd];rw[if_neg (by omega)]
   rw[this];omega
def prt (x y:Nat→Int) (i j:Nat):Int:=sumN i x*sumN 16 y+65536^i*(x i*sumN j y)
theorem prt_zero (x y:Nat→Int):prt x y 0 0=0:=by simp[prt,sumN]
theorem prt_next (x y:Nat→Int) (i:Nat):prt x y (i+1) 0=prt x y i 16:=by
 simp only[prt,sumN,Int.mul_zero,Int.add_zero,Int.add_mul];rw[Int.mul_assoc]
theorem prt_step (x y:Nat→Int) (i j:Nat):prt x y i (j+1)=prt x y i j+65536^(i+j)*(x i*y j):=by
 simp only[prt,sumN,Int.mul_add,Int.pow_add]
 have e:65536^i*(x i*(65536^j*y j))=65536^i*65536^j*(x i*y j):=by
  rw[Int.mul_left_comm (x i),←Int.mul_assoc]
 rw[e];omega
theorem prt_end (x y:Nat→Int):prt x y 16 0=sumN 16 x*sumN 16 y:=by simp[prt,sumN]
theorem pow_wrap (k:Nat) (v:Int):∃q:Int,65536^k*(38*v)+prm*q=65536^(k+16)*v:=by
 refine⟨2*(65536^k*v),?_⟩
 rw[Int.pow_add,show((65536:Int)^16)=115792089237316195423570985008687907853269984665640564039457584007913129639936 from by decide]
 rw[Int.mul_left_comm (65536^k) 38 v,Int.mul_assoc,Int.mul_left_comm (65536^k)];unfold prm;generalize 65536^k*v=z;omega
theorem mul38 (a b:Int) (ha0:0≤a) (ha:a<65536) (hb0:0≤b) (hb:b<65536):0≤a*b∧a*b≤4294836225:=
 ⟨Int.mul_nonneg ha0 hb0,by have:=Int.mul_le_mul (show a≤65535 by omega) (show b≤65535 by omega) hb0 (by decide);omega⟩
theorem sumN_v16 (g:Nat→Int):sumN 16 g=v16 (g 0) (g 1) (g 2) (g 3) (g 4) (g 5) (g 6) (g 7) (g 8) (g 9) (g 10) (g 11) (g 12) (g 13) (g 14) (g 15):=by
 simp only[sumN,v16,valL,Int.pow_zero,Int.pow_succ,Int.one_mul];omega
theorem sumN_dg (m:Int) (h0:0≤m) (h1:m<115792089237316195423570985008687907853269984665640564039457584007913129639936):sumN 16 (dg m)=m:=by
 simp only[sumN,dg,Int.pow_zero,Int.pow_succ,Int.one_mul,Int.ediv_one];omega
theorem mod_of_sum {a b q:Int} (h:a+prm*q=b):a%prm=b%prm:=by
 rw[←h,Int.add_mul_emod_self_left]
end Go.Proofs.YtdcpcdkbhgkmlaaDoor
namespace Go.Proofs.YtdcpcdkbhgkmlaaDoor
set_option maxRecDepth 100000
open Go Go.RowKit
section
variable {P : Program}
theorem run_part_int {e:TypeId} {k:IntKind} {i0:TypeInfo} (w:World) (hu:P.underlying e=some (.int k)) (_hi:P.info? e=some i0) (l:List Int) (i:Nat) (h:i<l.length):
 (part e (l.map (Value.int k)).toArray i).run P w=.ok (.int k l[i]) w:=by
 have hagg:(isAgg e).run P w=.ok false w:=by
  unfold isAgg;rw[Sem.run_bind,run_underlying hu w];rfl
 simp[part,Sem.run_bind,hagg,h]
theorem run_eqItems_int {e:TypeId} {k:IntKind} {i0:TypeInfo} (d:Nat) (w:World) (hu:P.underlying e=some (.int k)) (hi:P.info? e=some i0) (l l':List Int):∀(is:List Nat),(∀i∈is,i<l.length∧i<l'.length)→
 (Op.eqItems (d+1) e 1 (l.map (Value.int k)).toArray (l'.map (Value.int k)).toArray is).run P w=.ok (is.all fun i=>l.getD i 0==l'.getD i 0) w
 |[],_=>by simp[Op.eqItems]
 |i::is,h=>by
  have h1:=h i (by simp)
  have h2:=run_eqItems_int d w hu hi l l' is (fun j hj=>h j (by simp[hj]))
  have e1:l.getD i 0=l[i]'h1.1:=by simp[h1.1]
  have e2:l'.getD i 0=l'[i]'h1.2:=by simp[h1.2]
  simp only[Op.eqItems,Sem.run_bind,Nat.mul_one,run_part_int w hu hi l i h1.1,run_part_int w hu hi l' i h1.2,Result.andThen_ok,run_equalIn_int w d e k k _ _ hu,List.all_cons,e1,e2]
  cases hb:(l[i]'h1.1==l'[i]'h1.2)
  ·simp
  ·simpa using h2
theorem run_equal_ints {t e:TypeId} {k:IntKind} {i0:TypeInfo} {n:Nat} (w:World) (ht:P.underlying t=some (.array n e)) (hu:P.underlying e=some (.int k)) (hi:P.info? e=some i0) (hc:P.cellsOf e=1)
 (l l':List Int) (hl:l.length=n) (hl':l'.length=n):
 (Op.equalIn 10000 t (.agg (l.map (Value.int k)).toArray) (.agg (l'.map (Value.int k)).toArray)).run P w=.ok (decide (l=l')) w:=by
 rw[run_equalIn_array w 9999 _ _ ht hi,hc,run_eqItems_int 9998 w hu hi l l' (List.range n) (fun i h=>by simp at h;omega)]
 congr 1
 rw[Bool.eq_iff_iff];simp only[List.all_eq_true,List.mem_range,beq_iff_eq,decide_eq_true_eq]
 constructor
 ·intro h
  apply List.ext_getElem (by omega)
  intro i h1 h2
  have:=h i (by omega)
  simpa[h1,h2] using this
 ·rintro rfl i _
  rfl
end
end Go.Proofs.YtdcpcdkbhgkmlaaDoor
namespace Go.Proofs.YtdcpcdkbhgkmlaaDoor
set_option maxRecDepth 100000
def Pr (p:Nat):Prop:=2≤p∧∀d,d∣p→d=1∨d=p
theorem Pr.euclid {p a b:Nat} (h:Pr p) (hd:p∣a*b):p∣a∨p∣b:=by
 rcases h.2 (Nat.gcd p a) (Nat.gcd_dvd_left p a) with e|e
 ·exact Or.inr (Nat.Coprime.dvd_of_dvd_mul_left e hd)
 ·left;rw[←e];exact Nat.gcd_dvd_right p a
def prodL:List Nat→Nat
 |[]=>1
 |x::l=>x*prodL l
theorem prodL_perm {l l':List Nat} (h:l.Perm l'):prodL l=prodL l':=by
 induction h with
 |nil=>rfl
 |cons x _ ih=>simp only[prodL,ih]
 |swap x y l=>simp only[prodL];exact Nat.mul_left_comm _ _ _
 |trans _ _ ih1 ih2=>exact ih1.trans ih2
theorem perm_of_sub:∀(l l':List Nat),l.Nodup→(∀x∈l,x∈l')→l'.length≤l.length→l.Perm l'
 |[],l',_,_,h=>by
  have:l'=[]:=List.length_eq_zero_iff.1 (Nat.le_zero.1 h);rw[this]
 |x::l,l',hn,hs,hl=>by
  have hx:x∈l':=hs x (by simp)
  have hn':=List.nodup_cons.1 hn;have h1:=List.perm_cons_erase hx
  refine List.Perm.trans (List.Perm.cons x (perm_of_sub l (l'.erase x) hn'.2 (fun y hy=>?_) ?_)) h1.symm
  ·exact(List.mem_erase_of_ne (show y≠x from fun e=>hn'.1 (e▸hy))).2 (hs y (by simp[hy]))
  ·rw[List.length_erase_of_mem hx]
   simp at hl
   omega
theorem prodL_map (p a:Nat):∀l:List Nat,prodL (l.map fun i=>a*i%p)%p=a^l.length*prodL l%p
 |[]=>by simp[prodL]
 |x::l=>by
  have ih:=prodL_map p a l;simp only[List.map_cons,prodL,List.length_cons];rw[Nat.mul_mod,Nat.mod_mod,ih,←Nat.mul_mod]
  congr 1
  rw[Nat.pow_succ];simp only[Nat.mul_assoc,Nat.mul_comm,Nat.mul_left_comm]
theorem Pr.prodL {p:Nat} (h:Pr p):∀l:List Nat,(∀x∈l,¬p∣x)→¬p∣prodL l
 |[],_,hd=>by
  have:=Nat.le_of_dvd (by decide) hd
  have:=h.1
  simp only[YtdcpcdkbhgkmlaaDoor.prodL] at *
  omega
 |x::l,hx,hd=>by
  rcases h.euclid hd with h1|h1
  ·exact hx x (by simp) h1
  ·exact Pr.prodL h l (fun y hy=>hx y (by simp[hy])) h1
theorem dvd_of_mod_eq {p x y:Nat} (h:x%p=y%p):p∣x-y:=Nat.dvd_of_mod_eq_zero (Nat.sub_mod_eq_zero_of_mod_eq h)
theorem mul_inj {p a:Nat} (h:Pr p) (ha:¬p∣a) {i j:Nat} (hij:i≤j) (hj:j<p) (e:a*i%p=a*j%p):i=j:=by
 have h1:p∣a*j-a*i:=dvd_of_mod_eq e.symm;rw[←Nat.mul_sub] at h1
 rcases h.euclid h1 with h2|h2
 ·exact absurd h2 ha
 ·rcases Nat.eq_zero_or_pos (j-i) with h3|h3
  ·omega
  ·have:=Nat.le_of_dvd h3 h2
   omega
theorem fermat {p a:Nat} (h:Pr p) (ha:¬p∣a):a^(p-1)%p=1:=by
 have h2:=h.1
 have hL:∀x∈List.range' 1 (p-1),¬p∣x:=fun x hx hd=>by
  have hx':=List.mem_range'_1.1 hx
  have:=Nat.le_of_dvd (by omega) hd
  omega
 have hp:((List.range' 1 (p-1)).map fun i=>a*i%p).Perm (List.range' 1 (p-1)):=by
  refine perm_of_sub _ _ ?_ (fun x hx=>?_) (by simp)
  ·refine List.pairwise_map.2 (List.Pairwise.imp_of_mem (fun{i j} hi hj hne=>?_) List.nodup_range')
   have hi':=List.mem_range'_1.1 hi
   have hj':=List.mem_range'_1.1 hj;intro e
   rcases Nat.le_total i j with hle|hle
   ·exact hne (mul_inj h ha hle (by omega) e)
   ·exact hne (mul_inj h ha hle (by omega) e.symm).symm
  ·obtain⟨i,hi,rfl⟩:=List.mem_map.1 hx
   have hi':=List.mem_range'_1.1 hi
   refine List.mem_range'_1.2 ⟨?_,?_⟩
   ·rcases Nat.eq_zero_or_pos (a*i%p) with h0|h0
    ·exfalso
     rcases h.euclid (Nat.dvd_of_mod_eq_zero h0) with h1|h1
     ·exact ha h1
     ·exact hL i hi h1
    ·exact h0
   ·have:=Nat.mod_lt (a*i) (show 0<p by omega)
    omega
 have e:=prodL_map p a (List.range' 1 (p-1));rw[prodL_perm hp,List.length_range'] at e
 have hpos:0<a^(p-1):=by
  rcases Nat.eq_zero_or_pos a with rfl|h0
  ·exact absurd (Nat.dvd_zero p) ha
  ·exact Nat.pow_pos h0
 have hd:p∣a^(p-1)*prodL (List.range' 1 (p-1))-prodL (List.range' 1 (p-1)):=dvd_of_mod_eq e.symm
 have e2:a^(p-1)*prodL (List.range' 1 (p-1))-prodL (List.range' 1 (p-1))=(a^(p-1)-1)*prodL (List.range' 1 (p-1)):=by rw[Nat.sub_mul,Nat.one_mul]
 rw[e2] at hd
 rcases h.euclid hd with h1|h1
 ·obtain⟨k,hk⟩:=h1
  have:a^(p-1)=1+p*k:=by omega
  rw[this,Nat.add_mul_mod_self_left,Nat.mod_eq_of_lt (by omega)]
 ·exact absurd h1 (h.prodL _ hL)
theorem pow_mod_one {p b m k:Nat} (hp:2≤p) (h:b^m%p=1):b^(m*k)%p=1:=by
 rw[Nat.pow_mul,Nat.pow_mod,h,Nat.one_pow,Nat.mod_eq_of_lt (by omega)]
theorem pow_gcd {p b:Nat} (hp:2≤p):∀m n:Nat,b^m%p=1→b^n%p=1→b^(Nat.gcd m n)%p=1:=by
 intro m n
 induction m,n using Nat.gcd.induction with
 |H0 n=>intro _ h;rwa [Nat.gcd_zero_left]
 |H1 m n hm ih=>
  intro h1 h2;rw[Nat.gcd_rec];refine ih ?_ h1
  have e:b^n=b^(m*(n/m))*b^(n%m):=by rw[←Nat.pow_add,Nat.div_add_mod]
  rw[e,Nat.mul_mod,pow_mod_one hp h1,Nat.one_mul,Nat.mod_mod] at h2;exact h2
theorem pock_dvd {N q R a p:Nat} (hq:Pr q) (hN:N-1=R*q) (hN1:1<N) (hp:Pr p) (hpN:p∣N) (h1:a^(N-1)%N=1) (hg:Nat.gcd (a^R%N+(N-1)) N=1):q∣p-1:=by
 have hp2:=hp.1
 have hb:(a^R)^q%p=1:=by
  rw[←Nat.pow_mul,←hN];obtain⟨k,hk⟩:=hpN;have:=Nat.div_add_mod (a^(N-1)) N;rw[h1] at this
  rw[←this,hk,Nat.mul_assoc,Nat.mul_add_mod,Nat.mod_eq_of_lt (by omega)]
 have hpb:¬p∣a^R:=fun hd=>by
  have hq2:=hq.1
  have:p∣(a^R)^q:=Nat.dvd_trans hd ⟨(a^R)^(q-1),by rw[Nat.mul_comm,←Nat.pow_succ,show(q-1).succ=q by omega]⟩
  have:=Nat.mod_eq_zero_of_dvd this;omega
 have hf:=fermat hp hpb;have h3:=pow_gcd hp2 q (p-1) hb hf
 rcases hq.2 (Nat.gcd q (p-1)) (Nat.gcd_dvd_left _ _) with e|e
 ·exfalso
  rw[e,Nat.pow_one] at h3
  have hd:p∣a^R%N+(N-1):=by
   refine Nat.dvd_of_mod_eq_zero ?_
   have e1:a^R%N%p=1:=by rw[Nat.mod_mod_of_dvd _ hpN];exact h3
   have e2:(a^R%N+(N-1))%p=(1+(N-1))%p:=by
    rw[Nat.add_mod,e1,←Nat.add_mod_mod 1]
    simp
   rw[e2,show 1+(N-1)=N by omega]
   exact Nat.mod_eq_zero_of_dvd hpN
  have:=Nat.dvd_gcd hd hpN;rw[hg] at this
  have:=Nat.le_of_dvd (by decide) this
  omega
 ·rw[←e];exact Nat.gcd_dvd_right _ _
theorem prime_factor:∀n:Nat,2≤n→∃p,Pr p∧p∣n:=by
 intro n
 induction n using Nat.strongRecOn with
 |ind n ih=>
  intro h2
  by_cases h:∀d,d∣n→d=1∨d=n
  ·exact⟨n,⟨h2,h⟩,Nat.dvd_refl n⟩
  ·simp only[Classical.not_forall,not_or] at h
   obtain⟨d,hd,h1,hn⟩:=h
   have hle:=Nat.le_of_dvd (by omega) hd
   have h0:d≠0:=by rintro rfl;rw[Nat.zero_dvd] at hd;omega
   obtain⟨p,hp,hpd⟩:=ih d (by omega) (by omega)
   exact⟨p,hp,Nat.dvd_trans hpd hd⟩
theorem pock {N F:Nat} (hN:1<N) (hF:∀p,Pr p→p∣N→F∣p-1) (hlt:N<F*F):Pr N:=by
 refine⟨hN,fun d hd=>?_⟩
 by_cases h1:d=1
 ·exact Or.inl h1
 by_cases hn:d=N
 ·exact Or.inr hn
 exfalso
 obtain⟨e,he⟩:=hd
 have hd0:d≠0:=by rintro rfl;omega
 have he0:e≠0:=by rintro rfl;omega
 have he1:e≠1:=by rintro rfl;omega
 have big:∀x,2≤x→x∣N→F<x:=fun x hx hxN=>by
  obtain⟨p,hp,hpx⟩:=prime_factor x hx;have h:=hF p hp (Nat.dvd_trans hpx hxN);have hp2:=hp.1
  have:=Nat.le_of_dvd (by omega) h
  have:=Nat.le_of_dvd (by omega) hpx
  omega
 have b1:=big d (by omega) ⟨e,he⟩
 have b2:=big e (by omega) ⟨d,by rw[he,Nat.mul_comm]⟩
 have:=Nat.mul_le_mul (Nat.le_of_lt b1) (Nat.le_of_lt b2);omega
def pwf:Nat→Nat→Nat→Nat→Nat
 |0,N,_,_=>1%N
 |k+1,N,a,e=>if e%2=0 then pwf k N (a*a%N) (e/2) else pwf k N (a*a%N) (e/2)*a%N
theorem pwf_eq (N:Nat):∀k a e,e<2^k→pwf k N a e=a^e%N
 |0,a,e,h=>by
  have:e=0:=by simpa using h
  subst this
  simp[pwf]
 |k+1,a,e,h=>by
  have h2:e/2<2^k:=by rw[Nat.pow_succ] at h;omega
  have ih:=pwf_eq N k (a*a%N) (e/2) h2
  have e1:(a*a%N)^(e/2)%N=a^(2*(e/2))%N:=by rw[←Nat.pow_mod,Nat.pow_mul,Nat.pow_two]
  unfold pwf
  split
  ·rw[ih,e1,show 2*(e/2)=e by omega]
  ·rename_i hodd
   rw[ih,e1,Nat.mul_mod,Nat.mod_mod,←Nat.mul_mod,←Nat.pow_succ,show(2*(e/2)).succ=e by omega]
def noDiv:Nat→Nat→Nat→Bool
 |0,_,_=>true
 |k+1,N,d=>N%d !=0&&noDiv k N (d+1)
theorem noDiv_spec (N:Nat):∀k d,noDiv k N d=true→∀x,d≤x→x<d+k→¬x∣N
 |0,_,_,x,h1,h2=>by omega
 |k+1,d,h,x,h1,h2=>by
  simp only[noDiv,Bool.and_eq_true,bne_iff_ne] at h
  rcases Nat.eq_or_lt_of_le h1 with e|e
  ·subst e;exact fun hd=>h.1 (Nat.mod_eq_zero_of_dvd hd)
  ·exact noDiv_spec N k (d+1) h.2 x e (by omega)
theorem trial (N k:Nat) (hN:2≤N) (h:noDiv k N 2=true) (hk:N<(k+2)*(k+2)):Pr N:=by
 refine⟨hN,fun d hd=>?_⟩
 by_cases h1:d=1
 ·exact Or.inl h1
 by_cases hn:d=N
 ·exact Or.inr hn
 exfalso
 obtain⟨e,he⟩:=hd
 have hd0:d≠0:=by rintro rfl;omega
 have he0:e≠0:=by rintro rfl;omega
 have he1:e≠1:=by rintro rfl;omega
 have s:=noDiv_spec N k 2 h
 have b1:k+2≤d:=by
  rcases Nat.lt_or_ge d (k+2) with hl|hl
  ·exact absurd ⟨e,he⟩ (s d (by omega) (by omega))
  ·exact hl
 have b2:k+2≤e:=by
  rcases Nat.lt_or_ge e (k+2) with hl|hl
  ·exact absurd ⟨d,by rw[he,Nat.mul_comm]⟩ (s e (by omega) (by omega))
  ·exact hl
 have:=Nat.mul_le_mul b1 b2;omega
theorem p127:Pr 127:=trial 127 10 (by decide) (by decide+kernel) (by decide)
theorem p75707:Pr 75707:=trial 75707 274 (by decide) (by decide+kernel) (by decide)
theorem p1923133:Pr 1923133:=trial 1923133 1386 (by decide) (by decide+kernel) (by decide)
theorem p8574133:Pr 8574133:=trial 8574133 2928 (by decide) (by decide+kernel) (by decide)
theorem pock2 (N q r R S a b:Nat) (hq:Pr q) (hr:Pr r) (hqr:Nat.gcd q r=1) (hN:1<N) (hk:N<2^256) (h1:N-1=R*q) (h2:N-1=S*r) (ea:pwf 256 N a (N-1)=1) (eb:pwf 256 N b (N-1)=1)
 (ga:Nat.gcd (pwf 256 N a R+(N-1)) N=1) (gb:Nat.gcd (pwf 256 N b S+(N-1)) N=1) (hlt:N<(q*r)*(q*r)):Pr N:=by
 have hq2:=hq.1;have hr2:=hr.1
 have hR:R<2^256:=Nat.lt_of_le_of_lt (Nat.le_trans (Nat.le_mul_of_pos_right R (by omega)) (by omega:R*q≤N)) hk
 have hS:S<2^256:=Nat.lt_of_le_of_lt (Nat.le_trans (Nat.le_mul_of_pos_right S (by omega)) (by omega:S*r≤N)) hk
 rw[pwf_eq N 256 a _ (by omega)] at ea
 rw[pwf_eq N 256 b _ (by omega)] at eb
 rw[pwf_eq N 256 a _ hR] at ga;rw[pwf_eq N 256 b _ hS] at gb
 exact pock hN (fun p hp hpN=>Nat.Coprime.mul_dvd_of_dvd_of_dvd hqr (pock_dvd hq h1 hN hp hpN ea ga) (pock_dvd hr h2 hN hp hpN eb gb)) hlt
theorem pC:Pr 1919519569386763:=pock2 1919519569386763 8574133 127 223873314 15114327318006 2 2 p8574133 p127 (by decide+kernel) (by decide+kernel) (by decide+kernel) (by decide+kernel) (by decide+kernel) (by decide+kernel) (by decide+kernel) (by decide+kernel) (by decide+kernel) (by decide+kernel)
theorem pB:Pr 75445702479781427272750846543864801:=pock2 75445702479781427272750846543864801 1919519569386763 75707 39304471641247389600 996548568557483816196003626400 2 2 pC p75707 (by decide+kernel) (by decide+kernel) (by decide+kernel) (by decide+kernel) (by decide+kernel) (by decide+kernel) (by decide+kernel) (by decide+kernel) (by decide+kernel) (by decide+kernel)
theorem pQ:Pr 74058212732561358302231226437062788676166966415465897661863160754340907:=pock2 74058212732561358302231226437062788676166966415465897661863160754340907 75445702479781427272750846543864801 1923133 981609426360740691344999861639072106 38509147694185143878364744631319200843710219946028640589009268082 2 2 pB p1923133 (by decide+kernel) (by decide+kernel) (by decide+kernel) (by decide+kernel) (by decide+kernel) (by decide+kernel) (by decide+kernel) (by decide+kernel) (by decide+kernel) (by decide+kernel)
theorem p3:Pr 3:=trial 3 0 (by decide) (by decide+kernel) (by decide)
theorem pP:Pr 57896044618658097711785492504343953926634992332820282019728792003956564819949:=pock2 57896044618658097711785492504343953926634992332820282019728792003956564819949 74058212732561358302231226437062788676166966415465897661863160754340907 3 781764 19298681539552699237261830834781317975544997444273427339909597334652188273316 2 2 pQ p3 (by decide+kernel) (by decide+kernel) (by decide+kernel) (by decide+kernel) (by decide+kernel) (by decide+kernel) (by decide+kernel) (by decide+kernel) (by decide+kernel) (by decide+kernel)
end Go.Proofs.YtdcpcdkbhgkmlaaDoor
namespace Go.Proofs.YtdcpcdkbhgkmlaaDoor
set_option maxRecDepth 100000
theorem prm_lit:prm=((57896044618658097711785492504343953926634992332820282019728792003956564819949:Nat):Int):=rfl
theorem emod_nat (x:Int):∃m:Nat,m<57896044618658097711785492504343953926634992332820282019728792003956564819949∧x%prm=(m:Int):=by
 have h:=Int.emod_nonneg x (b:=prm) (by decide)
 have g:=Int.emod_lt_of_pos x (b:=prm) (by decide)
 refine⟨(x%prm).toNat,?_,?_⟩
 ·rw[prm_lit] at *;omega
 ·omega
theorem int_pow_emod (x:Int) (e:Nat):x^e%prm=(x%prm)^e%prm:=by
 induction e with
 |zero=>rw[Int.pow_zero,Int.pow_zero]
 |succ k ih=>rw[Int.pow_succ,Int.pow_succ,Int.mul_emod,ih,Int.mul_emod ((x%prm)^k),Int.emod_emod]
theorem pow_nat {x:Int} {m:Nat} (h:x%prm=(m:Int)) (e:Nat):x^e%prm=((m^e%57896044618658097711785492504343953926634992332820282019728792003956564819949:Nat):Int):=by
 rw[int_pow_emod,h,←Int.natCast_pow,prm_lit,←Int.natCast_emod]
theorem mul_c {x x' y y':Int} (h:x%prm=x'%prm) (g:y%prm=y'%prm):x*y%prm=x'*y'%prm:=by
 rw[Int.mul_emod,h,g,←Int.mul_emod]
theorem pow_c {x x':Int} (h:x%prm=x'%prm) (e:Nat):x^e%prm=x'^e%prm:=by
 rw[int_pow_emod,h,←int_pow_emod]
theorem add_c {x x' y y':Int} (h:x%prm=x'%prm) (g:y%prm=y'%prm):(x+y)%prm=(x'+y')%prm:=by
 rw[Int.add_emod,h,g,←Int.add_emod]
theorem neg_c {x x':Int} (h:x%prm=x'%prm):(-x)%prm=(-x')%prm:=by
 have:=mul_c (x:= -1) (x':= -1) rfl h
 rwa [Int.neg_mul,Int.neg_mul,Int.one_mul,Int.one_mul] at this
theorem mul_zero_iff (x y:Int):x*y%prm=0↔x%prm=0∨y%prm=0:=by
 obtain⟨m,hm,em⟩:=emod_nat x;obtain⟨n,hn,en⟩:=emod_nat y
 constructor
 ·intro h
  rw[Int.mul_emod,em,en,prm_lit,←Int.natCast_mul,←Int.natCast_emod] at h
  have h':m*n%57896044618658097711785492504343953926634992332820282019728792003956564819949=0:=by exact_mod_cast h
  rcases pP.euclid (Nat.dvd_of_mod_eq_zero h') with d|d
  ·left;rw[em];have:=Nat.eq_zero_of_dvd_of_lt d hm;rw[this];rfl
  ·right;rw[en];have:=Nat.eq_zero_of_dvd_of_lt d hn;rw[this];rfl
 ·rintro(h|h)
  ·rw[Int.mul_emod,h,Int.zero_mul];rfl
  ·rw[Int.mul_emod,h,Int.mul_zero];rfl
theorem fermat_int {x:Int} (h:x%prm≠0):x^57896044618658097711785492504343953926634992332820282019728792003956564819948%prm=1:=by
 obtain⟨m,hm,em⟩:=emod_nat x
 have hd:¬57896044618658097711785492504343953926634992332820282019728792003956564819949∣m:=by
  intro d;have:=Nat.eq_zero_of_dvd_of_lt d hm
  apply h;rw[em,this];rfl
 have f:=fermat pP hd
 rw[show(57896044618658097711785492504343953926634992332820282019728792003956564819949-1:Nat)=57896044618658097711785492504343953926634992332820282019728792003956564819948 by decide] at f
 rw[pow_nat em];exact congrArg (Nat.cast:Nat→Int) f
theorem one_c:(1:Int)%prm=1:=by decide
theorem pow_zero_c {x:Int} (h:x%prm=0) {e:Nat} (he:0<e):x^e%prm=0:=by
 obtain⟨k,rfl⟩:∃k,e=k+1:=⟨e-1,by omega⟩
 rw[Int.pow_succ,Int.mul_emod,h,Int.mul_zero];rfl
theorem inv_mul {x:Int} (h:x%prm≠0):x*x^57896044618658097711785492504343953926634992332820282019728792003956564819947%prm=1%prm:=by
 rw[Int.mul_comm,←Int.pow_succ];exact(fermat_int h).trans one_c.symm
end Go.Proofs.YtdcpcdkbhgkmlaaDoor
namespace Go.Proofs.YtdcpcdkbhgkmlaaDoor
set_option maxRecDepth 100000
theorem sub_c {x x' y y':Int} (h:x%prm=x'%prm) (g:y%prm=y'%prm):(x-y)%prm=(x'-y')%prm:=by
 rw[Int.sub_eq_add_neg,Int.sub_eq_add_neg];exact add_c h (neg_c g)
theorem sub_zero_c {x y:Int} (h:(x-y)%prm=0):x%prm=y%prm:=by
 have:=add_c (x:=x-y) (x':=0) (h.trans (by decide)) (y:=y) rfl
 rwa [Int.sub_add_cancel,Int.zero_add] at this
theorem sq_eq {r a:Int} (h:r*r%prm=a*a%prm):r%prm=a%prm∨r%prm= -a%prm:=by
 have e:(r-a)*(r+a)%prm=0:=by
  have:=sub_c h (rfl:a*a%prm=a*a%prm);rw[Int.sub_self] at this
  rw[show(r-a)*(r+a)=r*r-a*a by grind,this];rfl
 rcases(mul_zero_iff _ _).1 e with e|e
 ·exact .inl (sub_zero_c e)
 ·right;apply sub_zero_c;rw[show r- -a=r+a by omega];exact e
theorem sq_one {t:Int} (h:t*t%prm=1%prm):t%prm=1%prm∨t%prm= -1%prm:=sq_eq (a:=1) h
def uu:Int:=19681161376707505956807079304988542015446066515923890162744021073123829784752
theorem uu_sq:uu*uu%prm= -1%prm:=by decide+kernel
theorem uu_pow:(2:Int)^14474011154664524427946373126085988481658748083205070504932198000989141204987%prm=uu:=by
 rw[pow_nat (m:=2) (by decide)]
 have:pwf 256 57896044618658097711785492504343953926634992332820282019728792003956564819949 2 14474011154664524427946373126085988481658748083205070504932198000989141204987=19681161376707505956807079304988542015446066515923890162744021073123829784752:=by decide+kernel
 rw[pwf_eq _ _ _ _ (by decide)] at this
 rw[this];rfl
theorem half_sq (x:Int):x^28948022309329048855892746252171976963317496166410141009864396001978282409974*x^28948022309329048855892746252171976963317496166410141009864396001978282409974=x^57896044618658097711785492504343953926634992332820282019728792003956564819948:=by rw[←Int.pow_add]
def rt (x:Int):Int:=if x^7237005577332262213973186563042994240829374041602535252466099000494570602494*x^7237005577332262213973186563042994240829374041602535252466099000494570602494%prm=x%prm then x^7237005577332262213973186563042994240829374041602535252466099000494570602494 else x^7237005577332262213973186563042994240829374041602535252466099000494570602494*uu
def rok (x:Int):Bool:=decide (rt x*rt x%prm=x%prm)
def ev (r:Int):Int:=if r%prm%2=1 then-r else r
def rval (x:Int):Int:=if rok x=true then ev (rt x) else 0
theorem ev_sq (r:Int):ev r*ev r=r*r:=by unfold ev;split<;>grind
theorem ev_even (r:Int):ev r%prm%2=0:=by
 unfold ev
 split
 ·rename_i h
  have: -r%prm=prm-r%prm:=by
   have h0:=Int.emod_nonneg r (b:=prm) (by decide)
   have h1:=Int.emod_lt_of_pos r (b:=prm) (by decide)
   have e: -r%prm=(prm-r%prm)%prm:=by
    rw[neg_c (x:=r) (x':=r%prm) (Int.emod_emod_of_dvd _ (Int.dvd_refl _)).symm,Int.sub_eq_add_neg,Int.add_comm,Int.add_emod_right]
   rw[e]
   apply Int.emod_eq_of_lt<;>omega
  rw[this]
  unfold prm at *
  omega
 ·omega
theorem rok_iff (x:Int):rok x=true↔rt x*rt x%prm=x%prm:=by unfold rok;exact decide_eq_true_iff
theorem e8_sq (x:Int):x^7237005577332262213973186563042994240829374041602535252466099000494570602494*x^7237005577332262213973186563042994240829374041602535252466099000494570602494=x*x^14474011154664524427946373126085988481658748083205070504932198000989141204987:=by rw[←Int.pow_add,Int.mul_comm x,←Int.pow_succ]
theorem rok_of {x:Int} (h:x%prm=0∨x^28948022309329048855892746252171976963317496166410141009864396001978282409974%prm=1%prm):rok x=true:=by
 rw[rok_iff];unfold rt
 split
 ·assumption
 ·rename_i hne
  rcases h with h|h
  ·exfalso;apply hne
   rw[Int.mul_emod,pow_zero_c h (by decide),h];rfl
  ·have t:x^14474011154664524427946373126085988481658748083205070504932198000989141204987*x^14474011154664524427946373126085988481658748083205070504932198000989141204987%prm=1%prm:=by rw[←Int.pow_add];exact h
   rcases sq_one t with t|t
   ·exfalso;apply hne
    rw[e8_sq,mul_c (rfl:x%prm=x%prm) t,Int.mul_one]
   ·have:x^7237005577332262213973186563042994240829374041602535252466099000494570602494*uu*(x^7237005577332262213973186563042994240829374041602535252466099000494570602494*uu)=x^7237005577332262213973186563042994240829374041602535252466099000494570602494*x^7237005577332262213973186563042994240829374041602535252466099000494570602494*(uu*uu):=by
     generalize x^7237005577332262213973186563042994240829374041602535252466099000494570602494=q
     grind
    rw[this,e8_sq,mul_c (mul_c rfl t) uu_sq]
    congr 1
    omega
theorem half_of {x r:Int} (h:r*r%prm=x%prm) (hx:x%prm≠0):x^28948022309329048855892746252171976963317496166410141009864396001978282409974%prm=1%prm:=by
 rw[←pow_c h]
 have:(r*r)^28948022309329048855892746252171976963317496166410141009864396001978282409974=r^57896044618658097711785492504343953926634992332820282019728792003956564819948:=by rw[←half_sq r];exact Int.mul_pow
 rw[this,fermat_int];·rfl
 intro e
 apply hx
 rw[←h,Int.mul_emod,e];rfl
theorem rok_half (x:Int):rok x=true↔(x%prm=0∨x^28948022309329048855892746252171976963317496166410141009864396001978282409974%prm=1%prm):=by
 refine⟨fun h=>?_,rok_of⟩
 by_cases hx:x%prm=0
 ·exact .inl hx
 ·exact .inr (half_of ((rok_iff x).1 h) hx)
theorem rok_sq (a:Int):rok (a*a)=true:=by
 apply rok_of
 by_cases h:a*a%prm=0
 ·exact .inl h
 ·exact .inr (half_of rfl h)
theorem rt_c {x y:Int} (h:x%prm=y%prm):rt x%prm=rt y%prm:=by
 have e:=pow_c h 7237005577332262213973186563042994240829374041602535252466099000494570602494;unfold rt;rw[mul_c e e,h]
 split
 ·exact e
 ·exact mul_c e rfl
theorem rok_c {x y:Int} (h:x%prm=y%prm):rok x=rok y:=by
 unfold rok;rw[mul_c (rt_c h) (rt_c h),h]
theorem ev_c {x y:Int} (h:x%prm=y%prm):ev x%prm=ev y%prm:=by
 unfold ev;rw[h]
 split
 ·exact neg_c h
 ·exact h
theorem rval_c {x y:Int} (h:x%prm=y%prm):rval x%prm=rval y%prm:=by
 unfold rval;rw[rok_c h]
 split
 ·exact ev_c (rt_c h)
 ·rfl
theorem rval_sq {x:Int} (h:rok x=true):rval x*rval x%prm=x%prm:=by
 unfold rval;rw[if_pos h,ev_sq];exact(rok_iff x).1 h
theorem rval_even (x:Int):rval x%prm%2=0:=by
 unfold rval
 split
 ·exact ev_even _
 ·decide
end Go.Proofs.YtdcpcdkbhgkmlaaDoor
