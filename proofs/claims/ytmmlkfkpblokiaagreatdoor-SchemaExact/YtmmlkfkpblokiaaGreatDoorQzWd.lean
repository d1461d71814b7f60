import Derived.Test.YtmmlkfkpblokiaaGreatDoorQzOpen
import Derived.Laws.BitsAllLaws
import Derived.WalkMore
set_option maxRecDepth 100000
set_option maxHeartbeats 16000000
namespace Go.Proofs.YtmmlkfkpblokiaaGreatDoor
open Go Go.RowKit Go.Sort
attribute [local go_sem] setCell_drewN alloc_drewN
theorem or_one (n:Nat):n|||1=n/2*2+1:=by
 have h:=Nat.shiftLeft_add_eq_or_of_lt (i:=1) (b:=1) (by decide) (n/2)
 rw[Nat.shiftLeft_eq,Nat.pow_one] at h;rw[h]
 rcases Nat.mod_two_eq_zero_or_one n with e|e
 ·rw[show n/2*2=n by omega]
 ·have h2:n/2*2|||1=n:=by omega
  conv=>lhs;rw[←h2]
  rw[Nat.or_assoc,Nat.or_self]
theorem a_size (n:Nat) (hn:n<18446744073709551616):Gives 84 #[.int .u64 (n:Int)] (.int .i64 ((en n).length:Int)):=by
 intro w
 have e1:bits .or .u64 (n:Int) 1=((n/2*2+1:Nat):Int):=by
  have:=u64_or_nat n 1 hn (by decide)
  rw[or_one] at this;exact this
 obtain⟨L,h0,h1,h2,h3,h4⟩:=a_len64 (n/2*2+1) (by omega) (by omega)
 have hl:(en n).length=(L+6)/7:=by
  refine en_bits h0 ?_ (by omega)
  rcases Nat.lt_or_ge 1 L with q|q
  ·left
   have:2^(L-1)=2*2^(L-2):=by rw[show L-1=(L-2)+1 by omega,Nat.pow_succ,Nat.mul_comm]
   omega
  ·obtain rfl:L=1:=by omega
   rcases Nat.eq_zero_or_pos n with e|e
   ·exact .inr ⟨e,rfl⟩
   ·exact .inl e
 have e2:((L:Int)+7-1)/7=((en n).length:Int):=by rw[hl];omega
 generalize (en n).length=len at *
 generalize n/2*2+1=m at *
 clear h2 h3 hl
 go_enter Tryz.func84,Tryz.ntmps84
 go_wp2_with (first|(simp only[e1])|fail)
 refine(h4.at _).mono ?_;rintro e_ w1 ⟨rfl,hb⟩
 go_wp2
 go_ret;exact⟨congrArg _ (congrArg _ e2),hb⟩
def nres (p:Nat):RN→Value
 | .ok v n=>.tuple #[.int .u64 (v:Int),.int .i64 ((p+n:Nat):Int),.int .i64 0]
 | .er e=>.tuple #[.int .u64 0,.int .i64 0,.int .i64 e]
def shr (k a:Nat):RN→RN
 | .ok v n=>.ok (a+2^(7*k)*v) (n+k)
 | .er e=>.er e
theorem BysB.cellAt {W:World} {ao:Option Addr} {l cap:Nat} {bs:List B} (h:BysB W (.slice ao l cap) bs) {j:Nat} (hj:j<bs.length):∃b off,ao=some ⟨b,off,none⟩∧b<W.heap.size∧W.cell? ⟨b,off+j,none⟩=some (.int .u8 (bv (gb bs j))):=by
 obtain⟨⟨ao',cap',e,_,hc,_⟩,_,_⟩:=h
 cases e
 obtain⟨b,off,h1,h2,h3⟩:=hc j (by rw[bl_len];exact hj)
 exact⟨b,off,h1,h2,by rw[h3,bl_get];rfl⟩
theorem BysB.form {W:World} {v:Value} {bs:List B} (h:BysB W v bs):∃ao cap,v=.slice ao bs.length cap:=by
 obtain⟨⟨ao,cap,e,_⟩,_⟩:=h;rw[bl_len] at e;exact⟨ao,cap,e⟩
theorem drop_at (bs:List B) (j:Nat) (h:j<bs.length):bs.drop j=gb bs j::bs.drop (j+1):=by
 rw[List.drop_eq_getElem_cons h,gb,List.getD_eq_getElem?_getD,List.getElem?_eq_getElem h];rfl
theorem num_lt {a s z:Nat} (ha:a<2^s):a+z%128*2^s<2^(s+7):=by
 rw[Nat.pow_add]
 have h1:z%128*2^s≤127*2^s:=Nat.mul_le_mul_right _ (by omega)
 omega
theorem num_64 {a s:Nat} {x:B} (ha:a<2^s) (hs:s≤63) (h:¬(57<s∧1<x.toNat)):a+x.toNat%128*2^s<18446744073709551616:=by
 rcases Nat.lt_or_ge 57 s with q|q
 ·have h1:x.toNat%128*2^s≤1*2^s:=Nat.mul_le_mul_right _ (by omega)
  have h2:2^s≤2^63:=Nat.pow_le_pow_right (by decide) hs
  omega
 ·have h1:=num_lt (z:=x.toNat) ha
  have h2:2^(s+7)≤2^64:=Nat.pow_le_pow_right (by decide) (by omega)
  omega
theorem num_or {a s:Nat} {x:B} (ha:a<2^s) (hs:s≤63) (h:¬(57<s∧1<x.toNat)):bits .or .u64 (a:Int) (IntKind.u64.wrap (bv x%128*2^min s 64))=((a+x.toNat%128*2^s:Nat):Int):=by
 have h6:=num_64 ha hs h
 have e1:bv x%128*2^min s 64=((x.toNat%128*2^s:Nat):Int):=by
  rw[Nat.min_eq_left (by omega)]
  simp[bv]
 rw[e1,IntKind.wrap_u64,Int.emod_eq_of_lt (by omega) (by omega),u64_or_nat _ _ (by omega) (by omega)]
 congr 1
 have:=Nat.shiftLeft_add_eq_or_of_lt ha (x.toNat%128);rw[Nat.shiftLeft_eq] at this;rw[Nat.or_comm,←this,Nat.add_comm]
theorem a_number (bs:List B) (p:Nat) (hp:p≤bs.length) (w:World) (v:Value) (hB:BysB w v bs):Calls Tryz.prog 135 #[v,.int .i64 (p:Int)] w fun e w'=>e=.returned (nres p (rd 0 (bs.drop p)))∧Below w.heap.size w w':=by
 obtain⟨ao,cap,rfl⟩:=hB.form;have hlen:=hB.2.1
 have d1:decide ((p:Int)<0)=false:=by simp
 have d2:decide ((p:Int)>(bs.length:Int))=false:=by simp;omega
 go_enter Tryz.func135,Tryz.ntmps135
 go_wp2
 go_step3
 go_wp2
 go_step3
 go_wp2
 go_loopw [7,8,9] (fun n e s wr=>∃k a:Nat,k≤9∧p+k≤bs.length∧n=.int .u64 (a:Int)∧e=.int .i64 ((p+k:Nat):Int)∧s=.int .i64 ((7*k:Nat):Int)∧a<2^(7*k)∧rd 0 (bs.drop p)=shr k a (rd k (bs.drop (p+k)))∧wr=w) (fun _ _ s _=>64-(intOf s).toNat)
 case atStart=>exact⟨0,0,by omega,by omega,rfl,rfl,rfl,by decide,by simp only[Nat.add_zero];cases rd 0 (bs.drop p)<;>simp[shr],rfl⟩
 case round=>
  obtain⟨k,a,hk,hpk,rfl,rfl,rfl,ha,hR,rfl⟩:=hrel;clear hp d1 d2
  generalize hq:p+k=q at *
  generalize hs:7*k=s at *
  replace hq:=hide hq;replace hs:=hide hs
  by_cases hc:q=bs.length
  ·have d3:((q:Int)==(bs.length:Int))=true:=by simp;omega
   rw[List.drop_of_length_le (i:=q) (l:=bs) (by omega),rd,shr] at hR
   have hfin:Hid (nres p (rd 0 (bs.drop p))=.tuple #[.int .u64 0,.int .i64 0,.int .i64 73]):=hide (by rw[hR];rfl)
   clear hc hpk hR
   go_wp2
   rw[Exit.noGoto_ret]
   go_ret3
   exact⟨by rw[hfin.out];rfl,Below.refl _ _⟩
  ·have d3:((q:Int)==(bs.length:Int))=false:=by simp;omega
   obtain⟨b,off,rfl,hbl,hcl⟩:=hB.cellAt (j:=q) (by omega)
   rw[drop_at bs q (by omega),rd] at hR
   generalize gb bs q=x at *
   have hx:=bnd x;have hxv:Hid (bv x=(x.toNat:Int)):=hide rfl
   have hqi:0≤(q:Int)∧(q:Int)<(bs.length:Int):=by omega
   have hsl:s≤63:=by have:=hs.out;omega
   replace hc:=hide hc;clear hB
   by_cases c1:57<s∧1<x.toNat
   ·have d4:decide ((s:Int)>57)=true:=by simp;omega
    have d5:decide (bv x>1)=true:=by have:bv x=(x.toNat:Int):=rfl;simp;omega
    have hfin:Hid (nres p (rd 0 (bs.drop p))=.tuple #[.int .u64 0,.int .i64 0,.int .i64 70]):=hide (by
     have:=hs.out
     have h9:k=9:=by omega
     have h10:k=9∧1<x.toNat∨0<k∧x.toNat=0:=.inl ⟨h9,c1.2⟩;rw[hR,if_pos h9,if_pos h10]
     split<;>rfl)
    replace c1:=hide c1;clear hR
    go_wp2
    rw[Exit.noGoto_ret]
    go_ret3
    exact⟨by rw[hfin.out];rfl,Below.refl _ _⟩
   ·by_cases c2:x.toNat=0∧0<s
    ·have d4:((bv x)==0)=true:=by have:bv x=(x.toNat:Int):=rfl;simp;omega
     have hs0:0<s:=c2.2
     have d7:decide (bv x>1)=false:=by have:bv x=(x.toNat:Int):=rfl;simp;omega
     have hfin:Hid (nres p (rd 0 (bs.drop p))=.tuple #[.int .u64 0,.int .i64 0,.int .i64 70]):=hide (by
      have:=hs.out
      have h10:k=9∧1<x.toNat∨0<k∧x.toNat=0:=.inr ⟨by omega,c2.1⟩
      rw[hR,if_neg (by omega),if_pos h10]
      rfl)
     replace c1:=hide c1;replace c2:=hide c2;clear hR
     rcases Nat.lt_or_ge 57 s with q1|q1
     ·have d8:decide ((s:Int)>57)=true:=by simp;omega
      go_wp2
      rw[Exit.noGoto_ret]
      go_ret3
      exact⟨by rw[hfin.out];rfl,Below.refl _ _⟩
     ·have d8:decide ((s:Int)>57)=false:=by simp;omega
      go_wp2
      rw[Exit.noGoto_ret]
      go_ret3
      exact⟨by rw[hfin.out];rfl,Below.refl _ _⟩
    ·have hv:Hid (bits .or .u64 (a:Int) (IntKind.u64.wrap (bv x%128*2^min s 64))=((a+x.toNat%128*2^s:Nat):Int)):=hide (num_or ha hsl (by omega))
     have hvB:Hid (bits .or .u64 (a:Int) (IntKind.u64.wrap (bv x%128*2^s))=((a+x.toNat%128*2^s:Nat):Int)):=hide (by have:=hv.out;rwa [Nat.min_eq_left (by omega)] at this)
     have hv2:Hid (a+x.toNat%128*2^s<2^(s+7)):=hide (num_lt ha)
     have d9:Hid ((57<s→x.toNat≤1)∧(0<s→x.toNat≠0)):=hide (by omega)
     have h10:¬(k=9∧1<x.toNat∨0<k∧x.toNat=0):=by have:=hs.out;omega
     by_cases c3:x.toNat<128
     ·have d11:decide (bv x<128)=true:=by have:bv x=(x.toNat:Int):=rfl;simp;omega
      have hfin:Hid (nres p (rd 0 (bs.drop p))=.tuple #[.int .u64 ((a+x.toNat%128*2^s:Nat):Int),.int .i64 ((q:Int)+1),.int .i64 0]):=hide (by
       have h1:=hs.out;have h2:=hq.out
       have h3:p+(1+k)=q+1:=by omega
       rw[hR,if_neg (by omega),if_neg h10,shr,nres,h1,Nat.mod_eq_of_lt c3,Nat.mul_comm,h3]
       rfl)
      replace c1:=hide c1;replace c2:=hide c2;replace h10:=hide h10;clear hR
      rcases Nat.lt_or_ge 57 s with q1|q1
      ·have d8:decide ((s:Int)>57)=true:=by simp;omega
       have d7:decide (bv x>1)=false:=by have:bv x=(x.toNat:Int):=rfl;have:=d9.out.1 q1;simp;omega
       have d6:((bv x)==0)=false:=by have:bv x=(x.toNat:Int):=rfl;have:=d9.out.2 (by omega);simp;omega
       go_wp2
       rw[Exit.noGoto_ret]
       go_ret3
       refine⟨?_,Below.refl _ _⟩;rw[hfin.out]
       show Ending.returned (.tuple #[.int .u64 _,.int .i64 _,.int .i64 _])=_
       first|rw[hv.out]|rw[hvB.out]
      ·have d8:decide ((s:Int)>57)=false:=by simp;omega
       rcases Nat.eq_zero_or_pos s with q2|q2
       ·have hs0:¬0<s:=by omega
        replace q2:=hide q2
        rcases Nat.eq_zero_or_pos x.toNat with q3|q3
        ·have d6:((bv x)==0)=true:=by have:bv x=(x.toNat:Int):=rfl;simp;omega
         replace q3:=hide q3
         go_wp2
         rw[Exit.noGoto_ret]
         go_ret3
         refine⟨?_,Below.refl _ _⟩;rw[hfin.out]
         show Ending.returned (.tuple #[.int .u64 _,.int .i64 _,.int .i64 _])=_
         first|rw[hv.out]|rw[hvB.out]
        ·have d6:((bv x)==0)=false:=by have:bv x=(x.toNat:Int):=rfl;simp;omega
         replace q3:=hide q3
         go_wp2
         rw[Exit.noGoto_ret]
         go_ret3
         refine⟨?_,Below.refl _ _⟩;rw[hfin.out]
         show Ending.returned (.tuple #[.int .u64 _,.int .i64 _,.int .i64 _])=_
         first|rw[hv.out]|rw[hvB.out]
       ·have hs0:0<s:=q2
        have d6:((bv x)==0)=false:=by have:bv x=(x.toNat:Int):=rfl;have:=d9.out.2 (by omega);simp;omega
        replace q2:=hide q2
        go_wp2
        rw[Exit.noGoto_ret]
        go_ret3
        refine⟨?_,Below.refl _ _⟩;rw[hfin.out]
        show Ending.returned (.tuple #[.int .u64 _,.int .i64 _,.int .i64 _])=_
        first|rw[hv.out]|rw[hvB.out]
     ·have d11:decide (bv x<128)=false:=by have:bv x=(x.toNat:Int):=rfl;simp;omega
      have d6:((bv x)==0)=false:=by have:bv x=(x.toNat:Int):=rfl;simp;omega
      have d8:decide ((s:Int)>57)=false:=by have:bv x=(x.toNat:Int):=rfl;have:=d9.out.1;simp;omega
      have hk8:k≤8:=by have:=hs.out;have:=d9.out.1;omega
      have hnext:Hid (rd 0 (bs.drop p)=shr (k+1) (a+x.toNat%128*2^s) (rd (k+1) (bs.drop (q+1)))):=hide (by
       have h1:=hs.out
       rw[hR,if_pos (by omega),if_neg (by omega)]
       cases hh:rd (k+1) (bs.drop (q+1)) with
       |er e=>rfl
       |ok v n=>
        have hx2:=x.isLt;simp only[shr]
        congr 1
        ·rw[←h1,show 7*(k+1)=7*k+7 by omega,Nat.pow_add,show x.toNat%128=x.toNat-128 by omega,Nat.mul_add,Nat.mul_comm (x.toNat-128),Nat.mul_assoc,Nat.mul_comm v 128,show(2:Nat)^7=128 from rfl]
         omega
        ·omega)
      replace c1:=hide c1;replace c2:=hide c2;replace h10:=hide h10;clear hR
      go_wp2
      refine⟨⟨k+1,a+x.toNat%128*2^s,by omega,by have:=hq.out;have:=hc.out;omega,by first|rw[hv.out]|rw[hvB.out],by have:=hq.out;congr 1;omega,by have:=hs.out;congr 1;omega,by have:=hv2.out;have:=hs.out;rwa [show 7*(k+1)=s+7 by omega],by have:=hq.out;rw[show p+(k+1)=q+1 by omega];exact hnext.out,trivial⟩,?_⟩
      simp[intOf];omega
theorem or128:∀z:Fin 256,bits .or .u8 ((z.val:Nat):Int) 128=((z.val%128+128:Nat):Int):=by decide+kernel
theorem by_hi (n:Nat):bits .or .u8 ((n:Int)%256) 128=bv (BitVec.ofNat 8 (n%128+128)):=by
 have h:=or128 ⟨n%256,by omega⟩
 simp only at h;rw[Int.natCast_emod] at h
 rw[show(256:Int)=((256:Nat):Int) from rfl,h,bv,BitVec.toNat_ofNat]
 omega
theorem by_lo {n:Nat} (_h:n<128):(n:Int)%256=bv (BitVec.ofNat 8 n):=by
 rw[bv,BitVec.toNat_ofNat];omega
theorem by_lo' {n:Nat} (h:n<128):(n:Int)=bv (BitVec.ofNat 8 n):=by
 rw[bv,BitVec.toNat_ofNat];omega
theorem by_hi2 (n:Nat):((n:Int)%128+128)=bv (BitVec.ofNat 8 (n%128+128)):=by
 rw[bv,BitVec.toNat_ofNat];omega
theorem own_alloc {W:World} {b:Nat} {v:Value} {d:List B} (h:Own W b v d) (o:Obj):Own (W.alloc o) b v d:=World.ownsRow.alloc h o
theorem a_addNumber (d:List B) (n:Nat) (hn:n<18446744073709551616) (base:Nat) (w:World) (v:Value) (hO:Own w base v d) (hb:base≤w.heap.size) (hl:d.length+10≤140737488355328):Calls Tryz.prog 104 #[v,.int .u64 (n:Int)] w fun e w'=>∃u,e=.returned u∧Own w' base u (d++en n)∧Below base w w':=by
 obtain⟨ao,ac,rfl⟩:=slen_own hO;have hten:=en_ten hn
 go_enter Tryz.func104,Tryz.ntmps104
 go_wp2
 go_loopw [0,1] (fun s m wr=>∃(k:Nat) (c:List B) (ao:Option Addr) (ac:Nat),m=.int .u64 (k:Int)∧k≤n∧en n=c++en k∧s=.slice ao (d++c).length ac∧Own wr base (.slice ao (d++c).length ac) (d++c)∧Below base w wr) (fun _ m _=>(intOf m).toNat)
 case atStart=>exact⟨n,[],ao,ac,rfl,Nat.le_refl _,rfl,by simp,by simpa using hO,Below.refl _ _⟩
 case round=>
  clear hO;obtain⟨k,c,ao,ac,rfl,hkn,he,rfl,hO,hw⟩:=hrel;have hws:=hw.size
  have hcl:(d++c).length+(en k).length≤d.length+10:=by
   have:=congrArg List.length he
   rw[List.length_append] at *
   omega
  by_cases h:128≤k
  ·have hd:decide ((k:Int)≥128)=true:=by simp;omega
   have hek:=en_hi (n:=k) (by omega)
   rw[hek,List.length_cons] at hcl;rw[hek] at he;replace he:=hide he
   generalize hL:d++c=L at *
   go_wp2_with (at_builtin;refine wpList_append_B rfl (.tmp 9) (.tmp 13) rfl base _ L rfl (own_alloc hO _) _ [BitVec.ofNat 8 (k%128+128)] rfl ?hE (by simp only[List.length_singleton];omega) (by rw[size_alloc1];omega) ?_)
   case hE=>
    rw[by_hi];exact bys_one _ _
   intro v2 w2 hO2 hgr
   have hw2:Below base w w2:=(hw.alloc (by omega) _).grown hgr (by rw[size_alloc1];omega) (own_low hO)
   obtain⟨ao2,ac2,rfl⟩:=slen_own hO2;clear hgr hO hw hek
   go_wp2
   refine⟨⟨k/128,c++[BitVec.ofNat 8 (k%128+128)],ao2,ac2,by congr 1,by omega,by rw[he.out];simp,by rw[←List.append_assoc,hL],by rw[←List.append_assoc,hL];exact hO2,hw2⟩,?_⟩
   simp[intOf];omega
  ·have hd:decide ((k:Int)≥128)=false:=by simp;omega
   have hek:=en_lo (n:=k) (by omega)
   rw[hek,List.length_singleton] at hcl;rw[hek] at he;replace he:=hide he
   generalize hL:d++c=L at *
   go_wp2_with (at_builtin;refine wpList_append_B rfl (.tmp 15) (.tmp 18) rfl base _ L rfl (own_alloc hO _) _ [BitVec.ofNat 8 k] rfl ?hE (by simp only[List.length_singleton];omega) (by rw[size_alloc1];omega) ?_)
   case hE=>
    first|rw[by_lo (by omega)]|rw[by_lo' (by omega)]
    exact bys_one _ _
   intro v2 w2 hO2 hgr
   have hw2:Below base w w2:=(hw.alloc (by omega) _).grown hgr (by rw[size_alloc1];omega) (own_low hO)
   obtain⟨ao2,ac2,rfl⟩:=slen_own hO2;clear hgr hO hw hek
   go_wp2
   go_ret
   exact⟨_,rfl,by rw[he.out,←List.append_assoc,hL];exact hO2,hw2⟩
theorem made_irow (n:Nat):madeCells #[.int .u8 0] n=irow .u8 (zr n):=by
 apply Array.ext'
 simp only[madeCells,irow,zr,Array.toList_map,Array.toList_range,List.map_replicate]
 apply List.ext_getElem
 ·simp
 ·intro i h1 h2
  simp[Nat.mod_one]
theorem make_lc (n c:Nat) (hn:n≤c) (hc:c≤281474976710656) (w:World):(Instr.makeSlice 24 (.int .i64 (n:Int)) (.int .i64 (c:Int))).run Tryz.prog w=.ok (.slice (some ⟨w.heap.size,0,none⟩) n c) (w.alloc (.cells (irow .u8 (zr c)) 5)):=by
 obtain⟨i0,hi,hz0,hz1,hz2⟩:=info8
 have h:=run_make (P:=Tryz.prog) w 24 5 i0 (.int .u8 0) Tryz.underlying24 hi hz0 .i64 .i64 (n:Int) (c:Int) (by omega) (by omega) (by rw[hz2];omega) (by omega)
 rw[hz1,Nat.mul_one,Int.toNat_natCast,Int.toNat_natCast] at h;rw[h,←made_irow];rfl
theorem own_of_row {W:World} {g b:Nat} {d:List B} {T:List Int} (hg:W.heap[g]? =some (.cells (irow .u8 (bl d++T)) 5 (0,0))) (hb:b≤g) (hm:d.length+T.length≤maxLen):Own W b (.slice (some ⟨g,0,none⟩) d.length (d.length+T.length)) d:=by
 refine⟨by simp[bl_len],.inr ⟨g,d.length+T.length,_,rfl,hb,hg,by omega,hm,by rw[irow_size,List.length_append,bl_len];omega,?_⟩⟩
 rw[irow,List.toList_toArray,List.map_append,List.take_left']
 simp[bl_len]
theorem r_put (bs:List B) (n:Nat) (hn:n<18446744073709551616) (w:World) (v:Value) (hB:BysB w v bs):Calls Tryz.prog 79 #[v,.int .u64 (n:Int)] w fun e w'=>∃u,e=.returned u∧Own w' w.heap.size u (bs++en n)∧Below w.heap.size w w':=by
 have hten:=en_ten hn;have hlen:=hB.2.1;obtain⟨ao,cap,rfl⟩:=hB.form;have hb0:Below w.heap.size w (w.alloc (.cells #[] 5)):=(Below.refl _ _).alloc (Nat.le_refl _) _
 go_enter Tryz.func79,Tryz.ntmps79
 go_wp2_with (at_builtin;refine wpList_append_B rfl (.tmp 6) (.tmp 7) rfl w.heap.size _ [] rfl (own_nil w) _ bs rfl (hB.keep hb0) (by simp only[List.length_nil];omega) hb0.size ?_)
 intro v1 w1 hO1 hgr;have hw1:=hb0.grown hgr hb0.size (own_low (own_nil w));obtain⟨ao1,ac1,rfl⟩:=slen_own hO1;clear hgr hb0
 go_wp2
 go_loopw [1,5] (fun m s wr=>∃(k:Nat) (c:List B) (ao:Option Addr) (ac:Nat),m=.int .u64 (k:Int)∧k≤n∧en n=c++en k∧s=.slice ao (bs++c).length ac∧Own wr w.heap.size (.slice ao (bs++c).length ac) (bs++c)∧Below w.heap.size w wr) (fun m _ _=>(intOf m).toNat)
 case atStart=>exact⟨n,[],ao1,ac1,rfl,Nat.le_refl _,rfl,by simp,by simpa using hO1,hw1⟩
 case round=>
  clear hO1 hw1;obtain⟨k,c,ao1,ac1,rfl,hkn,he,rfl,hO,hw⟩:=hrel;have hws:=hw.size
  have hcl:(bs++c).length+(en k).length≤bs.length+10:=by
   have:=congrArg List.length he
   rw[List.length_append] at *
   omega
  by_cases h:128≤k
  ·have hd:decide ((k:Int)≥128)=true:=by simp;omega
   have hek:=en_hi (n:=k) (by omega)
   rw[hek,List.length_cons] at hcl;rw[hek] at he;replace he:=hide he
   generalize hL:bs++c=L at *
   go_wp2_with (at_builtin;refine wpList_append_B rfl (.tmp 11) (.tmp 16) rfl w.heap.size _ L rfl (own_alloc hO _) _ [BitVec.ofNat 8 (k%128+128)] rfl ?hE (by simp only[List.length_singleton];omega) (by rw[size_alloc1];omega) ?_)
   case hE=>
    rw[by_hi2];exact bys_one _ _
   intro v2 w2 hO2 hgr
   have hw2:Below w.heap.size w w2:=(hw.alloc (by omega) _).grown hgr (by rw[size_alloc1];omega) (own_low hO)
   obtain⟨ao2,ac2,rfl⟩:=slen_own hO2;clear hgr hO hw hek
   go_wp2
   refine⟨⟨k/128,c++[BitVec.ofNat 8 (k%128+128)],ao2,ac2,by congr 1,by omega,by rw[he.out];simp,by rw[←List.append_assoc,hL],by rw[←List.append_assoc,hL];exact hO2,hw2⟩,?_⟩
   simp[intOf];omega
  ·have hd:decide ((k:Int)≥128)=false:=by simp;omega
   have hek:=en_lo (n:=k) (by omega)
   rw[hek,List.length_singleton] at hcl;rw[hek] at he;replace he:=hide he
   generalize hL:bs++c=L at *
   go_wp2_with (at_builtin;refine wpList_append_B rfl (.tmp 20) (.tmp 23) rfl w.heap.size _ L rfl (own_alloc hO _) _ [BitVec.ofNat 8 k] rfl ?hE (by simp only[List.length_singleton];omega) (by rw[size_alloc1];omega) ?_)
   case hE=>
    first|rw[by_lo (by omega)]|rw[by_lo' (by omega)]
    exact bys_one _ _
   intro v2 w2 hO2 hgr
   have hw2:Below w.heap.size w w2:=(hw.alloc (by omega) _).grown hgr (by rw[size_alloc1];omega) (own_low hO)
   obtain⟨ao2,ac2,rfl⟩:=slen_own hO2;clear hgr hO hw hek
   go_wp2
   go_ret
   exact⟨_,rfl,by rw[he.out,←List.append_assoc,hL];exact hO2,hw2⟩
theorem bys_nil (W:World):BysB W nS []:=⟨⟨none,0,rfl,by simp[bl],fun j hj=>by simp[bl] at hj,bl_bnd _⟩,by simp,fun _ _ _ h _=>by cases h;rfl⟩
theorem r_size (n:Nat) (hn:n<18446744073709551616):Gives 64 #[.int .u64 (n:Int)] (.int .i64 ((en n).length:Int)):=by
 intro w;have hP:=r_put [] n hn w _ (bys_nil w)
 go_enter Tryz.func64,Tryz.ntmps64
 go_wp2_with (fail)
 refine hP.mono ?_;rintro e_ w1 ⟨u,rfl,hO,hb⟩;obtain⟨ao,ac,rfl⟩:=slen_own hO;rw[List.nil_append]
 go_wp2
 go_ret;exact⟨rfl,hb⟩
def hv:List B→Nat→Nat
 |[],x=>x
 |h::t,x=>hv t x*128+(h.toNat-128)
theorem hv_nil (x:Nat):hv [] x=x:=rfl
theorem hv_cons (h:B) (t:List B) (x:Nat):hv (h::t) x=hv t x*128+(h.toNat-128):=rfl
def bad (n x:Nat):Prop:=(n=9∧1<x)∨(0<n∧x=0)
theorem rd_hv:∀(hs:List B) (i:Nat) (x:B) (r:List B),(∀h∈hs,128≤h.toNat)→x.toNat<128→i+hs.length≤9→¬bad (i+hs.length) x.toNat→rd i (hs++x::r)=.ok (hv hs x.toNat) (hs.length+1)
 |[],i,x,r,_,hx,hi,hb=>by
  have hb':¬((i=9∧1<x.toNat)∨(0<i∧x.toNat=0)):=hb
  rw[List.nil_append,rd,if_neg (by omega),if_neg hb'];rfl
 |h::t,i,x,r,hh,hx,hi,hb=>by
  rw[List.length_cons] at hi hb
  rw[List.cons_append,rd,if_pos (hh h (by simp)),if_neg (by omega),rd_hv t (i+1) x r (fun a ha=>hh a (by simp[ha])) hx (by omega) (by rwa [show i+1+t.length=i+(t.length+1) by omega])]
  rfl
theorem rd_bad:∀(hs:List B) (i:Nat) (x:B) (r:List B),(∀h∈hs,128≤h.toNat)→x.toNat<128→i+hs.length≤9→bad (i+hs.length) x.toNat→rd i (hs++x::r)=.er 70
 |[],i,x,r,_,hx,hi,hb=>by
  have hb':(i=9∧1<x.toNat)∨(0<i∧x.toNat=0):=hb
  rw[List.nil_append,rd,if_neg (by omega),if_pos hb']
 |h::t,i,x,r,hh,hx,hi,hb=>by
  rw[List.length_cons] at hi hb
  rw[List.cons_append,rd,if_pos (hh h (by simp)),if_neg (by omega),rd_bad t (i+1) x r (fun a ha=>hh a (by simp[ha])) hx (by omega) (by rwa [show i+1+t.length=i+(t.length+1) by omega])]
theorem rd_cut:∀(hs:List B) (i:Nat),(∀h∈hs,128≤h.toNat)→i+hs.length≤9→rd i hs=.er 73
 |[],i,_,_=>by rw[rd]
 |h::t,i,hh,hi=>by
  rw[List.length_cons] at hi
  rw[rd,if_pos (hh h (by simp)),if_neg (by omega),rd_cut t (i+1) (fun a ha=>hh a (by simp[ha])) (by omega)]
theorem rd_ten:∀(hs:List B) (i:Nat) (r:List B),(∀h∈hs,128≤h.toNat)→i+hs.length=10→0<hs.length→rd i (hs++r)=.er 70
 |[],i,_,_,_,h0=>by simp at h0
 |h::t,i,r,hh,hi,_=>by
  rw[List.length_cons] at hi
  rw[List.cons_append,rd,if_pos (hh h (by simp))]
  by_cases h9:i=9
  ·rw[if_pos h9]
  ·have h1:i+1+t.length=10:=by omega
   have h2:0<t.length:=by omega
   rw[if_neg h9,rd_ten t (i+1) r (fun a ha=>hh a (by simp[ha])) h1 h2]
theorem hv_drop (hs:List B) (j x:Nat) (h:j<hs.length):hv (hs.drop j) x=hv (hs.drop (j+1)) x*128+((gb hs j).toNat-128):=by
 rw[drop_at hs j h,hv_cons]
theorem hv_lt (hs:List B) (x:B) (j:Nat) (hj:j≤hs.length) (hh:∀h∈hs,128≤h.toNat) (hx:x.toNat<128) (hi:hs.length≤9) (hb:¬bad hs.length x.toNat):hv (hs.drop j) x.toNat<2^(64-7*j):=by
 have h1:=rd_hv (hs.drop j) j x [] (fun a ha=>hh a (List.mem_of_mem_drop ha)) hx (by rw[List.length_drop];omega) (by rwa [List.length_drop,show j+(hs.length-j)=hs.length by omega])
 exact(rd_ok _ _ _ _ (by omega) h1).2.2.1
theorem take_hi {bs:List B} {p k:Nat} (h:∀i,i<k→128≤(gb bs (p+i)).toNat):∀a∈(bs.drop p).take k,128≤a.toNat:=by
 intro a ha;obtain⟨i,hi,rfl⟩:=List.mem_take_iff_getElem.1 ha;rw[List.length_drop] at hi;rw[List.getElem_drop]
 have:=h i (by omega)
 rwa [gb,List.getD_eq_getElem?_getD,List.getElem?_eq_getElem (by omega)] at this
theorem gb_take (bs:List B) (p k i:Nat) (hi:i<k) (_hk:p+k≤bs.length):gb ((bs.drop p).take k) i=gb bs (p+i):=by
 rw[gb,gb,List.getD_eq_getElem?_getD,List.getElem?_take_of_lt hi,List.getElem?_drop,List.getD_eq_getElem?_getD]
theorem bv8 (x:B):bv x=(x.toNat:Int):=rfl
theorem r_number (bs:List B) (p:Nat) (hp:p≤bs.length) (w:World) (v:Value) (hB:BysB w v bs):Calls Tryz.prog 112 #[v,.int .i64 (p:Int)] w fun e w'=>e=.returned (nres p (rd 0 (bs.drop p)))∧Below w.heap.size w w':=by
 obtain⟨ao,cap,rfl⟩:=hB.form;have hlen:=hB.2.1
 have d1:decide ((p:Int)<0)=false:=by simp
 have d2:decide ((p:Int)>(bs.length:Int))=false:=by simp;omega
 go_enter Tryz.func112,Tryz.ntmps112
 go_wp2
 clear d1 d2
 go_loopw [7] (fun n wr=>∃k:Nat,n=.int .i64 (k:Int)∧k≤10∧p+k≤bs.length∧(∀i,i<k→128≤(gb bs (p+i)).toNat)∧wr=w) (fun n _=>10-(intOf n).toNat)
 case atStart=>exact⟨0,rfl,by omega,by omega,by intro i hi;omega,rfl⟩
 case round=>
  obtain⟨k,rfl,hk,hpk,hhi,rfl⟩:=hrel
  by_cases c1:k<10∧p+k<bs.length∧128≤(gb bs (p+k)).toNat
  ·obtain⟨c1,c2,c3⟩:=c1
   have d3:decide ((k:Int)<10)=true:=by simp;omega
   have d4:decide ((p:Int)+(k:Int)<(bs.length:Int))=true:=by simp;omega
   obtain⟨b,off,rfl,hbl,hcl⟩:=hB.cellAt (j:=p+k) c2
   have hh2:∀i,i<k+1→128≤(gb bs (p+i)).toNat:=fun i hi=>by
    rcases Nat.lt_or_ge i k with q|q
    ·exact hhi i q
    ·obtain rfl:i=k:=by omega
     exact c3
   replace hh2:=hide hh2
   have d5:decide (bv (gb bs (p+k))≥128)=true:=by rw[bv8];simp;omega
   clear hhi
   generalize gb bs (p+k)=x at *
   clear hB
   go_wp2
   refine⟨⟨k+1,by go_num,by omega,by omega,hh2.out,trivial⟩,?_⟩
   simp[intOf];omega
  ·replace hhi:=hide hhi
   obtain⟨hs,hhs⟩:∃hs,(bs.drop p).take k=hs:=⟨_,rfl⟩
   have hsl:hs.length=k:=by rw[←hhs,List.length_take,List.length_drop];omega
   have hall:=take_hi hhi.out;rw[hhs] at hall;replace hall:=hide hall
   by_cases c2:k<10∧p+k<bs.length
   ·
    obtain⟨b,off,rfl,hbl,hcl⟩:=hB.cellAt (j:=p+k) c2.2;have hxs:=bnd (gb bs (p+k))
    have hspl:bs.drop p=hs++gb bs (p+k)::bs.drop (p+k+1):=by
     rw[←drop_at bs (p+k) c2.2,←hhs,←List.drop_drop,List.take_append_drop]
    replace hspl:=hide hspl
    have d3:decide ((k:Int)<10)=true:=by simp;omega
    have d4:decide ((p:Int)+(k:Int)<(bs.length:Int))=true:=by simp;omega
    have d5:decide (bv (gb bs (p+k))≥128)=false:=by rw[bv8];simp;omega
    have d6:((k:Int)==10)=false:=by simp;omega
    have d7:((p:Int)+(k:Int)==(bs.length:Int))=false:=by simp;omega
    have hxl:(gb bs (p+k)).toNat<128:=by omega
    have hqi:0≤(p:Int)+(k:Int)∧(p:Int)+(k:Int)<(bs.length:Int):=by omega
    have hcells:Hid (∀i,i<k→wr.cell? ⟨b,off+(p+i),none⟩=some (.int .u8 (bv (gb hs i)))):=hide (fun i hi=>by
     obtain⟨b',off',e,_,hc⟩:=hB.cellAt (j:=p+i) (by omega)
     cases e
     rw[hc,←hhs,gb_take bs p k i hi hpk])
    have hhs2:Hid (∀i,i<k→128≤(gb hs i).toNat):=hide (fun i hi=>by rw[←hhs,gb_take bs p k i hi hpk];exact hhi.out i hi)
    generalize gb bs (p+k)=x at *
    clear hB hhi;replace hhs:=hide hhs
    by_cases c3:bad k x.toNat
    ·have hfin:Hid (nres p (rd 0 (bs.drop p))=.tuple #[.int .u64 0,.int .i64 0,.int .i64 70]):=hide (by
      rw[hspl.out,rd_bad hs 0 x _ hall.out hxl (by omega) (by rwa [Nat.zero_add,hsl])];rfl)
     by_cases c4:k=9∧1<x.toNat
     ·have d8:((k:Int)==9)=true:=by simp;omega
      have d9:decide (bv x>1)=true:=by rw[bv8];simp;omega
      replace c1:=hide c1;replace c2:=hide c2;replace c3:=hide c3;replace c4:=hide c4;clear hhs2 hcells hsl
      go_wp2
      go_ret3
      exact⟨by rw[hfin.out];rfl,Below.refl _ _⟩
     ·have c5:0<k∧x.toNat=0:=by unfold bad at c3;omega
      have d9:decide (bv x>1)=false:=by rw[bv8];simp;omega
      have d10:(bv x==0)=true:=by rw[bv8];simp;omega
      have hk0:0<k:=c5.1;replace c1:=hide c1;replace c2:=hide c2;replace c3:=hide c3;replace c4:=hide c4;replace c5:=hide c5;clear hhs2 hcells hsl
      by_cases c6:k=9
      ·have d8:((k:Int)==9)=true:=by simp;omega
       replace c6:=hide c6
       go_wp2
       go_ret3
       exact⟨by rw[hfin.out];rfl,Below.refl _ _⟩
      ·have d8:((k:Int)==9)=false:=by simp;omega
       replace c6:=hide c6
       go_wp2
       go_ret3
       exact⟨by rw[hfin.out];rfl,Below.refl _ _⟩
    ·have hk9:k≤9:=by omega
     have hfin:Hid (nres p (rd 0 (bs.drop p))=.tuple #[.int .u64 ((hv hs x.toNat:Nat):Int),.int .i64 ((p+k+1:Nat):Int),.int .i64 0]):=hide (by
      rw[hspl.out,rd_hv hs 0 x _ hall.out hxl (by omega) (by rwa [Nat.zero_add,hsl])]
      rw[nres,hsl]
      congr 1)
     have hlt:Hid (∀j,j≤k→hv (hs.drop j) x.toNat<2^(64-7*j)):=hide (fun j hj=>hv_lt hs x j (by omega) hall.out hxl (by omega) (by rwa [hsl]))
     have hhv:Hid (hv (hs.drop k) x.toNat=x.toNat):=hide (by rw[List.drop_of_length_le (by omega),hv_nil])
     have hstep:Hid (∀j,j<k→hv (hs.drop j) x.toNat=hv (hs.drop (j+1)) x.toNat*128+((gb hs j).toNat-128)):=hide (fun j hj=>hv_drop hs j _ (by omega))
     have hbx:Hid (bv x=(x.toNat:Int)):=hide rfl
     have hh0:Hid (hv (hs.drop 0) x.toNat=hv hs x.toNat):=hide (by rw[List.drop_zero])
     generalize hF:(fun j=>hv (hs.drop j) x.toNat)=F
     have hF':∀j,hv (hs.drop j) x.toNat=F j:=fun j=>by rw[←hF]
     replace hF:=hide hF;simp only[hF'] at hlt hhv hstep hh0;clear hF';have hkb:¬bad k x.toNat:=c3;replace c1:=hide c1;replace c2:=hide c2;replace c3:=hide c3;replace hsl:=hide hsl
     by_cases q9:k=9
     ·have d8:((k:Int)==9)=true:=by simp;omega
      have d9:decide (bv x>1)=false:=by unfold bad at hkb;rw[bv8];simp;omega
      have d10:(bv x==0)=false:=by unfold bad at hkb;rw[bv8];simp;omega
      have hk0:0<k:=by omega
      replace q9:=hide q9;replace hkb:=hide hkb
      go_wp2
      go_loopw [9,10] (fun m i wr2=>∃j:Nat,j≤k∧m=.int .u64 ((F j:Nat):Int)∧i=.int .i64 ((j:Int)-1)∧wr2=wr) (fun _ i _=>(intOf i+1).toNat)
      case atStart=>exact⟨k,Nat.le_refl _,by rw[hhv.out];rfl,rfl,rfl⟩
      case round=>
       obtain⟨j,hj,rfl,rfl,rfl⟩:=hrel
       by_cases hj0:j=0
       ·subst hj0
        have dj:decide (((0:Nat):Int)-1≥0)=false:=by decide
        go_wp2
        go_ret3
        exact⟨by rw[hfin.out,←hh0.out];rfl,Below.refl _ _⟩
       ·obtain⟨i,rfl⟩:∃i,j=i+1:=⟨j-1,by omega⟩
        rw[show((i+1:Nat):Int)-1=(i:Int) by omega]
        have hcj:=hcells.out i (by omega)
        have hhj:=hhs2.out i (by omega)
        have hsj:=hstep.out i (by omega)
        have hl0:=hlt.out i (by omega)
        have hl1:2^(64-7*i)≤2^64:=Nat.pow_le_pow_right (by decide) (by omega)
        have hqj:0≤(p:Int)+(i:Int)∧(p:Int)+(i:Int)<(bs.length:Int):=by omega
        have hyb:=bnd (gb hs i);have ey:Hid (bv (gb hs i)=((gb hs i).toNat:Int)):=hide rfl
        have hy8:128≤bv (gb hs i):=by rw[ey.out];omega
        have hF64:F i<18446744073709551616:=by omega
        have hmul:(F (i+1):Int)*128<18446744073709551616:=by omega
        have hnew:(F (i+1):Int)*128+(bv (gb hs i)-128)=((F i:Nat):Int):=by rw[ey.out];omega
        have hsum:(F (i+1):Int)*128+(bv (gb hs i)-128)<18446744073709551616:=by omega
        replace hnew:=hide hnew;clear hsj hl0 hl1 hF64 hhj hj0
        generalize gb hs i=y at *
        generalize hf1:F (i+1)=f1 at *
        go_wp2
        refine⟨⟨i,by omega,by rw[←hnew.out],rfl,trivial⟩,?_⟩
        simp[intOf]
     ·have d8:((k:Int)==9)=false:=by simp;omega
      by_cases q0:k=0
      ·have hk0:¬0<k:=by omega
       replace q9:=hide q9
       replace q0:=hide q0;replace hkb:=hide hkb
       go_wp2
       go_loopw [9,10] (fun m i wr2=>∃j:Nat,j≤k∧m=.int .u64 ((F j:Nat):Int)∧i=.int .i64 ((j:Int)-1)∧wr2=wr) (fun _ i _=>(intOf i+1).toNat)
       case atStart=>exact⟨k,Nat.le_refl _,by rw[hhv.out];rfl,rfl,rfl⟩
       case round=>
        obtain⟨j,hj,rfl,rfl,rfl⟩:=hrel
        by_cases hj0:j=0
        ·subst hj0
         have dj:decide (((0:Nat):Int)-1≥0)=false:=by decide
         go_wp2
         go_ret3
         exact⟨by rw[hfin.out,←hh0.out];rfl,Below.refl _ _⟩
        ·obtain⟨i,rfl⟩:∃i,j=i+1:=⟨j-1,by omega⟩
         rw[show((i+1:Nat):Int)-1=(i:Int) by omega]
         have hcj:=hcells.out i (by omega)
         have hhj:=hhs2.out i (by omega)
         have hsj:=hstep.out i (by omega)
         have hl0:=hlt.out i (by omega)
         have hl1:2^(64-7*i)≤2^64:=Nat.pow_le_pow_right (by decide) (by omega)
         have hqj:0≤(p:Int)+(i:Int)∧(p:Int)+(i:Int)<(bs.length:Int):=by omega
         have hyb:=bnd (gb hs i);have ey:Hid (bv (gb hs i)=((gb hs i).toNat:Int)):=hide rfl
         have hy8:128≤bv (gb hs i):=by rw[ey.out];omega
         have hF64:F i<18446744073709551616:=by omega
         have hmul:(F (i+1):Int)*128<18446744073709551616:=by omega
         have hnew:(F (i+1):Int)*128+(bv (gb hs i)-128)=((F i:Nat):Int):=by rw[ey.out];omega
         have hsum:(F (i+1):Int)*128+(bv (gb hs i)-128)<18446744073709551616:=by omega
         replace hnew:=hide hnew;clear hsj hl0 hl1 hF64 hhj hj0
         generalize gb hs i=y at *
         generalize hf1:F (i+1)=f1 at *
         go_wp2
         refine⟨⟨i,by omega,by rw[←hnew.out],rfl,trivial⟩,?_⟩
         simp[intOf]
      ·have d10:(bv x==0)=false:=by unfold bad at hkb;rw[bv8];simp;omega
       have hk0:0<k:=by omega
       replace q9:=hide q9;replace q0:=hide q0;replace hkb:=hide hkb
       go_wp2
       go_loopw [9,10] (fun m i wr2=>∃j:Nat,j≤k∧m=.int .u64 ((F j:Nat):Int)∧i=.int .i64 ((j:Int)-1)∧wr2=wr) (fun _ i _=>(intOf i+1).toNat)
       case atStart=>exact⟨k,Nat.le_refl _,by rw[hhv.out];rfl,rfl,rfl⟩
       case round=>
        obtain⟨j,hj,rfl,rfl,rfl⟩:=hrel
        by_cases hj0:j=0
        ·subst hj0
         have dj:decide (((0:Nat):Int)-1≥0)=false:=by decide
         go_wp2
         go_ret3
         exact⟨by rw[hfin.out,←hh0.out];rfl,Below.refl _ _⟩
        ·obtain⟨i,rfl⟩:∃i,j=i+1:=⟨j-1,by omega⟩
         rw[show((i+1:Nat):Int)-1=(i:Int) by omega]
         have hcj:=hcells.out i (by omega)
         have hhj:=hhs2.out i (by omega)
         have hsj:=hstep.out i (by omega)
         have hl0:=hlt.out i (by omega)
         have hl1:2^(64-7*i)≤2^64:=Nat.pow_le_pow_right (by decide) (by omega)
         have hqj:0≤(p:Int)+(i:Int)∧(p:Int)+(i:Int)<(bs.length:Int):=by omega
         have hyb:=bnd (gb hs i);have ey:Hid (bv (gb hs i)=((gb hs i).toNat:Int)):=hide rfl
         have hy8:128≤bv (gb hs i):=by rw[ey.out];omega
         have hF64:F i<18446744073709551616:=by omega
         have hmul:(F (i+1):Int)*128<18446744073709551616:=by omega
         have hnew:(F (i+1):Int)*128+(bv (gb hs i)-128)=((F i:Nat):Int):=by rw[ey.out];omega
         have hsum:(F (i+1):Int)*128+(bv (gb hs i)-128)<18446744073709551616:=by omega
         replace hnew:=hide hnew;clear hsj hl0 hl1 hF64 hhj hj0
         generalize gb hs i=y at *
         generalize hf1:F (i+1)=f1 at *
         go_wp2
         refine⟨⟨i,by omega,by rw[←hnew.out],rfl,trivial⟩,?_⟩
         simp[intOf]
   ·have hfin:Hid (nres p (rd 0 (bs.drop p))=.tuple #[.int .u64 0,.int .i64 0,.int .i64 (if k=10 then 70 else 73)]):=hide (by
     by_cases h10:k=10
     ·have hspl:bs.drop p=hs++bs.drop (p+k):=by rw[←hhs,←List.drop_drop,List.take_append_drop]
      rw[hspl,rd_ten hs 0 _ hall.out (by omega) (by omega),if_pos h10];rfl
     ·have hspl:bs.drop p=hs:=by rw[←hhs,List.take_of_length_le (by rw[List.length_drop];omega)]
      rw[hspl,rd_cut hs 0 hall.out (by omega),if_neg h10];rfl)
    clear hB hall hhs
    by_cases h10:k=10
    ·rw[if_pos h10] at hfin
     subst h10
     replace c1:=hide c1;replace c2:=hide c2;replace hsl:=hide hsl
     go_wp2
     go_ret3
     exact⟨by rw[hfin.out];rfl,Below.refl _ _⟩
    ·rw[if_neg h10] at hfin
     have d3:decide ((k:Int)<10)=true:=by simp;omega
     have d4:decide ((p:Int)+(k:Int)<(bs.length:Int))=false:=by simp;omega
     have d6:((k:Int)==10)=false:=by simp;omega
     have d7:((p:Int)+(k:Int)==(bs.length:Int))=true:=by simp;omega
     replace c1:=hide c1;replace c2:=hide c2;replace hsl:=hide hsl;replace h10:=hide h10
     go_wp2
     go_ret3
     exact⟨by rw[hfin.out];rfl,Below.refl _ _⟩
end Go.Proofs.YtmmlkfkpblokiaaGreatDoor
