import Derived.Test.YtmmlkfkpblokiaaGreatDoorQzPla
import Derived.Shelf.Unicode.DecodeSlow
import Derived.Deep.DeepBigQuietO
import Derived.Deep.CutBlock
import Derived.Deep.DeepCutAuto
import Derived.Deep.DeepMust
import Derived.Lib.ValidLaws
set_option maxRecDepth 100000
set_option maxHeartbeats 16000000
namespace Go.Proofs.YtmmlkfkpblokiaaGreatDoor
open Go Go.RowKit Go.Sort
attribute [local go_sem] setCell_drewN alloc_drewN
def Pv (W:World) (v:Value) (d:List B):Prop:=∃a,v=.slice a d.length d.length∧BysB W v d
theorem Pv.keep {W V:World} {v:Value} {d:List B} (h:Pv W v d) (hb:Below W.heap.size W V):Pv V v d:=by
 obtain⟨a,e,hB⟩:=h;exact⟨a,e,hB.keep hb⟩
def dr8 (a:Option Addr) (n k:Nat):Option Addr:=if n=k then a else a.map (·.add (k*1))
theorem bys_drop {W:World} {a:Option Addr} {d:List B} {n k m:Nat} (h:BysB W (.slice a n n) d) (hn:n=d.length) (hk:k+m=n):BysB W (.slice (dr8 a n k) m m) (d.drop k)∧m=(d.drop k).length:=by
 subst hn
 have:=bysB_mid h (show k≤d.length by omega) (Nat.le_refl _) (Nat.le_refl _)
 rw[List.take_of_length_le (by rw[List.length_drop];omega)] at this
 obtain rfl:m=d.length-k:=by omega
 exact⟨this,by rw[List.length_drop]⟩
theorem bys_full {W:World} {a:Option Addr} {c:Nat} {d:List B} (h:BysB W (.slice a d.length c) d):BysB W (.slice a d.length d.length) d:=by
 obtain⟨⟨ao,cap,e,hl,hc,hz⟩,h2,_⟩:=h
 injection e with e1 e2 e3
 subst e1
 refine⟨⟨a,d.length,by rw[bl_len],hl,hc,hz⟩,h2,fun a l c q hn=>?_⟩
 injection q with q1 q2 q3
 subst q1;subst hn
 rcases Nat.eq_zero_or_pos d.length with h0|h0
 ·omega
 ·obtain⟨b,off,ea,_⟩:=hc 0 (by rw[bl_len];exact h0)
  cases ea
theorem u8_get (d:List B) (j:Nat):((u8l d).getD j 0).toNat=(gb d j).toNat:=by
 unfold u8l gb;simp only[List.getD_eq_getElem?_getD,List.getElem?_map]
 cases d[j]? <;>rfl
theorem asc_first {d:List B} (h0:0<d.length) (h:(gb d 0).toNat<128):Asc8 d 1:=by
 match d,h0 with
 |b::r,_=>exact asc_one8 h
theorem u8_len (d:List B):(u8l d).length=d.length:=by unfold u8l;exact List.length_map _
theorem utD_lead {d:List B} {R:Bool} (hR:utD d=R) (h0:0<d.length) {x0 x1 x2 x3 X:Nat} (e0:(gb d 0).toNat=x0) (e1:(gb d 1).toNat=x1) (e2:(gb d 2).toNat=x2) (e3:(gb d 3).toNat=x3) (eX:Lib.firstT x0=X) (h:128≤x0):
 R=match Lib.checkN d.length x1 x2 x3 (X%8) (Lib.accLo (X/16)) (Lib.accHi (X/16)) with
  |none=>false
  |some k=>utD (d.drop k):=by
 have:=Lib.validD_lead (u8l d) (fun e=>by rw[←u8_len,e] at h0;simp at h0) (by rw[u8_get,e0];exact h)
 rw[u8_get,u8_get,u8_get,u8_get,e0,e1,e2,e3,eX,u8_len] at this;rw[←hR];unfold utD;rw[this]
 cases Lib.checkN d.length x1 x2 x3 (X%8) (Lib.accLo (X/16)) (Lib.accHi (X/16)) with
 |none=>rfl
 |some k=>
  show Lib.validD _=Lib.validD _
  unfold u8l;rw[List.map_drop]
theorem and7b:∀X:Fin 256,bits .and .u8 ((X.val:Nat):Int) 7=((X.val%8:Nat):Int):=by decide
theorem below_drewN8 {B:Nat} {a w:World} (h:Below B a w):∀q,Below B a (w.drewN q)
 |0=>h
 |q+1=>(below_drewN8 h q).drew
def slenV:Value→Nat
 | .slice _ n _=>n
 |_=>0
theorem wd8 {W:World} {a:Option Addr} {n:Nat} {d:List B} (hB:BysB W (.slice a n n) d) (hn:n=d.length) (h8:8≤n):∃A:Nat,A<18446744073709551616∧(A&&&9259542123273814144=0→Asc8 d 8)∧
 ∀q,Calls Tryz.prog 139 #[.slice a n n] (W.drewN q) fun e w'=>e=.returned (.int .u64 (A:Int))∧∃p,w'=(W.drewN q).drewN p:=by
 obtain⟨A,h1,h2,h3⟩:=word_of hB (by omega)
 exact⟨A,h1,h2.1,fun q=>h3 _ (below_drewN8 (Below.refl _ _) q)⟩
theorem bysB_nil (W:World) (a:Option Addr):BysB W (.slice a 0 0) []:=⟨⟨a,0,rfl,by decide,fun j hj=>by simp[bl] at hj,bl_bnd _⟩,by decide,fun a l c h _=>by cases h;rfl⟩
theorem bys_drop2 {W:World} {b o n k:Nat} {d:List B} (hB:BysB W (.slice (some ⟨b,o,none⟩) n n) d) (hn:n=d.length) (hk:k<n):BysB W (.slice (some ⟨b,o+k,none⟩) (n-k) (n-k)) (d.drop k)∧n-k=(d.drop k).length:=by
 have q:=bys_drop hB hn (show k+(n-k)=n by omega)
 unfold dr8 at q
 rw[if_neg (by omega)] at q
 have e:(some ⟨b,o,none⟩:Option Addr).map (·.add (k*1))=some ⟨b,o+k,none⟩:=by simp[Addr.add]
 rw[e] at q;exact q
def bad2 (n x1 lo hi:Nat):Bool:=decide (n<2∨x1<lo∨hi<x1)
def bad3 (n x1 x2 lo hi:Nat):Bool:=decide (n<3∨x1<lo∨hi<x1∨x2<128∨191<x2)
def bad4 (n x1 x2 x3 lo hi:Nat):Bool:=decide (n<4∨x1<lo∨hi<x1∨x2<128∨191<x2∨x3<128∨191<x3)
def fLoop:Code→Option Code
 | .loop c=>some c
 | .seq a b=>match fLoop a with
  |some c=>some c
  |none=>fLoop b
 | .block _ c=>fLoop c
 | .scope c=>fLoop c
 | .cond _ a b=>match fLoop a with
  |some c=>some c
  |none=>fLoop b
 |_=>none
noncomputable def bodyV:Code:=((Tryz.f122.body.bind fLoop).getD .skip)
theorem v_asc {wr:World} {b off N:Nat} {d':List B} {R:Bool} {u2 u3 u4 u5 u6 u7 u8 u9 u10 u11 u12 u13 u14 u15 u16 u17 u18 u19 u20 u21 u22 u23 u24 u25 u26 u27 u28 u29 u30 u31 u32 u33 u34 u35 u36 u37 u38 u39 u40 u41 u42 u43 u44 u45 u46 u47 u48 u49 u50 u51 u52 u53 u54 u55 u56 u57 u58 u59 u60 u61 u62 u63 u64 u65 u66 u67 u68 u69 u70 u71 u72 u73 u74 u75 u76 u77 u78 u79 u80 u81 u82 u83 u84 u85 u86 u87 u88 u89 u90 u91 u92 u93 u94 u95 u96 u97 u98 u99 u100 u101 u102 u103 u104 u105 u106 u107 u108 u109 u110 u111 u112 u113 u114 u115 u116 u117 u118 u119 u120 u121 u122 u123 u124 u125 u126 u127 u128 u129 u130 u131 u132 u133 u134 u135 u136 u137 u138 u139 u140 u141 u142 u143 u144 u145 u146 u147 u148 u149 u150 u151 u152 u153 u154 u155 u156 u157 u158 u159 u160 u161 u162 u163 u164 u165 u166 u167 u168 u169 u170 u171 u172 u173 u174 u175 u176 u177 u178 u179 u180 u181 u182 u183 u184 u185 u186 u187:Value} {Kn:Act→World→Prop} {Q0:Exit→Act→World→Prop} (hB:BysB wr (.slice (some ⟨b,off,none⟩) N N) d') (hN:N=d'.length) (hR:utD d'=R) (hl:N≤140737488355000) (h0:0<N) (hasc0:(gb d' 0).toNat<128)
 (hK:∀{p y2 y3 y4 y5 y6 y13 y14 y15 y16 y17 y18 y19 y20 y21 y22 y23 y24 y25 y26 y27 y28 y29 y30 y31 y32 y33 y34 y35 y36 y37 y38 y39 y40 y41 y42 y43 y44 y45 y46 y47 y48 y49 y50 y51 y52 y53 y54 y55 y56 y57 y58 y59 y60 y61 y62 y63 y64 y65 y66 y67 y68 y69 y70 y71 y72 y73 y74 y75 y76 y77 y78 y79 y80 y81 y82 y83 y84 y85 y86 y87 y88 y89 y90 y91 y92 y93 y94 y95 y96 y97 y98 y99 y100 y101 y102 y103 y104 y105 y106 y107 y108 y109 y110 y111 y112 y113 y114 y115 y116 y117 y118 y119 y120 y121 y122 y123 y124 y125 y126 y127 y128 y129 y130 y131 y132 y133 y134 y135 y136 y137 y138 y139 y140 y141 y142 y143 y144 y145 y146 y147 y148 y149 y150 y151 y152 y153 y154 y155 y156 y157 y158 y159 y160 y161 y162 y163 y164 y165 y166 y167 y168 y169 y170 y171 y172 y173 y174 y175 y176 y177 y178 y179 y180 y181 y182 y183 y184 y185 y186 y187:Value} {W:World} {d'':List B},RowKit.Below wr.heap.size wr W→Pv W p d''→d''.length≤140737488355000→utD d''=R→slenV p<N→Kn ⟨#[p,undef,y2,y3,y4,y5,y6,u7,u8,u9,u10,u11,u12,y13,y14,y15,y16,y17,y18,y19,y20,y21,y22,y23,y24,y25,y26,y27,y28,y29,y30,y31,y32,y33,y34,y35,y36,y37,y38,y39,y40,y41,y42,y43,y44,y45,y46,y47,y48,y49,y50,y51,y52,y53,y54,y55,y56,y57,y58,y59,y60,y61,y62,y63,y64,y65,y66,y67,y68,y69,y70,y71,y72,y73,y74,y75,y76,y77,y78,y79,y80,y81,y82,y83,y84,y85,y86,y87,y88,y89,y90,y91,y92,y93,y94,y95,y96,y97,y98,y99,y100,y101,y102,y103,y104,y105,y106,y107,y108,y109,y110,y111,y112,y113,y114,y115,y116,y117,y118,y119,y120,y121,y122,y123,y124,y125,y126,y127,y128,y129,y130,y131,y132,y133,y134,y135,y136,y137,y138,y139,y140,y141,y142,y143,y144,y145,y146,y147,y148,y149,y150,y151,y152,y153,y154,y155,y156,y157,y158,y159,y160,y161,y162,y163,y164,y165,y166,y167,y168,y169,y170,y171,y172,y173,y174,y175,y176,y177,y178,y179,y180,y181,y182,y183,y184,y185,y186,y187],[]⟩ W)
 :
 Code.wp Tryz.prog bodyV (Exit.then Kn Q0) ⟨#[.slice (some ⟨b,off,none⟩) N N,undef,u2,u3,u4,u5,u6,u7,u8,u9,u10,u11,u12,u13,u14,u15,u16,u17,u18,u19,u20,u21,u22,u23,u24,u25,u26,u27,u28,u29,u30,u31,u32,u33,u34,u35,u36,u37,u38,u39,u40,u41,u42,u43,u44,u45,u46,u47,u48,u49,u50,u51,u52,u53,u54,u55,u56,u57,u58,u59,u60,u61,u62,u63,u64,u65,u66,u67,u68,u69,u70,u71,u72,u73,u74,u75,u76,u77,u78,u79,u80,u81,u82,u83,u84,u85,u86,u87,u88,u89,u90,u91,u92,u93,u94,u95,u96,u97,u98,u99,u100,u101,u102,u103,u104,u105,u106,u107,u108,u109,u110,u111,u112,u113,u114,u115,u116,u117,u118,u119,u120,u121,u122,u123,u124,u125,u126,u127,u128,u129,u130,u131,u132,u133,u134,u135,u136,u137,u138,u139,u140,u141,u142,u143,u144,u145,u146,u147,u148,u149,u150,u151,u152,u153,u154,u155,u156,u157,u158,u159,u160,u161,u162,u163,u164,u165,u166,u167,u168,u169,u170,u171,u172,u173,u174,u175,u176,u177,u178,u179,u180,u181,u182,u183,u184,u185,u186,u187],[]⟩ wr:=by
 conv=>arg 2;whnf
 obtain⟨_,_,e_,hnn,hblt,hcell⟩:=bys_cell hB (by omega)
 injection e_ with e_
 injection e_ with e_1 e_2
 subst e_1 e_2;clear hnn;have hbw:=Below.refl wr.heap.size wr
 have c0:wr.cell? ⟨b,off,none⟩=some (.int .u8 ((gb d' 0).toNat:Int)):=hcell 0 (by omega)
 obtain⟨x0,e0⟩:∃x0,(gb d' 0).toNat=x0:=⟨_,rfl⟩
 have hx0:x0<256:=by rw[←e0];exact(gb d' 0).isLt
 rw[e0] at c0
 have hpos:(0:Int)<(N:Int):=by omega
 have hasc:x0<128:=by rw[←e0];exact hasc0
 have hd1:(x0:Int)<128:=by omega
 have hR1:=(asc_skip (asc_first (by omega) (by rw[e0];exact hasc))).trans hR
 by_cases hN1:N=1
 ·have hz:d'.drop 1=[]:=by rw[List.drop_eq_nil_iff];omega
  subst hN1
  clear hcell hR e0 hB
  have hlt:slenV (.slice (some ⟨b,off,none⟩) 0 0)<slenV (.slice (some ⟨b,off,none⟩) 1 1):=by show 0<1;decide
  replace hN:=hide hN
  go_wp2_with (fail)
  exact hK hbw ⟨some ⟨b,off,none⟩,rfl,bysB_nil _ _⟩ (by decide) (by rw[←hz];exact hR1) hlt
 obtain⟨hB1,hn1⟩:=bys_drop2 hB hN (show 1<N by omega)
 have hlt1:N-1<N:=by omega
 generalize d'.drop 1=d1 at *
 replace hN:=hide hN;clear hcell hB hR e0;replace hn1:=hide hn1;replace hlt1:=hide hlt1
 go_upto_region 6 with(fail)
 generalize off+1=o1 at *
 generalize N-1=m1 at *
 replace hlt1:=hlt1.out;clear c0 hN1
 by_cases c8:8<m1
 ·have c8z:(8:Int)<(m1:Int):=by omega
  obtain⟨A1,lA1,kA1,cW1⟩:=wd8 hB1 hn1.out (by omega)
  have hand1:bits .and .u64 (A1:Int) 9259542123273814144=((A1&&&9259542123273814144:Nat):Int):=u64_and_nat A1 9259542123273814144 lA1 (by omega)
  generalize A1&&&9259542123273814144=Z1 at *
  have hbq:=fun q=>below_drewN8 (Below.refl wr.heap.size wr) q
  have cW10:Calls Tryz.prog 139 #[.slice (some ⟨b,o1,none⟩) m1 m1] wr fun e w'=>e=.returned (.int .u64 (A1:Int))∧∃p,w'=wr.drewN p:=cW1 0
  clear cW1
  by_cases hz1:Z1=0
  ·have hz1b:((Z1:Int)==0)=true:=by simp[hz1]
   have hR2:=(asc_skip (kA1 hz1)).trans hR1
   obtain⟨hB2,hn2⟩:=bys_drop2 hB1 hn1.out c8
   generalize d1.drop 8=d2 at *
   replace hn2:=hide hn2
   have hlt2:Hid (m1-8<N):=hide (by omega)
   clear kA1 hB1 hR1 hn1
   go_wp2_with (fail)
   refine cW10.mono ?_;rintro e W1 ⟨rfl,q1,rfl⟩;have hb1:RowKit.Below wr.heap.size wr (wr.drewN q1):=below_drewN8 hbw q1;have hBq:=hB2.keep (hbq q1)
   generalize wr.drewN q1=wq at hb1 hBq⊢
   clear cW10 hbw hbq hB2 hblt
   go_upto_region 8 with(fail)
   generalize o1+8=o2 at *
   generalize m1-8=m2 at *
   replace hlt2:=hlt2.out;clear c8 c8z hlt1
   by_cases c16:16<m2
   ·have c16z:(16:Int)<(m2:Int):=by omega
    have s8z:(8:Int)≤(m2:Int):=by omega
    obtain⟨hBb,hnb⟩:=bys_drop2 hBq hn2.out (show 8<m2 by omega)
    obtain⟨A2,lA2,kA2,cW2⟩:=wd8 hBq hn2.out (by omega)
    obtain⟨A3,lA3,kA3,cW3⟩:=wd8 hBb hnb (by omega)
    have hor2:bits .or .u64 (A2:Int) (A3:Int)=((A2|||A3:Nat):Int):=u64_or_nat A2 A3 lA2 lA3
    have lor2:A2|||A3<18446744073709551616:=Nat.or_lt_two_pow (n:=64) lA2 lA3
    have hand2:bits .and .u64 ((A2|||A3:Nat):Int) 9259542123273814144=(((A2|||A3)&&&9259542123273814144:Nat):Int):=u64_and_nat _ 9259542123273814144 lor2 (by omega)
    have k2:(A2|||A3)&&&9259542123273814144=0→Asc8 d2 16:=fun h0'=>by
     obtain⟨e1,e2⟩:=(Lib.or_mask A2 A3 _).1 h0';exact asc_add8 (kA2 e1) (kA3 e2)
    clear kA2 kA3 hnb hBb
    generalize A2|||A3=O2 at *
    generalize O2&&&9259542123273814144=Z2 at *
    have hbq:=fun q=>below_drewN8 (Below.refl wq.heap.size wq) q
    by_cases hz2:Z2=0
    ·have hz2b:((Z2:Int)==0)=true:=by simp[hz2]
     have hR3:=(asc_skip (k2 hz2)).trans hR2
     obtain⟨hB3,hn3⟩:=bys_drop2 hBq hn2.out c16
     generalize d2.drop 16=d3 at *
     have hlt3:Hid (m2-16<N):=hide (by omega)
     replace hn3:=hide hn3;clear k2 hBq hR2 hn2 lor2
     go_big_quiet (first|(with_reducible refine Calls.quiet_of (cW2 _))|(with_reducible refine Calls.quiet_of (cW3 _)))
     have hb2:RowKit.Below wr.heap.size wr (wq.drewN nq):=below_drewN8 hb1 nq;replace hB3:=hB3.keep (hbq nq)
     generalize wq.drewN nq=wq2 at hb2 hB3⊢
     clear cW2 cW3 hb1 hbq
     go_wp2_with (fail)
     generalize o2+16=o3 at *
     generalize m2-16=m3 at *
     replace hlt3:=hlt3.out;clear c16 c16z s8z hlt2
     skip
     go_loopw [0] (fun p wx=>RowKit.Below wr.heap.size wr wx∧∃u:List B,Pv wx p u∧u.length≤m3∧utD u=R) (fun p _=>slenV p)
     case atStart=>exact⟨hb2,d3,⟨some ⟨b,o3,none⟩,by rw[←hn3.out],hB3⟩,by have:=hn3.out;omega,hR3⟩
     case round=>
      clear hb2 hB3 hn3 hR3;obtain⟨hbu,u,⟨au,rfl,hBu⟩,hul,hRu⟩:=hrel
      generalize hnu:u.length=m at *
      replace hnu:=hnu.symm
      have hltm:Hid (m<N):=hide (by omega)
      by_cases c32:32<m
      ·obtain⟨bu,ou,rfl,hnn,_,_⟩:=bys_cell hBu (by omega)
       clear hnn
       have c32z:(32:Int)<(m:Int):=by omega
       have s8z:(8:Int)≤(m:Int):=by omega
       have s16z:(16:Int)≤(m:Int):=by omega
       have s24z:(24:Int)≤(m:Int):=by omega
       obtain⟨hB4,hn4⟩:=bys_drop2 hBu hnu c32
       obtain⟨hBb1,hnb1⟩:=bys_drop2 hBu hnu (show 8<m by omega)
       obtain⟨hBb2,hnb2⟩:=bys_drop2 hBu hnu (show 16<m by omega)
       obtain⟨hBb3,hnb3⟩:=bys_drop2 hBu hnu (show 24<m by omega)
       obtain⟨B0,lB0,kB0,cB0⟩:=wd8 hBu hnu (by omega)
       obtain⟨B1,lB1,kB1,cB1⟩:=wd8 hBb1 hnb1 (by omega)
       obtain⟨B2,lB2,kB2,cB2⟩:=wd8 hBb2 hnb2 (by omega)
       obtain⟨B3,lB3,kB3,cB3⟩:=wd8 hBb3 hnb3 (by omega)
       have ho1:bits .or .u64 (B0:Int) (B1:Int)=((B0|||B1:Nat):Int):=u64_or_nat B0 B1 lB0 lB1
       have ho2:bits .or .u64 (B2:Int) (B3:Int)=((B2|||B3:Nat):Int):=u64_or_nat B2 B3 lB2 lB3
       have lo1:B0|||B1<18446744073709551616:=Nat.or_lt_two_pow (n:=64) lB0 lB1
       have lo2:B2|||B3<18446744073709551616:=Nat.or_lt_two_pow (n:=64) lB2 lB3
       have ho3:bits .or .u64 ((B0|||B1:Nat):Int) ((B2|||B3:Nat):Int)=(((B0|||B1)|||(B2|||B3):Nat):Int):=u64_or_nat _ _ lo1 lo2
       have lo3:(B0|||B1)|||(B2|||B3)<18446744073709551616:=Nat.or_lt_two_pow (n:=64) lo1 lo2
       have hand3:bits .and .u64 (((B0|||B1)|||(B2|||B3):Nat):Int) 9259542123273814144=((((B0|||B1)|||(B2|||B3))&&&9259542123273814144:Nat):Int):=u64_and_nat _ 9259542123273814144 lo3 (by omega)
       have k3:((B0|||B1)|||(B2|||B3))&&&9259542123273814144=0→Asc8 u 32:=fun h0'=>by
        obtain⟨e01,e23⟩:=(Lib.or_mask _ _ _).1 h0';obtain⟨e0,e1⟩:=(Lib.or_mask _ _ _).1 e01;obtain⟨e2,e3⟩:=(Lib.or_mask _ _ _).1 e23;exact asc_add8 (a:=24) (asc_add8 (a:=16) (asc_add8 (kB0 e0) (kB1 e1)) (kB2 e2)) (kB3 e3)
       clear kB0 kB1 kB2 kB3 lo1 lo2 lo3 hnb1 hnb2 hnb3 hBb1 hBb2 hBb3 lB0 lB1 lB2 lB3
       generalize B0|||B1=P1 at *
       generalize B2|||B3=P2 at *
       generalize P1|||P2=P3 at *
       generalize P3&&&9259542123273814144=Z3 at *
       have hbq:=fun q=>below_drewN8 (Below.refl wr.heap.size wr) q
       have hlt4:Hid (m-32<m):=hide (by omega)
       replace hnu:=hide hnu;replace hn4:=hide hn4
       by_cases hz3:Z3=0
       ·have hz3b:((Z3:Int)==0)=true:=by simp[hz3]
        have hR4:=(asc_skip (k3 hz3)).trans hRu
        generalize u.drop 32=d4 at *
        clear k3 hBu hRu
        go_wp2_with (fail)
        go_big_quiet (first|(with_reducible refine Calls.quiet_of (cB0 _))|(with_reducible refine Calls.quiet_of (cB1 _))|(with_reducible refine Calls.quiet_of (cB2 _))|(with_reducible refine Calls.quiet_of (cB3 _)))
        go_wp2_with (fail)
        generalize ou+32=o4 at *
        refine⟨⟨below_drewN8 hbu nq,d4,⟨some ⟨bu,o4,none⟩,by rw[←hn4.out],hB4.keep (hbq nq)⟩,by have:=hn4.out;omega,hR4⟩,?_⟩
        exact hlt4.out
       ·have hz3b:((Z3:Int)==0)=false:=by simp;omega
        clear k3
        go_wp2_with (fail)
        go_big_quiet (first|(with_reducible refine Calls.quiet_of (cB0 _))|(with_reducible refine Calls.quiet_of (cB1 _))|(with_reducible refine Calls.quiet_of (cB2 _))|(with_reducible refine Calls.quiet_of (cB3 _)))
        go_wp2_with (fail)
        exact hK (below_drewN8 hbu nq) ⟨some ⟨bu,ou,none⟩,by rw[←hnu.out],hBu.keep (hbq nq)⟩ (by have:=hnu.out;omega) hRu hltm.out
      ·have c32b:decide ((m:Int)>32)=false:=by simp;omega
       have c32c:decide ((32:Int)<(m:Int))=false:=by simp;omega
       replace hnu:=hide hnu
       go_wp2_with (fail)
       go_big_quiet (fail)
       go_wp2_with (fail)
       exact hK (below_drewN8 hbu nq) ⟨au,by rw[←hnu.out],hBu.keep (below_drewN8 (Below.refl wr.heap.size wr) nq)⟩ (by have:=hnu.out;omega) hRu hltm.out
    ·have hz2b:((Z2:Int)==0)=false:=by simp;omega
     clear k2
     go_big_quiet (first|(with_reducible refine Calls.quiet_of (cW2 _))|(with_reducible refine Calls.quiet_of (cW3 _)))
     go_wp2_with (fail)
     exact hK (below_drewN8 hb1 nq) ⟨some ⟨b,o2,none⟩,by rw[←hn2.out],hBq.keep (hbq nq)⟩ (by have:=hn2.out;omega) hR2 hlt2
   ·have c16b:decide ((m2:Int)>16)=false:=by simp;omega
    have c16c:decide ((16:Int)<(m2:Int))=false:=by simp;omega
    go_big_quiet (fail)
    go_wp2_with (fail)
    exact hK (below_drewN8 hb1 nq) ⟨some ⟨b,o2,none⟩,by rw[←hn2.out],hBq.keep (below_drewN8 (Below.refl wq.heap.size wq) nq)⟩ (by have:=hn2.out;omega) hR2 hlt2
  ·have hz1b:((Z1:Int)==0)=false:=by simp;omega
   clear kA1
   go_wp2_with (fail)
   refine cW10.mono ?_;rintro e W1 ⟨rfl,q1,rfl⟩
   go_wp2_with (fail)
   exact hK (below_drewN8 hbw q1) ⟨some ⟨b,o1,none⟩,by rw[←hn1.out],hB1.keep (hbq q1)⟩ (by have:=hn1.out;omega) hR1 hlt1
 ·have c8b:decide ((m1:Int)>8)=false:=by simp;omega
  go_wp2_with (fail)
  exact hK (hbw) ⟨some ⟨b,o1,none⟩,by rw[←hn1.out],hB1⟩ (by have:=hn1.out;omega) hR1 hlt1
theorem v_lead {wr:World} {b off N:Nat} {d':List B} {R:Bool} {u2 u3 u4 u5 u6 u7 u8 u9 u10 u11 u12 u13 u14 u15 u16 u17 u18 u19 u20 u21 u22 u23 u24 u25 u26 u27 u28 u29 u30 u31 u32 u33 u34 u35 u36 u37 u38 u39 u40 u41 u42 u43 u44 u45 u46 u47 u48 u49 u50 u51 u52 u53 u54 u55 u56 u57 u58 u59 u60 u61 u62 u63 u64 u65 u66 u67 u68 u69 u70 u71 u72 u73 u74 u75 u76 u77 u78 u79 u80 u81 u82 u83 u84 u85 u86 u87 u88 u89 u90 u91 u92 u93 u94 u95 u96 u97 u98 u99 u100 u101 u102 u103 u104 u105 u106 u107 u108 u109 u110 u111 u112 u113 u114 u115 u116 u117 u118 u119 u120 u121 u122 u123 u124 u125 u126 u127 u128 u129 u130 u131 u132 u133 u134 u135 u136 u137 u138 u139 u140 u141 u142 u143 u144 u145 u146 u147 u148 u149 u150 u151 u152 u153 u154 u155 u156 u157 u158 u159 u160 u161 u162 u163 u164 u165 u166 u167 u168 u169 u170 u171 u172 u173 u174 u175 u176 u177 u178 u179 u180 u181 u182 u183 u184 u185 u186 u187:Value} {Kn:Act→World→Prop} {Q0:Exit→Act→World→Prop} (hB:BysB wr (.slice (some ⟨b,off,none⟩) N N) d') (hN:N=d'.length) (hR:utD d'=R) (hTr:Lib.Utf8Tabs 2 3 wr) (hl:N≤140737488355000) (h0:0<N) (hasc0:128≤(gb d' 0).toNat)
 (hK:∀{p y2 y3 y4 y5 y6 y13 y14 y15 y16 y17 y18 y19 y20 y21 y22 y23 y24 y25 y26 y27 y28 y29 y30 y31 y32 y33 y34 y35 y36 y37 y38 y39 y40 y41 y42 y43 y44 y45 y46 y47 y48 y49 y50 y51 y52 y53 y54 y55 y56 y57 y58 y59 y60 y61 y62 y63 y64 y65 y66 y67 y68 y69 y70 y71 y72 y73 y74 y75 y76 y77 y78 y79 y80 y81 y82 y83 y84 y85 y86 y87 y88 y89 y90 y91 y92 y93 y94 y95 y96 y97 y98 y99 y100 y101 y102 y103 y104 y105 y106 y107 y108 y109 y110 y111 y112 y113 y114 y115 y116 y117 y118 y119 y120 y121 y122 y123 y124 y125 y126 y127 y128 y129 y130 y131 y132 y133 y134 y135 y136 y137 y138 y139 y140 y141 y142 y143 y144 y145 y146 y147 y148 y149 y150 y151 y152 y153 y154 y155 y156 y157 y158 y159 y160 y161 y162 y163 y164 y165 y166 y167 y168 y169 y170 y171 y172 y173 y174 y175 y176 y177 y178 y179 y180 y181 y182 y183 y184 y185 y186 y187:Value} {W:World} {d'':List B},RowKit.Below wr.heap.size wr W→Pv W p d''→d''.length≤140737488355000→utD d''=R→slenV p<N→Kn ⟨#[p,undef,y2,y3,y4,y5,y6,u7,u8,u9,u10,u11,u12,y13,y14,y15,y16,y17,y18,y19,y20,y21,y22,y23,y24,y25,y26,y27,y28,y29,y30,y31,y32,y33,y34,y35,y36,y37,y38,y39,y40,y41,y42,y43,y44,y45,y46,y47,y48,y49,y50,y51,y52,y53,y54,y55,y56,y57,y58,y59,y60,y61,y62,y63,y64,y65,y66,y67,y68,y69,y70,y71,y72,y73,y74,y75,y76,y77,y78,y79,y80,y81,y82,y83,y84,y85,y86,y87,y88,y89,y90,y91,y92,y93,y94,y95,y96,y97,y98,y99,y100,y101,y102,y103,y104,y105,y106,y107,y108,y109,y110,y111,y112,y113,y114,y115,y116,y117,y118,y119,y120,y121,y122,y123,y124,y125,y126,y127,y128,y129,y130,y131,y132,y133,y134,y135,y136,y137,y138,y139,y140,y141,y142,y143,y144,y145,y146,y147,y148,y149,y150,y151,y152,y153,y154,y155,y156,y157,y158,y159,y160,y161,y162,y163,y164,y165,y166,y167,y168,y169,y170,y171,y172,y173,y174,y175,y176,y177,y178,y179,y180,y181,y182,y183,y184,y185,y186,y187],[]⟩ W)
 (hQ:∀{y0 y3 y4 y5 y6 y13 y14 y15 y16 y17 y18 y19 y20 y21 y22 y23 y24 y25 y26 y27 y28 y29 y30 y31 y32 y33 y34 y35 y36 y37 y38 y39 y40 y41 y42 y43 y44 y45 y46 y47 y48 y49 y50 y51 y52 y53 y54 y55 y56 y57 y58 y59 y60 y61 y62 y63 y64 y65 y66 y67 y68 y69 y70 y71 y72 y73 y74 y75 y76 y77 y78 y79 y80 y81 y82 y83 y84 y85 y86 y87 y88 y89 y90 y91 y92 y93 y94 y95 y96 y97 y98 y99 y100 y101 y102 y103 y104 y105 y106 y107 y108 y109 y110 y111 y112 y113 y114 y115 y116 y117 y118 y119 y120 y121 y122 y123 y124 y125 y126 y127 y128 y129 y130 y131 y132 y133 y134 y135 y136 y137 y138 y139 y140 y141 y142 y143 y144 y145 y146 y147 y148 y149 y150 y151 y152 y153 y154 y155 y156 y157 y158 y159 y160 y161 y162 y163 y164 y165 y166 y167 y168 y169 y170 y171 y172 y173 y174 y175 y176 y177 y178 y179 y180 y181 y182 y183 y184 y185 y186 y187:Value} {W:World},R=false→RowKit.Below wr.heap.size wr W→Q0 .ret ⟨#[y0,undef,.bool false,y3,y4,y5,y6,u7,u8,u9,u10,u11,u12,y13,y14,y15,y16,y17,y18,y19,y20,y21,y22,y23,y24,y25,y26,y27,y28,y29,y30,y31,y32,y33,y34,y35,y36,y37,y38,y39,y40,y41,y42,y43,y44,y45,y46,y47,y48,y49,y50,y51,y52,y53,y54,y55,y56,y57,y58,y59,y60,y61,y62,y63,y64,y65,y66,y67,y68,y69,y70,y71,y72,y73,y74,y75,y76,y77,y78,y79,y80,y81,y82,y83,y84,y85,y86,y87,y88,y89,y90,y91,y92,y93,y94,y95,y96,y97,y98,y99,y100,y101,y102,y103,y104,y105,y106,y107,y108,y109,y110,y111,y112,y113,y114,y115,y116,y117,y118,y119,y120,y121,y122,y123,y124,y125,y126,y127,y128,y129,y130,y131,y132,y133,y134,y135,y136,y137,y138,y139,y140,y141,y142,y143,y144,y145,y146,y147,y148,y149,y150,y151,y152,y153,y154,y155,y156,y157,y158,y159,y160,y161,y162,y163,y164,y165,y166,y167,y168,y169,y170,y171,y172,y173,y174,y175,y176,y177,y178,y179,y180,y181,y182,y183,y184,y185,y186,y187],[]⟩ W):
 Code.wp Tryz.prog bodyV (Exit.then Kn Q0) ⟨#[.slice (some ⟨b,off,none⟩) N N,undef,u2,u3,u4,u5,u6,u7,u8,u9,u10,u11,u12,u13,u14,u15,u16,u17,u18,u19,u20,u21,u22,u23,u24,u25,u26,u27,u28,u29,u30,u31,u32,u33,u34,u35,u36,u37,u38,u39,u40,u41,u42,u43,u44,u45,u46,u47,u48,u49,u50,u51,u52,u53,u54,u55,u56,u57,u58,u59,u60,u61,u62,u63,u64,u65,u66,u67,u68,u69,u70,u71,u72,u73,u74,u75,u76,u77,u78,u79,u80,u81,u82,u83,u84,u85,u86,u87,u88,u89,u90,u91,u92,u93,u94,u95,u96,u97,u98,u99,u100,u101,u102,u103,u104,u105,u106,u107,u108,u109,u110,u111,u112,u113,u114,u115,u116,u117,u118,u119,u120,u121,u122,u123,u124,u125,u126,u127,u128,u129,u130,u131,u132,u133,u134,u135,u136,u137,u138,u139,u140,u141,u142,u143,u144,u145,u146,u147,u148,u149,u150,u151,u152,u153,u154,u155,u156,u157,u158,u159,u160,u161,u162,u163,u164,u165,u166,u167,u168,u169,u170,u171,u172,u173,u174,u175,u176,u177,u178,u179,u180,u181,u182,u183,u184,u185,u186,u187],[]⟩ wr:=by
 conv=>arg 2;whnf
 obtain⟨_,_,e_,hnn,hblt,hcell⟩:=bys_cell hB (by omega)
 injection e_ with e_
 injection e_ with e_1 e_2
 subst e_1 e_2;clear hnn;have hbw:=Below.refl wr.heap.size wr
 have c0:wr.cell? ⟨b,off,none⟩=some (.int .u8 ((gb d' 0).toNat:Int)):=hcell 0 (by omega)
 obtain⟨x0,e0⟩:∃x0,(gb d' 0).toNat=x0:=⟨_,rfl⟩
 have hx0:x0<256:=by rw[←e0];exact(gb d' 0).isLt
 rw[e0] at c0
 have hpos:(0:Int)<(N:Int):=by omega
 have hasc:¬x0<128:=by rw[←e0];omega
 have hd1:¬(x0:Int)<128:=by omega
 obtain⟨x1,e1⟩:∃x,(gb d' 1).toNat=x:=⟨_,rfl⟩;obtain⟨x2,e2⟩:∃x,(gb d' 2).toNat=x:=⟨_,rfl⟩;obtain⟨x3,e3⟩:∃x,(gb d' 3).toNat=x:=⟨_,rfl⟩;obtain⟨X,eX⟩:∃X,Lib.firstT x0=X:=⟨_,rfl⟩
 have hlead:=utD_lead hR (by omega) e0 e1 e2 e3 eX (by omega)
 rw[←hN] at hlead
 have l1:x1<256:=by rw[←e1];exact(gb d' 1).isLt
 have l2:x2<256:=by rw[←e2];exact(gb d' 2).isLt
 have l3:x3<256:=by rw[←e3];exact(gb d' 3).isLt
 have hXlt:X<256:=by rw[←eX];rcases Lib.firstT_cases x0 with h|h|h|h|h|h|h|h|h<;>omega
 have hcX:=hTr.1 x0 hx0;rw[eX] at hcX;have h7:=and7b ⟨X,hXlt⟩;simp only at h7
 have ha0:wr.cell? ⟨3,X/16*2,none⟩=some (.int .u8 (Lib.accLo (X/16))):=by rw[Nat.mul_comm];exact(hTr.2 (X/16) (by omega)).1
 have ha1:wr.cell? ⟨3,X/16*2+1,none⟩=some (.int .u8 (Lib.accHi (X/16))):=by rw[Nat.mul_comm];exact(hTr.2 (X/16) (by omega)).2
 obtain⟨LO,hLO⟩:∃LO,Lib.accLo (X/16)=LO:=⟨_,rfl⟩;obtain⟨HI,hHI⟩:∃HI,Lib.accHi (X/16)=HI:=⟨_,rfl⟩;rw[hLO] at ha0 hlead;rw[hHI] at ha1 hlead;obtain⟨SZ,hSZ⟩:∃SZ,X%8=SZ:=⟨_,rfl⟩;rw[hSZ] at hlead h7
 have c1:1<N→wr.cell? ⟨b,off+1,none⟩=some (.int .u8 (x1:Int)):=fun h=>by rw[←e1];exact hcell 1 (by omega)
 have c2:2<N→wr.cell? ⟨b,off+2,none⟩=some (.int .u8 (x2:Int)):=fun h=>by rw[←e2];exact hcell 2 (by omega)
 have c3:3<N→wr.cell? ⟨b,off+3,none⟩=some (.int .u8 (x3:Int)):=fun h=>by rw[←e3];exact hcell 3 (by omega)
 have cc:=hide (And.intro c1 (And.intro c2 c3));replace hN:=hide hN;replace hlead:=hide hlead;have hB9:=hide hB;clear hcell e0 e1 e2 e3 eX hLO hHI hTr hR hB c1 c2 c3;replace hSZ:=hide hSZ
 have hS8:SZ<8:=by have:=hSZ.out;omega
 have hbA:RowKit.Below wr.heap.size wr (wr.alloc (.cells #[.int .u8 (LO:Int),.int .u8 (HI:Int)] 223)):=(Below.refl _ _).alloc (Nat.le_refl _) _;have rA:=hp1_0 wr (.cells #[.int .u8 (LO:Int),.int .u8 (HI:Int)] 223)
 have cLO:(wr.alloc (.cells #[.int .u8 (LO:Int),.int .u8 (HI:Int)] 223)).cell? ⟨wr.heap.size,0,none⟩=some (Value.int .u8 (LO:Int)):=by rw[cell_of_row _ _ 0 _ _ _ rA];rfl
 have cHI:(wr.alloc (.cells #[.int .u8 (LO:Int),.int .u8 (HI:Int)] 223)).cell? ⟨wr.heap.size,1,none⟩=some (Value.int .u8 (HI:Int)):=by rw[cell_of_row _ _ 1 _ _ _ rA];rfl
 have cc2:=hide (And.intro (fun h=>(hbA.cell (p:=⟨b,off+1,none⟩) hblt).trans (cc.out.1 h)) (And.intro (fun h=>(hbA.cell (p:=⟨b,off+2,none⟩) hblt).trans (cc.out.2.1 h)) (fun h=>(hbA.cell (p:=⟨b,off+3,none⟩) hblt).trans (cc.out.2.2 h))))
 have hBA:=hide (hB9.out.keep hbA);have hbw1:=Below.after hbw hbA;clear cc hB9
 go_upto_region 15 with(fail)
 try rw[show wrap64 (SZ:Int)=(SZ:Int) by unfold wrap64;omega]
 generalize wr.alloc (.cells #[.int .u8 (LO:Int),.int .u8 (HI:Int)] 223)=W1 at *
 clear rA hbA hbw hblt c0 hcX ha0 ha1 h7
 by_cases s2:SZ=2
 ·subst s2
  have hl:=hlead.out
  simp only[Lib.checkN,Nat.reduceEqDiff,if_true,if_false] at hl;replace hl:=hide hl;clear hlead
  go_upto_region 18 with(fail)
  go_cut [103] from 85 to 103 (fun c_ wx=>c_=.bool (bad2 N x1 LO HI)∧RowKit.Below W1.heap.size W1 wx)
  case first=>
   refine wp_region_quiet_lit (by kernel_rfl) (by kernel_rfl) ?_
   iterate 2 (go_big_quiet_step (fail))
   by_cases q0:N<2
   ·have q0z:(N:Int)<2:=by omega
    have q0b:decide ((N:Int)<2)=true:=decide_eq_true q0z
    repeat (go_big_quiet_step (fail))
    refine wpQuiet_nil ?_;intro _ hw';obtain⟨nq,hw''⟩:=hw';subst hw''
    go_wp2_with (fail)
    go_meet
    exact⟨congrArg Value.bool (decide_eq_true (p:=N<2∨x1<LO∨HI<x1) (by omega)).symm,below_drewN8 (Below.refl _ _) _⟩
   ·have q0z:¬(N:Int)<2:=by omega
    have q0b:decide ((N:Int)<2)=false:=decide_eq_false q0z
    have hz1:(1:Int)<(N:Int):=by omega
    have hp1:1<N:=by omega
    have cx1:=cc2.out.1 hp1
    iterate 7 (go_big_quiet_step (fail))
    by_cases q1:x1<LO
    ·have q1z:(x1:Int)<(LO:Int):=by omega
     have q1b:decide ((x1:Int)<(LO:Int))=true:=decide_eq_true q1z
     repeat (go_big_quiet_step (fail))
     refine wpQuiet_nil ?_;intro _ hw';obtain⟨nq,hw''⟩:=hw';subst hw''
     go_wp2_with (fail)
     go_meet
     exact⟨congrArg Value.bool (decide_eq_true (p:=N<2∨x1<LO∨HI<x1) (by omega)).symm,below_drewN8 (Below.refl _ _) _⟩
    ·have q1z:¬(x1:Int)<(LO:Int):=by omega
     have q1b:decide ((x1:Int)<(LO:Int))=false:=decide_eq_false q1z
     iterate 8 (go_big_quiet_step (fail))
     by_cases q2:HI<x1
     ·have q2z:(HI:Int)<(x1:Int):=by omega
      have q2b:decide ((HI:Int)<(x1:Int))=true:=decide_eq_true q2z
      repeat (go_big_quiet_step (fail))
      refine wpQuiet_nil ?_;intro _ hw';obtain⟨nq,hw''⟩:=hw';subst hw''
      go_wp2_with (fail)
      go_meet
      exact⟨congrArg Value.bool (decide_eq_true (p:=N<2∨x1<LO∨HI<x1) (by omega)).symm,below_drewN8 (Below.refl _ _) _⟩
     ·have q2z:¬(HI:Int)<(x1:Int):=by omega
      have q2b:decide ((HI:Int)<(x1:Int))=false:=decide_eq_false q2z
      repeat (go_big_quiet_step (fail))
      refine wpQuiet_nil ?_;intro _ hw';obtain⟨nq,hw''⟩:=hw';subst hw''
      go_wp2_with (fail)
      go_meet
      exact⟨congrArg Value.bool (decide_eq_false (p:=N<2∨x1<LO∨HI<x1) (by omega)).symm,below_drewN8 (Below.refl _ _) _⟩
  case rest=>
   obtain⟨rfl,hbc⟩:=hcut;have hbc2:=Below.after hbw1 hbc
   rcases hbad:bad2 N x1 LO HI
   ·have hnb:=of_decide_eq_false hbad
    have hR4:=hl.out
    rw[if_neg hnb] at hR4
    change R=utD (d'.drop 2) at hR4
    by_cases hNe:N=2
    ·subst hNe
     have hz:d'.drop 2=[]:=by rw[List.drop_eq_nil_iff];have:=hN.out;omega
     rw[hz] at hR4;replace hR4:=hide hR4;replace hN:=hide hN;clear hnb hl hbad
     go_wp2_with (fail)
     exact hK hbc2 ⟨some ⟨b,off,none⟩,rfl,bysB_nil _ _⟩ (by decide) hR4.out.symm (show 0<2 by decide)
    ·obtain⟨hB4,hn4⟩:=bys_drop2 (hBA.out.keep hbc) hN.out (show 2<N by omega)
     have hkN:2<N:=by omega
     have hkNz:(2:Int)<(N:Int):=by omega
     have hlen:(d'.drop 2).length≤140737488355000:=by omega
     have hlt:N-2<N:=by omega
     replace hn4:=hide hn4;replace hR4:=hide hR4;replace hlt:=hide hlt
     generalize d'.drop 2=d4 at *
     clear hnb hl hbad
     go_wp2_with (fail)
     exact hK hbc2 ⟨some ⟨b,off+2,none⟩,by rw[←hn4.out],hB4⟩ hlen hR4.out.symm hlt.out
   ·have hnb:=of_decide_eq_true hbad
    have hR4:=hl.out
    rw[if_pos hnb] at hR4;replace hR4:=hide hR4;clear hnb hl
    go_wp2_with (fail)
    exact hQ hR4.out hbc2
 by_cases s3:SZ=3
 ·subst s3
  have hl:=hlead.out
  simp only[Lib.checkN,Nat.reduceEqDiff,if_true,if_false] at hl;replace hl:=hide hl;clear hlead
  go_upto_region 22 with(fail)
  go_cut [138] from 108 to 138 (fun c_ wx=>c_=.bool (bad3 N x1 x2 LO HI)∧RowKit.Below W1.heap.size W1 wx)
  case first=>
   refine wp_region_quiet_lit (by kernel_rfl) (by kernel_rfl) ?_
   iterate 2 (go_big_quiet_step (fail))
   by_cases q0:N<3
   ·have q0z:(N:Int)<3:=by omega
    have q0b:decide ((N:Int)<3)=true:=decide_eq_true q0z
    repeat (go_big_quiet_step (fail))
    refine wpQuiet_nil ?_;intro _ hw';obtain⟨nq,hw''⟩:=hw';subst hw''
    go_wp2_with (fail)
    go_meet
    exact⟨congrArg Value.bool (decide_eq_true (p:=N<3∨x1<LO∨HI<x1∨x2<128∨191<x2) (by omega)).symm,below_drewN8 (Below.refl _ _) _⟩
   ·have q0z:¬(N:Int)<3:=by omega
    have q0b:decide ((N:Int)<3)=false:=decide_eq_false q0z
    have hz1:(1:Int)<(N:Int):=by omega
    have hp1:1<N:=by omega
    have cx1:=cc2.out.1 hp1
    have hz2:(2:Int)<(N:Int):=by omega
    have hp2:2<N:=by omega
    have cx2:=cc2.out.2.1 hp2
    iterate 7 (go_big_quiet_step (fail))
    by_cases q1:x1<LO
    ·have q1z:(x1:Int)<(LO:Int):=by omega
     have q1b:decide ((x1:Int)<(LO:Int))=true:=decide_eq_true q1z
     repeat (go_big_quiet_step (fail))
     refine wpQuiet_nil ?_;intro _ hw';obtain⟨nq,hw''⟩:=hw';subst hw''
     go_wp2_with (fail)
     go_meet
     exact⟨congrArg Value.bool (decide_eq_true (p:=N<3∨x1<LO∨HI<x1∨x2<128∨191<x2) (by omega)).symm,below_drewN8 (Below.refl _ _) _⟩
    ·have q1z:¬(x1:Int)<(LO:Int):=by omega
     have q1b:decide ((x1:Int)<(LO:Int))=false:=decide_eq_false q1z
     iterate 8 (go_big_quiet_step (fail))
     by_cases q2:HI<x1
     ·have q2z:(HI:Int)<(x1:Int):=by omega
      have q2b:decide ((HI:Int)<(x1:Int))=true:=decide_eq_true q2z
      repeat (go_big_quiet_step (fail))
      refine wpQuiet_nil ?_;intro _ hw';obtain⟨nq,hw''⟩:=hw';subst hw''
      go_wp2_with (fail)
      go_meet
      exact⟨congrArg Value.bool (decide_eq_true (p:=N<3∨x1<LO∨HI<x1∨x2<128∨191<x2) (by omega)).symm,below_drewN8 (Below.refl _ _) _⟩
     ·have q2z:¬(HI:Int)<(x1:Int):=by omega
      have q2b:decide ((HI:Int)<(x1:Int))=false:=decide_eq_false q2z
      iterate 6 (go_big_quiet_step (fail))
      by_cases q3:x2<128
      ·have q3z:(x2:Int)<128:=by omega
       have q3b:decide ((x2:Int)<128)=true:=decide_eq_true q3z
       repeat (go_big_quiet_step (fail))
       refine wpQuiet_nil ?_;intro _ hw';obtain⟨nq,hw''⟩:=hw';subst hw''
       go_wp2_with (fail)
       go_meet
       exact⟨congrArg Value.bool (decide_eq_true (p:=N<3∨x1<LO∨HI<x1∨x2<128∨191<x2) (by omega)).symm,below_drewN8 (Below.refl _ _) _⟩
      ·have q3z:¬(x2:Int)<128:=by omega
       have q3b:decide ((x2:Int)<128)=false:=decide_eq_false q3z
       iterate 6 (go_big_quiet_step (fail))
       by_cases q4:191<x2
       ·have q4z:(191:Int)<(x2:Int):=by omega
        have q4b:decide ((191:Int)<(x2:Int))=true:=decide_eq_true q4z
        repeat (go_big_quiet_step (fail))
        refine wpQuiet_nil ?_;intro _ hw';obtain⟨nq,hw''⟩:=hw';subst hw''
        go_wp2_with (fail)
        go_meet
        exact⟨congrArg Value.bool (decide_eq_true (p:=N<3∨x1<LO∨HI<x1∨x2<128∨191<x2) (by omega)).symm,below_drewN8 (Below.refl _ _) _⟩
       ·have q4z:¬(191:Int)<(x2:Int):=by omega
        have q4b:decide ((191:Int)<(x2:Int))=false:=decide_eq_false q4z
        repeat (go_big_quiet_step (fail))
        refine wpQuiet_nil ?_;intro _ hw';obtain⟨nq,hw''⟩:=hw';subst hw''
        go_wp2_with (fail)
        go_meet
        exact⟨congrArg Value.bool (decide_eq_false (p:=N<3∨x1<LO∨HI<x1∨x2<128∨191<x2) (by omega)).symm,below_drewN8 (Below.refl _ _) _⟩
  case rest=>
   obtain⟨rfl,hbc⟩:=hcut;have hbc2:=Below.after hbw1 hbc
   rcases hbad:bad3 N x1 x2 LO HI
   ·have hnb:=of_decide_eq_false hbad
    have hR4:=hl.out
    rw[if_neg hnb] at hR4
    change R=utD (d'.drop 3) at hR4
    by_cases hNe:N=3
    ·subst hNe
     have hz:d'.drop 3=[]:=by rw[List.drop_eq_nil_iff];have:=hN.out;omega
     rw[hz] at hR4;replace hR4:=hide hR4;replace hN:=hide hN;clear hnb hl hbad
     go_wp2_with (fail)
     exact hK hbc2 ⟨some ⟨b,off,none⟩,rfl,bysB_nil _ _⟩ (by decide) hR4.out.symm (show 0<3 by decide)
    ·obtain⟨hB4,hn4⟩:=bys_drop2 (hBA.out.keep hbc) hN.out (show 3<N by omega)
     have hkN:3<N:=by omega
     have hkNz:(3:Int)<(N:Int):=by omega
     have hlen:(d'.drop 3).length≤140737488355000:=by omega
     have hlt:N-3<N:=by omega
     replace hn4:=hide hn4;replace hR4:=hide hR4;replace hlt:=hide hlt
     generalize d'.drop 3=d4 at *
     clear hnb hl hbad
     go_wp2_with (fail)
     exact hK hbc2 ⟨some ⟨b,off+3,none⟩,by rw[←hn4.out],hB4⟩ hlen hR4.out.symm hlt.out
   ·have hnb:=of_decide_eq_true hbad
    have hR4:=hl.out
    rw[if_pos hnb] at hR4;replace hR4:=hide hR4;clear hnb hl
    go_wp2_with (fail)
    exact hQ hR4.out hbc2
 by_cases s4:SZ=4
 ·subst s4
  have hl:=hlead.out
  simp only[Lib.checkN,Nat.reduceEqDiff,if_true,if_false] at hl;replace hl:=hide hl;clear hlead
  go_upto_region 26 with(fail)
  go_cut [185] from 143 to 185 (fun c_ wx=>c_=.bool (bad4 N x1 x2 x3 LO HI)∧RowKit.Below W1.heap.size W1 wx)
  case first=>
   refine wp_region_quiet_lit (by kernel_rfl) (by kernel_rfl) ?_
   iterate 2 (go_big_quiet_step (fail))
   by_cases q0:N<4
   ·have q0z:(N:Int)<4:=by omega
    have q0b:decide ((N:Int)<4)=true:=decide_eq_true q0z
    repeat (go_big_quiet_step (fail))
    refine wpQuiet_nil ?_;intro _ hw';obtain⟨nq,hw''⟩:=hw';subst hw''
    go_wp2_with (fail)
    go_meet
    exact⟨congrArg Value.bool (decide_eq_true (p:=N<4∨x1<LO∨HI<x1∨x2<128∨191<x2∨x3<128∨191<x3) (by omega)).symm,below_drewN8 (Below.refl _ _) _⟩
   ·have q0z:¬(N:Int)<4:=by omega
    have q0b:decide ((N:Int)<4)=false:=decide_eq_false q0z
    have hz1:(1:Int)<(N:Int):=by omega
    have hp1:1<N:=by omega
    have cx1:=cc2.out.1 hp1
    have hz2:(2:Int)<(N:Int):=by omega
    have hp2:2<N:=by omega
    have cx2:=cc2.out.2.1 hp2
    have hz3:(3:Int)<(N:Int):=by omega
    have hp3:3<N:=by omega
    have cx3:=cc2.out.2.2 hp3
    iterate 7 (go_big_quiet_step (fail))
    by_cases q1:x1<LO
    ·have q1z:(x1:Int)<(LO:Int):=by omega
     have q1b:decide ((x1:Int)<(LO:Int))=true:=decide_eq_true q1z
     repeat (go_big_quiet_step (fail))
     refine wpQuiet_nil ?_;intro _ hw';obtain⟨nq,hw''⟩:=hw';subst hw''
     go_wp2_with (fail)
     go_meet
     exact⟨congrArg Value.bool (decide_eq_true (p:=N<4∨x1<LO∨HI<x1∨x2<128∨191<x2∨x3<128∨191<x3) (by omega)).symm,below_drewN8 (Below.refl _ _) _⟩
    ·have q1z:¬(x1:Int)<(LO:Int):=by omega
     have q1b:decide ((x1:Int)<(LO:Int))=false:=decide_eq_false q1z
     iterate 8 (go_big_quiet_step (fail))
     by_cases q2:HI<x1
     ·have q2z:(HI:Int)<(x1:Int):=by omega
      have q2b:decide ((HI:Int)<(x1:Int))=true:=decide_eq_true q2z
      repeat (go_big_quiet_step (fail))
      refine wpQuiet_nil ?_;intro _ hw';obtain⟨nq,hw''⟩:=hw';subst hw''
      go_wp2_with (fail)
      go_meet
      exact⟨congrArg Value.bool (decide_eq_true (p:=N<4∨x1<LO∨HI<x1∨x2<128∨191<x2∨x3<128∨191<x3) (by omega)).symm,below_drewN8 (Below.refl _ _) _⟩
     ·have q2z:¬(HI:Int)<(x1:Int):=by omega
      have q2b:decide ((HI:Int)<(x1:Int))=false:=decide_eq_false q2z
      iterate 6 (go_big_quiet_step (fail))
      by_cases q3:x2<128
      ·have q3z:(x2:Int)<128:=by omega
       have q3b:decide ((x2:Int)<128)=true:=decide_eq_true q3z
       repeat (go_big_quiet_step (fail))
       refine wpQuiet_nil ?_;intro _ hw';obtain⟨nq,hw''⟩:=hw';subst hw''
       go_wp2_with (fail)
       go_meet
       exact⟨congrArg Value.bool (decide_eq_true (p:=N<4∨x1<LO∨HI<x1∨x2<128∨191<x2∨x3<128∨191<x3) (by omega)).symm,below_drewN8 (Below.refl _ _) _⟩
      ·have q3z:¬(x2:Int)<128:=by omega
       have q3b:decide ((x2:Int)<128)=false:=decide_eq_false q3z
       iterate 6 (go_big_quiet_step (fail))
       by_cases q4:191<x2
       ·have q4z:(191:Int)<(x2:Int):=by omega
        have q4b:decide ((191:Int)<(x2:Int))=true:=decide_eq_true q4z
        repeat (go_big_quiet_step (fail))
        refine wpQuiet_nil ?_;intro _ hw';obtain⟨nq,hw''⟩:=hw';subst hw''
        go_wp2_with (fail)
        go_meet
        exact⟨congrArg Value.bool (decide_eq_true (p:=N<4∨x1<LO∨HI<x1∨x2<128∨191<x2∨x3<128∨191<x3) (by omega)).symm,below_drewN8 (Below.refl _ _) _⟩
       ·have q4z:¬(191:Int)<(x2:Int):=by omega
        have q4b:decide ((191:Int)<(x2:Int))=false:=decide_eq_false q4z
        iterate 6 (go_big_quiet_step (fail))
        by_cases q5:x3<128
        ·have q5z:(x3:Int)<128:=by omega
         have q5b:decide ((x3:Int)<128)=true:=decide_eq_true q5z
         repeat (go_big_quiet_step (fail))
         refine wpQuiet_nil ?_;intro _ hw';obtain⟨nq,hw''⟩:=hw';subst hw''
         go_wp2_with (fail)
         go_meet
         exact⟨congrArg Value.bool (decide_eq_true (p:=N<4∨x1<LO∨HI<x1∨x2<128∨191<x2∨x3<128∨191<x3) (by omega)).symm,below_drewN8 (Below.refl _ _) _⟩
        ·have q5z:¬(x3:Int)<128:=by omega
         have q5b:decide ((x3:Int)<128)=false:=decide_eq_false q5z
         iterate 6 (go_big_quiet_step (fail))
         by_cases q6:191<x3
         ·have q6z:(191:Int)<(x3:Int):=by omega
          have q6b:decide ((191:Int)<(x3:Int))=true:=decide_eq_true q6z
          repeat (go_big_quiet_step (fail))
          refine wpQuiet_nil ?_;intro _ hw';obtain⟨nq,hw''⟩:=hw';subst hw''
          go_wp2_with (fail)
          go_meet
          exact⟨congrArg Value.bool (decide_eq_true (p:=N<4∨x1<LO∨HI<x1∨x2<128∨191<x2∨x3<128∨191<x3) (by omega)).symm,below_drewN8 (Below.refl _ _) _⟩
         ·have q6z:¬(191:Int)<(x3:Int):=by omega
          have q6b:decide ((191:Int)<(x3:Int))=false:=decide_eq_false q6z
          repeat (go_big_quiet_step (fail))
          refine wpQuiet_nil ?_;intro _ hw';obtain⟨nq,hw''⟩:=hw';subst hw''
          go_wp2_with (fail)
          go_meet
          exact⟨congrArg Value.bool (decide_eq_false (p:=N<4∨x1<LO∨HI<x1∨x2<128∨191<x2∨x3<128∨191<x3) (by omega)).symm,below_drewN8 (Below.refl _ _) _⟩
  case rest=>
   obtain⟨rfl,hbc⟩:=hcut;have hbc2:=Below.after hbw1 hbc
   rcases hbad:bad4 N x1 x2 x3 LO HI
   ·have hnb:=of_decide_eq_false hbad
    have hR4:=hl.out
    rw[if_neg hnb] at hR4
    change R=utD (d'.drop 4) at hR4
    by_cases hNe:N=4
    ·subst hNe
     have hz:d'.drop 4=[]:=by rw[List.drop_eq_nil_iff];have:=hN.out;omega
     rw[hz] at hR4;replace hR4:=hide hR4;replace hN:=hide hN;clear hnb hl hbad
     go_wp2_with (fail)
     exact hK hbc2 ⟨some ⟨b,off,none⟩,rfl,bysB_nil _ _⟩ (by decide) hR4.out.symm (show 0<4 by decide)
    ·obtain⟨hB4,hn4⟩:=bys_drop2 (hBA.out.keep hbc) hN.out (show 4<N by omega)
     have hkN:4<N:=by omega
     have hkNz:(4:Int)<(N:Int):=by omega
     have hlen:(d'.drop 4).length≤140737488355000:=by omega
     have hlt:N-4<N:=by omega
     replace hn4:=hide hn4;replace hR4:=hide hR4;replace hlt:=hide hlt
     generalize d'.drop 4=d4 at *
     clear hnb hl hbad
     go_wp2_with (fail)
     exact hK hbc2 ⟨some ⟨b,off+4,none⟩,by rw[←hn4.out],hB4⟩ hlen hR4.out.symm hlt.out
   ·have hnb:=of_decide_eq_true hbad
    have hR4:=hl.out
    rw[if_pos hnb] at hR4;replace hR4:=hide hR4;clear hnb hl
    go_wp2_with (fail)
    exact hQ hR4.out hbc2
 have hR4:R=false:=by
  have hl:=hlead.out;simp only[Lib.checkN,if_neg s2,if_neg s3,if_neg s4] at hl;exact hl
 have e2:((SZ:Int)==2)=false:=by simp;omega
 have e3:((SZ:Int)==3)=false:=by simp;omega
 have e4:((SZ:Int)==4)=false:=by simp;omega
 replace hR4:=hide hR4;clear hlead
 go_wp2_with (fail)
 exact hQ hR4.out hbw1
theorem a_utf8 {w:World} {a:Option Addr} {n c:Nat} {d:List B} (hT:Lib.Utf8Tabs 2 3 w) (hcp:n≤c) (hB:BysB w (.slice a n c) d):Calls Tryz.prog 122 #[.slice a n c] w fun e w'=>e=.returned (.bool (utD d))∧Below w.heap.size w w':=by
 obtain⟨R,hR⟩:∃R,utD d=R:=⟨_,rfl⟩;rw[hR]
 obtain⟨ao,cc,en_,hl⟩:∃ao cc,Value.slice a n c=.slice ao d.length cc∧d.length≤140737488355000:=by
  obtain⟨⟨ao,cap,e,_⟩,h2,_⟩:=hB;rw[bl_len] at e;exact⟨ao,cap,e,h2⟩
 injection en_ with e1 e2 e3
 subst e1 e2 e3;have hB1:=bys_full hB
 go_enter Tryz.func122,Tryz.ntmps122
 go_wp2_with (fail)
 go_loopw [0,3,4,5,6] (fun p _ _ _ _ wr=>Below w.heap.size w wr∧∃d':List B,Pv wr p d'∧d'.length≤140737488355000∧utD d'=R) (fun p _ _ _ _ _=>slenV p)
 case atStart=>exact⟨Below.refl _ _,d,⟨a,rfl,hB1⟩,hl,hR⟩
 case round=>
  clear hB1 hB hR hl hcp;obtain⟨hbw,d',⟨a',rfl,hB⟩,hl,hR⟩:=hrel
  generalize hN:d'.length=N at *
  replace hN:=hN.symm
  rcases Nat.eq_zero_or_pos N with h0|h0
  ·subst h0
   have hR2:R=true:=by
    rw[←hR,List.length_eq_zero_iff.1 hN.symm];rfl
   clear hN
   go_wp2_with (fail)
   go_ret
   exact⟨by rw[hR2];rfl,hbw⟩
  have hTr:=Utf8Tabs_below hT hbw
  have hb0:∃b off,a'=some ⟨b,off,none⟩:=by
   obtain⟨b,off,e,_⟩:=bys_cell hB (by omega)
   exact⟨b,off,e⟩
  obtain⟨b,off,rfl⟩:=hb0
  by_cases hasc:(gb d' 0).toNat<128
  ·refine v_asc hB hN hR hl h0 hasc ?_
   ·intro p y2 y3 y4 y5 y6 y13 y14 y15 y16 y17 y18 y19 y20 y21 y22 y23 y24 y25 y26 y27 y28 y29 y30 y31 y32 y33 y34 y35 y36 y37 y38 y39 y40 y41 y42 y43 y44 y45 y46 y47 y48 y49 y50 y51 y52 y53 y54 y55 y56 y57 y58 y59 y60 y61 y62 y63 y64 y65 y66 y67 y68 y69 y70 y71 y72 y73 y74 y75 y76 y77 y78 y79 y80 y81 y82 y83 y84 y85 y86 y87 y88 y89 y90 y91 y92 y93 y94 y95 y96 y97 y98 y99 y100 y101 y102 y103 y104 y105 y106 y107 y108 y109 y110 y111 y112 y113 y114 y115 y116 y117 y118 y119 y120 y121 y122 y123 y124 y125 y126 y127 y128 y129 y130 y131 y132 y133 y134 y135 y136 y137 y138 y139 y140 y141 y142 y143 y144 y145 y146 y147 y148 y149 y150 y151 y152 y153 y154 y155 y156 y157 y158 y159 y160 y161 y162 y163 y164 y165 y166 y167 y168 y169 y170 y171 y172 y173 y174 y175 y176 y177 y178 y179 y180 y181 y182 y183 y184 y185 y186 y187 W d'' q1 q2 q3 q4 q5
    exact⟨⟨p,y2,y3,y4,y5,y6,y13,y14,y15,y16,y17,y18,y19,y20,y21,y22,y23,y24,y25,y26,y27,y28,y29,y30,y31,y32,y33,y34,y35,y36,y37,y38,y39,y40,y41,y42,y43,y44,y45,y46,y47,y48,y49,y50,y51,y52,y53,y54,y55,y56,y57,y58,y59,y60,y61,y62,y63,y64,y65,y66,y67,y68,y69,y70,y71,y72,y73,y74,y75,y76,y77,y78,y79,y80,y81,y82,y83,y84,y85,y86,y87,y88,y89,y90,y91,y92,y93,y94,y95,y96,y97,y98,y99,y100,y101,y102,y103,y104,y105,y106,y107,y108,y109,y110,y111,y112,y113,y114,y115,y116,y117,y118,y119,y120,y121,y122,y123,y124,y125,y126,y127,y128,y129,y130,y131,y132,y133,y134,y135,y136,y137,y138,y139,y140,y141,y142,y143,y144,y145,y146,y147,y148,y149,y150,y151,y152,y153,y154,y155,y156,y157,y158,y159,y160,y161,y162,y163,y164,y165,y166,y167,y168,y169,y170,y171,y172,y173,y174,y175,y176,y177,y178,y179,y180,y181,y182,y183,y184,y185,y186,y187,⟨Below.after hbw q1,d'',q2,q3,q4⟩,rfl⟩,q5⟩
  ·refine v_lead hB hN hR hTr hl h0 (by omega) ?_ ?_
   ·intro p y2 y3 y4 y5 y6 y13 y14 y15 y16 y17 y18 y19 y20 y21 y22 y23 y24 y25 y26 y27 y28 y29 y30 y31 y32 y33 y34 y35 y36 y37 y38 y39 y40 y41 y42 y43 y44 y45 y46 y47 y48 y49 y50 y51 y52 y53 y54 y55 y56 y57 y58 y59 y60 y61 y62 y63 y64 y65 y66 y67 y68 y69 y70 y71 y72 y73 y74 y75 y76 y77 y78 y79 y80 y81 y82 y83 y84 y85 y86 y87 y88 y89 y90 y91 y92 y93 y94 y95 y96 y97 y98 y99 y100 y101 y102 y103 y104 y105 y106 y107 y108 y109 y110 y111 y112 y113 y114 y115 y116 y117 y118 y119 y120 y121 y122 y123 y124 y125 y126 y127 y128 y129 y130 y131 y132 y133 y134 y135 y136 y137 y138 y139 y140 y141 y142 y143 y144 y145 y146 y147 y148 y149 y150 y151 y152 y153 y154 y155 y156 y157 y158 y159 y160 y161 y162 y163 y164 y165 y166 y167 y168 y169 y170 y171 y172 y173 y174 y175 y176 y177 y178 y179 y180 y181 y182 y183 y184 y185 y186 y187 W d'' q1 q2 q3 q4 q5
    exact⟨⟨p,y2,y3,y4,y5,y6,y13,y14,y15,y16,y17,y18,y19,y20,y21,y22,y23,y24,y25,y26,y27,y28,y29,y30,y31,y32,y33,y34,y35,y36,y37,y38,y39,y40,y41,y42,y43,y44,y45,y46,y47,y48,y49,y50,y51,y52,y53,y54,y55,y56,y57,y58,y59,y60,y61,y62,y63,y64,y65,y66,y67,y68,y69,y70,y71,y72,y73,y74,y75,y76,y77,y78,y79,y80,y81,y82,y83,y84,y85,y86,y87,y88,y89,y90,y91,y92,y93,y94,y95,y96,y97,y98,y99,y100,y101,y102,y103,y104,y105,y106,y107,y108,y109,y110,y111,y112,y113,y114,y115,y116,y117,y118,y119,y120,y121,y122,y123,y124,y125,y126,y127,y128,y129,y130,y131,y132,y133,y134,y135,y136,y137,y138,y139,y140,y141,y142,y143,y144,y145,y146,y147,y148,y149,y150,y151,y152,y153,y154,y155,y156,y157,y158,y159,y160,y161,y162,y163,y164,y165,y166,y167,y168,y169,y170,y171,y172,y173,y174,y175,y176,y177,y178,y179,y180,y181,y182,y183,y184,y185,y186,y187,⟨Below.after hbw q1,d'',q2,q3,q4⟩,rfl⟩,q5⟩
   ·intro y0 y3 y4 y5 y6 y13 y14 y15 y16 y17 y18 y19 y20 y21 y22 y23 y24 y25 y26 y27 y28 y29 y30 y31 y32 y33 y34 y35 y36 y37 y38 y39 y40 y41 y42 y43 y44 y45 y46 y47 y48 y49 y50 y51 y52 y53 y54 y55 y56 y57 y58 y59 y60 y61 y62 y63 y64 y65 y66 y67 y68 y69 y70 y71 y72 y73 y74 y75 y76 y77 y78 y79 y80 y81 y82 y83 y84 y85 y86 y87 y88 y89 y90 y91 y92 y93 y94 y95 y96 y97 y98 y99 y100 y101 y102 y103 y104 y105 y106 y107 y108 y109 y110 y111 y112 y113 y114 y115 y116 y117 y118 y119 y120 y121 y122 y123 y124 y125 y126 y127 y128 y129 y130 y131 y132 y133 y134 y135 y136 y137 y138 y139 y140 y141 y142 y143 y144 y145 y146 y147 y148 y149 y150 y151 y152 y153 y154 y155 y156 y157 y158 y159 y160 y161 y162 y163 y164 y165 y166 y167 y168 y169 y170 y171 y172 y173 y174 y175 y176 y177 y178 y179 y180 y181 y182 y183 y184 y185 y186 y187 W q1 q2
    have hbQ:=Below.after hbw q2
    subst q1;go_ret;exact⟨rfl,hbQ⟩
end Go.Proofs.YtmmlkfkpblokiaaGreatDoor
namespace Go.Proofs.YtmmlkfkpblokiaaGreatDoor
open Go Go.RowKit Go.Sort
theorem ht_vok:∀(ts:List Slt) (prev deep:Int),deep≤6→vok ts prev deep→htT ts≤8-deep
 |[],_,deep,hd,_=>by rw[htT];omega
 | .mk no k l m sub::ts,prev,deep,hd,h=>by
  rw[vok] at h;obtain⟨⟨_,hf,hn⟩,ht⟩:=h;have h1:=ht_vok ts no deep hd ht
  have h2:htT sub+1≤8-deep:=by
   by_cases hk:k=8∨k=9
   ·obtain⟨_,hd1,hv⟩:=hn hk
    have:=ht_vok sub 0 (deep+1) (by omega) hv
    omega
   ·have:sub=[]:=by
     refine List.eq_nil_of_length_eq_zero ?_;unfold fitN fitB at hf
     by_cases q:(((sub.length:Nat):Int)==0)=true
     ·have:=eq_of_beq q
      omega
     ·rw[Bool.not_eq_true] at q
      rw[q] at hf
      exfalso
      revert hf
      split<;>simp_all
    subst this;rw[htT];omega
  rw[htT];omega
theorem vld_ok {ts:List Slt} (h:vld ts=0):ts.length≤16∧vok ts 0 1∧gd ts∧(spL ts 0 0).2≤4194304∧1+htT ts≤9223372036854775807:=by
 unfold vld at h
 split at h
 ·cases h
 ·rename_i h1
  split at h
  ·cases h
  ·rename_i h2
   have hg:=lft_gd ts 1 256 (by decide) (by omega)
   have h3:=h1;unfold lft at h3
   split at h3
   ·omega
   ·rename_i h4
    have hv:vok ts 0 1:=by
     by_cases q:vok ts 0 1∧(tot ts:Int)≤256
     ·exact q.1
     ·have:=(lfL_val ts 0 1 256 (by decide)).2 q
      omega
    have:=ht_vok ts 0 1 (by decide) hv
    exact⟨by omega,hv,hg,by omega,by omega⟩
theorem plo8:Plo utD flD (Lib.Utf8Tabs 2 3) where
 keep:=fun _ _ h hb=>Utf8Tabs_below h hb
 txt:=fun _ _ _ _ _ hG hc hB=>a_utf8 hG hc hB
 flt:=fun w n m hn=>a_flt8 w n m hn
attribute [local go_sem] setCell_drewN alloc_drewN
theorem a_RangeT {ts:List Slt} {g:Nat} (w:World) (h:Cdc w g ts):Calls Tryz.prog 21 #[.pointer (some ⟨g,0,none⟩)] w fun e w'=>e=.returned (.tuple #[.int .i64 ((prS ts).1:Int),.int .i64 ((prS ts).2:Int)])∧Below w.heap.size w w':=by
 obtain⟨x,_,h⟩:=h;have c1:w.cell? ⟨g,1,none⟩=some (.int .i64 ((prS ts).1:Int)):=cell_of_row _ _ _ _ _ _ h;have c2:w.cell? ⟨g,2,none⟩=some (.int .i64 ((prS ts).2:Int)):=cell_of_row _ _ _ _ _ _ h
 have k1:∀p:Regrown,(grow (redrawn w p.d) p.os).cell? ⟨g,1,none⟩=_:=fun p=>cell_regrown c1 p.d p.os
 have k2:∀p:Regrown,(grow (redrawn w p.d) p.os).cell? ⟨g,2,none⟩=_:=fun p=>cell_regrown c2 p.d p.os
 go_enter Tryz.func21,Tryz.ntmps21
 go_wp2_with (fail)
 refine wp_region_quiet_below (by kernel_rfl) (by kernel_rfl) ?_
 go_big_quiet_step (fail);go_big_quiet_step (fail);go_big_quiet_step (fail);go_big_quiet_step (fail);go_big_quiet_step (fail);go_big_quiet_step (fail);go_big_quiet_step (fail);go_big_quiet_step (fail);go_big_quiet_step (fail);go_big_quiet_step (fail);refine wpQuiet_nil ?_;rintro _ ⟨p,rfl⟩;have hb2:=below_regrown w p.d p.os
 generalize grow (redrawn w p.d) p.os=w1 at *
 clear k1 k2
 go_wp2_with (fail)
 go_ret2;exact⟨rfl,hb2⟩
end Go.Proofs.YtmmlkfkpblokiaaGreatDoor
