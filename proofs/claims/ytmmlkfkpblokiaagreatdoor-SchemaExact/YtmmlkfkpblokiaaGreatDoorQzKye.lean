import Derived.Test.YtmmlkfkpblokiaaGreatDoorQzKtu
set_option maxRecDepth 100000
set_option maxHeartbeats 16000000
namespace Go.Proofs.YtmmlkfkpblokiaaGreatDoor
open Go Go.RowKit Go.Sort
attribute [local go_sem] setCell_drewN alloc_drewN
theorem r_plainX (no k l m:Int) (hk:k=6) (so:Option Addr) (sn sc:Nat) (n:Nat) (da:Option Addr) (dl dc:Nat) (hdl:dl<9223372036854775808) (pa:Option Addr) (pl pc:Nat) (w:World) (U:Bool) (hT:∀V,Below w.heap.size w V→Calls Tryz.prog 99 #[.slice da dl dc] V fun e w'=>e=.returned (.bool U)∧Below V.heap.size V w'):
 Calls Tryz.prog 75 #[.agg #[.int .i64 no,.int .i64 k,.int .u64 l,.int .u64 m,.slice so sn sc],.agg #[.int .u64 (n:Int),.slice da dl dc,.slice pa pl pc]] w fun e w'=>e=.returned (.int .i64 (if pbad true n dl pl then 84 else if wth (dl:Int) l m≠0 then wth (dl:Int) l m else if U then 0 else 84))∧Below w.heap.size w w':=by
 have hb:Below w.heap.size w ((w.alloc (.cells #[.int .i64 no,.int .i64 k,.int .u64 l,.int .u64 m,.slice so sn sc] 88)).alloc (.cells #[.int .u64 (n:Int),.slice da dl dc,.slice pa pl pc] 27)):=((Below.refl _ _).alloc (Nat.le_refl _) _).alloc (by simp) _
 have r0:=hp2_0 w (.cells #[.int .i64 no,.int .i64 k,.int .u64 l,.int .u64 m,.slice so sn sc] 88) (.cells #[.int .u64 (n:Int),.slice da dl dc,.slice pa pl pc] 27);have rV:=hp2_1 w (.cells #[.int .i64 no,.int .i64 k,.int .u64 l,.int .u64 m,.slice so sn sc] 88) (.cells #[.int .u64 (n:Int),.slice da dl dc,.slice pa pl pc] 27);have cW:=r_within (dl:Int) no k l m so sn sc
 obtain⟨R,hR⟩:∃R,(if pbad true n dl pl then 84 else if wth (dl:Int) l m≠0 then wth (dl:Int) l m else if U then 0 else 84)=R:=⟨_,rfl⟩
 rw[hR]
 rcases hbad:pbad true n dl pl
 ·rw[hbad,if_neg Bool.false_ne_true] at hR
  obtain rfl:pl=0:=by
   rcases Nat.eq_zero_or_pos pl with q|q
   ·exact q
   ·simp[pbad,q] at hbad
  obtain rfl:n=0:=by
   rcases Nat.eq_zero_or_pos n with q|q
   ·exact q
   ·simp[pbad,show n≠0 by omega] at hbad
  clear hbad
  rcases wth_two (dl:Int) l m with hz|hz
  ·rw[hz,if_neg (by decide)] at hR
   rw[hz] at cW
   replace cW:∀V,Calls Tryz.prog 87 #[.int .u64 (dl:Int),.agg #[.int .i64 no,.int .i64 k,.int .u64 l,.int .u64 m,.slice so sn sc]] V fun e w'=>e=.returned (.bool true)∧Below V.heap.size V w':=cW
   replace hR:=hide hR;clear hz;subst hk
   all_goals
    go_enter Tryz.func75,Tryz.ntmps75
    go_wp2_with (first|(refine wpList_load_want rfl 88 _ rfl w.heap.size rfl 88 _ (0,0) _ r0 Tryz.underlying88 rfl infoSlt ?_)|fail)
    refine(cW _).mono ?_;rintro e_ w1 ⟨rfl,hb1⟩
    have c1:w1.cell? ⟨w.heap.size,1,none⟩=some (.int .i64 6):=by rw[cell_of_row _ _ _ _ _ _ (keep hb1 r0)];rfl
    have c2:w1.cell? ⟨w.heap.size+1,1,none⟩=some (.slice da dl dc):=by rw[cell_of_row _ _ _ _ _ _ (keep hb1 rV)];rfl
    replace hb1:=Below.after hb hb1
    go_wp2_with (fail)
    refine(hT _ hb1).mono ?_;rintro e_ w2 ⟨rfl,hb2⟩;replace hb1:=Below.after hb1 hb2;clear hT hb2
    cases U
    ·go_wp2_with (fail)
     go_ret
     exact⟨by rw[←hR.out];rfl,hb1⟩
    ·go_wp2_with (fail)
     go_ret
     exact⟨by rw[←hR.out];rfl,hb1⟩
  ·rw[hz,if_pos (by decide)] at hR
   rw[hz] at cW
   replace cW:∀V,Calls Tryz.prog 87 #[.int .u64 (dl:Int),.agg #[.int .i64 no,.int .i64 k,.int .u64 l,.int .u64 m,.slice so sn sc]] V fun e w'=>e=.returned (.bool false)∧Below V.heap.size V w':=cW
   replace hR:=hide hR;clear hz;subst hk
   all_goals
    go_enter Tryz.func75,Tryz.ntmps75
    go_wp2_with (first|(refine wpList_load_want rfl 88 _ rfl w.heap.size rfl 88 _ (0,0) _ r0 Tryz.underlying88 rfl infoSlt ?_)|fail)
    refine(cW _).mono ?_;rintro e_ w1 ⟨rfl,hb1⟩;replace hb1:=Below.after hb hb1
    go_wp2
    go_ret
    exact⟨by rw[←hR.out];rfl,hb1⟩
 ·rw[hbad,if_pos rfl] at hR
  replace hR:=hide hR
  rcases Nat.eq_zero_or_pos n with rfl|hnp
  ·have hq:0<pl:=by simpa[pbad] using hbad
   have hd:decide ((pl:Int)>0)=true:=by simp;omega
   clear hbad;subst hk
   go_enter Tryz.func75,Tryz.ntmps75
   go_wp2
   go_ret
   exact⟨by rw[←hR.out];rfl,hb⟩
  ·have hd:((n:Int)==0)=false:=by simp;omega
   have hd2:¬(n:Int)=0:=by omega
   clear hbad;subst hk
   go_enter Tryz.func75,Tryz.ntmps75
   go_wp2
   go_ret
   exact⟨by rw[←hR.out];rfl,hb⟩
theorem r_plainS (no k l m:Int) (hk:k=9) (so:Option Addr) (sn sc:Nat) (n:Nat) (da:Option Addr) (dl dc:Nat) (pa:Option Addr) (pl pc:Nat) (hpl:pl<9223372036854775808) (w:World):
 Calls Tryz.prog 75 #[.agg #[.int .i64 no,.int .i64 k,.int .u64 l,.int .u64 m,.slice so sn sc],.agg #[.int .u64 (n:Int),.slice da dl dc,.slice pa pl pc]] w fun e w'=>e=.returned (.int .i64 (if n≠0∨0<dl then 84 else wth (pl:Int) l m))∧Below w.heap.size w w':=by
 have hb:Below w.heap.size w ((w.alloc (.cells #[.int .i64 no,.int .i64 k,.int .u64 l,.int .u64 m,.slice so sn sc] 88)).alloc (.cells #[.int .u64 (n:Int),.slice da dl dc,.slice pa pl pc] 27)):=((Below.refl _ _).alloc (Nat.le_refl _) _).alloc (by simp) _
 have r0:=hp2_0 w (.cells #[.int .i64 no,.int .i64 k,.int .u64 l,.int .u64 m,.slice so sn sc] 88) (.cells #[.int .u64 (n:Int),.slice da dl dc,.slice pa pl pc] 27);have cW:=r_within (pl:Int) no k l m so sn sc
 obtain⟨R,hR⟩:∃R,(if n≠0∨0<dl then 84 else wth (pl:Int) l m)=R:=⟨_,rfl⟩
 rw[hR]
 by_cases hbad:n≠0∨0<dl
 rotate_left
 ·rw[if_neg hbad] at hR
  obtain rfl:n=0:=by omega
  obtain rfl:dl=0:=by omega
  clear hbad
  rcases wth_two (pl:Int) l m with hz|hz
  ·rw[hz] at cW hR
   replace cW:∀V,Calls Tryz.prog 87 #[.int .u64 (pl:Int),.agg #[.int .i64 no,.int .i64 k,.int .u64 l,.int .u64 m,.slice so sn sc]] V fun e w'=>e=.returned (.bool true)∧Below V.heap.size V w':=cW
   replace hR:=hide hR;clear hz;subst hk
   all_goals
    go_enter Tryz.func75,Tryz.ntmps75
    go_wp2_with (first|(refine wpList_load_want rfl 88 _ rfl w.heap.size rfl 88 _ (0,0) _ r0 Tryz.underlying88 rfl infoSlt ?_)|fail)
    refine(cW _).mono ?_;rintro e_ w1 ⟨rfl,hb1⟩;replace hb1:=Below.after hb hb1
    go_wp2
    go_ret
    exact⟨by rw[←hR.out];rfl,hb1⟩
  ·rw[hz] at cW hR
   replace cW:∀V,Calls Tryz.prog 87 #[.int .u64 (pl:Int),.agg #[.int .i64 no,.int .i64 k,.int .u64 l,.int .u64 m,.slice so sn sc]] V fun e w'=>e=.returned (.bool false)∧Below V.heap.size V w':=cW
   replace hR:=hide hR;clear hz;subst hk
   all_goals
    go_enter Tryz.func75,Tryz.ntmps75
    go_wp2_with (first|(refine wpList_load_want rfl 88 _ rfl w.heap.size rfl 88 _ (0,0) _ r0 Tryz.underlying88 rfl infoSlt ?_)|fail)
    refine(cW _).mono ?_;rintro e_ w1 ⟨rfl,hb1⟩;replace hb1:=Below.after hb hb1
    go_wp2
    go_ret
    exact⟨by rw[←hR.out];rfl,hb1⟩
 ·rw[if_pos hbad] at hR
  replace hR:=hide hR
  rcases Nat.eq_zero_or_pos n with rfl|hnp
  ·have hq:0<dl:=by omega
   have hd:decide ((dl:Int)>0)=true:=by simp;omega
   clear hbad;subst hk
   go_enter Tryz.func75,Tryz.ntmps75
   go_wp2
   go_ret
   exact⟨by rw[←hR.out];rfl,hb⟩
  ·have hd:((n:Int)==0)=false:=by simp;omega
   have hd2:¬(n:Int)=0:=by omega
   clear hbad;subst hk
   go_enter Tryz.func75,Tryz.ntmps75
   go_wp2
   go_ret
   exact⟨by rw[←hR.out];rfl,hb⟩
theorem r_plainL (no l m:Int) (so:Option Addr) (sn sc:Nat) (n:Nat) (da:Option Addr) (dl dc:Nat) (pa:Option Addr) (pl pc:Nat) (w:World) (E:Int) (hF:∀V,Calls Tryz.prog 100 #[.int .u64 (n:Int),.int .u64 m] V fun e w'=>e=.returned (.int .i64 E)∧Below V.heap.size V w'):
 Calls Tryz.prog 75 #[.agg #[.int .i64 no,.int .i64 7,.int .u64 l,.int .u64 m,.slice so sn sc],.agg #[.int .u64 (n:Int),.slice da dl dc,.slice pa pl pc]] w fun e w'=>e=.returned (.int .i64 (if pbad false n dl pl then 84 else E))∧Below w.heap.size w w':=by
 have hb:Below w.heap.size w ((w.alloc (.cells #[.int .i64 no,.int .i64 7,.int .u64 l,.int .u64 m,.slice so sn sc] 88)).alloc (.cells #[.int .u64 (n:Int),.slice da dl dc,.slice pa pl pc] 27)):=((Below.refl _ _).alloc (Nat.le_refl _) _).alloc (by simp) _
 obtain⟨R,hR⟩:∃R,(if pbad false n dl pl then 84 else E)=R:=⟨_,rfl⟩
 rw[hR]
 rcases hbad:pbad false n dl pl
 ·rw[hbad,if_neg Bool.false_ne_true] at hR
  obtain rfl:pl=0:=by
   rcases Nat.eq_zero_or_pos pl with q|q
   ·exact q
   ·simp[pbad,q] at hbad
  obtain rfl:dl=0:=by
   rcases Nat.eq_zero_or_pos dl with q|q
   ·exact q
   ·simp[pbad,q] at hbad
  clear hbad;replace hR:=hide hR
  go_enter Tryz.func75,Tryz.ntmps75
  go_wp2_with (fail)
  refine(hF _).mono ?_;rintro e_ w1 ⟨rfl,hb1⟩;replace hb1:=Below.after hb hb1
  go_wp2_with (fail)
  go_ret
  exact⟨by rw[←hR.out];rfl,hb1⟩
 ·rw[hbad,if_pos rfl] at hR
  replace hR:=hide hR
  rcases Nat.eq_zero_or_pos dl with rfl|hdp
  ·have hq:0<pl:=by simpa[pbad] using hbad
   have hd:decide ((pl:Int)>0)=true:=by simp;omega
   clear hbad
   go_enter Tryz.func75,Tryz.ntmps75
   go_wp2
   go_ret
   exact⟨by rw[←hR.out];rfl,hb⟩
  ·have hd:decide ((dl:Int)>0)=true:=by simp;omega
   clear hbad
   go_enter Tryz.func75,Tryz.ntmps75
   go_wp2
   go_ret
   exact⟨by rw[←hR.out];rfl,hb⟩
def flr (f:Option Flt3):Array Value:=match f with
 |none=>#[.int .i64 0,.int .i64 0,.int .i64 0]
 |some x=>frw x
theorem infoFt:(Tryz.prog.info? 41).map (·.size)=some 3:=by kernel_rfl
def hdr:List Slt:=[.mk 1 5 32 32 [],.mk 2 2 0 4294967295 [],.mk 3 2 0 4294967295 []]
def hcs:Array Value:=#[.int .i64 1,.int .i64 5,.int .u64 32,.int .u64 32,nS,.int .i64 2,.int .i64 2,.int .u64 0,.int .u64 4294967295,nS,.int .i64 3,.int .i64 2,.int .u64 0,.int .u64 4294967295,nS]
section
variable {P : Program} {ops : Array Oper} {Q : Exit → Act → World → Prop} {md : Region.Mode} {S : World → Prop}
theorem wpAnyH_two {j k:Nat} {oj ok:Oper} {fuel:Nat} {listed:Array Bool} {a:Act} {w:World} (hr:Region.ready md ops listed=[j,k]) (hj:ops[j]? =some oj) (hk:ops[k]? =some ok) (wj:Region.wanted oj (yielded ops a.tmps)=true) (wk:Region.wanted ok (yielded ops a.tmps)=true)
 (h1:∀K:Act→World→Prop,(∀a' w',S w'→wpAnyH P md ops Q S fuel (listed.setIfInBounds j true) a' w'→K a' w')→oj.wp P a w K Q)
 (h2:∀K:Act→World→Prop,(∀a' w',S w'→wpAnyH P md ops Q S fuel (listed.setIfInBounds k true) a' w'→K a' w')→ok.wp P a w K Q):wpAnyH P md ops Q S (fuel+1) listed a w:=by
 refine wpAnyH_all hr (by simp) (fun i hi'=>?_)
 obtain rfl|rfl:i=j∨i=k:=by simpa using hi'
 ·unfold wpOp
  simp only[hj,wj,if_true]
  exact .inl (h1 _ (fun a' w' hS hn=>⟨hS,hn⟩))
 ·unfold wpOp
  simp only[hk,wk,if_true]
  exact .inl (h2 _ (fun a' w' hS hn=>⟨hS,hn⟩))
end
def hrw (pub:List B) (prev m:Nat):Array Value:=irow .u8 (bl pub)++ #[.int .u32 (prev:Int),.int .u32 (m:Int)]
def hxs (g prev m:Nat):List VR:=[⟨0,some ⟨g,0,none⟩,32,32,none,0,0⟩,⟨prev,none,0,0,none,0,0⟩,⟨m,none,0,0,none,0,0⟩]
def hps (g prev m:Nat):Array Value:=#[.int .u64 0,.slice (some ⟨g,0,none⟩) 32 32,nS,.int .u64 (prev:Int),nS,nS,.int .u64 (m:Int),nS,nS]
end Go.Proofs.YtmmlkfkpblokiaaGreatDoor
namespace Go.Proofs.YtmmlkfkpblokiaaGreatDoor
open Go Go.RowKit Go.Sort
section
variable (utf : List B → Bool) (flE : Nat → Nat → Int)
theorem frs_some {f:VT→Option Flt3}:∀{xs:List VT} {e:Flt3},frsT f xs=some e→∃p,f p=some e
 |[],e,h=>by rw[frsT] at h;cases h
 |x::xs,e,h=>by
  rw[frsT] at h
  cases hx:f x with
  |some y=>rw[hx] at h;exact⟨x,by rw[hx];exact h⟩
  |none=>rw[hx] at h;exact frs_some h
end
def deG (a:Int) (n:Nat) (f:Flt3):Prop:=f.line=0∧(a≤f.at_∧f.at_≤a+(n:Int))∧f.why≠0
theorem deG.wide {a b:Int} {n m:Nat} {f:Flt3} (h:deG a n f) (h1:b≤a) (h2:a+(n:Int)≤b+(m:Int)):deG b m f:=by
 obtain⟨e1,⟨e2,e3⟩,e4⟩:=h
 exact⟨e1,⟨by omega,by omega⟩,e4⟩
section
variable (utf : List B → Bool) (flE : Nat → Nat → Int)
end
end Go.Proofs.YtmmlkfkpblokiaaGreatDoor
namespace Go.Proofs.YtmmlkfkpblokiaaGreatDoor
open Go Go.RowKit Go.Sort
attribute [local go_sem] setCell_drewN alloc_drewN
def plT (t:Slt) (X:VT):Int:=if t.kind=9 then(if X.num≠0∨0<X.dat.length then 84 else wth (X.parts.length:Int) (t.least:Int) (t.most:Int)) else if pbad (isB t.kind) X.num X.dat.length X.parts.length then 84 else plE8 utD flD t.kind t.least t.most X
theorem slT_pl9 {t:Slt} (h8:t.kind≠8) (X:VT) (deep:Int):slT utD flD t X deep=if plT t X≠0 then some ⟨deep,t.no,plT t X⟩ else if t.kind=9 then frsT (fun p=>ckT utD flD t.sub p (deep+1)) X.parts else none:=by
 unfold plT
 by_cases h9:t.kind=9
 ·rw[slT_lst utD flD h9,if_pos h9,if_pos h9]
  by_cases q:X.num≠0∨0<X.dat.length
  ·rw[if_pos q,if_pos q,if_pos (by decide)]
  ·rw[if_neg q,if_neg q]
 ·rw[slT_pl utD flD h8 h9,if_neg h9,if_neg h9]
  unfold pck
  by_cases q:pbad (isB t.kind) X.num X.dat.length X.parts.length=true
  ·rw[if_pos q,if_pos q,if_pos (by decide)]
  ·rw[if_neg q,if_neg q]
   by_cases z:plE8 utD flD t.kind t.least t.most X=0
   ·rw[if_pos z,if_neg (by omega)]
   ·rw[if_neg z,if_pos z]
theorem fit_float {l m n:Nat} (h:fitN 7 (l:Int) (m:Int) n=true):m≤9007199254740992:=by
 simp[fitN,fitB] at h
 omega
theorem r_plainT {W:World} {S:Nat→Prop} {t:Slt} (h8:t.kind≠8) (hf:sfit t=true) (so:Option Addr) (sn sc:Nat) {x:VR} {X:VT} (hX:VtM W S x X) (w:World) (hw:Below W.heap.size W w):Calls Tryz.prog 75 #[.agg (slr t (.slice so sn sc)),.agg (vrv x)] w fun e w'=>e=.returned (.int .i64 (plT t X))∧Below w.heap.size w w':=by
 have hXw:=hX.blw hw;obtain⟨e1,e2,e3,e4,e5⟩:=hXw.num_eq
 have hpl:x.pl<9223372036854775808:=by
  obtain⟨xs,ao,cap,_,_,_,h,_⟩:=hXw.split;omega
 have hd:BysB w (.slice x.da x.dl x.dc) X.dat:=by
  cases hXw with
  |mk x bs xs ps hn hdl hbl hd hdc hds hpl hxl hpc hpm hps hP hs=>exact hd
 unfold plT vrv vrw slr;rw[←e1,←e3,←e5]
 have kx:(t.kind=1∨t.kind=2∨t.kind=3)∨t.kind=4∨t.kind=5∨t.kind=6∨t.kind=7∨t.kind=9:=by
  rcases fit_cases hf with q|q|q|q|q|q|q|q
  ·exact .inl (.inl q.1)
  ·exact .inl (.inr (.inl q.1))
  ·exact .inl (.inr (.inr q.1))
  ·exact .inr (.inl q)
  ·rcases q.1 with z|z
   ·exact .inr (.inr (.inl z))
   ·exact .inr (.inr (.inr (.inl z)))
  ·exact .inr (.inr (.inr (.inr (.inl q))))
  ·exact absurd q h8
  ·exact .inr (.inr (.inr (.inr (.inr q.1))))
 rcases kx with k|k|k|k|k|k
 ·have eE:plE8 utD flD t.kind t.least t.most X=wth (x.num:Int) (t.least:Int) (t.most:Int):=by
   unfold plE8
   rw[if_neg (by omega),if_neg (by omega),if_neg (by omega),if_neg (by omega),e1]
  have eB:isB t.kind=false:=by
   unfold isB
   rcases k with k|k|k<;>rw[k]<;>rfl
  rw[if_neg (by omega),eE,eB]
  exact r_plainN t.no t.kind _ _ k so sn sc x.num x.da x.dl x.dc x.pa x.pl x.pc w
 ·have eE:plE8 utD flD t.kind t.least t.most X=wth (x.num:Int) 0 1:=by
   unfold plE8
   rw[if_neg (by omega),if_neg (by omega),if_neg (by omega),if_pos k,e1]
  have eB:isB t.kind=false:=by unfold isB;rw[k];rfl
  rw[if_neg (by omega),eE,eB,k]
  exact r_plainG t.no _ _ so sn sc x.num x.da x.dl x.dc x.pa x.pl x.pc w
 ·have eE:plE8 utD flD t.kind t.least t.most X=wth (x.dl:Int) (t.least:Int) (t.most:Int):=by
   unfold plE8;rw[if_pos k,e3]
  have eB:isB t.kind=true:=by unfold isB;rw[k];rfl
  rw[if_neg (by omega),eE,eB]
  exact r_plainB t.no t.kind _ _ k so sn sc x.num x.da x.dl x.dc (by omega) x.pa x.pl x.pc w
 ·have eE:plE8 utD flD t.kind t.least t.most X=if wth (x.dl:Int) (t.least:Int) (t.most:Int)≠0 then wth (x.dl:Int) (t.least:Int) (t.most:Int) else if utD X.dat then 0 else 84:=by
   unfold plE8
   rw[if_neg (by omega),if_pos k,e3]
  have eB:isB t.kind=true:=by unfold isB;rw[k];rfl
  rw[if_neg (by omega),eE,eB]
  exact r_plainX t.no t.kind _ _ k so sn sc x.num x.da x.dl x.dc (by omega) x.pa x.pl x.pc w (utD X.dat) (fun V hV=>r_Text hd V hV)
 ·have eE:plE8 utD flD t.kind t.least t.most X=flD x.num t.most:=by
   unfold plE8
   rw[if_neg (by omega),if_neg (by omega),if_pos k,e1]
  have eB:isB t.kind=false:=by unfold isB;rw[k];rfl
  have hm:t.most≤9007199254740992:=by
   unfold sfit at hf;rw[k] at hf;exact fit_float hf
  rw[if_neg (by omega),eE,eB,k]
  exact r_plainL t.no _ _ so sn sc x.num x.da x.dl x.dc x.pa x.pl x.pc w (flD x.num t.most) (fun V=>r_Float x.num t.most e2 hm V)
 ·rw[if_pos k]
  exact r_plainS t.no t.kind _ _ k so sn sc x.num x.da x.dl x.dc x.pa x.pl x.pc hpl w
theorem ch_why:∀(ts:List Slt) (xs:List VT) (deep:Int) (f:Flt3),chT utD flD ts xs deep=some f→f.why≠0
 |[],xs,_,_,h=>by rw[chT_nil] at h;cases h
 |t::ts,[],_,_,h=>by cases t;rw[chT] at h;cases h;intros;contradiction
 | .mk no k l m sub::ts,x::xs,deep,f,h=>by
  rw[chT_cons] at h
  have hm:∀(p:VT) (dp:Int) (f:Flt3),ckN sub.length (chT utD flD sub) p dp=some f→f.why≠0:=by
   intro p dp f hp;unfold ckN at hp
   split at hp
   ·injection hp with hp;subst hp;show(84:Int)≠0;decide
   split at hp
   ·injection hp with hp;subst hp;show(81:Int)≠0;decide
   ·exact ch_why sub p.parts dp f hp
  cases hs:slT utD flD (.mk no k l m sub) x deep with
  |none=>rw[hs] at h;exact ch_why ts xs deep f h
  |some y=>
   rw[hs] at h
   injection h with h
   subst h;replace hs:slN utD flD no k l m sub.length (chT utD flD sub) x deep=some y:=hs;unfold slN at hs
   split at hs
   ·exact hm x _ y hs
   split at hs
   ·split at hs
    ·injection hs with hs;subst hs;show(84:Int)≠0;decide
    split at hs
    ·rename_i hw
     injection hs with hs;subst hs;exact hw
    ·obtain⟨p,hp⟩:=frs_some hs
     exact hm p _ y hp
   ·unfold pck at hs
    split at hs
    ·injection hs with hs;subst hs;show(84:Int)≠0;decide
    split at hs
    ·cases hs
    ·rename_i hE
     injection hs with hs;subst hs;exact hE
theorem sl_why {t:Slt} {X:VT} {deep:Int} {f:Flt3} (h:slT utD flD t X deep=some f):f.why≠0:=
 ch_why [t] [X] deep f (by rw[chT_cons,h])
theorem ck_why {ts:List Slt} {X:VT} {deep:Int} {f:Flt3} (h:ckT utD flD ts X deep=some f):f.why≠0:=by
 unfold ckT ckN at h
 split at h
 ·injection h with h;subst h;show(84:Int)≠0;decide
 split at h
 ·injection h with h;subst h;show(81:Int)≠0;decide
 ·exact ch_why ts X.parts deep f h
theorem r_checkN {sv:Value} {ts:List Slt} (S:Nat→Prop) (x:VR) (X:VT) (deep:Int) (w:World) (h:Slo w sv ts) (hX:VtM w S x X)
 (hcp:∀k,k<ts.length→∀(u:Value) (y:VR) (Y:VT) (V:World),Below w.heap.size w V→Slo w u (gs ts k).sub→VtM w S y Y→Calls Tryz.prog 52 #[.agg (slr (gs ts k) u),.agg (vrv y),.int .i64 deep] V fun e w'=>e=.returned (.agg (flr (slT utD flD (gs ts k) Y deep)))∧Below V.heap.size V w'):
 Calls Tryz.prog 34 #[sv,.agg (vrv x),.int .i64 deep] w fun e w'=>e=.returned (.agg (flr (ckT utD flD ts X deep)))∧Below w.heap.size w w':=by
 obtain⟨e1,e2,e3,e4,e5⟩:=hX.num_eq;obtain⟨xs,hP⟩:=hX.split;clear hX;obtain⟨n,da,dl,dc,pa,pl,pc⟩:=x;obtain⟨m,dat,ps⟩:=X;replace hP:PtM w S (.slice pa pl pc) xs ps:=hP;replace e1:n=m:=e1;replace e3:dl=dat.length:=e3;replace e5:pl=ps.length:=e5;replace e4:dl≤140737488351232:=e4
 have hck:ckT utD flD ts (.mk m dat ps) deep=if m≠0∨0<dat.length then some ⟨deep,0,84⟩ else if ps.length≠ts.length then some ⟨deep,0,81⟩ else chT utD flD ts ps deep:=rfl
 rw[hck];clear hck;rw[←e1,←e3];clear e1 e3 dat m e2
 cases h with
 |mk ao cap ts us hl hc hnn h hs=>
  have hsf:∀i,i<ts.length→∃so sn sc,gvs us i=.slice so sn sc:=fun i hi=>by obtain⟨a,c,e⟩:=(hs i hi).form;exact⟨_,_,_,e⟩
  obtain⟨pa_,pc_,ep,hxl,hpc,hpm,hpr,hVs⟩:=hP
  injection ep with ep1 ep2 ep3
  subst ep1 ep2 ep3
  obtain⟨R,hR⟩:∃R,(if n≠0∨0<dl then some ⟨deep,0,84⟩ else if ps.length≠ts.length then some ⟨deep,0,81⟩ else chT utD flD ts ps deep)=R:=⟨_,rfl⟩
  rw[hR]
  have hb0:Below w.heap.size w ((w.alloc (.cells (vrw n (.slice da dl dc) (.slice pa ps.length pc)) 27)).alloc (.cells #[.int .i64 0,.int .i64 0,.int .i64 0] 41)):=((Below.refl _ _).alloc (Nat.le_refl _) _).alloc (by simp) _
  have rV0:=hp2_0 w (.cells (vrw n (.slice da dl dc) (.slice pa ps.length pc)) 27) (.cells #[.int .i64 0,.int .i64 0,.int .i64 0] 41);have rF0:=hp2_1 w (.cells (vrw n (.slice da dl dc) (.slice pa ps.length pc)) 27) (.cells #[.int .i64 0,.int .i64 0,.int .i64 0] 41);unfold vrw at rV0 rF0 hb0;unfold vrv vrw
  by_cases hbad:n≠0∨0<dl
  ·have eR:R=some ⟨deep,0,84⟩:=by rw[←hR,if_pos hbad]
   clear hR hcp h hs hpr hVs hsf
   replace eR:=hide eR
   rcases Nat.eq_zero_or_pos n with rfl|hnp
   ·have hq:0<dl:=by omega
    have hd:decide ((dl:Int)>0)=true:=by simp;omega
    clear hbad
    go_enter Tryz.func34,Tryz.ntmps34
    go_upto_region 1 with(fail)
    generalize (w.alloc (.cells #[.int .u64 ((0:Nat):Int),.slice da dl dc,.slice pa ps.length pc] 27)).alloc (.cells #[.int .i64 0,.int .i64 0,.int .i64 0] 41)=w0 at *
    have c0:w0.cell? ⟨w.heap.size,0,none⟩=some (.int .u64 0):=by rw[cell_of_row _ _ _ _ _ _ rV0];rfl
    have c1:w0.cell? ⟨w.heap.size,1,none⟩=some (.slice da dl dc):=by rw[cell_of_row _ _ _ _ _ _ rV0];rfl
    have hone:(#[Value.int .i64 deep,.int .i64 0,.int .i64 84]:Array Value).all (·.oneCell')=true:=by simp[Value.oneCell']
    have r3:=setRow_heap w0 (w.heap.size+1) _ #[.int .i64 deep,.int .i64 0,.int .i64 84] _ _ rF0
    have hb3:=below_setRow (g:=w.heap.size+1) hb0 (by omega) #[.int .i64 deep,.int .i64 0,.int .i64 84]
    have A1:=hide r3;have A2:=hide hb3;clear r3 hb3
    go_wp2_with (first|(refine wpList_store_row rfl 41 _ _ rfl (w.heap.size+1) #[.int .i64 deep,.int .i64 0,.int .i64 84] rfl rfl 41 _ rF0 infoFt rfl hone ?_)|fail)
    exact bodyPost_ret (v:=.agg #[.int .i64 deep,.int .i64 0,.int .i64 84]) (results_cell_row Tryz.results34 _ _ (w.heap.size+1) _ _ _ _ rfl A1.out Tryz.underlying41 rfl infoFt) rfl ⟨by rw[eR.out];rfl,A2.out⟩
   ·have hd:((n:Int)==0)=false:=by simp;omega
    have hd2:¬(n:Int)=0:=by omega
    clear hbad
    go_enter Tryz.func34,Tryz.ntmps34
    go_upto_region 1 with(fail)
    generalize (w.alloc (.cells #[.int .u64 (n:Int),.slice da dl dc,.slice pa ps.length pc] 27)).alloc (.cells #[.int .i64 0,.int .i64 0,.int .i64 0] 41)=w0 at *
    have c0:w0.cell? ⟨w.heap.size,0,none⟩=some (.int .u64 (n:Int)):=by rw[cell_of_row _ _ _ _ _ _ rV0];rfl
    have hone:(#[Value.int .i64 deep,.int .i64 0,.int .i64 84]:Array Value).all (·.oneCell')=true:=by simp[Value.oneCell']
    have r3:=setRow_heap w0 (w.heap.size+1) _ #[.int .i64 deep,.int .i64 0,.int .i64 84] _ _ rF0
    have hb3:=below_setRow (g:=w.heap.size+1) hb0 (by omega) #[.int .i64 deep,.int .i64 0,.int .i64 84]
    have A1:=hide r3;have A2:=hide hb3;clear r3 hb3
    go_wp2_with (first|(refine wpList_store_row rfl 41 _ _ rfl (w.heap.size+1) #[.int .i64 deep,.int .i64 0,.int .i64 84] rfl rfl 41 _ rF0 infoFt rfl hone ?_)|fail)
    exact bodyPost_ret (v:=.agg #[.int .i64 deep,.int .i64 0,.int .i64 84]) (results_cell_row Tryz.results34 _ _ (w.heap.size+1) _ _ _ _ rfl A1.out Tryz.underlying41 rfl infoFt) rfl ⟨by rw[eR.out];rfl,A2.out⟩
  obtain rfl:n=0:=by omega
  obtain rfl:dl=0:=by omega
  rw[if_neg hbad] at hR;clear hbad
  by_cases hlx:ps.length=ts.length
  rotate_left
  ·have eR:R=some ⟨deep,0,81⟩:=by rw[←hR,if_pos hlx]
   have hd:((ps.length:Int)==(ts.length:Int))=false:=by simp;omega
   clear hR hcp h hs hpr hVs hsf;replace eR:=hide eR;replace hlx:=hide hlx
   go_enter Tryz.func34,Tryz.ntmps34
   go_upto_region 1 with(fail)
   generalize (w.alloc (.cells #[.int .u64 ((0:Nat):Int),.slice da 0 dc,.slice pa ps.length pc] 27)).alloc (.cells #[.int .i64 0,.int .i64 0,.int .i64 0] 41)=w0 at *
   have c0:w0.cell? ⟨w.heap.size,0,none⟩=some (.int .u64 0):=by rw[cell_of_row _ _ _ _ _ _ rV0];rfl
   have c1:w0.cell? ⟨w.heap.size,1,none⟩=some (.slice da 0 dc):=by rw[cell_of_row _ _ _ _ _ _ rV0];rfl
   have c2:w0.cell? ⟨w.heap.size,2,none⟩=some (.slice pa ps.length pc):=by rw[cell_of_row _ _ _ _ _ _ rV0];rfl
   have hone:(#[Value.int .i64 deep,.int .i64 0,.int .i64 81]:Array Value).all (·.oneCell')=true:=by simp[Value.oneCell']
   have r3:=setRow_heap w0 (w.heap.size+1) _ #[.int .i64 deep,.int .i64 0,.int .i64 81] _ _ rF0
   have hb3:=below_setRow (g:=w.heap.size+1) hb0 (by omega) #[.int .i64 deep,.int .i64 0,.int .i64 81]
   have A1:=hide r3;have A2:=hide hb3;clear r3 hb3
   go_wp2_with (first|(refine wpList_store_row rfl 41 _ _ rfl (w.heap.size+1) #[.int .i64 deep,.int .i64 0,.int .i64 81] rfl rfl 41 _ rF0 infoFt rfl hone ?_)|fail)
   exact bodyPost_ret (v:=.agg #[.int .i64 deep,.int .i64 0,.int .i64 81]) (results_cell_row Tryz.results34 _ _ (w.heap.size+1) _ _ _ _ rfl A1.out Tryz.underlying41 rfl infoFt) rfl ⟨by rw[eR.out];rfl,A2.out⟩
  rw[if_neg (by omega)] at hR
  rw[hlx] at rV0 rF0 hb0 hpr hpc hVs⊢
  have eR0:=hide (show R=chT utD flD (ts.drop 0) (ps.drop 0) deep from hR.symm)
  clear hR
  go_enter Tryz.func34,Tryz.ntmps34
  go_wp2_with (fail)
  generalize (w.alloc (.cells #[.int .u64 ((0:Nat):Int),.slice da 0 dc,.slice pa ts.length pc] 27)).alloc (.cells #[.int .i64 0,.int .i64 0,.int .i64 0] 41)=w0 at *
  go_loopw [7,8] (fun i _ wr=>∃k:Nat,k≤ts.length∧i=.int .i64 k∧R=chT utD flD (ts.drop k) (ps.drop k) deep∧Below w.heap.size w wr∧Bx wr w.heap.size #[.int .u64 ((0:Nat):Int),.slice da 0 dc,.slice pa ts.length pc]∧wr.heap[w.heap.size+1]? =some (.cells #[.int .i64 0,.int .i64 0,.int .i64 0] 41 (0,0))) (fun i _ _=>ts.length-(intOf i).toNat)
  case atStart=>exact⟨0,by omega,rfl,eR0.out,hb0,⟨_,rV0⟩,rF0⟩
  case round=>
   clear rV0 rF0 hb0 eR0;obtain⟨k,hk,rfl,eR,hb,rV,rF⟩:=hrel
   by_cases hlt:k<ts.length
   ·have hd:decide ((k:Int)<(ts.length:Int))=true:=by simp;omega
    obtain⟨b,off,rfl,hbl,hra,hsok⟩:=h k hlt
    obtain⟨pb,poff,rfl,hpb,hpra⟩:=hpr k hlt;obtain⟨so,sn,sc,hsu⟩:=hsf k hlt;rw[hsu] at hra;have hsw:=rangeS_keep2 hra hb hbl;have hpw:=rangeS_keep2 hpra hb hpb;have hbl2:=Nat.lt_of_lt_of_le hbl (Nat.le_refl _);have hpb2:=Nat.lt_of_lt_of_le hpb (Nat.le_refl _)
    rw[chT_drop utD flD hlt (by omega)] at eR
    have cP:=hide (fun V hV=>hcp k hlt (.slice so sn sc) (gx xs k) (gvt ps k) V hV (hsu▸hs k hlt) (hVs k (by omega)))
    obtain⟨F,hF⟩:∃F,slT utD flD (gs ts k) (gvt ps k) deep=F:=⟨_,rfl⟩
    have hwhy:∀f,F=some f→¬f.why=0:=fun f e=>sl_why (hF.trans e)
    rw[hF] at eR cP;have eR2:=hide eR;have hwh:=hide hwhy;unfold slr at cP;unfold srow at hsw hra
    generalize (gs ts k).no=no at *
    generalize (gs ts k).kind=kd at *
    generalize ((gs ts k).least:Int)=l at *
    generalize ((gs ts k).most:Int)=mo at *
    generalize gx xs k=x at *
    obtain⟨xn,xda,xdl,xdc,xpa,xpl,xpc⟩:=x;unfold vrv vrw at cP hpw;clear eR hwhy hF hra hpra h hpr hVs hcp hs hsok hsu hsf
    go_wp2_with (fail)
    have hS0:(fun W:World=>Bx W w.heap.size #[.int .u64 ((0:Nat):Int),.slice da 0 dc,.slice (some ⟨pb,poff,none⟩) ts.length pc]∧W.rangeAt b (off+k*5) [.int .i64 no,.int .i64 kd,.int .u64 l,.int .u64 mo,.slice so sn sc]∧W.rangeAt pb (poff+k*3) [.int .u64 (xn:Int),.slice xda xdl xdc,.slice xpa xpl xpc]) wr:=⟨rV,hsw,hpw⟩
    refine wp_region_held (S:=fun W:World=>Bx W w.heap.size #[.int .u64 ((0:Nat):Int),.slice da 0 dc,.slice (some ⟨pb,poff,none⟩) ts.length pc]∧W.rangeAt b (off+k*5) [.int .i64 no,.int .i64 kd,.int .u64 l,.int .u64 mo,.slice so sn sc]∧W.rangeAt pb (poff+k*3) [.int .u64 (xn:Int),.slice xda xdl xdc,.slice xpa xpl xpc]) (by kernel_rfl) ?_
    change wpAnyH _ _ _ _ _ _ _ _ (World.drew _)
    have hbd:Below wr.heap.size wr wr.drew:=below_drN (Below.refl _ _) 1
    replace hS0:(fun W:World=>Bx W w.heap.size #[.int .u64 ((0:Nat):Int),.slice da 0 dc,.slice (some ⟨pb,poff,none⟩) ts.length pc]∧W.rangeAt b (off+k*5) [.int .i64 no,.int .i64 kd,.int .u64 l,.int .u64 mo,.slice so sn sc]∧W.rangeAt pb (poff+k*3) [.int .u64 (xn:Int),.slice xda xdl xdc,.slice xpa xpl xpc]) wr.drew:=hS0
    replace hb:=Below.after hb hbd;replace rF:=keep hbd rF;clear rV hsw hpw hbd
    generalize wr.drew=w1 at *
    refine wTy 0 ?v1 rfl ?y1 hS0 ?r1
    case y1=>
     intro w_ hS_;go_simp
     try with_reducible rfl
    simp only[Act.put,ZPa,ZPc,ZPd,ZPe,ZPf];refine wTy 1 ?v2 rfl ?y2 hS0 ?r2
    case y2=>
     intro w_ hS_;go_simp
     try with_reducible rfl
    simp only[Act.put,ZPa,ZPb,ZPc,ZPd,ZPe,ZPf];refine wTy 2 ?v3 rfl ?y3 hS0 ?r3
    case y3=>
     intro w_ hS_;go_simp
     try with_reducible rfl
    simp only[Act.put,ZPa,ZPb,ZPc,ZPd,ZPe,ZPf]
    refine wTk (i:=3) (v:=.agg #[.int .i64 no,.int .i64 kd,.int .u64 l,.int .u64 mo,.slice so sn sc]) rfl (yieldsIf_load_mid (by rfl) 88 _ rfl b (off+k*5) rfl [.int .i64 no,.int .i64 kd,.int .u64 l,.int .u64 mo,.slice so sn sc] _ (fun _ h=>h.2.1) Tryz.underlying88 rfl infoSlt) hS0 ?_
    simp only[Act.put,ZPa,ZPb,ZPc,ZPd,ZPe,ZPf];refine wTy 4 ?v4 rfl ?y4 hS0 ?r4
    case y4=>
     intro w_ hS_;go_simp
     try with_reducible rfl
    simp only[Act.put,ZPa,ZPb,ZPc,ZPd,ZPe,ZPf];refine wTy 5 (.slice (some ⟨pb,poff,none⟩) ts.length pc) rfl ?y5 hS0 ?r5
    case y5=>
     intro w_ hS_;obtain⟨_,h_⟩:=hS_.1;have c_:=cell_of_row _ _ 2 _ _ _ h_;go_simp
     try with_reducible rfl
    simp only[Act.put,ZPa,ZPb,ZPc,ZPd,ZPe,ZPf];refine wTy 6 ?v6 rfl ?y6 hS0 ?r6
    case y6=>
     intro w_ hS_;go_simp
     try with_reducible rfl
    simp only[Act.put,ZPa,ZPb,ZPc,ZPd,ZPe,ZPf];refine wTy 7 ?v7 rfl ?y7 hS0 ?r7
    case y7=>
     intro w_ hS_;go_simp
     try with_reducible rfl
    simp only[Act.put,ZPa,ZPb,ZPc,ZPd,ZPe,ZPf]
    refine wTk (i:=8) (v:=.agg #[.int .u64 (xn:Int),.slice xda xdl xdc,.slice xpa xpl xpc]) rfl (yieldsIf_load_mid (by rfl) 27 _ rfl pb (poff+k*3) rfl [.int .u64 (xn:Int),.slice xda xdl xdc,.slice xpa xpl xpc] _ (fun _ h=>h.2.2) Tryz.underlying27 rfl infoV) hS0 ?_
    simp only[Act.put,ZPa,ZPb,ZPc,ZPd,ZPe,ZPf];refine wTy 9 ?v8 rfl ?y8 hS0 ?r8
    case y8=>
     intro w_ hS_;go_simp
     try with_reducible rfl
    simp only[Act.put,ZPa,ZPb,ZPc,ZPd,ZPe,ZPf]
    refine wpAnyH_two (j:=10) (k:=11) (fuel:=2) (by kernel_rfl) rfl rfl (by kernel_rfl) (by kernel_rfl) (fun K_ hK=>?_) (fun K_ hK=>?_)
    ·have cX:=(cP.out w1 hb).mono (fun e w' h=>(⟨_,h.1,rfl,h.2⟩:∃v,e=.returned v∧v=.agg (flr F)∧Below w1.heap.size w1 w'))
     refine wp_call_ex (R:=fun v w'=>v=.agg (flr F)∧Below w1.heap.size w1 w') (by kernel_rfl) cX (fun v_ w2 hX_=>?_)
     obtain⟨rfl,hbx⟩:=hX_
     replace hS0:(fun W:World=>Bx W w.heap.size #[.int .u64 ((0:Nat):Int),.slice da 0 dc,.slice (some ⟨pb,poff,none⟩) ts.length pc]∧W.rangeAt b (off+k*5) [.int .i64 no,.int .i64 kd,.int .u64 l,.int .u64 mo,.slice so sn sc]∧W.rangeAt pb (poff+k*3) [.int .u64 (xn:Int),.slice xda xdl xdc,.slice xpa xpl xpc]) w2:=⟨hS0.1.keep hbx,rangeS_keep2 hS0.2.1 hbx (Nat.lt_of_lt_of_le hbl2 (by have:=hS0.1.lt;omega)),rangeS_keep2 hS0.2.2 hbx (Nat.lt_of_lt_of_le hpb2 (by have:=hS0.1.lt;omega))⟩
     replace hb:=Below.after hb hbx;replace rF:=keep hbx rF;refine hK _ _ hS0 ?_;simp only[Act.put,ZPa,ZPb,ZPc,ZPd,ZPe,ZPf];clear hK;clear cX hbx
     refine wpAnyH_one (k:=11) (fuel:=1) (by kernel_rfl) rfl (by kernel_rfl) (fun K_ hK=>?_)
     refine wp_val_op (.pointer (some ⟨w2.heap.size,0,none⟩)) (w':=w2.alloc (.cells #[.int .i64 0,.int .i64 0,.int .i64 0] 41)) (by kernel_rfl) ?_
     have hba:Below w2.heap.size w2 (w2.alloc (.cells #[.int .i64 0,.int .i64 0,.int .i64 0] 41)):=(Below.refl _ _).alloc (Nat.le_refl _) _;have rG:=hp1_0 w2 (.cells #[.int .i64 0,.int .i64 0,.int .i64 0] 41);have hgl:w.heap.size+1<w2.heap.size:=lt_of_row rF
     replace hS0:(fun W:World=>Bx W w.heap.size #[.int .u64 ((0:Nat):Int),.slice da 0 dc,.slice (some ⟨pb,poff,none⟩) ts.length pc]∧W.rangeAt b (off+k*5) [.int .i64 no,.int .i64 kd,.int .u64 l,.int .u64 mo,.slice so sn sc]∧W.rangeAt pb (poff+k*3) [.int .u64 (xn:Int),.slice xda xdl xdc,.slice xpa xpl xpc]) (w2.alloc (.cells #[.int .i64 0,.int .i64 0,.int .i64 0] 41)):=⟨hS0.1.keep hba,rangeS_keep2 hS0.2.1 hba (Nat.lt_of_lt_of_le hbl2 (by have:=hS0.1.lt;omega)),rangeS_keep2 hS0.2.2 hba (Nat.lt_of_lt_of_le hpb2 (by have:=hS0.1.lt;omega))⟩
     replace hb:=Below.after hb hba;replace rF:=keep hba rF;refine hK _ _ hS0 ?_;simp only[Act.put,ZPa,ZPb,ZPc,ZPd,ZPe,ZPf];clear hK;clear hba
     generalize w2.alloc (.cells #[.int .i64 0,.int .i64 0,.int .i64 0] 41)=w4 at *
     generalize w2.heap.size=gf at *
     cases F with
     |none=>
      have hone:(#[.int .i64 0,.int .i64 0,.int .i64 0]:Array Value).all (·.oneCell')=true:=by simp[Value.oneCell']
      refine wpAnyH_one (k:=12) (fuel:=0) (by kernel_rfl) rfl (by kernel_rfl) (fun K_ hK=>?_)
      refine wp_store_row 41 _ _ rfl gf #[.int .i64 0,.int .i64 0,.int .i64 0] rfl rfl 41 _ rG infoFt rfl hone ?_;have hgw:=lt_of_row rG;have rG5:=setRow_heap w4 gf _ #[.int .i64 0,.int .i64 0,.int .i64 0] _ _ rG
      have rF5:=(setRow_other w4 gf (w.heap.size+1) #[.int .i64 0,.int .i64 0,.int .i64 0] (by omega)).trans rF
      have hb5:=below_setRow (g:=gf) hb (by omega) #[.int .i64 0,.int .i64 0,.int .i64 0]
      refine hK _ _ ⟨hS0.1.row (by omega),range_same hS0.2.1 (setRow_other w4 gf b _ (by omega)),range_same hS0.2.2 (setRow_other w4 gf pb _ (by omega))⟩ ?_
      obtain⟨TV,rV4⟩:=hS0.1
      have rV5:=(setRow_other w4 gf w.heap.size #[.int .i64 0,.int .i64 0,.int .i64 0] (by omega)).trans rV4
      simp only[Act.put,ZPa,ZPb,ZPc];clear hK hS0 rG rF hb rV4 cP
      generalize w4.setRow gf #[.int .i64 0,.int .i64 0,.int .i64 0]=w5 at *
      have c2:w5.cell? ⟨gf,2,none⟩=some (.int .i64 0):=by rw[cell_of_row _ _ _ _ _ _ rG5];rfl
      have B1:=hide hb5;have B2:=hide rV5;have B3:=hide rF5;clear hb5 rV5 rF5 rG5
      refine wpAnyH_done (by kernel_rfl) ?_ _
      go_wp2_with (fail)
      refine⟨⟨k+1,by omega,by first|omega|(push_cast;rfl),eR2.out,B1.out,⟨_,B2.out⟩,B3.out⟩,?_⟩
      simp[intOf];omega
     |some f=>
      have hone:(#[.int .i64 f.line,.int .i64 f.at_,.int .i64 f.why]:Array Value).all (·.oneCell')=true:=by simp[Value.oneCell']
      refine wpAnyH_one (k:=12) (fuel:=0) (by kernel_rfl) rfl (by kernel_rfl) (fun K_ hK=>?_)
      refine wp_store_row 41 _ _ rfl gf #[.int .i64 f.line,.int .i64 f.at_,.int .i64 f.why] rfl rfl 41 _ rG infoFt rfl hone ?_;have hgw:=lt_of_row rG;have rG5:=setRow_heap w4 gf _ #[.int .i64 f.line,.int .i64 f.at_,.int .i64 f.why] _ _ rG
      have rF5:=(setRow_other w4 gf (w.heap.size+1) #[.int .i64 f.line,.int .i64 f.at_,.int .i64 f.why] (by omega)).trans rF
      have hb5:=below_setRow (g:=gf) hb (by omega) #[.int .i64 f.line,.int .i64 f.at_,.int .i64 f.why]
      refine hK _ _ ⟨hS0.1.row (by omega),range_same hS0.2.1 (setRow_other w4 gf b _ (by omega)),range_same hS0.2.2 (setRow_other w4 gf pb _ (by omega))⟩ ?_
      obtain⟨TV,rV4⟩:=hS0.1
      have rV5:=(setRow_other w4 gf w.heap.size #[.int .i64 f.line,.int .i64 f.at_,.int .i64 f.why] (by omega)).trans rV4
      simp only[Act.put,ZPa,ZPb,ZPc];clear hK hS0 rG rF hb rV4 cP
      generalize w4.setRow gf #[.int .i64 f.line,.int .i64 f.at_,.int .i64 f.why]=w5 at *
      have c2:w5.cell? ⟨gf,2,none⟩=some (.int .i64 f.why):=by rw[cell_of_row _ _ _ _ _ _ rG5];rfl
      have hw1:=hwh.out f rfl
      have hw2:(f.why==0)=false:=by simpa using hw1
      have r6:=setRow_heap w5 (w.heap.size+1) _ #[.int .i64 f.line,.int .i64 f.at_,.int .i64 f.why] _ _ rF5
      have hb6:=below_setRow (g:=w.heap.size+1) hb5 (by omega) #[.int .i64 f.line,.int .i64 f.at_,.int .i64 f.why]
      have B1:=hide hb6;have B2:=hide r6;clear hb5 hb6 r6 rV5
      refine wpAnyH_done (by kernel_rfl) ?_ _
      go_wp2_with (first|(refine wpList_load_want rfl 41 _ rfl gf rfl 41 _ (0,0) _ rG5 Tryz.underlying41 rfl infoFt ?_)|(refine wpList_store_row rfl 41 _ _ rfl (w.heap.size+1) #[.int .i64 f.line,.int .i64 f.at_,.int .i64 f.why] rfl rfl 41 _ rF5 infoFt rfl hone ?_)|fail)
      exact bodyPost_ret (v:=.agg #[.int .i64 f.line,.int .i64 f.at_,.int .i64 f.why]) (results_cell_row Tryz.results34 _ _ (w.heap.size+1) _ _ _ _ rfl B2.out Tryz.underlying41 rfl infoFt) rfl ⟨by rw[eR2.out];rfl,B1.out⟩
    ·refine wp_val_op (.pointer (some ⟨w1.heap.size,0,none⟩)) (w':=w1.alloc (.cells #[.int .i64 0,.int .i64 0,.int .i64 0] 41)) (by kernel_rfl) ?_
     have hba:Below w1.heap.size w1 (w1.alloc (.cells #[.int .i64 0,.int .i64 0,.int .i64 0] 41)):=(Below.refl _ _).alloc (Nat.le_refl _) _
     have rG:=hp1_0 w1 (.cells #[.int .i64 0,.int .i64 0,.int .i64 0] 41);have hgl:w.heap.size+1<w1.heap.size:=lt_of_row rF
     replace hS0:(fun W:World=>Bx W w.heap.size #[.int .u64 ((0:Nat):Int),.slice da 0 dc,.slice (some ⟨pb,poff,none⟩) ts.length pc]∧W.rangeAt b (off+k*5) [.int .i64 no,.int .i64 kd,.int .u64 l,.int .u64 mo,.slice so sn sc]∧W.rangeAt pb (poff+k*3) [.int .u64 (xn:Int),.slice xda xdl xdc,.slice xpa xpl xpc]) (w1.alloc (.cells #[.int .i64 0,.int .i64 0,.int .i64 0] 41)):=⟨hS0.1.keep hba,rangeS_keep2 hS0.2.1 hba (Nat.lt_of_lt_of_le hbl2 (by have:=hS0.1.lt;omega)),rangeS_keep2 hS0.2.2 hba (Nat.lt_of_lt_of_le hpb2 (by have:=hS0.1.lt;omega))⟩
     replace hb:=Below.after hb hba;replace rF:=keep hba rF;refine hK _ _ hS0 ?_;simp only[Act.put,ZPa,ZPb,ZPc,ZPd,ZPe,ZPf];clear hK;clear hba
     generalize w1.alloc (.cells #[.int .i64 0,.int .i64 0,.int .i64 0] 41)=w3 at *
     generalize w1.heap.size=gf at *
     refine wpAnyH_one (k:=10) (fuel:=1) (by kernel_rfl) rfl (by kernel_rfl) (fun K_ hK=>?_)
     have cX:=(cP.out w3 hb).mono (fun e w' h=>(⟨_,h.1,rfl,h.2⟩:∃v,e=.returned v∧v=.agg (flr F)∧Below w3.heap.size w3 w'))
     refine wp_call_ex (R:=fun v w'=>v=.agg (flr F)∧Below w3.heap.size w3 w') (by kernel_rfl) cX (fun v_ w4 hX_=>?_)
     obtain⟨rfl,hbx⟩:=hX_
     replace hS0:(fun W:World=>Bx W w.heap.size #[.int .u64 ((0:Nat):Int),.slice da 0 dc,.slice (some ⟨pb,poff,none⟩) ts.length pc]∧W.rangeAt b (off+k*5) [.int .i64 no,.int .i64 kd,.int .u64 l,.int .u64 mo,.slice so sn sc]∧W.rangeAt pb (poff+k*3) [.int .u64 (xn:Int),.slice xda xdl xdc,.slice xpa xpl xpc]) w4:=⟨hS0.1.keep hbx,rangeS_keep2 hS0.2.1 hbx (Nat.lt_of_lt_of_le hbl2 (by have:=hS0.1.lt;omega)),rangeS_keep2 hS0.2.2 hbx (Nat.lt_of_lt_of_le hpb2 (by have:=hS0.1.lt;omega))⟩
     replace hb:=Below.after hb hbx;replace rF:=keep hbx rF;replace rG:=keep hbx rG;refine hK _ _ hS0 ?_;simp only[Act.put,ZPa,ZPb,ZPc,ZPd,ZPe,ZPf];clear hK;clear cX hbx
     cases F with
     |none=>
      have hone:(#[.int .i64 0,.int .i64 0,.int .i64 0]:Array Value).all (·.oneCell')=true:=by simp[Value.oneCell']
      refine wpAnyH_one (k:=12) (fuel:=0) (by kernel_rfl) rfl (by kernel_rfl) (fun K_ hK=>?_)
      refine wp_store_row 41 _ _ rfl gf #[.int .i64 0,.int .i64 0,.int .i64 0] rfl rfl 41 _ rG infoFt rfl hone ?_;have hgw:=lt_of_row rG;have rG5:=setRow_heap w4 gf _ #[.int .i64 0,.int .i64 0,.int .i64 0] _ _ rG
      have rF5:=(setRow_other w4 gf (w.heap.size+1) #[.int .i64 0,.int .i64 0,.int .i64 0] (by omega)).trans rF
      have hb5:=below_setRow (g:=gf) hb (by omega) #[.int .i64 0,.int .i64 0,.int .i64 0]
      refine hK _ _ ⟨hS0.1.row (by omega),range_same hS0.2.1 (setRow_other w4 gf b _ (by omega)),range_same hS0.2.2 (setRow_other w4 gf pb _ (by omega))⟩ ?_
      obtain⟨TV,rV4⟩:=hS0.1
      have rV5:=(setRow_other w4 gf w.heap.size #[.int .i64 0,.int .i64 0,.int .i64 0] (by omega)).trans rV4
      simp only[Act.put,ZPa,ZPb,ZPc];clear hK hS0 rG rF hb rV4 cP
      generalize w4.setRow gf #[.int .i64 0,.int .i64 0,.int .i64 0]=w5 at *
      have c2:w5.cell? ⟨gf,2,none⟩=some (.int .i64 0):=by rw[cell_of_row _ _ _ _ _ _ rG5];rfl
      have B1:=hide hb5;have B2:=hide rV5;have B3:=hide rF5;clear hb5 rV5 rF5 rG5
      refine wpAnyH_done (by kernel_rfl) ?_ _
      go_wp2_with (fail)
      refine⟨⟨k+1,by omega,by first|omega|(push_cast;rfl),eR2.out,B1.out,⟨_,B2.out⟩,B3.out⟩,?_⟩
      simp[intOf];omega
     |some f=>
      have hone:(#[.int .i64 f.line,.int .i64 f.at_,.int .i64 f.why]:Array Value).all (·.oneCell')=true:=by simp[Value.oneCell']
      refine wpAnyH_one (k:=12) (fuel:=0) (by kernel_rfl) rfl (by kernel_rfl) (fun K_ hK=>?_)
      refine wp_store_row 41 _ _ rfl gf #[.int .i64 f.line,.int .i64 f.at_,.int .i64 f.why] rfl rfl 41 _ rG infoFt rfl hone ?_;have hgw:=lt_of_row rG;have rG5:=setRow_heap w4 gf _ #[.int .i64 f.line,.int .i64 f.at_,.int .i64 f.why] _ _ rG
      have rF5:=(setRow_other w4 gf (w.heap.size+1) #[.int .i64 f.line,.int .i64 f.at_,.int .i64 f.why] (by omega)).trans rF
      have hb5:=below_setRow (g:=gf) hb (by omega) #[.int .i64 f.line,.int .i64 f.at_,.int .i64 f.why]
      refine hK _ _ ⟨hS0.1.row (by omega),range_same hS0.2.1 (setRow_other w4 gf b _ (by omega)),range_same hS0.2.2 (setRow_other w4 gf pb _ (by omega))⟩ ?_
      obtain⟨TV,rV4⟩:=hS0.1
      have rV5:=(setRow_other w4 gf w.heap.size #[.int .i64 f.line,.int .i64 f.at_,.int .i64 f.why] (by omega)).trans rV4
      simp only[Act.put,ZPa,ZPb,ZPc];clear hK hS0 rG rF hb rV4 cP
      generalize w4.setRow gf #[.int .i64 f.line,.int .i64 f.at_,.int .i64 f.why]=w5 at *
      have c2:w5.cell? ⟨gf,2,none⟩=some (.int .i64 f.why):=by rw[cell_of_row _ _ _ _ _ _ rG5];rfl
      have hw1:=hwh.out f rfl
      have hw2:(f.why==0)=false:=by simpa using hw1
      have r6:=setRow_heap w5 (w.heap.size+1) _ #[.int .i64 f.line,.int .i64 f.at_,.int .i64 f.why] _ _ rF5
      have hb6:=below_setRow (g:=w.heap.size+1) hb5 (by omega) #[.int .i64 f.line,.int .i64 f.at_,.int .i64 f.why]
      have B1:=hide hb6;have B2:=hide r6;clear hb5 hb6 r6 rV5
      refine wpAnyH_done (by kernel_rfl) ?_ _
      go_wp2_with (first|(refine wpList_load_want rfl 41 _ rfl gf rfl 41 _ (0,0) _ rG5 Tryz.underlying41 rfl infoFt ?_)|(refine wpList_store_row rfl 41 _ _ rfl (w.heap.size+1) #[.int .i64 f.line,.int .i64 f.at_,.int .i64 f.why] rfl rfl 41 _ rF5 infoFt rfl hone ?_)|fail)
      exact bodyPost_ret (v:=.agg #[.int .i64 f.line,.int .i64 f.at_,.int .i64 f.why]) (results_cell_row Tryz.results34 _ _ (w.heap.size+1) _ _ _ _ rfl B2.out Tryz.underlying41 rfl infoFt) rfl ⟨by rw[eR2.out];rfl,B1.out⟩
   ·have hd:decide ((k:Int)<(ts.length:Int))=false:=by simp;omega
    obtain rfl:k=ts.length:=by omega
    rw[List.drop_length,chT_nil] at eR;replace eR:=hide eR;have r6:=setRow_heap wr (w.heap.size+1) _ #[.int .i64 0,.int .i64 0,.int .i64 0] _ _ rF
    have hb6:=below_setRow (g:=w.heap.size+1) hb (by omega) #[.int .i64 0,.int .i64 0,.int .i64 0]
    have hone:(#[.int .i64 0,.int .i64 0,.int .i64 0]:Array Value).all (·.oneCell')=true:=by simp[Value.oneCell']
    have B1:=hide hb6;have B2:=hide r6;clear hb hb6 r6 rV h hpr hVs hcp hs hsf
    go_wp2_with (first|(refine wpList_store_row rfl 41 _ _ rfl (w.heap.size+1) #[.int .i64 0,.int .i64 0,.int .i64 0] rfl rfl 41 _ rF infoFt rfl hone ?_)|fail)
    exact bodyPost_ret (v:=.agg #[.int .i64 0,.int .i64 0,.int .i64 0]) (results_cell_row Tryz.results34 _ _ (w.heap.size+1) _ _ _ _ rfl B2.out Tryz.underlying41 rfl infoFt) rfl ⟨by rw[eR.out];rfl,B1.out⟩
end Go.Proofs.YtmmlkfkpblokiaaGreatDoor
