import Derived.Test.YtmmlkfkpblokiaaGreatDoorQdKyc
import Derived.Test.YtmmlkfkpblokiaaGreatDoorQdKtv
import Derived.Test.YtmmlkfkpblokiaaGreatDoorQdIrb
import Derived.Test.YtmmlkfkpblokiaaGreatDoorProg
import Derived.WalkKit
import Derived.WalkSpells
import Derived.WalkLawsBesides
import Derived.Lib.QuietBelow
import Derived.Laws.BitsAllLaws
import Derived.BigQuiet
import Derived.WalkMore
import Derived.Deep.MidRow
import Derived.Test.YtmmlkfkpblokiaaGreatDoorQdOpen
import Derived.Test.YtmmlkfkpblokiaaGreatDoorQdWq
namespace Go.Proofs.YtmmlkfkpblokiaaGreatDoor
set_option maxRecDepth 100000
open Go Go.RowKit Go.Sort
attribute [local go_sem] setCell_drewN alloc_drewN
set_option maxRecDepth 100000 in
set_option maxHeartbeats 8000000 in
theorem r_plainX (no k l m:Int) (hk:k=6) (so:Option Addr) (sn sc:Nat) (n:Nat) (da:Option Addr) (dl dc:Nat) (hdl:dl<9223372036854775808) (pa:Option Addr) (pl pc:Nat) (w:World) (U:Bool) (hT:∀V,Below w.heap.size w V→Calls Tryz.prog 99 #[.slice da dl dc] V fun e w'=>e=.returned (.bool U)∧Below V.heap.size V w'):
 Calls Tryz.prog 75 #[.agg #[.int .i64 no,.int .i64 k,.int .u64 l,.int .u64 m,.slice so sn sc],.agg #[.int .u64 (n:Int),.slice da dl dc,.slice pa pl pc]] w fun e w'=>e=.returned (.int .i64 (if pbad true n dl pl then 84 else if wth (dl:Int) l m≠0 then wth (dl:Int) l m else if U then 0 else 84))∧Below w.heap.size w w':=by
 have hb:Below w.heap.size w ((w.alloc (.cells #[.int .i64 no,.int .i64 k,.int .u64 l,.int .u64 m,.slice so sn sc] 88)).alloc (.cells #[.int .u64 (n:Int),.slice da dl dc,.slice pa pl pc] 27)):=((Below.refl _ _).alloc (Nat.le_refl _) _).alloc (by simp) _
 have r0:=hp2_0 w (.cells #[.int .i64 no,.int .i64 k,.int .u64 l,.int .u64 m,.slice so sn sc] 88) (.cells #[.int .u64 (n:Int),.slice da dl dc,.slice pa pl pc] 27);have rV:=hp2_1 w (.cells #[.int .i64 no,.int .i64 k,.int .u64 l,.int .u64 m,.slice so sn sc] 88) (.cells #[.int .u64 (n:Int),.slice da dl dc,.slice pa pl pc] 27);have cW:=r_within (dl:Int) no k l m so sn sc
 obtain⟨R,hR⟩:∃R,(if pbad true n dl pl then 84 else if wth (dl:Int) l m≠0 then wth (dl:Int) l m else if U then 0 else 84)=R:=⟨_,rfl⟩
 rw[hR]
 rcases hbad:pbad true n dl pl
 ·rw[hbad,if_neg Bool.false_ne_true] at hR
  obtain rfl:pl=0:=by
   rcases Nat.eq_zero_or_pos pl with q|q
   ·exact q
   ·simp[pbad,q] at hbad
  obtain rfl:n=0:=by
   rcases Nat.eq_zero_or_pos n with q|q
   ·exact q
   ·simp[pbad,show n≠0 by omega] at hbad
  clear hbad
  rcases wth_two (dl:Int) l m with hz|hz
  ·rw[hz,if_neg (by decide)] at hR
   rw[hz] at cW
   replace cW:∀V,Calls Tryz.prog 87 #[.int .u64 (dl:Int),.agg #[.int .i64 no,.int .i64 k,.int .u64 l,.int .u64 m,.slice so sn sc]] V fun e w'=>e=.returned (.bool true)∧Below V.heap.size V w':=cW
   replace hR:=hide hR;clear hz;subst hk
   all_goals
    go_enter Tryz.func75,Tryz.ntmps75
    go_wp2_with (first|(refine wpList_load_want rfl 88 _ rfl w.heap.size rfl 88 _ (0,0) _ r0 Tryz.underlying88 rfl infoSlt ?_)|fail)
    refine(cW _).mono ?_;rintro e_ w1 ⟨rfl,hb1⟩
    have c1:w1.cell? ⟨w.heap.size,1,none⟩=some (.int .i64 6):=by rw[cell_of_row _ _ _ _ _ _ (keep hb1 r0)];rfl
    have c2:w1.cell? ⟨w.heap.size+1,1,none⟩=some (.slice da dl dc):=by rw[cell_of_row _ _ _ _ _ _ (keep hb1 rV)];rfl
    replace hb1:=Below.after hb hb1
    go_wp2_with (fail)
    refine(hT _ hb1).mono ?_;rintro e_ w2 ⟨rfl,hb2⟩;replace hb1:=Below.after hb1 hb2;clear hT hb2
    cases U
    ·go_wp2_with (fail)
     go_ret
     exact⟨by rw[←hR.out];rfl,hb1⟩
    ·go_wp2_with (fail)
     go_ret
     exact⟨by rw[←hR.out];rfl,hb1⟩
  ·rw[hz,if_pos (by decide)] at hR
   rw[hz] at cW
   replace cW:∀V,Calls Tryz.prog 87 #[.int .u64 (dl:Int),.agg #[.int .i64 no,.int .i64 k,.int .u64 l,.int .u64 m,.slice so sn sc]] V fun e w'=>e=.returned (.bool false)∧Below V.heap.size V w':=cW
   replace hR:=hide hR;clear hz;subst hk
   all_goals
    go_enter Tryz.func75,Tryz.ntmps75
    go_wp2_with (first|(refine wpList_load_want rfl 88 _ rfl w.heap.size rfl 88 _ (0,0) _ r0 Tryz.underlying88 rfl infoSlt ?_)|fail)
    refine(cW _).mono ?_;rintro e_ w1 ⟨rfl,hb1⟩;replace hb1:=Below.after hb hb1
    go_wp2
    go_ret
    exact⟨by rw[←hR.out];rfl,hb1⟩
 ·rw[hbad,if_pos rfl] at hR
  replace hR:=hide hR
  rcases Nat.eq_zero_or_pos n with rfl|hnp
  ·have hq:0<pl:=by simpa[pbad] using hbad
   have hd:decide ((pl:Int)>0)=true:=by simp;omega
   clear hbad;subst hk
   go_enter Tryz.func75,Tryz.ntmps75
   go_wp2
   go_ret
   exact⟨by rw[←hR.out];rfl,hb⟩
  ·have hd:((n:Int)==0)=false:=by simp;omega
   have hd2:¬(n:Int)=0:=by omega
   clear hbad;subst hk
   go_enter Tryz.func75,Tryz.ntmps75
   go_wp2
   go_ret
   exact⟨by rw[←hR.out];rfl,hb⟩
set_option maxRecDepth 100000 in
set_option maxHeartbeats 8000000 in
theorem r_plainS (no k l m:Int) (hk:k=9) (so:Option Addr) (sn sc:Nat) (n:Nat) (da:Option Addr) (dl dc:Nat) (pa:Option Addr) (pl pc:Nat) (hpl:pl<9223372036854775808) (w:World):
 Calls Tryz.prog 75 #[.agg #[.int .i64 no,.int .i64 k,.int .u64 l,.int .u64 m,.slice so sn sc],.agg #[.int .u64 (n:Int),.slice da dl dc,.slice pa pl pc]] w fun e w'=>e=.returned (.int .i64 (if n≠0∨0<dl then 84 else wth (pl:Int) l m))∧Below w.heap.size w w':=by
 have hb:Below w.heap.size w ((w.alloc (.cells #[.int .i64 no,.int .i64 k,.int .u64 l,.int .u64 m,.slice so sn sc] 88)).alloc (.cells #[.int .u64 (n:Int),.slice da dl dc,.slice pa pl pc] 27)):=((Below.refl _ _).alloc (Nat.le_refl _) _).alloc (by simp) _
 have r0:=hp2_0 w (.cells #[.int .i64 no,.int .i64 k,.int .u64 l,.int .u64 m,.slice so sn sc] 88) (.cells #[.int .u64 (n:Int),.slice da dl dc,.slice pa pl pc] 27);have cW:=r_within (pl:Int) no k l m so sn sc
 obtain⟨R,hR⟩:∃R,(if n≠0∨0<dl then 84 else wth (pl:Int) l m)=R:=⟨_,rfl⟩
 rw[hR]
 by_cases hbad:n≠0∨0<dl
 rotate_left
 ·rw[if_neg hbad] at hR
  obtain rfl:n=0:=by omega
  obtain rfl:dl=0:=by omega
  clear hbad
  rcases wth_two (pl:Int) l m with hz|hz
  ·rw[hz] at cW hR
   replace cW:∀V,Calls Tryz.prog 87 #[.int .u64 (pl:Int),.agg #[.int .i64 no,.int .i64 k,.int .u64 l,.int .u64 m,.slice so sn sc]] V fun e w'=>e=.returned (.bool true)∧Below V.heap.size V w':=cW
   replace hR:=hide hR;clear hz;subst hk
   all_goals
    go_enter Tryz.func75,Tryz.ntmps75
    go_wp2_with (first|(refine wpList_load_want rfl 88 _ rfl w.heap.size rfl 88 _ (0,0) _ r0 Tryz.underlying88 rfl infoSlt ?_)|fail)
    refine(cW _).mono ?_;rintro e_ w1 ⟨rfl,hb1⟩;replace hb1:=Below.after hb hb1
    go_wp2
    go_ret
    exact⟨by rw[←hR.out];rfl,hb1⟩
  ·rw[hz] at cW hR
   replace cW:∀V,Calls Tryz.prog 87 #[.int .u64 (pl:Int),.agg #[.int .i64 no,.int .i64 k,.int .u64 l,.int .u64 m,.slice so sn sc]] V fun e w'=>e=.returned (.bool false)∧Below V.heap.size V w':=cW
   replace hR:=hide hR;clear hz;subst hk
   all_goals
    go_enter Tryz.func75,Tryz.ntmps75
    go_wp2_with (first|(refine wpList_load_want rfl 88 _ rfl w.heap.size rfl 88 _ (0,0) _ r0 Tryz.underlying88 rfl infoSlt ?_)|fail)
    refine(cW _).mono ?_;rintro e_ w1 ⟨rfl,hb1⟩;replace hb1:=Below.after hb hb1
    go_wp2
    go_ret
    exact⟨by rw[←hR.out];rfl,hb1⟩
 ·rw[if_pos hbad] at hR
  replace hR:=hide hR
  rcases Nat.eq_zero_or_pos n with rfl|hnp
  ·have hq:0<dl:=by omega
   have hd:decide ((dl:Int)>0)=true:=by simp;omega
   clear hbad;subst hk
   go_enter Tryz.func75,Tryz.ntmps75
   go_wp2
   go_ret
   exact⟨by rw[←hR.out];rfl,hb⟩
  ·have hd:((n:Int)==0)=false:=by simp;omega
   have hd2:¬(n:Int)=0:=by omega
   clear hbad;subst hk
   go_enter Tryz.func75,Tryz.ntmps75
   go_wp2
   go_ret
   exact⟨by rw[←hR.out];rfl,hb⟩
set_option maxRecDepth 100000 in
set_option maxHeartbeats 8000000 in
theorem r_plainL (no l m:Int) (so:Option Addr) (sn sc:Nat) (n:Nat) (da:Option Addr) (dl dc:Nat) (pa:Option Addr) (pl pc:Nat) (w:World) (E:Int) (hF:∀V,Calls Tryz.prog 100 #[.int .u64 (n:Int),.int .u64 m] V fun e w'=>e=.returned (.int .i64 E)∧Below V.heap.size V w'):
 Calls Tryz.prog 75 #[.agg #[.int .i64 no,.int .i64 7,.int .u64 l,.int .u64 m,.slice so sn sc],.agg #[.int .u64 (n:Int),.slice da dl dc,.slice pa pl pc]] w fun e w'=>e=.returned (.int .i64 (if pbad false n dl pl then 84 else E))∧Below w.heap.size w w':=by
 have hb:Below w.heap.size w ((w.alloc (.cells #[.int .i64 no,.int .i64 7,.int .u64 l,.int .u64 m,.slice so sn sc] 88)).alloc (.cells #[.int .u64 (n:Int),.slice da dl dc,.slice pa pl pc] 27)):=((Below.refl _ _).alloc (Nat.le_refl _) _).alloc (by simp) _
 obtain⟨R,hR⟩:∃R,(if pbad false n dl pl then 84 else E)=R:=⟨_,rfl⟩
 rw[hR]
 rcases hbad:pbad false n dl pl
 ·rw[hbad,if_neg Bool.false_ne_true] at hR
  obtain rfl:pl=0:=by
   rcases Nat.eq_zero_or_pos pl with q|q
   ·exact q
   ·simp[pbad,q] at hbad
  obtain rfl:dl=0:=by
   rcases Nat.eq_zero_or_pos dl with q|q
   ·exact q
   ·simp[pbad,q] at hbad
  clear hbad;replace hR:=hide hR
  go_enter Tryz.func75,Tryz.ntmps75
  go_wp2_with (fail)
  refine(hF _).mono ?_;rintro e_ w1 ⟨rfl,hb1⟩;replace hb1:=Below.after hb hb1
  go_wp2_with (fail)
  go_ret
  exact⟨by rw[←hR.out];rfl,hb1⟩
 ·rw[hbad,if_pos rfl] at hR
  replace hR:=hide hR
  rcases Nat.eq_zero_or_pos dl with rfl|hdp
  ·have hq:0<pl:=by simpa[pbad] using hbad
   have hd:decide ((pl:Int)>0)=true:=by simp;omega
   clear hbad
   go_enter Tryz.func75,Tryz.ntmps75
   go_wp2
   go_ret
   exact⟨by rw[←hR.out];rfl,hb⟩
  ·have hd:decide ((dl:Int)>0)=true:=by simp;omega
   clear hbad
   go_enter Tryz.func75,Tryz.ntmps75
   go_wp2
   go_ret
   exact⟨by rw[←hR.out];rfl,hb⟩
end Go.Proofs.YtmmlkfkpblokiaaGreatDoor
namespace Go.Proofs.YtmmlkfkpblokiaaGreatDoor
set_option maxRecDepth 100000
open Go Go.RowKit Go.Sort
attribute [local go_sem] setCell_drewN alloc_drewN
def flr (f:Option Flt3):Array Value:=match f with
 |none=>#[.int .i64 0,.int .i64 0,.int .i64 0]
 |some x=>frw x
theorem infoFt:(Tryz.prog.info? 41).map (·.size)=some 3:=by kernel_rfl
end Go.Proofs.YtmmlkfkpblokiaaGreatDoor
namespace Go.Proofs.YtmmlkfkpblokiaaGreatDoor
set_option maxRecDepth 100000
open Go Go.RowKit Go.Sort
attribute [local go_sem] setCell_drewN alloc_drewN
def hdr:List Slt:=[.mk 1 5 32 32 [],.mk 2 2 0 4294967295 [],.mk 3 2 0 4294967295 []]
def hcs:Array Value:=#[.int .i64 1,.int .i64 5,.int .u64 32,.int .u64 32,.slice none 0 0,.int .i64 2,.int .i64 2,.int .u64 0,.int .u64 4294967295,.slice none 0 0,.int .i64 3,.int .i64 2,.int .u64 0,.int .u64 4294967295,.slice none 0 0]
end Go.Proofs.YtmmlkfkpblokiaaGreatDoor
namespace Go.Proofs.YtmmlkfkpblokiaaGreatDoor
set_option maxRecDepth 100000
open Go Go.RowKit Go.Sort
attribute [local go_sem] setCell_drewN alloc_drewN
section
variable {P : Program} {ops : Array Oper} {Q : Exit → Act → World → Prop} {md : Region.Mode} {S : World → Prop}
theorem wpAnyH_two {j k:Nat} {oj ok:Oper} {fuel:Nat} {listed:Array Bool} {a:Act} {w:World} (hr:Region.ready md ops listed=[j,k]) (hj:ops[j]? =some oj) (hk:ops[k]? =some ok) (wj:Region.wanted oj (yielded ops a.tmps)=true) (wk:Region.wanted ok (yielded ops a.tmps)=true)
 (h1:∀K:Act→World→Prop,(∀a' w',S w'→wpAnyH P md ops Q S fuel (listed.setIfInBounds j true) a' w'→K a' w')→oj.wp P a w K Q)
 (h2:∀K:Act→World→Prop,(∀a' w',S w'→wpAnyH P md ops Q S fuel (listed.setIfInBounds k true) a' w'→K a' w')→ok.wp P a w K Q):wpAnyH P md ops Q S (fuel+1) listed a w:=by
 refine wpAnyH_all hr (by simp) (fun i hi'=>?_)
 obtain rfl|rfl:i=j∨i=k:=by simpa using hi'
 ·unfold wpOp
  simp only[hj,wj,if_true]
  exact .inl (h1 _ (fun a' w' hS hn=>⟨hS,hn⟩))
 ·unfold wpOp
  simp only[hk,wk,if_true]
  exact .inl (h2 _ (fun a' w' hS hn=>⟨hS,hn⟩))
end
def hrw (pub:List B) (prev m:Nat):Array Value:=irow .u8 (bl pub)++ #[.int .u32 (prev:Int),.int .u32 (m:Int)]
def hxs (g prev m:Nat):List VR:=[⟨0,some ⟨g,0,none⟩,32,32,none,0,0⟩,⟨prev,none,0,0,none,0,0⟩,⟨m,none,0,0,none,0,0⟩]
def hps (g prev m:Nat):Array Value:=#[.int .u64 0,.slice (some ⟨g,0,none⟩) 32 32,.slice none 0 0,.int .u64 (prev:Int),.slice none 0 0,.slice none 0 0,.int .u64 (m:Int),.slice none 0 0,.slice none 0 0]
end Go.Proofs.YtmmlkfkpblokiaaGreatDoor
namespace Go.Proofs.YtmmlkfkpblokiaaGreatDoor
set_option maxRecDepth 100000
open Go Go.RowKit Go.Sort
attribute [local go_sem] setCell_drewN alloc_drewN
end Go.Proofs.YtmmlkfkpblokiaaGreatDoor
namespace Go.Proofs.YtmmlkfkpblokiaaGreatDoor
set_option maxRecDepth 100000
open Go Go.RowKit Go.Sort
section
variable (utf : List B → Bool) (flE : Nat → Nat → Int)
end
def deG (a:Int) (n:Nat) (f:Flt3):Prop:=f.line=0∧(a≤f.at_∧f.at_≤a+(n:Int))∧f.why≠0
theorem deG.wide {a b:Int} {n m:Nat} {f:Flt3} (h:deG a n f) (h1:b≤a) (h2:a+(n:Int)≤b+(m:Int)):deG b m f:=by
 obtain⟨e1,⟨e2,e3⟩,e4⟩:=h
 exact⟨e1,⟨by omega,by omega⟩,e4⟩
section
variable (utf : List B → Bool) (flE : Nat → Nat → Int)
end
end Go.Proofs.YtmmlkfkpblokiaaGreatDoor
namespace Go.Proofs.YtmmlkfkpblokiaaGreatDoor
set_option maxRecDepth 100000
open Go Go.RowKit Go.Sort
attribute [local go_sem] setCell_drewN alloc_drewN
def plT (t:Slt) (X:VT):Int:=if t.kind=9 then(if X.num≠0∨0<X.dat.length then 84 else wth (X.parts.length:Int) (t.least:Int) (t.most:Int)) else if pbad (isB t.kind) X.num X.dat.length X.parts.length then 84 else plE8 utD flD t.kind t.least t.most X
theorem fit_float {l m n:Nat} (h:fitN 7 (l:Int) (m:Int) n=true):m≤9007199254740992:=by
 simp[fitN,fitB] at h
 omega
set_option maxHeartbeats 1000000 in
theorem r_plainT {W:World} {S:Nat→Prop} {t:Slt} (h8:t.kind≠8) (hf:sfit t=true) (so:Option Addr) (sn sc:Nat) {x:VR} {X:VT} (hX:VtM W S x X) (w:World) (hw:Below W.heap.size W w):Calls Tryz.prog 75 #[.agg (slr t (.slice so sn sc)),.agg (vrv x)] w fun e w'=>e=.returned (.int .i64 (plT t X))∧Below w.heap.size w w':=by
 have hXw:=hX.blw hw;obtain⟨e1,e2,e3,e4,e5⟩:=hXw.num_eq
 have hpl:x.pl<9223372036854775808:=by
  obtain⟨xs,ao,cap,_,_,_,h,_⟩:=hXw.split;omega
 have hd:BysB w (.slice x.da x.dl x.dc) X.dat:=by
  cases hXw with
  |mk x bs xs ps hn hdl hbl hd hdc hds hpl hxl hpc hpm hps hP hs=>exact hd
 unfold plT vrv vrw slr;rw[←e1,←e3,←e5]
 have kx:(t.kind=1∨t.kind=2∨t.kind=3)∨t.kind=4∨t.kind=5∨t.kind=6∨t.kind=7∨t.kind=9:=by
  rcases fit_cases hf with q|q|q|q|q|q|q|q
  ·exact .inl (.inl q.1)
  ·exact .inl (.inr (.inl q.1))
  ·exact .inl (.inr (.inr q.1))
  ·exact .inr (.inl q)
  ·rcases q.1 with z|z
   ·exact .inr (.inr (.inl z))
   ·exact .inr (.inr (.inr (.inl z)))
  ·exact .inr (.inr (.inr (.inr (.inl q))))
  ·exact absurd q h8
  ·exact .inr (.inr (.inr (.inr (.inr q.1))))
 rcases kx with k|k|k|k|k|k
 ·have eE:plE8 utD flD t.kind t.least t.most X=wth (x.num:Int) (t.least:Int) (t.most:Int):=by
   unfold plE8
   rw[if_neg (by omega),if_neg (by omega),if_neg (by omega),if_neg (by omega),e1]
  have eB:isB t.kind=false:=by
   unfold isB
   rcases k with k|k|k<;>rw[k]<;>rfl
  rw[if_neg (by omega),eE,eB]
  exact r_plainN t.no t.kind _ _ k so sn sc x.num x.da x.dl x.dc x.pa x.pl x.pc w
 ·have eE:plE8 utD flD t.kind t.least t.most X=wth (x.num:Int) 0 1:=by
   unfold plE8
   rw[if_neg (by omega),if_neg (by omega),if_neg (by omega),if_pos k,e1]
  have eB:isB t.kind=false:=by unfold isB;rw[k];rfl
  rw[if_neg (by omega),eE,eB,k]
  exact r_plainG t.no _ _ so sn sc x.num x.da x.dl x.dc x.pa x.pl x.pc w
 ·have eE:plE8 utD flD t.kind t.least t.most X=wth (x.dl:Int) (t.least:Int) (t.most:Int):=by
   unfold plE8;rw[if_pos k,e3]
  have eB:isB t.kind=true:=by unfold isB;rw[k];rfl
  rw[if_neg (by omega),eE,eB]
  exact r_plainB t.no t.kind _ _ k so sn sc x.num x.da x.dl x.dc (by omega) x.pa x.pl x.pc w
 ·have eE:plE8 utD flD t.kind t.least t.most X=if wth (x.dl:Int) (t.least:Int) (t.most:Int)≠0 then wth (x.dl:Int) (t.least:Int) (t.most:Int) else if utD X.dat then 0 else 84:=by
   unfold plE8
   rw[if_neg (by omega),if_pos k,e3]
  have eB:isB t.kind=true:=by unfold isB;rw[k];rfl
  rw[if_neg (by omega),eE,eB]
  exact r_plainX t.no t.kind _ _ k so sn sc x.num x.da x.dl x.dc (by omega) x.pa x.pl x.pc w (utD X.dat) (fun V hV=>r_Text hd V hV)
 ·have eE:plE8 utD flD t.kind t.least t.most X=flD x.num t.most:=by
   unfold plE8
   rw[if_neg (by omega),if_neg (by omega),if_pos k,e1]
  have eB:isB t.kind=false:=by unfold isB;rw[k];rfl
  have hm:t.most≤9007199254740992:=by
   unfold sfit at hf;rw[k] at hf;exact fit_float hf
  rw[if_neg (by omega),eE,eB,k]
  exact r_plainL t.no _ _ so sn sc x.num x.da x.dl x.dc x.pa x.pl x.pc w (flD x.num t.most) (fun V=>r_Float x.num t.most e2 hm V)
 ·rw[if_pos k]
  exact r_plainS t.no t.kind _ _ k so sn sc x.num x.da x.dl x.dc x.pa x.pl x.pc hpl w
end Go.Proofs.YtmmlkfkpblokiaaGreatDoor
namespace Go.Proofs.YtmmlkfkpblokiaaGreatDoor
set_option maxRecDepth 100000
open Go Go.RowKit Go.Sort
attribute [local go_sem] setCell_drewN alloc_drewN
end Go.Proofs.YtmmlkfkpblokiaaGreatDoor
namespace Go.Proofs.YtmmlkfkpblokiaaGreatDoor
set_option maxRecDepth 100000
open Go Go.RowKit Go.Sort
attribute [local go_sem] setCell_drewN alloc_drewN
theorem there_of_row {W:World} {g:Nat} {cs:Array Value} {t:TypeId} (h:W.heap[g]? =some (.cells cs t (0,0))) {o n:Nat} (hn:o+n≤cs.size):W.there g o n:=by
 intro j hj
 constructor
 ·rw[cell_of_row _ _ _ _ _ _ h]
  simp;omega
 ·simp[World.frozen?,h]
def hzr:List Value:=[.int .i64 0,.int .i64 0,.int .u64 0,.int .u64 0,.slice none 0 0]
def hmk:List Value:=[.int .i64 (-77),.int .i64 0,.int .u64 0,.int .u64 0,.slice none 0 0]
inductive HSl (W:World) (S:Nat→Prop):Value→List Slt→Prop
 |mk (G:Nat) (ts:List Slt) (us:List Value) (hl:ts.length≤10000) (hG:G<W.heap.size) (hS:S G)
  (h:∀i,i<ts.length→W.rangeAt G (i*5) (srow (gs ts i) (gvs us i))∧Sok (gs ts i))
  (hm:∀i,ts.length≤i→i<ts.length+3→W.rangeAt G (i*5) hmk)
  (hs:∀i,i<ts.length→HSl W S (gvs us i) (gs ts i).sub):HSl W S (.slice (some ⟨G,0,none⟩) ts.length (ts.length+3)) ts
theorem HSl.slo {W:World} {S:Nat→Prop} {v:Value} {ts:List Slt} (h:HSl W S v ts):Slo W v ts:=by
 induction h with
 |mk G ts us hl hG hS h hm hs ih=>
  refine .mk (some ⟨G,0,none⟩) _ ts us (by omega) (by omega) (fun e=>by cases e) (fun i hi=>⟨G,0,rfl,hG,?_,(h i hi).2⟩) ih
  rw[Nat.zero_add];exact(h i hi).1
theorem HSl.keep {W V:World} {S T:Nat→Prop} {v:Value} {ts:List Slt} (h:HSl W S v ts) (hs:W.heap.size≤V.heap.size) (hb:∀b,b<W.heap.size→S b→V.heap[b]? =W.heap[b]?∧T b):HSl V T v ts:=by
 induction h with
 |mk G ts us hl hG hS h hm _ ih=>
  exact .mk G ts us hl (by omega) (hb G hG hS).2 (fun i hi=>⟨range_same (h i hi).1 (hb G hG hS).1,(h i hi).2⟩) (fun i h1 h2=>range_same (hm i h1 h2) (hb G hG hS).1) ih
theorem HSl.form {W:World} {S:Nat→Prop} {v:Value} {ts:List Slt} (h:HSl W S v ts):∃G,v=.slice (some ⟨G,0,none⟩) ts.length (ts.length+3)∧S G:=by
 cases h with
 |mk G _ us hl hG hS h hm hs=>exact⟨G,rfl,hS⟩
theorem slL_len:∀(ts:List Slt) (l:Int),0≤slL ts l→(ts.length:Int)≤l
 |[],l,h=>by rw[slL] at h;simpa using h
 |t::ts,l,h=>by
  rw[slL_cons] at h
  split at h
  ·have h1:=slL_len ts _ h
   have h2:=(slL_le t.sub (l-1)).1
   rw[List.length_cons];omega
  ·omega
theorem slL_at:∀(ts:List Slt) (l:Int) (i:Nat),0≤slL ts l→i<ts.length→∃l',l'≤l∧0≤slL (gs ts i).sub l'
 |[],l,i,_,hi=>by simp at hi
 |t::ts,l,i,h,hi=>by
  rw[slL_cons] at h
  split at h
  ·have h2:=(slL_le t.sub (l-1)).1
   cases i with
   |zero=>exact⟨l-1,by omega,by have:=(slL_le ts (slL t.sub (l-1))).1;show 0≤slL t.sub (l-1);omega⟩
   |succ i=>
    obtain⟨l',h3,h4⟩:=slL_at ts _ i h (by simpa using hi)
    exact⟨l',by omega,h4⟩
  ·omega
def hrow (ts:List Slt) (us:List Value) (k i:Nat):List Value:=if i<k then(if i<ts.length then srow (gs ts i) (gvs us i) else hmk) else hzr
def Hrw (W:World) (G:Nat) (ts:List Slt) (us:List Value) (k:Nat):Prop:=∃cs,W.heap[G]? =some (.cells cs 88 (0,0))∧cs.size=(ts.length+3)*5∧∀i c,i<ts.length+3→c<5→cs[i*5+c]? =(hrow ts us k i)[c]?
theorem Hrw.keep {W V:World} {G:Nat} {ts:List Slt} {us:List Value} {k:Nat} (h:Hrw W G ts us k) (hb:V.heap[G]? =W.heap[G]?):Hrw V G ts us k:=by
 obtain⟨cs,h1,h2⟩:=h;exact⟨cs,hb.trans h1,h2⟩
theorem Hrw.range {W:World} {G:Nat} {ts:List Slt} {us:List Value} {k i:Nat} (h:Hrw W G ts us k) (hi:i<ts.length+3) (hl:(hrow ts us k i).length=5):W.rangeAt G (i*5) (hrow ts us k i):=by
 obtain⟨cs,h1,h2,h3⟩:=h;intro j v hv;have hj:=(List.getElem?_eq_some_iff.1 hv).1
 rw[cell_of_row _ _ _ _ _ _ h1,h3 i j hi (by omega)]
 exact hv
theorem hrow_len (ts:List Slt) (us:List Value) (k i:Nat):(hrow ts us k i).length=5:=by
 unfold hrow
 split
 ·split<;>rfl
 ·rfl
theorem infoSl:∃i,Tryz.prog.info? 88=some i∧i.zero=some (.agg #[.int .i64 0,.int .i64 0,.int .u64 0,.int .u64 0,.slice none 0 0])∧i.size=5∧i.bytes=56:=⟨_,rfl,rfl,rfl,rfl⟩
theorem make_sl (n:Nat) (hn:n≤10003) (w:World):∃cs,(Instr.makeSlice 22 (.int .i64 (n:Int)) (.int .i64 (n:Int))).run Tryz.prog w=.ok (.slice (some ⟨w.heap.size,0,none⟩) n n) (w.alloc (.cells cs 88))∧cs.size=n*5∧∀i c,i<n→c<5→cs[i*5+c]? =hzr[c]? :=by
 obtain⟨i0,hi,hz0,hz1,hz2⟩:=infoSl
 have h:=run_make (P:=Tryz.prog) w 22 88 i0 _ Tryz.underlying22 hi hz0 .i64 .i64 (n:Int) (n:Int) (by omega) (by omega) (by rw[hz2];omega) (by omega)
 rw[hz1,Int.toNat_natCast] at h
 refine⟨_,h,by simp[madeCells],fun i c h1 h2=>?_⟩
 have h3:i*5+c<n*5:=by omega
 have h4:(i*5+c)%5=c:=by omega
 rcases(by omega:c=0∨c=1∨c=2∨c=3∨c=4) with rfl|rfl|rfl|rfl|rfl
 ·rw[Nat.add_zero] at h3 h4⊢
  simp[madeCells,Value.cells,hzr,h3,h4]
 all_goals simp[madeCells,Value.cells,hzr,h3,h4]
theorem Hrw.mark {W:World} {G:Nat} {ts:List Slt} {us:List Value} {k:Nat} (h:Hrw W G ts us k) (hk:ts.length≤k) (hk3:k<ts.length+3):Hrw (W.setCell ⟨G,k*5,none⟩ (.int .i64 (-77))) G ts us (k+1):=by
 obtain⟨cs,h1,h2,h3⟩:=h
 refine⟨_,heap_setCell_same W G (k*5) cs _ _ h1,by simp[h2],fun i c hi hc=>?_⟩
 rw[Array.getElem?_setIfInBounds]
 by_cases e:k*5=i*5+c
 ·have e1:i=k:=by omega
  have e2:c=0:=by omega
  subst e1 e2
  rw[if_pos e,if_pos (by omega)]
  unfold hrow
  rw[if_pos (by omega),if_neg (by omega)];rfl
 ·rw[if_neg e,h3 i c hi hc]
  by_cases e1:i=k
  ·subst e1
   have c0:c≠0:=by omega
   unfold hrow
   rw[if_neg (by omega),if_pos (by omega),if_neg (by omega)]
   rcases(by omega:c=1∨c=2∨c=3∨c=4) with rfl|rfl|rfl|rfl<;>rfl
  ·unfold hrow
   by_cases e2:i<k
   ·rw[if_pos e2,if_pos (show i<k+1 by omega)]
   ·rw[if_neg e2,if_neg (show¬i<k+1 by omega)]
theorem Hrw.slot {W V:World} {G:Nat} {ts:List Slt} {us:List Value} {k:Nat} {u v:Value} (h:Hrw W G ts us k) (hk:k<ts.length) (hu:us.length=k) (hV:V.heap[G]? =((W.setCell ⟨G,k*5,none⟩ (.int .i64 (-77))).setCells G (k*5) (srow (gs ts k) u)).heap[G]?):Hrw (V.setCell ⟨G,k*5+4,none⟩ v) G ts (us++[v]) (k+1):=by
 obtain⟨cs,h1,h2,h3⟩:=h;have s1:=heap_setCell_same W G (k*5) cs _ (.int .i64 (-77)) h1
 have s2:((W.setCell ⟨G,k*5,none⟩ (.int .i64 (-77))).setCells G (k*5) (srow (gs ts k) u)).heap[G]? =_:=
  heap_setCell_same _ G (k*5+1+1+1+1) _ _ u (heap_setCell_same _ G (k*5+1+1+1) _ _ (.int .u64 ((gs ts k).most:Int)) (heap_setCell_same _ G (k*5+1+1) _ _ (.int .u64 ((gs ts k).least:Int)) (heap_setCell_same _ G (k*5+1) _ _ (.int .i64 (gs ts k).kind) (heap_setCell_same _ G (k*5) _ _ (.int .i64 (gs ts k).no) s1))))
 refine⟨_,heap_setCell_same V G (k*5+4) _ _ v (hV.trans s2),by simp[h2],fun i c hi hc=>?_⟩
 simp only[Array.getElem?_setIfInBounds,Array.size_setIfInBounds]
 by_cases e1:i=k
 ·subst e1
  have e3:hrow ts (us++[v]) (i+1) i=srow (gs ts i) v:=by
   unfold hrow;rw[if_pos (by omega),if_pos hk,gvs_top _ _ _ hu]
  rw[e3]
  have hb:i*5+c<cs.size:=by omega
  rcases(by omega:c=0∨c=1∨c=2∨c=3∨c=4) with rfl|rfl|rfl|rfl|rfl
  ·rw[if_neg (by omega),if_neg (by omega),if_neg (by omega),if_neg (by omega),if_neg (by omega),if_pos (by omega),if_pos (by omega)];rfl
  ·rw[if_neg (by omega),if_neg (by omega),if_neg (by omega),if_neg (by omega),if_pos (by omega),if_pos (by omega)];rfl
  ·rw[if_neg (by omega),if_neg (by omega),if_neg (by omega),if_pos (by omega),if_pos (by omega)];rfl
  ·rw[if_neg (by omega),if_neg (by omega),if_pos (by omega),if_pos (by omega)];rfl
  ·rw[if_pos (by omega),if_pos (by omega)];rfl
 ·rw[if_neg (by omega),if_neg (by omega),if_neg (by omega),if_neg (by omega),if_neg (by omega),if_neg (by omega),if_neg (by omega),h3 i c hi hc]
  unfold hrow
  by_cases e2:i<k
  ·rw[if_pos e2,if_pos (by omega),if_pos (by omega),if_pos (by omega),gvs_low _ _ _ (by omega)]
  ·rw[if_neg e2,if_neg (by omega)]
theorem heap_setCells_else {g k:Nat} (hk:k≠g):∀(vs:List Value) (o:Nat) (w:World),(w.setCells g o vs).heap[k]? =w.heap[k]?
 |[],_,_=>rfl
 |v::r,o,w=>(heap_setCells_else hk r (o+1) _).trans (heap_setCell_other w _ k v hk)
theorem below_setCells {n g:Nat} {w0:World} (hg:n≤g):∀(vs:List Value) (o:Nat) (w:World),Below n w0 w→Below n w0 (w.setCells g o vs)
 |[],_,_,h=>h
 |v::r,o,_,h=>below_setCells hg r (o+1) _ (h.setCell hg v)
theorem size_setCells {g:Nat}:∀(vs:List Value) (o:Nat) (w:World),(w.setCells g o vs).heap.size=w.heap.size
 |[],_,_=>rfl
 |v::r,o,w=>by
  show((w.setCell ⟨g,o,none⟩ v).setCells g (o+1) r).heap.size=_
  rw[size_setCells r (o+1)];simp
theorem setCells_row {g:Nat} {t:TypeId}:∀(vs:List Value) (o:Nat) (w:World) (cs:Array Value),w.heap[g]? =some (.cells cs t (0,0))→∃cs',(w.setCells g o vs).heap[g]? =some (.cells cs' t (0,0))∧cs'.size=cs.size
 |[],_,_,cs,h=>⟨cs,h,rfl⟩
 |v::r,o,w,cs,h=>by
  obtain⟨cs',h1,h2⟩:=setCells_row r (o+1) _ _ (heap_setCell_same w g o cs t v h)
  exact⟨cs',h1,by rw[h2];simp⟩
end Go.Proofs.YtmmlkfkpblokiaaGreatDoor
namespace Go.Proofs.YtmmlkfkpblokiaaGreatDoor
set_option maxRecDepth 100000
open Go Go.RowKit Go.Sort
attribute [local go_sem] setCell_drewN alloc_drewN
inductive SlL (W:World) (S:Nat→Prop):Value→List Slt→Prop
 |mk (ao:Option Addr) (cap:Nat) (ts:List Slt) (us:List Value) (hl:ts.length≤2932031007317) (hc:ts.length≤cap) (hn:ao=none→cap=0)
  (h:∀i,i<ts.length→∃b off,ao=some ⟨b,off,none⟩∧b<W.heap.size∧S b∧W.rangeAt b (off+i*5) (srow (gs ts i) (gvs us i))∧Sok (gs ts i))
  (hs:∀i,i<ts.length→SlL W S (gvs us i) (gs ts i).sub):SlL W S (.slice ao ts.length cap) ts
theorem SlL.slo {W:World} {S:Nat→Prop} {v:Value} {ts:List Slt} (h:SlL W S v ts):Slo W v ts:=by
 induction h with
 |mk ao cap ts us hl hc hn h hs ih=>
  refine .mk ao cap ts us hl hc hn (fun i hi=>?_) ih
  obtain⟨b,off,h1,h2,_,h4,h5⟩:=h i hi;exact⟨b,off,h1,h2,h4,h5⟩
theorem SlL.keep {W V:World} {S T:Nat→Prop} {v:Value} {ts:List Slt} (h:SlL W S v ts) (hs:W.heap.size≤V.heap.size) (hb:∀b,b<W.heap.size→S b→V.heap[b]? =W.heap[b]?∧T b):SlL V T v ts:=by
 induction h with
 |mk ao cap ts us hl hc hn h _ ih=>
  refine .mk ao cap ts us hl hc hn (fun i hi=>?_) ih
  obtain⟨b,off,h1,h2,h3,h4,h5⟩:=h i hi
  exact⟨b,off,h1,by omega,(hb b h2 h3).2,range_same h4 (hb b h2 h3).1,h5⟩
theorem SlL.form {W:World} {S:Nat→Prop} {v:Value} {ts:List Slt} (h:SlL W S v ts):∃ao cap,v=.slice ao ts.length cap:=by
 cases h
 exact⟨_,_,rfl⟩
def scl:List Slt→List Value→List Value
 |t::ts,u::us=>srow t u++scl ts us
 |_,_=>[]
theorem scl_snoc:∀(ts:List Slt) (us:List Value) (t:Slt) (u:Value),ts.length=us.length→scl (ts++[t]) (us++[u])=scl ts us++srow t u
 |[],[],_,_,_=>by simp[scl]
 |[],_::_,_,_,h=>by simp at h
 |_::_,[],_,_,h=>by simp at h
 |t::ts,u::us,t',u',h=>by
  have:=scl_snoc ts us t' u' (by simpa using h)
  simp only[List.cons_append,scl,this,List.append_assoc]
theorem scl_at:∀(ts:List Slt) (us:List Value) (i c:Nat),ts.length=us.length→i<ts.length→c<5→(scl ts us)[i*5+c]? =(srow (gs ts i) (gvs us i))[c]?
 |[],_,_,_,_,h,_=>by simp at h
 |_::_,[],_,_,h,_,_=>by simp at h
 |t::ts,u::us,0,c,_,_,hc=>by
  rw[scl,List.getElem?_append_left (by show 0*5+c<5;omega),Nat.zero_mul,Nat.zero_add];rfl
 |t::ts,u::us,i+1,c,h,hi,hc=>by
  have:=scl_at ts us i c (by simpa using h) (by simpa using hi) hc
  rw[scl,List.getElem?_append_right (by show 5≤(i+1)*5+c;omega),show(i+1)*5+c-(srow t u).length=i*5+c by show(i+1)*5+c-5=_;omega]
  exact this
theorem sll_of {w:World} {base:Nat} {v:Value} {ts:List Slt} {us:List Value} (hO:w.ownsRow base 88 5 v ts.length (scl ts us)) (hl:ts.length=us.length) (h16:ts.length≤10000) (hok:∀i,i<ts.length→Sok (gs ts i)) (hs:∀i,i<ts.length→SlL w (fun b=>base≤b) (gvs us i) (gs ts i).sub):SlL w (fun b=>base≤b) v ts:=by
 rcases hO.2 with⟨rfl,h0⟩|⟨g,cap,cur,rfl,h1,h2,h3,_⟩
 ·have e:ts=[]:=List.length_eq_zero_iff.1 h0
  subst e
  exact .mk none 0 [] us (by simp) (by simp) (fun _=>rfl) (fun i hi=>by simp at hi) (fun i hi=>by simp at hi)
 ·refine .mk (some ⟨g,0,none⟩) cap ts us (by omega) h3 (fun e=>by cases e) (fun i hi=>⟨g,0,rfl,(Array.getElem?_eq_some_iff.1 h2).1,h1,?_,hok i hi⟩) hs
  have hc:∀j u,(scl ts us)[j]? =some u→w.cell? ((⟨g,0,none⟩:Addr).add j)=some u:=hO.cells (g:=g) rfl
  intro j x hx;have hj:j<5:=(List.getElem?_eq_some_iff.1 hx).1
  have:=hc (i*5+j) x (by rw[scl_at ts us i j hl hi hj];exact hx)
  rw[add_off] at this;rw[Nat.zero_add];exact this
theorem wpList_append_sl {w:World} {ops:Array Oper} {rest:List Oper} {o:Oper} {a:Act} {Q:Exit→Act→World→Prop} (hgd:o.guard=none) (s x:Operand)
 (ho:o.op=.call {callee:=.builtin .append,args:=#[s,x],argTypes:=#[22,22]})
 (base:Nat) (v:Value) (k:Nat) (xs:List Value) (hs:a.eval s=v) (hO:w.ownsRow base 88 5 v k xs) (hk:k≤10000)
 (cs:List Value) (hcl:cs.length=5) (g:Nat) (hx:a.eval x=.slice (some ⟨g,0,none⟩) 1 1) (hnews:∀j y,cs[j]? =some y→w.cell? ((⟨g,0,none⟩:Addr).add j)=some y) (h1:∀u∈cs,u.oneCell'=true)
 (hbase:base≤w.heap.size)
 (h:∀v' w',w'.ownsRow base 88 5 v' (k+1) (xs++cs)→w.grownBy w' v.ownBlock→Nx w v v'→wpList Tryz.prog ops Q rest (a.put o.dst v') w'):wpList Tryz.prog ops Q (o::rest) a w:=by
 obtain⟨i0,hi,hz0,hz1,hz2⟩:=infoSl
 exact wpList_plain hgd fun _ hK=>wp_append_nx s x 22 ho base 88 i0 _ 5 56 Tryz.underlying22 hi hz0 hz1 hz2 rfl (by decide) v k xs hs hO ⟨g,0,none⟩ 1 1 cs hx (by rw[hcl]) hnews h1 (by unfold maxLen;omega) (by omega) hbase (fun v' w' h2 h3 h4=>hK _ _ (h v' w' h2 h3 h4))
set_option maxRecDepth 100000 in
set_option maxHeartbeats 16000000 in
theorem r_twin {W:World} {v:Value} {ts:List Slt} (h:Slo W v ts):∀(l:Int),l≤10000→0≤slL ts l→∀(w:World),Below W.heap.size W w→Calls Tryz.prog 45 #[v] w fun e w'=>∃v',e=.returned v'∧Below w.heap.size w w'∧SlL w' (fun b=>w.heap.size≤b) v' ts:=by
 induction h with
 |mk ao cap ts us hl hc hn h hs ih=>
  intro l hl1 hl2 w hw;have hlen:=slL_len ts l hl2
  have h4:ts.length≤10000:=by omega
  go_enter Tryz.func45,Tryz.ntmps45
  go_wp2_with (fail)
  go_loopw [3,4] (fun out i wr=>∃(k:Nat) (vs:List Value),k≤ts.length∧i=.int .i64 k∧Below w.heap.size w wr∧vs.length=k∧wr.ownsRow w.heap.size 88 5 out k (scl (ts.take k) vs)∧∀i,i<k→SlL wr (fun b=>w.heap.size≤b∧out.ownBlock≠some b) (gvs vs i) (gs ts i).sub) (fun _ i _=>ts.length-(intOf i).toNat)
  case atStart=>exact⟨0,[],by omega,rfl,Below.refl _ _,rfl,⟨rfl,.inl ⟨rfl,rfl⟩⟩,fun i hi=>by omega⟩
  case round=>
   obtain⟨k,vs,hk,rfl,hb,hvl,hO,hN⟩:=hrel;obtain⟨mo,mc,rfl⟩:=own_slice hO;have hww:=Below.after hw hb
   by_cases hlt:k<ts.length
   ·have hd:decide ((k:Int)<(ts.length:Int))=true:=by simp;omega
    have hk1:0≤(k:Int)∧(k:Int)<(ts.length:Int):=by omega
    obtain⟨b,off,hao,hbl,hra,hok⟩:=h k hlt;have hSl:=hs k hlt;obtain⟨l',hl3,hl4⟩:=slL_at ts l k hl2 hlt
    have hih:=ih k hlt l' (by omega) hl4
    subst hao
    have hgs:ts.take (k+1)=ts.take k++[gs ts k]:=by
     rw[List.take_succ_eq_append_getElem hlt,gs,List.getD_eq_getElem?_getD,List.getElem?_eq_getElem hlt];rfl
    obtain⟨ua,uc,hue⟩:=hSl.form;have hrw:=rangeS_keep2 hra hww hbl
    generalize hgt:gs ts k=t at *
    replace hgt:=hide hgt
    generalize gvs us k=u at *
    subst hue;have b0:=hrw 0 _ rfl;have b1:=hrw 1 _ rfl;have b2:=hrw 2 _ rfl;have b3:=hrw 3 _ rfl;have b4:=hrw 4 _ rfl;rw[Nat.add_zero] at b0;have r1:=hp1_0 wr (.cells #[.int .i64 t.no,.int .i64 t.kind,.int .u64 (t.least:Int),.int .u64 (t.most:Int),.slice ua t.sub.length uc] 88);have hba:Below wr.heap.size wr (wr.alloc (.cells #[.int .i64 t.no,.int .i64 t.kind,.int .u64 (t.least:Int),.int .u64 (t.most:Int),.slice ua t.sub.length uc] 88)):=(Below.refl _ _).alloc (Nat.le_refl _) _;have hs1:(wr.alloc (.cells #[.int .i64 t.no,.int .i64 t.kind,.int .u64 (t.least:Int),.int .u64 (t.most:Int),.slice ua t.sub.length uc] 88)).heap.size=wr.heap.size+1:=size_alloc1 _ _;have cT:=hih (wr.alloc (.cells #[.int .i64 t.no,.int .i64 t.kind,.int .u64 (t.least:Int),.int .u64 (t.most:Int),.slice ua t.sub.length uc] 88)) (Below.after hww hba);have A1:=hide r1;have A2:=hide hba;have A3:=hide hs1;have A4:=hide hO;have A5:=hide hN;have A6:=hide hb;clear h hs ih hra hrw r1 hba hs1 hO hN hb hww hih hSl
    go_wp2_with (fail)
    generalize (wr.alloc (.cells #[.int .i64 t.no,.int .i64 t.kind,.int .u64 (t.least:Int),.int .u64 (t.most:Int),.slice ua t.sub.length uc] 88))=w1 at *
    refine cT.mono ?_;rintro e_ w2 ⟨x,rfl,hb2,hx⟩;clear cT b0 b1 b2 b3 b4;obtain⟨xa,xc,rfl⟩:=hx.form;have hs1:=A3.out;have r2:=keep hb2 A1.out;have n4:w2.cell? ⟨wr.heap.size,4,none⟩=some (.slice ua t.sub.length uc):=cell_of_row _ _ _ _ _ _ r2;have n0:w2.cell? ⟨wr.heap.size,0,none⟩=some (.int .i64 t.no):=cell_of_row _ _ _ _ _ _ r2;have n1:w2.cell? ⟨wr.heap.size,1,none⟩=some (.int .i64 t.kind):=cell_of_row _ _ _ _ _ _ r2;have n2:w2.cell? ⟨wr.heap.size,2,none⟩=some (.int .u64 (t.least:Int)):=cell_of_row _ _ _ _ _ _ r2;have n3:w2.cell? ⟨wr.heap.size,3,none⟩=some (.int .u64 (t.most:Int)):=cell_of_row _ _ _ _ _ _ r2
    have z4:w2.frozen? ⟨wr.heap.size,4,none⟩=false:=by simp[World.frozen?,r2]
    have hbb:=Below.after A2.out hb2;have hs2:=hb2.size
    have hsS:(w2.setCell ⟨wr.heap.size,4,none⟩ (.slice xa t.sub.length xc)).heap.size=w2.heap.size:=by simp
    have hb3:Below wr.heap.size wr (w2.setCell ⟨wr.heap.size,4,none⟩ (.slice xa t.sub.length xc)):=hbb.setCell (Nat.le_refl _) _;have hB3:=Below.after A6.out hb3
    have hO3:=own_but (w':=(w2.setCell ⟨wr.heap.size,4,none⟩ (.slice xa t.sub.length xc))) A4.out fun q hq=>hb3.block q (own_lt A4.out q hq).2
    have hN3:∀i,i<k→SlL (w2.setCell ⟨wr.heap.size,4,none⟩ (.slice xa t.sub.length xc)) (fun b=>w.heap.size≤b∧(Value.slice mo k mc).ownBlock≠some b∧b<(w2.setCell ⟨wr.heap.size,4,none⟩ (.slice xa t.sub.length xc)).heap.size) (gvs vs i) (gs ts i).sub:=fun i hi=>(A5.out i hi).keep hb3.size fun q h1 h2=>⟨hb3.block q h1,h2.1,h2.2,by omega⟩
    have hown:=own_lt A4.out;have hwr:=A6.out.size
    have hx3:SlL (w2.setCell ⟨wr.heap.size,4,none⟩ (.slice xa t.sub.length xc)) (fun b=>w.heap.size≤b∧(Value.slice mo k mc).ownBlock≠some b∧b<(w2.setCell ⟨wr.heap.size,4,none⟩ (.slice xa t.sub.length xc)).heap.size) (.slice xa t.sub.length xc) t.sub:=hx.keep (by omega) fun q h1 h2=>⟨heap_setCell_other _ _ q _ (by show q≠wr.heap.size;omega),by omega,fun e=>by have:=(hown q e).2;omega,by omega⟩
    have hsz3:w.heap.size≤(w2.setCell ⟨wr.heap.size,4,none⟩ (.slice xa t.sub.length xc)).heap.size:=hB3.size;have A7:=hide hO3;have A8:=hide hN3;have A9:=hide hx3;have AA:=hide hB3;have AB:=hide hsz3;have AC:=hide hsS;clear hO3 hN3 hx3 hB3 hsz3 hb3 hbb hs2 hsS hb2 hx r2 A1 A2 A3 A4 A5 A6 hs1 hown hwr
    go_wp2_with (at_builtin;suffices h9:True∧_ from h9.2)
    refine⟨trivial,?_⟩
    generalize (w2.setCell ⟨wr.heap.size,4,none⟩ (.slice xa t.sub.length xc))=w3 at *
    clear n0 n1 n2 n3 n4 z4;have cN1:=hp1_0 w3 (.cells #[.int .i64 t.no,.int .i64 t.kind,.int .u64 (t.least:Int),.int .u64 (t.most:Int),.slice xa t.sub.length xc] 88)
    have hnc:∀j y,[.int .i64 t.no,.int .i64 t.kind,.int .u64 (t.least:Int),.int .u64 (t.most:Int),.slice xa t.sub.length xc][j]? =some y→(w3.alloc (.cells #[.int .i64 t.no,.int .i64 t.kind,.int .u64 (t.least:Int),.int .u64 (t.most:Int),.slice xa t.sub.length xc] 88)).cell? ((⟨w2.heap.size,0,none⟩:Addr).add j)=some y:=fun j y hy=>by
     rw[add_off,←AC.out,cell_of_row _ _ _ _ _ _ cN1]
     simpa using hy
    have hba2:Below w3.heap.size w3 (w3.alloc (.cells #[.int .i64 t.no,.int .i64 t.kind,.int .u64 (t.least:Int),.int .u64 (t.most:Int),.slice xa t.sub.length xc] 88)):=(Below.refl _ _).alloc (Nat.le_refl _) _
    have hO4:=own_but (w':=w3.alloc (.cells #[.int .i64 t.no,.int .i64 t.kind,.int .u64 (t.least:Int),.int .u64 (t.most:Int),.slice xa t.sub.length xc] 88)) A7.out fun q hq=>hba2.block q (own_lt A7.out q hq).2
    have hone:∀x∈([.int .i64 t.no,.int .i64 t.kind,.int .u64 (t.least:Int),.int .u64 (t.most:Int),.slice xa t.sub.length xc]:List Value),x.oneCell'=true:=fun x hx=>by
     simp at hx
     rcases hx with rfl|rfl|rfl|rfl|rfl<;>rfl
    have hwS:=AB.out
    refine wpList_append_sl rfl (.tmp 20) (.tmp 22) rfl w.heap.size _ k _ rfl hO4 (by omega) [.int .i64 t.no,.int .i64 t.kind,.int .u64 (t.least:Int),.int .u64 (t.most:Int),.slice xa t.sub.length xc] rfl w2.heap.size rfl hnc hone (by rw[size_alloc1];omega) ?_
    intro v' w4 h1 h2 h3;have hsA:(w3.alloc (.cells #[.int .i64 t.no,.int .i64 t.kind,.int .u64 (t.least:Int),.int .u64 (t.most:Int),.slice xa t.sub.length xc] 88)).heap.size=w3.heap.size+1:=size_alloc1 _ _;have hown:=own_lt A7.out
    have hB4:Below w.heap.size w w4:=(AA.out.trans (hba2.mono hwS)).grown h2 (by omega) (fun q hq=>(hown q hq).1)
    have hs34:w3.heap.size≤w4.heap.size:=Nat.le_trans hba2.size h2.size
    have hS4:∀q,q<w3.heap.size→(w.heap.size≤q∧(Value.slice mo k mc).ownBlock≠some q∧q<w3.heap.size)→w4.heap[q]? =w3.heap[q]?∧(w.heap.size≤q∧v'.ownBlock≠some q):=fun q h4 h5=>
     ⟨(h2.block q (by omega) (fun e=>h5.2.1 e.symm)).trans (hba2.block q h4),h5.1,h3.ne (by omega) h5.2.1⟩
    have hN4:∀i,i<k+1→SlL w4 (fun b=>w.heap.size≤b∧v'.ownBlock≠some b) (gvs (vs++[.slice xa t.sub.length xc]) i) (gs ts i).sub:=fun i hi=>by
     rcases Nat.lt_or_ge i k with h6|h6
     ·rw[gvs_low _ _ _ (by omega)]
      exact(A8.out i h6).keep hs34 hS4
     ·have h7:i=k:=by omega
      subst h7
      rw[gvs_top _ _ _ hvl,hgt.out];exact A9.out.keep hs34 hS4
    have hO5:w4.ownsRow w.heap.size 88 5 v' (k+1) (scl (ts.take (k+1)) (vs++[.slice xa t.sub.length xc])):=by
     rw[hgs,scl_snoc _ _ _ _ (by rw[List.length_take];omega)]
     exact h1
    obtain⟨no',co',hv'⟩:=own_slice h1;subst hv';clear h1 h2 h3 hO4 hba2 hnc cN1 hS4 hown hone A7 A8 A9 AA AB hgs
    go_wp2_with (fail)
    refine⟨⟨k+1,vs++[.slice xa t.sub.length xc],by omega,by go_num,hB4,by simp;omega,hO5,hN4⟩,?_⟩
    simp[intOf];omega
   ·have hd:decide ((k:Int)<(ts.length:Int))=false:=by simp;omega
    have hkl:k=ts.length:=by omega
    subst hkl;rw[List.take_length] at hO
    have hm:=sll_of hO hvl.symm h4 (fun i hi=>(h i hi).elim fun _ q=>q.elim fun _ q=>q.2.2.2) (fun i hi=>(hN i hi).keep (Nat.le_refl _) fun b _ hb=>⟨rfl,hb.1⟩)
    clear h hs ih hN hvl hO
    go_wp2_with (fail)
    go_ret;exact⟨_,rfl,hb,hm⟩
end Go.Proofs.YtmmlkfkpblokiaaGreatDoor
