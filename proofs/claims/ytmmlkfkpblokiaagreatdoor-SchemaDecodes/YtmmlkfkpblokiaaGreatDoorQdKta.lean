import Derived.Test.YtmmlkfkpblokiaaGreatDoorQdIrb
import Derived.Test.YtmmlkfkpblokiaaGreatDoorQdXdc
import Derived.OwnWalk
import Derived.Deep.Cut
import Derived.Deep.RegionHeld3
namespace Go.Proofs.YtmmlkfkpblokiaaGreatDoor
set_option maxRecDepth 100000
open Go Go.RowKit Go.Sort
inductive VT where
 |mk (num:Nat) (dat:List B) (parts:List VT)
namespace VT
def num:VT→Nat
 | .mk n _ _=>n
def dat:VT→List B
 | .mk _ d _=>d
def parts:VT→List VT
 | .mk _ _ p=>p
end VT
def vt0:VT:=.mk 0 [] []
def gvt (ps:List VT) (i:Nat):VT:=ps.getD i vt0
def lv (n:Nat) (a:Option Addr):Option Addr:=if n=0 then none else a
theorem lv_some {n:Nat} {a:Option Addr} {x:Addr} (h:lv n a=some x):a=some x:=by
 unfold lv at h
 split at h
 ·cases h
 ·exact h
theorem lv_pos {n:Nat} {a:Option Addr} (h:0<n):lv n a=a:=if_neg (by omega)
def InS (W:World) (S:Nat→Prop) (da:Option Addr):Prop:=∀a,da=some a→S a.block∧a.block<W.heap.size
inductive VtM (W:World) (S:Nat→Prop):VR→VT→Prop
 |mk (x:VR) (bs:List B) (xs:List VR) (ps:List VT) (hn:x.num<18446744073709551616) (hdl:x.dl=bs.length) (hbl:bs.length≤140737488351232) (hd:BysB W (.slice x.da x.dl x.dc) bs) (hdc:x.dl≤x.dc) (hds:InS W S (lv x.dl x.da))
  (hpl:x.pl=ps.length) (hxl:xs.length=ps.length) (hpc:ps.length≤x.pc) (hpm:ps.length≤5864062014634) (hps:InS W S (lv x.pl x.pa)) (hP:∀i,i<ps.length→∃b off,x.pa=some ⟨b,off,none⟩∧W.rangeAt b (off+i*3) (vrv (gx xs i)).toList)
  (hs:∀i,i<ps.length→VtM W S (gx xs i) (gvt ps i)):VtM W S x (.mk x.num bs ps)
theorem InS.keep {W V:World} {S T:Nat→Prop} {da:Option Addr} (h:InS W S da) (hk:Sty W V S T):InS V T da:=fun a e=>⟨(hk.2 _ (h a e).2 (h a e).1).2,Nat.lt_of_lt_of_le (h a e).2 hk.1⟩
theorem BysB.sty {W V:World} {S T:Nat→Prop} {da:Option Addr} {dl dc:Nat} {bs:List B} (h:BysB W (.slice da dl dc) bs) (hi:InS W S (lv dl da)) (hk:Sty W V S T):BysB V (.slice da dl dc) bs:=by
 obtain⟨⟨ao,cap,e,hl,hc,hz⟩,h2⟩:=h
 refine⟨⟨ao,cap,e,hl,fun j hj=>?_,hz⟩,h2⟩
 obtain⟨b,off,e2,hb,hcell⟩:=hc j hj
 injection e with e3 e4 e5
 subst e3
 have q:=hi _ ((lv_pos (by omega)).trans e2)
 refine⟨b,off,e2,Nat.lt_of_lt_of_le hb hk.1,?_⟩;rw[←hcell]
 show V.cell? ⟨b,off+j,none⟩=W.cell? ⟨b,off+j,none⟩
 simp only[World.cell?,(hk.2 b q.2 q.1).1]
theorem VtM.keep {W V:World} {S T:Nat→Prop} {x:VR} {X:VT} (h:VtM W S x X) (hk:Sty W V S T):VtM V T x X:=by
 induction h with
 |mk x bs xs ps hn hdl hbl hd hdc hds hpl hxl hpc hpm hps hP hs ih=>
  refine .mk x bs xs ps hn hdl hbl (hd.sty hds hk) hdc (hds.keep hk) hpl hxl hpc hpm (hps.keep hk) (fun i hi=>?_) ih
  obtain⟨b,off,e,h2⟩:=hP i hi
  have q:=hps _ ((lv_pos (by omega)).trans e)
  exact⟨b,off,e,range_same h2 (hk.2 b q.2 q.1).1⟩
theorem VtM.blw {W V:World} {S:Nat→Prop} {x:VR} {X:VT} (h:VtM W S x X) (hb:Below W.heap.size W V):VtM V S x X:=h.keep (Sty.below hb)
theorem VtM.num_eq {W:World} {S:Nat→Prop} {x:VR} {X:VT} (h:VtM W S x X):x.num=X.num∧x.num<18446744073709551616∧x.dl=X.dat.length∧x.dl≤140737488351232∧x.pl=X.parts.length:=by
 cases h with
 |mk x bs xs ps hn hdl hbl hd hdc hds hpl hxl hpc hpm hps hP hs=>exact⟨rfl,hn,hdl,by rw[hdl];exact hbl,hpl⟩
def PtM (W:World) (S:Nat→Prop) (pv:Value) (xs:List VR) (ps:List VT):Prop:=∃ao cap,pv=.slice ao ps.length cap∧xs.length=ps.length∧ps.length≤cap∧ps.length≤5864062014634∧(∀i,i<ps.length→∃b off,ao=some ⟨b,off,none⟩∧b<W.heap.size∧W.rangeAt b (off+i*3) (vrv (gx xs i)).toList)∧∀i,i<ps.length→VtM W S (gx xs i) (gvt ps i)
theorem VtM.split {W:World} {S:Nat→Prop} {x:VR} {X:VT} (h:VtM W S x X):∃xs,PtM W S (.slice x.pa x.pl x.pc) xs X.parts:=by
 cases h with
 |mk x bs xs ps hn hdl hbl hd hdc hds hpl hxl hpc hpm hps hP hs=>
  refine⟨xs,x.pa,x.pc,by rw[hpl];rfl,hxl,hpc,hpm,fun i hi=>?_,hs⟩
  obtain⟨b,off,e,h2⟩:=hP i hi
  exact⟨b,off,e,(hps _ ((lv_pos (by rw[hpl];exact Nat.lt_of_le_of_lt (Nat.zero_le i) hi)).trans e)).2,h2⟩
theorem PtM.blw {W V:World} {S:Nat→Prop} {pv:Value} {xs:List VR} {ps:List VT} (h:PtM W S pv xs ps) (hb:Below W.heap.size W V):PtM V S pv xs ps:=by
 obtain⟨ao,cap,e,h1,h2,h3,h4,h5⟩:=h
 refine⟨ao,cap,e,h1,h2,h3,fun i hi=>?_,fun i hi=>(h5 i hi).blw hb⟩
 obtain⟨b,off,q1,q2,q3⟩:=h4 i hi;exact⟨b,off,q1,Nat.lt_of_lt_of_le q2 hb.size,rangeS_keep2 q3 hb q2⟩
section
variable (utf : List B → Bool) (flE : Nat → Nat → Int)
def plE8 (k:Int) (l m:Nat) (x:VT):Int:=
 if k=5 then wth (x.dat.length:Int) (l:Int) (m:Int)
 else if k=6 then(if wth (x.dat.length:Int) (l:Int) (m:Int)≠0 then wth (x.dat.length:Int) (l:Int) (m:Int) else if utf x.dat then 0 else 84)
 else if k=7 then flE x.num m
 else if k=4 then wth (x.num:Int) 0 1 else wth (x.num:Int) (l:Int) (m:Int)
def isB (k:Int):Bool:=k==5||k==6
end
def htT:List Slt→Int
 |[]=>0
 | .mk _ _ _ _ sub::ts=>max (htT sub+1) (htT ts)
theorem htT_pos:∀ts,0≤htT ts
 |[]=>by rw[htT];omega
 | .mk _ _ _ _ sub::ts=>by rw[htT];have:=htT_pos ts;omega
theorem htT_sub:∀(ts:List Slt) (i:Nat),i<ts.length→htT (gs ts i).sub+1≤htT ts
 |[],_,h=>by simp at h
 | .mk n k a b sub::ts,0,_=>by
  rw[htT]
  show htT sub+1≤_
  omega
 | .mk n k a b sub::ts,i+1,h=>by
  have:=htT_sub ts i (by simpa using h)
  rw[htT]
  show htT (gs ts i).sub+1≤_
  omega
end Go.Proofs.YtmmlkfkpblokiaaGreatDoor
namespace Go.Proofs.YtmmlkfkpblokiaaGreatDoor
set_option maxRecDepth 100000
open Go Go.RowKit Go.Sort
attribute [local go_sem] setCell_drewN alloc_drewN
set_option maxRecDepth 100000 in
set_option maxHeartbeats 4000000 in
theorem a_lfits (n l m:Int) (hn:0≤n∧n<9223372036854775808) (y:Value) (w:World):Calls Tryz.prog 128 #[.agg #[.int .u64 l,.int .u64 m,y],.int .i64 n] w fun e w'=>e=.returned (.int .i64 (wth n l m))∧Below w.heap.size w w':=by
 have cW:=a_within n l m
 have hb:∀o,Below w.heap.size w (w.alloc o):=fun o=>(Below.refl _ _).alloc (Nat.le_refl _) _
 have r0:=hp1_0 w (.cells #[.int .u64 l,.int .u64 m,y] 190)
 have c0:(w.alloc (.cells #[.int .u64 l,.int .u64 m,y] 190)).cell? ⟨w.heap.size,0,none⟩=some (.int .u64 l):=by rw[cell_of_row _ _ _ _ _ _ r0];rfl
 have c1:(w.alloc (.cells #[.int .u64 l,.int .u64 m,y] 190)).cell? ⟨w.heap.size,1,none⟩=some (.int .u64 m):=by rw[cell_of_row _ _ _ _ _ _ r0];rfl
 replace hb:=hb (.cells #[.int .u64 l,.int .u64 m,y] 190)
 go_enter Tryz.func128,Tryz.ntmps128
 iterate 6 go_step
 generalize w.alloc (.cells #[.int .u64 l,.int .u64 m,y] 190)=w0 at *
 clear r0
 go_wp2_with (fail)
 refine(cW.at _).mono ?_;rintro e_ w1 ⟨rfl,hb1⟩;replace hb:=Below.after hb hb1
 go_wp2
 go_ret;exact⟨rfl,hb⟩
end Go.Proofs.YtmmlkfkpblokiaaGreatDoor
namespace Go.Proofs.YtmmlkfkpblokiaaGreatDoor
set_option maxRecDepth 100000
open Go Go.RowKit Go.Sort
attribute [local go_sem] setCell_drewN alloc_drewN
structure Plo (utf:List B→Bool) (flE:Nat→Nat→Int) (G:World→Prop):Prop where
 keep:∀w w',G w→Below w.heap.size w w'→G w'
 txt:∀w da dl dc bs,G w→dl≤dc→BysB w (.slice da dl dc) bs→Calls Tryz.prog 122 #[.slice da dl dc] w fun e w'=>e=.returned (.bool (utf bs))∧Below w.heap.size w w'
 flt:∀w (n m:Nat),n<18446744073709551616→Calls Tryz.prog 93 #[.agg #[.float .f64 (floatOfInt .f64 (m:Int))],.int .u64 (n:Int)] w fun e w'=>e=.returned (.int .i64 (flE n m))∧Below w.heap.size w w'
def txE (utf:List B→Bool) (l m:Int) (bs:List B):Int:=if wth (bs.length:Int) l m≠0 then wth (bs.length:Int) l m else if utf bs then 0 else 84
set_option maxRecDepth 100000 in
set_option maxHeartbeats 4000000 in
theorem a_octetsT {utf:List B→Bool} {flE:Nat→Nat→Int} {G:World→Prop} (hp:Plo utf flE G) (da:Option Addr) (dl dc:Nat) (hcp:dl≤dc) (bs:List B) (l m:Int) (hdl:dl<9223372036854775808) (w:World) (hG:G w) (hB:BysB w (.slice da dl dc) bs) (hbl:dl=bs.length):Calls Tryz.prog 95 #[.agg #[.int .u64 l,.int .u64 m,.bool true],.slice da dl dc] w fun e w'=>e=.returned (.int .i64 (txE utf l m bs))∧Below w.heap.size w w':=by
 have cW:=a_within (dl:Int) l m
 have hb:∀o,Below w.heap.size w (w.alloc o):=fun o=>(Below.refl _ _).alloc (Nat.le_refl _) _
 obtain⟨R,hR⟩:∃R,txE utf l m bs=R:=⟨_,rfl⟩;rw[hR];unfold txE at hR;rw[←hbl] at hR;clear hbl
 generalize hE:wth (dl:Int) l m=E at *
 go_enter Tryz.func95,Tryz.ntmps95
 go_wp2_with (fail)
 refine(cW.at _).mono ?_;rintro e_ w1 ⟨rfl,hb1⟩;have r0:=keep hb1 (hp1_0 w (.cells #[.int .u64 l,.int .u64 m,.bool true] 186))
 have c2:w1.cell? ⟨w.heap.size,2,none⟩=some (.bool true):=by rw[cell_of_row _ _ _ _ _ _ r0];rfl
 replace hb1:=Below.after (hb _) hb1;replace hE:=hide hE
 rcases hz:(E==0)
 ·have hz2:¬E=0:=by simpa using hz
  rw[if_pos hz2] at hR
  replace hR:=hide hR;clear r0 cW
  go_wp2
  go_ret
  exact⟨by rw[←hR.out];rfl,hb1⟩
 ·have hz2:E=0:=by simpa using hz
  subst hz2
  rw[if_neg (by simp)] at hR
  have cT:=hp.txt w1 da dl dc bs (hp.keep _ _ hG hb1) hcp (hB.keep hb1)
  generalize utf bs=B at *
  replace hR:=hide hR;clear r0 cW hz
  go_wp2_with (fail)
  refine cT.mono ?_;rintro e_ w2 ⟨rfl,hb2⟩;replace hb1:=Below.after hb1 hb2
  cases B
  ·go_wp2
   go_ret
   exact⟨by rw[←hR.out];rfl,hb1⟩
  ·go_wp2
   go_ret
   exact⟨by rw[←hR.out];rfl,hb1⟩
set_option maxRecDepth 100000 in
set_option maxHeartbeats 4000000 in
theorem a_fitTxt {utf:List B→Bool} {flE:Nat→Nat→Int} {G:World→Prop} (hp:Plo utf flE G) (n:Nat) (da:Option Addr) (dl dc:Nat) (hcp:dl≤dc) (pa:Option Addr) (pl pc:Nat) (bs:List B) (l m:Int) (hdl:dl<9223372036854775808) (g:Nat) (w:World) (hG:G w) (hB:BysB w (.slice da dl dc) bs) (hbl:dl=bs.length) (hg:Bx w g #[.int .u64 l,.int .u64 m,.bool true]):Calls Tryz.prog 94 #[.agg (vrw n (.slice da dl dc) (.slice pa pl pc)),.pointer (some ⟨g,0,none⟩)] w fun e w'=>e=.returned (.int .i64 (txE utf l m bs))∧Below w.heap.size w w':=by
 obtain⟨T,hg⟩:=hg;have hlt:=lt_of_row hg
 have hb:∀o,Below w.heap.size w (w.alloc o):=fun o=>(Below.refl _ _).alloc (Nat.le_refl _) _
 have cO:=fun V (hV:Below w.heap.size w V)=>a_octetsT hp da dl dc hcp bs l m hdl V (hp.keep _ _ hG hV) (hB.keep hV) hbl
 have hg2:=fun o=>keep (hb o) hg
 replace cO:=hide cO;clear hbl hB hG;unfold vrw
 go_enter Tryz.func94,Tryz.ntmps94
 go_wp2_with (first|(refine wpList_load_want rfl 186 _ rfl g rfl T #[.int .u64 l,.int .u64 m,.bool true] (0,0) _ (hg2 _) Tryz.underlying186 rfl infoOct ?_)|fail)
 refine(cO.out _ (hb _)).mono ?_;rintro e_ w1 ⟨rfl,hb1⟩;replace hb1:=Below.after (hb _) hb1;clear cO hg2 hg
 go_wp2
 go_ret;exact⟨rfl,hb1⟩
theorem infoFlo:(Tryz.prog.info? 183).map (·.size)=some 1:=by kernel_rfl
set_option maxRecDepth 100000 in
set_option maxHeartbeats 4000000 in
theorem a_fitFlt {utf:List B→Bool} {flE:Nat→Nat→Int} {G:World→Prop} (hp:Plo utf flE G) (n m:Nat) (hn:n<18446744073709551616) (da:Option Addr) (dl dc:Nat) (pa:Option Addr) (pl pc:Nat) (g:Nat) (w:World) (hg:Bx w g #[.float .f64 (floatOfInt .f64 (m:Int))]):Calls Tryz.prog 92 #[.agg (vrw n (.slice da dl dc) (.slice pa pl pc)),.pointer (some ⟨g,0,none⟩)] w fun e w'=>e=.returned (.int .i64 (flE n m))∧Below w.heap.size w w':=by
 obtain⟨T,hg⟩:=hg;have hlt:=lt_of_row hg
 have hb:∀o,Below w.heap.size w (w.alloc o):=fun o=>(Below.refl _ _).alloc (Nat.le_refl _) _
 have cO:=fun V=>hp.flt V n m hn
 generalize floatOfInt .f64 (m:Int)=F at *
 have hg2:=fun o=>keep (hb o) hg
 have cg:=fun o=>cell_of_row _ _ 0 _ _ _ (hg2 o)
 replace cO:=hide cO;unfold vrw
 go_enter Tryz.func92,Tryz.ntmps92
 go_wp2_with (first|(refine wpList_load_want rfl 183 _ rfl g rfl T #[.float .f64 F] (0,0) _ (hg2 _) Tryz.underlying183 rfl infoFlo ?_)|fail)
 refine(cO.out _).mono ?_;rintro e_ w1 ⟨rfl,hb1⟩;replace hb1:=Below.after (hb _) hb1;clear cO hg2 hg cg
 go_wp2
 go_ret;exact⟨rfl,hb1⟩
end Go.Proofs.YtmmlkfkpblokiaaGreatDoor
namespace Go.Proofs.YtmmlkfkpblokiaaGreatDoor
set_option maxRecDepth 100000
open Go Go.RowKit Go.Sort
attribute [local go_sem] setCell_drewN alloc_drewN
end Go.Proofs.YtmmlkfkpblokiaaGreatDoor
namespace Go.Proofs.YtmmlkfkpblokiaaGreatDoor
set_option maxRecDepth 100000
open Go Go.RowKit Go.Sort
attribute [local go_sem] setCell_drewN alloc_drewN
def wtA (k:Int):Int:=if k=2 then 5 else if k=3∨k=7 then 1 else if k=1∨k=4 then 0 else 2
def FtW (W:World) (base:Nat) (v:Value) (us:List Value) (fs:List Fd):Prop:=
 W.ownsRow base 118 4 v fs.length (frs fs us)∧us.length=fs.length∧∀i,i<us.length→BysB W (gv us i) (gf fs i).dat∧Fok (gf fs i)∧∃da dl dc,gv us i=.slice da dl dc∧∀a,lv dl da=some a→a.block<W.heap.size∧v.ownBlock≠some a.block
theorem bysB_move {W V:World} {da:Option Addr} {dl dc:Nat} {bs:List B} (h:BysB W (.slice da dl dc) bs) (hz:W.heap.size≤V.heap.size) (hk:∀a,lv dl da=some a→V.heap[a.block]? =W.heap[a.block]?):BysB V (.slice da dl dc) bs:=by
 obtain⟨⟨ao,cap,e,hl,hc,hz2⟩,h2⟩:=h
 refine⟨⟨ao,cap,e,hl,fun j hj=>?_,hz2⟩,h2⟩
 obtain⟨b,off,e2,hb,hcell⟩:=hc j hj
 injection e with e3 e4 e5
 subst e3;refine⟨b,off,e2,Nat.lt_of_lt_of_le hb hz,?_⟩;rw[←hcell]
 have:=hk _ ((lv_pos (by omega)).trans e2)
 show V.cell? ⟨b,off+j,none⟩=W.cell? ⟨b,off+j,none⟩
 simp only[World.cell?,this]
theorem FtW.keep {W V:World} {b:Nat} {v:Value} {us:List Value} {fs:List Fd} (h:FtW W b v us fs) (hb:Below W.heap.size W V):FtW V b v us fs:=by
 refine⟨own_keep_row h.1 hb,h.2.1,fun i hi=>?_⟩
 obtain⟨h1,h2,da,dl,dc,e,h3⟩:=h.2.2 i hi
 exact⟨h1.keep hb,h2,da,dl,dc,e,fun a ea=>⟨Nat.lt_of_lt_of_le (h3 a ea).1 hb.size,(h3 a ea).2⟩⟩
theorem FtW.snoc {W W':World} {b:Nat} {v v':Value} {us:List Value} {fs:List Fd} {da:Option Addr} {dl dc:Nat} {f:Fd} (h:FtW W b v us fs) (hu:BysB W (.slice da dl dc) f.dat) (hf:Fok f) (hd:∀a,lv dl da=some a→a.block<W.heap.size∧v.ownBlock≠some a.block)
 (ho:W'.ownsRow b 118 4 v' (fs.length+1) (frs fs us++frow f (.slice da dl dc))) (hg:W.grownBy W' v.ownBlock) (hk:Nx W v v'):FtW W' b v' (us++[.slice da dl dc]) (fs++[f]):=by
 have ne:∀a:Addr,a.block<W.heap.size→v.ownBlock≠some a.block→v'.ownBlock≠some a.block:=fun a h1 h2 e=>by
  rcases hk with q|⟨k,q,q2⟩
  ·exact h2 (q.symm.trans e)
  ·rw[q] at e
   injection e with e
   omega
 have mv:∀{da:Option Addr} {dl dc:Nat} {bs:List B},BysB W (.slice da dl dc) bs→(∀a,lv dl da=some a→a.block<W.heap.size∧v.ownBlock≠some a.block)→BysB W' (.slice da dl dc) bs:=fun hB hq=>bysB_move hB hg.size (fun a e=>hg.block a.block (hq a e).1 (fun e2=>(hq a e).2 e2.symm))
 refine⟨by rw[List.length_append,List.length_singleton,frs_snoc fs us f _ h.2.1];exact ho,by rw[List.length_append,List.length_append,h.2.1];rfl,fun i hi=>?_⟩
 rw[List.length_append,List.length_singleton] at hi;have h21:=h.2.1
 rcases Nat.lt_or_ge i us.length with q|q
 ·rw[gv_app_lo q,gf_app_lo (by omega)]
  obtain⟨h1,h2,da',dl',dc',e,h3⟩:=h.2.2 i q
  rw[e] at h1⊢
  exact⟨mv h1 h3,h2,da',dl',dc',rfl,fun a ea=>⟨Nat.lt_of_lt_of_le (h3 a ea).1 hg.size,ne a (h3 a ea).1 (h3 a ea).2⟩⟩
 ·obtain rfl:i=us.length:=by omega
  rw[gv_app_hi,h21,gf_app_hi]
  exact⟨mv hu hd,hf,da,dl,dc,rfl,fun a ea=>⟨Nat.lt_of_lt_of_le (hd a ea).1 hg.size,ne a (hd a ea).1 (hd a ea).2⟩⟩
theorem own_told {W:World} {b:Nat} {u:Value} {d:List B} (h:Own W b u d) (hl:d.length≤4194304):∃da dc,u=.slice da d.length dc∧BysB W (.slice da d.length dc) d∧∀a,da=some a→a.block<W.heap.size∧b≤a.block:=by
 have hB:=h.bysB (by omega)
 have h':=h
 obtain⟨_,⟨rfl,h0⟩|⟨g,cap,cur,rfl,hb,hg,_⟩⟩:=h'
 ·refine⟨none,0,by rw[h0],by rw[h0];exact hB,fun a e=>by cases e⟩
 ·refine⟨some ⟨g,0,none⟩,cap,rfl,hB,fun a e=>?_⟩
  cases e
  exact⟨lt_of_row hg,hb⟩
end Go.Proofs.YtmmlkfkpblokiaaGreatDoor
namespace Go.Proofs.YtmmlkfkpblokiaaGreatDoor
set_option maxRecDepth 100000
open Go Go.RowKit Go.Sort
attribute [local go_sem] setCell_drewN alloc_drewN
end Go.Proofs.YtmmlkfkpblokiaaGreatDoor
namespace Go.Proofs.YtmmlkfkpblokiaaGreatDoor
set_option maxRecDepth 100000
open Go Go.RowKit Go.Sort
attribute [local go_sem] setCell_drewN alloc_drewN
end Go.Proofs.YtmmlkfkpblokiaaGreatDoor
namespace Go.Proofs.YtmmlkfkpblokiaaGreatDoor
set_option maxRecDepth 100000
open Go Go.RowKit Go.Sort
attribute [local go_sem] setCell_drewN alloc_drewN
end Go.Proofs.YtmmlkfkpblokiaaGreatDoor
namespace Go.Proofs.YtmmlkfkpblokiaaGreatDoor
set_option maxRecDepth 100000
open Go Go.RowKit Go.Sort
attribute [local go_sem] setCell_drewN alloc_drewN
set_option maxRecDepth 100000 in
set_option maxHeartbeats 8000000 in
theorem a_plain3 (k:FuncId) (hk:k=90∨k=92∨k=94) (n:Nat) (no ty:Int) (da:Option Addr) (dl dc:Nat) (at_ E:Int) (g2 gs:Nat) (w:World) (h2:Bx w g2 #[.func (.func k) #[] #[ptr gs]])
 (hF:∀V,Below w.heap.size w V→Calls Tryz.prog k #[.agg (vrw n (.slice da dl dc) (.slice none 0 0)),ptr gs] V fun e w'=>e=.returned (.int .i64 E)∧Below V.heap.size V w'):
 Calls Tryz.prog 116 #[.agg #[.int .i64 no,.int .i64 ty,.int .u64 (n:Int),.slice da dl dc],.int .i64 at_,ptr g2] w fun e w'=>Gup w.heap.size (rdE at_ E) e w' (fun v=>v=.agg (vrw n (.slice da dl dc) (.slice none 0 0)))∧Below w.heap.size w w':=by
 obtain⟨T2,h2⟩:=h2;have l2:=lt_of_row h2;have r1:=hp3_1 w (.cells #[.int .i64 no,.int .i64 ty,.int .u64 (n:Int),.slice da dl dc] 118) (.cells #[.int .u64 0,.slice none 0 0,.slice none 0 0] 27) (.cells #[.int .u64 0,.slice none 0 0,.slice none 0 0] 27);have r2:=hp3_2 w (.cells #[.int .i64 no,.int .i64 ty,.int .u64 (n:Int),.slice da dl dc] 118) (.cells #[.int .u64 0,.slice none 0 0,.slice none 0 0] 27) (.cells #[.int .u64 0,.slice none 0 0,.slice none 0 0] 27)
 have hb0:Below w.heap.size w (((w.alloc (.cells #[.int .i64 no,.int .i64 ty,.int .u64 (n:Int),.slice da dl dc] 118)).alloc (.cells #[.int .u64 0,.slice none 0 0,.slice none 0 0] 27)).alloc (.cells #[.int .u64 0,.slice none 0 0,.slice none 0 0] 27)):=(((Below.refl _ _).alloc (Nat.le_refl _) _).alloc (by simp) _).alloc (by simp;omega) _
 have hb:=below_setRow (g:=w.heap.size+1+1) hb0 (by omega) #[.int .u64 (n:Int),.slice da dl dc,.slice none 0 0]
 have RV:=setRow_heap _ (w.heap.size+1+1) _ #[.int .u64 (n:Int),.slice da dl dc,.slice none 0 0] _ _ r2
 have R1:=(setRow_other (((w.alloc (.cells #[.int .i64 no,.int .i64 ty,.int .u64 (n:Int),.slice da dl dc] 118)).alloc (.cells #[.int .u64 0,.slice none 0 0,.slice none 0 0] 27)).alloc (.cells #[.int .u64 0,.slice none 0 0,.slice none 0 0] 27)) (w.heap.size+1+1) (w.heap.size+1) #[.int .u64 (n:Int),.slice da dl dc,.slice none 0 0] (by omega)).trans r1
 have a1:¬w.heap.size=g2:=by omega
 have a2:¬g2=w.heap.size:=by omega
 have a3:¬w.heap.size+1=g2:=by omega
 have a4:¬g2=w.heap.size+1:=by omega
 have a5:¬w.heap.size+1+1=g2:=by omega
 have a6:¬g2=w.heap.size+1+1:=by omega
 have hone:(#[.int .u64 (n:Int),.slice da dl dc,.slice none 0 0]:Array Value).all (·.oneCell')=true:=by simp[Value.oneCell']
 have c2:((((w.alloc (.cells #[.int .i64 no,.int .i64 ty,.int .u64 (n:Int),.slice da dl dc] 118)).alloc (.cells #[.int .u64 0,.slice none 0 0,.slice none 0 0] 27)).alloc (.cells #[.int .u64 0,.slice none 0 0,.slice none 0 0] 27)).setRow (w.heap.size+1+1) #[.int .u64 (n:Int),.slice da dl dc,.slice none 0 0]).cell? ⟨g2,0,none⟩=some (.func (.func k) #[] #[ptr gs]):=(hb.cell (p:=⟨g2,0,none⟩) l2).trans (by rw[cell_of_row _ _ _ _ _ _ h2];rfl)
 have cF:=hF _ hb;have cE:=a_giveUp 0 at_ E;obtain⟨R,hR⟩:∃R,rdE at_ E=R:=⟨_,rfl⟩;rw[hR]
 unfold vrw at cF⊢
 unfold ptr at *
 replace hb:=hide hb;replace RV:=hide RV;replace R1:=hide R1;replace cF:=hide cF;replace c2:=hide c2;clear hF h2 hb0 r1
 go_enter Tryz.func116,Tryz.ntmps116
 go_wp2_with (first|(refine wpList_store_row rfl 27 _ _ rfl (w.heap.size+1+1) #[.int .u64 (n:Int),.slice da dl dc,.slice none 0 0] rfl rfl 27 _ r2 infoV rfl hone ?_;refine wpList_stay ?_)|fail)
 unfold WpStay;clear r2
 generalize (((w.alloc (.cells #[.int .i64 no,.int .i64 ty,.int .u64 (n:Int),.slice da dl dc] 118)).alloc (.cells #[.int .u64 0,.slice none 0 0,.slice none 0 0] 27)).alloc (.cells #[.int .u64 0,.slice none 0 0,.slice none 0 0] 27)).setRow (w.heap.size+1+1) #[.int .u64 (n:Int),.slice da dl dc,.slice none 0 0]=W4 at *
 have RW:=RV.out;have c2':=c2.out;clear RV c2
 rcases hk with rfl|rfl|rfl
 all_goals
  go_wp2_with (first|(refine wpList_load_want rfl 27 _ rfl (w.heap.size+1+1) rfl 27 #[.int .u64 (n:Int),.slice da dl dc,.slice none 0 0] (0,0) _ RW Tryz.underlying27 rfl infoV ?_)|fail)
  refine cF.out.mono ?_;rintro e_ w1 ⟨rfl,hb1⟩;have R11:=keep hb1 R1.out;have RW1:=keep hb1 RW;have hw:=Below.after hb.out hb1;clear cF hb hb1 R1 RW c2'
  rcases hE:(E==0)
  ·have hE2:¬E=0:=by simpa using hE
   have eR:R=some ⟨0,at_,E⟩:=by rw[←hR,rdE,if_neg hE2]
   replace eR:=hide eR;clear hR
   go_wp2_with (fail)
   refine(cE _).mono ?_;rintro e_ w2 ⟨hg,hb2⟩;obtain⟨g,rfl,hgl,hgr⟩:=hg;have szw:=hw.size;replace hw:=Below.after hw hb2
   go_wp2
   rw[eR.out];exact⟨rfl,⟨g,rfl,Nat.le_trans szw hgl,hgr⟩,hw⟩
  ·obtain rfl:E=0:=by simpa using hE
   have eR:R=none:=by rw[←hR,rdE,if_pos rfl]
   replace eR:=hide eR;clear hR cE;have RF:=setRow_heap _ (w.heap.size+1) _ #[.int .u64 (n:Int),.slice da dl dc,.slice none 0 0] _ _ R11
   have hwF:=below_setRow (g:=w.heap.size+1) hw (by omega) #[.int .u64 (n:Int),.slice da dl dc,.slice none 0 0]
   replace RF:=hide RF;replace hwF:=hide hwF
   go_wp2_with (first|(refine wpList_load_want rfl 27 _ rfl (w.heap.size+1+1) rfl 27 #[.int .u64 (n:Int),.slice da dl dc,.slice none 0 0] (0,0) _ RW1 Tryz.underlying27 rfl infoV ?_)|(refine wpList_store_row rfl 27 _ _ rfl (w.heap.size+1) #[.int .u64 (n:Int),.slice da dl dc,.slice none 0 0] rfl rfl 27 _ R11 infoV rfl hone ?_)|fail)
   refine bodyPost_ret (v:=.agg #[.int .u64 (n:Int),.slice da dl dc,.slice none 0 0]) (results_cell_row Tryz.results116 _ _ (w.heap.size+1) _ _ _ _ rfl RF.out Tryz.underlying27 rfl infoV) rfl ⟨?_,hwF.out⟩;rw[eR.out];exact⟨_,rfl,rfl⟩
theorem ent_plain3 (args:Array Value) (W:World):(callFunc 116 args).run Tryz.prog W=.ok (.enter 116 args) W:=by kernel_rfl
end Go.Proofs.YtmmlkfkpblokiaaGreatDoor
namespace Go.Proofs.YtmmlkfkpblokiaaGreatDoor
set_option maxRecDepth 100000
open Go Go.RowKit Go.Sort
attribute [local go_sem] setCell_drewN alloc_drewN
section
variable {P : Program} {ops : Array Oper} {Q : Exit → Act → World → Prop} {md : Region.Mode} {S : World → Prop}
end
theorem a_sizeX (n:Nat) (hn:n<18446744073709551616) (w:World):Calls Tryz.prog 84 #[.int .u64 (n:Int)] w fun e w'=>∃u,e=.returned u∧u=.int .i64 ((en n).length:Int)∧Below w.heap.size w w':=(a_size n hn w).mono fun _ _ h=>⟨_,h.1,rfl,h.2⟩
set_option maxRecDepth 100000 in
set_option maxHeartbeats 8000000 in
theorem a_endOf (f:Fd) (ao:Option Addr) (cap:Nat) (at_:Int) (hat:0≤at_∧at_≤4611686018427387904) (hf:Fok f) (h0:0≤f.no) (h1:f.no≤536870911) (hk:known f.ty) (w:World):Calls Tryz.prog 59 #[.agg #[.int .i64 f.no,.int .i64 f.ty,.int .u64 (f.num:Int),.slice ao f.dat.length cap],.int .i64 at_] w fun e w'=>∃u,e=.returned u∧u=.int .i64 (at_+((fby f).length:Int))∧Below w.heap.size w w':=by
 have ht:=known_lt hk;obtain⟨N,hN⟩:=Int.eq_ofNat_of_zero_le h0;obtain⟨hf1,hf2,_,_⟩:=hf
 have hH:(en (fhd f)).length=(en (8*N)).length:=by
  have e:fhd f=8*N+f.ty.toNat:=by unfold fhd;rw[hN];rfl
  rw[e]
  exact en_head N _ (by omega)
 have cH:=s_headOf N (by omega)
 have cS:=a_size (8*N) (by omega)
 have cN:=a_size f.num hf1
 have cD:=a_sizeX f.dat.length (by omega)
 have hten:=en_ten (n:=8*N) (by omega)
 have hten2:=en_ten hf1
 have hten3:=en_ten (n:=f.dat.length) (by omega)
 have hl:(fby f).length=(en (8*N)).length+(fvl f).length:=by rw[fby,List.length_append,hH]
 have hvl:fvl f=if f.ty=0 then en f.num else if f.ty=1 then fx 8 f.num else if f.ty=5 then fx 4 f.num else itm f.dat:=rfl
 have hL0:f.ty=0→(fby f).length=(en (8*N)).length+(en f.num).length:=fun t=>by rw[hl,hvl,if_pos t]
 have hL1:f.ty=1→(fby f).length=(en (8*N)).length+8:=fun t=>by rw[hl,hvl,if_neg (by omega),if_pos t,fx_len]
 have hL5:f.ty=5→(fby f).length=(en (8*N)).length+4:=fun t=>by rw[hl,hvl,if_neg (by omega),if_neg (by omega),if_pos t,fx_len]
 have hL2:f.ty=2→(fby f).length=(en (8*N)).length+(en f.dat.length).length+f.dat.length:=fun t=>by rw[hl,hvl,if_neg (by omega),if_neg (by omega),if_neg (by omega),itm_len];omega
 unfold known at hk
 generalize (fby f).length=L at *
 clear hvl hl hH
 generalize hfn:f.no=fno at *
 generalize f.ty=fty at *
 generalize f.num=num at *
 generalize f.dat.length=dl at *
 generalize (en (8*N)).length=H at *
 generalize (en dl).length=DL at *
 generalize (en num).length=NL at *
 replace hN:=hide hN;clear hfn f;have R0:=hp1_0 w (.cells #[.int .i64 fno,.int .i64 fty,.int .u64 (num:Int),.slice ao dl cap] 118);have hw:Below w.heap.size w (w.alloc (.cells #[.int .i64 fno,.int .i64 fty,.int .u64 (num:Int),.slice ao dl cap] 118)):=(Below.refl _ _).alloc (Nat.le_refl _) _
 go_enter Tryz.func59,Tryz.ntmps59
 go_upto_region 1 with(fail)
 generalize w.alloc (.cells #[.int .i64 fno,.int .i64 fty,.int .u64 (num:Int),.slice ao dl cap] 118)=w1 at *
 have c0:=cell_of_row _ _ 0 _ _ _ R0;have cH1:=cH w1;rw[←hN.out] at cH1;replace cH1:=hide cH1;clear cH
 go_wp2_with (fail)
 refine cH1.out.mono ?_;rintro e_ w2 ⟨rfl,hb_⟩;replace R0:=keep hb_ R0;replace hw:=Below.after hw hb_;clear hb_ c0 cH1;have cS2:=hide (cS w2);clear cS
 go_wp2_with (fail)
 refine cS2.out.mono ?_;rintro e_ w3 ⟨rfl,hb_⟩;replace R0:=keep hb_ R0;replace hw:=Below.after hw hb_;clear hb_ cS2
 rcases hk with t|t|t|t
 ·have e:=hide (hL0 t)
  subst t
  have cN3:=hide (cN w3);have c1:=cell_of_row _ _ 1 _ _ _ R0;have c2:=cell_of_row _ _ 2 _ _ _ R0;clear hL0 hL1 hL2 hL5 cN cD
  go_wp2_with (fail)
  refine cN3.out.mono ?_;rintro e_ w4 ⟨rfl,hb_⟩;replace hw:=Below.after hw hb_;clear hb_ cN3
  go_wp2_with (fail)
  go_ret
  exact⟨_,rfl,by rw[e.out];go_num,hw⟩
 ·have e:=hide (hL1 t)
  subst t
  have c1:=cell_of_row _ _ 1 _ _ _ R0;clear hL0 hL1 hL2 hL5 cN cD
  go_wp2_with (fail)
  go_ret
  exact⟨_,rfl,by rw[e.out];go_num,hw⟩
 ·have e:=hide (hL2 t)
  subst t
  have c1:=cell_of_row _ _ 1 _ _ _ R0;clear hL0 hL1 hL2 hL5 cN
  go_upto_region 8 with(fail)
  clear c1;have hbd:Below w3.heap.size w3 w3.drew:=below_drN (Below.refl _ _) 1;replace R0:=keep hbd R0;replace hw:=Below.after hw hbd;clear hbd
  have q0:IntKind.wrap .u64 (dl:Int)=(dl:Int):=by show(dl:Int)%18446744073709551616=dl;omega
  have q1:IntKind.wrap .i64 (at_+(H:Int)+(DL:Int))=at_+(H:Int)+(DL:Int):=by rw[IntKind.wrap_i64];omega
  have q2:IntKind.wrap .i64 (at_+(H:Int)+(DL:Int)+(dl:Int))=at_+(H:Int)+(DL:Int)+(dl:Int):=by rw[IntKind.wrap_i64];omega
  refine wp_region_noPanic ?_
  refine wp_region_held (S:=fun W=>W.heap[w.heap.size]? =some (.cells #[.int .i64 fno,.int .i64 2,.int .u64 (num:Int),.slice ao dl cap] 118 (0,0))) (by kernel_rfl) ?_
  change wpAnyH _ _ _ _ _ _ _ _ (World.drew _)
  generalize w3.drew=y1 at *
  refine wpAnyH_take (i:=0) (v:=?v1) rfl (by kernel_rfl) (by kernel_rfl) (by kernel_rfl) (fun _ _ _ h=>h) (Or.inl ⟨by rfl,?y1⟩) R0 ?r1
  case y1=>
   intro w_ hS_;go_simp
   try with_reducible rfl
  simp only[Act.put,List.getElem_toArray,List.getElem_cons_zero,List.setIfInBounds_toArray,List.set_cons_succ,List.set_cons_zero]
  refine wpAnyH_take (i:=1) (v:=?v2) rfl (by kernel_rfl) (by kernel_rfl) (by kernel_rfl) (fun _ _ _ h=>h) (Or.inl ⟨by rfl,?y2⟩) R0 ?r2
  case y2=>
   intro w_ hS_;go_simp
   try with_reducible rfl
  simp only[Act.put,List.getElem_toArray,List.getElem_cons_succ,List.getElem_cons_zero,List.setIfInBounds_toArray,List.set_cons_succ,List.set_cons_zero]
  refine wpAnyH_take (i:=2) (v:=.slice ao dl cap) rfl (by kernel_rfl) (by kernel_rfl) (by kernel_rfl) (fun _ _ _ h=>h) (Or.inl ⟨by rfl,?y3⟩) R0 ?r3
  case y3=>
   intro w_ hS_;have c_:=cell_of_row _ _ 3 _ _ _ hS_;go_simp
   try with_reducible rfl
  simp only[Act.put,List.getElem_toArray,List.getElem_cons_succ,List.getElem_cons_zero,List.setIfInBounds_toArray,List.set_cons_succ,List.set_cons_zero]
  refine wpAnyH_take (i:=3) (v:=?v4) rfl (by kernel_rfl) (by kernel_rfl) (by kernel_rfl) (fun _ _ _ h=>h) (Or.inl ⟨by rfl,?y4⟩) R0 ?r4
  case y4=>
   intro w_ hS_;go_simp
   try with_reducible rfl
  simp only[Act.put,List.getElem_toArray,List.getElem_cons_succ,List.getElem_cons_zero,List.setIfInBounds_toArray,List.set_cons_succ,List.set_cons_zero]
  refine wpAnyH_take (i:=4) (v:=.int .u64 (dl:Int)) rfl (by kernel_rfl) (by kernel_rfl) (by kernel_rfl) (fun _ _ _ h=>h) (Or.inl ⟨by rfl,?y5⟩) R0 ?r5
  case y5=>
   intro w_ hS_;go_simp
   try with_reducible rfl
  simp only[Act.put,List.getElem_toArray,List.getElem_cons_succ,List.getElem_cons_zero,List.setIfInBounds_toArray,List.set_cons_succ,List.set_cons_zero]
  refine wpAnyH_take (i:=7) (v:=?v6) rfl (by kernel_rfl) (by kernel_rfl) (by kernel_rfl) (fun _ _ _ h=>h) (Or.inl ⟨by rfl,?y6⟩) R0 ?r6
  case y6=>
   intro w_ hS_;go_simp
   try with_reducible rfl
  simp only[Act.put,List.getElem_toArray,List.getElem_cons_succ,List.getElem_cons_zero,List.setIfInBounds_toArray,List.set_cons_succ,List.set_cons_zero]
  refine wpAnyH_take (i:=8) (v:=.slice ao dl cap) rfl (by kernel_rfl) (by kernel_rfl) (by kernel_rfl) (fun _ _ _ h=>h) (Or.inl ⟨by rfl,?y7⟩) R0 ?r7
  case y7=>
   intro w_ hS_;have c_:=cell_of_row _ _ 3 _ _ _ hS_;go_simp
   try with_reducible rfl
  simp only[Act.put,List.getElem_toArray,List.getElem_cons_succ,List.getElem_cons_zero,List.setIfInBounds_toArray,List.set_cons_succ,List.set_cons_zero]
  refine wpAnyH_take (i:=9) (v:=?v8) rfl (by kernel_rfl) (by kernel_rfl) (by kernel_rfl) (fun _ _ _ h=>h) (Or.inl ⟨by rfl,?y8⟩) R0 ?r8
  case y8=>
   intro w_ hS_;go_simp
   try with_reducible rfl
  simp only[Act.put,List.getElem_toArray,List.getElem_cons_succ,List.getElem_cons_zero,List.setIfInBounds_toArray,List.set_cons_succ,List.set_cons_zero]
  refine wpAnyH_one (k:=5) (fuel:=3) (by kernel_rfl) rfl (by kernel_rfl) (fun K_ hK=>?_)
  refine wp_call_ex (f:=84) (by kernel_rfl) (cD y1) (fun v_ y2 hX_=>?_)
  obtain⟨rfl,hb_⟩:=hX_;replace R0:=keep hb_ R0;replace hw:=Below.after hw hb_;clear hb_;refine hK _ _ R0 ?_;simp only[Act.put,List.getElem_toArray,List.getElem_cons_succ,List.getElem_cons_zero,List.setIfInBounds_toArray,List.set_cons_succ,List.set_cons_zero];clear hK
  refine wpAnyH_take (i:=6) (v:=.int .i64 (at_+(H:Int)+(DL:Int))) rfl (by kernel_rfl) (by kernel_rfl) (by kernel_rfl) (fun _ _ _ h=>h) (Or.inl ⟨by rfl,?y9⟩) R0 ?r9
  case y9=>
   intro w_ hS_;go_simp
   try with_reducible rfl
  simp only[Act.put,List.getElem_toArray,List.getElem_cons_succ,List.getElem_cons_zero,List.setIfInBounds_toArray,List.set_cons_succ,List.set_cons_zero]
  refine wpAnyH_take (i:=10) (v:=.int .i64 (at_+(H:Int)+(DL:Int)+(dl:Int))) rfl (by kernel_rfl) (by kernel_rfl) (by kernel_rfl) (fun _ _ _ h=>h) (Or.inl ⟨by rfl,?y10⟩) R0 ?r10
  case y10=>
   intro w_ hS_;go_simp
   try with_reducible rfl
  simp only[Act.put,List.getElem_toArray,List.getElem_cons_succ,List.getElem_cons_zero,List.setIfInBounds_toArray,List.set_cons_succ,List.set_cons_zero]
  refine wpAnyH_take (i:=11) (v:=?v11) rfl (by kernel_rfl) (by kernel_rfl) (by kernel_rfl) (fun _ _ _ h=>h) (Or.inl ⟨by rfl,?y11⟩) R0 ?r11
  case y11=>
   intro w_ hS_;go_simp
   try with_reducible rfl
  simp only[Act.put,List.getElem_toArray,List.getElem_cons_succ,List.getElem_cons_zero,List.setIfInBounds_toArray,List.set_cons_succ,List.set_cons_zero]
  refine wpAnyH_done (by kernel_rfl) ?_ _
  refine NoPanic.normal ?_
  go_wp2_with (fail)
  go_ret
  exact⟨_,rfl,by rw[e.out];show Value.int .i64 (at_+(H:Int)+(DL:Int)+(dl:Int))=_;congr 1;omega,hw⟩
 ·have e:=hide (hL5 t)
  subst t
  have c1:=cell_of_row _ _ 1 _ _ _ R0;clear hL0 hL1 hL2 hL5 cN cD
  go_wp2_with (fail)
  go_ret
  exact⟨_,rfl,by rw[e.out];go_num,hw⟩
end Go.Proofs.YtmmlkfkpblokiaaGreatDoor
namespace Go.Proofs.YtmmlkfkpblokiaaGreatDoor
set_option maxRecDepth 100000
open Go Go.RowKit Go.Sort
end Go.Proofs.YtmmlkfkpblokiaaGreatDoor
namespace Go.Proofs.YtmmlkfkpblokiaaGreatDoor
set_option maxRecDepth 100000
open Go Go.RowKit Go.Sort
theorem gf_take (fs:List Fd) (k i:Nat) (h:i<k):gf (fs.take k) i=gf fs i:=by
 rw[gf,gf,List.getD_eq_getElem?_getD,List.getD_eq_getElem?_getD,List.getElem?_take_of_lt h]
theorem Fds.take {W:World} {ao:Option Addr} {cap l:Nat} {fs:List Fd} (h:Fds W (.slice ao l cap) fs) (k:Nat) (hk:k≤fs.length):Fds W (.slice ao k cap) (fs.take k):=by
 obtain⟨ao',cap',e,h1,h2,h3,h4⟩:=h
 cases e
 have hl:(fs.take k).length=k:=by rw[List.length_take,Nat.min_eq_left hk]
 refine⟨ao,cap,by rw[hl],by omega,by omega,h3,fun i hi=>?_⟩
 rw[hl] at hi;rw[gf_take fs k i hi]
 exact h4 i (by omega)
theorem eer_ok {fs:List Fd}:eer fs=0↔fs.length≤64∧ech fs 0=0∧(ebs fs).length≤4194304:=by
 unfold eer
 by_cases h1:64<fs.length
 ·rw[if_pos h1]
  constructor
  ·intro h;cases h
  ·intro h;omega
 rw[if_neg h1]
 by_cases h2:ech fs 0=0
 ·rw[if_neg (by rw[h2];simp)]
  by_cases h3:4194304<(ebs fs).length
  ·rw[if_pos h3]
   constructor
   ·intro h;cases h
   ·intro h;omega
  ·rw[if_neg h3]
   exact⟨fun _=>⟨by omega,h2,by omega⟩,fun _=>rfl⟩
 ·rw[if_pos h2]
  exact⟨fun h=>absurd h h2,fun h=>absurd h.2.1 h2⟩
theorem ebs_split (fs:List Fd) (c:Nat):ebs fs=ebs (fs.take c)++ebs (fs.drop c):=by
 rw[←ebs_app,List.take_append_drop]
end Go.Proofs.YtmmlkfkpblokiaaGreatDoor
namespace Go.Proofs.YtmmlkfkpblokiaaGreatDoor
set_option maxRecDepth 100000
open Go Go.RowKit Go.Sort
attribute [local go_sem] setCell_drewN alloc_drewN
theorem infoVI:∃i,Tryz.prog.info? 27=some i∧i.zero=some (.agg #[.int .u64 0,.slice none 0 0,.slice none 0 0])∧i.size=3∧i.bytes=56:=⟨_,rfl,rfl,rfl,rfl⟩
theorem run_bv1 (x y z:Value) (W:World):(Instr.buildSlice 25 1 #[(0,.agg #[x,y,z])]).run Tryz.prog W=.ok (.slice (some ⟨W.heap.size,0,none⟩) 1 1) (W.alloc (.cells #[x,y,z] 27)):=by kernel_rfl
theorem op_bv1 {o:Oper} {a:Act} {w:World} (p:Operand) (ho:o.op=.buildSlice 25 1 #[(0,p)]) (x y z:Value) (hp:a.eval p=.agg #[x,y,z]):(execOp a.eval o).run Tryz.prog w=.ok (.value (.slice (some ⟨w.heap.size,0,none⟩) 1 1)) (w.alloc (.cells #[x,y,z] 27)):=by
 have hr:=run_bv1 x y z w;unfold execOp;simp only[ho,Sem.run_bind,Sem.run_pure,List.map_toArray,List.map_cons,List.map_nil,hp,hr,Result.andThen_ok]
theorem ech_all:∀(fs:List Fd) (last:Int),0≤last→ech fs last=0→∀f∈fs,0≤f.no∧f.no≤536870911∧known f.ty∧fits f
 |[],_,_,_,f,hf=>by simp at hf
 |g::fs,last,h0,h,f,hf=>by
  rw[ech] at h
  split at h
  ·rename_i hne
   exact absurd h hne
  ·rename_i hz
   have hz':fck g last=0:=by simpa using hz
   have hg:0≤g.no∧g.no≤536870911∧known g.ty∧fits g:=by
    unfold fck at hz'
    split at hz'
    ·rename_i h1;exact absurd hz' h1
    ·rename_i h1
     have h1':hck g last=0:=by simpa using h1
     split at hz'
     ·rename_i h2
      unfold hck at h1'
      split at h1'
      ·omega
      ·rename_i h3
       split at h1'
       ·rename_i h4
        exact⟨by omega,by omega,h4,h2⟩
       ·omega
     ·omega
   rcases List.mem_cons.1 hf with rfl|hf
   ·exact hg
   ·exact ech_all fs g.no hg.1 h f hf
theorem whl_pl {d:List B}:∀(k p:Nat) (last:Int) (c:Nat),p≤d.length→∀q e,(whl d k p last c).2=some (q,e)→q≤d.length
 |0,p,last,c,hp,q,e,h=>by simp[whl] at h
 |k+1,p,last,c,hp,q,e,h=>by
  by_cases hlt:p<d.length
  ·rw[whl,if_pos hlt] at h
   cases hr:rh (d.drop p) last c with
   |er e'=>
    rw[hr] at h
    simp at h
    omega
   |ok no ty n=>
    rw[hr] at h;simp only at h;have h1:=rh_ok hr;rw[List.length_drop] at h1
    cases hv:rv (d.drop (p+n)) ty with
    |er e'=>
     rw[hv] at h
     simp at h
     omega
    |ok num dat m=>
     rw[hv] at h;have h2:=rv_ok hv;rw[List.length_drop] at h2
     exact whl_pl k (p+n+m) no (c+1) (by omega) q e h
  ·rw[whl,if_neg hlt] at h
   simp at h
theorem dpl_bd (d:List B):0≤dpl (dwh d)∧dpl (dwh d)≤4194304:=by
 unfold dpl dwh
 by_cases h:4194304<d.length
 ·rw[if_pos h]
  exact⟨by decide,by decide⟩
 ·rw[if_neg h]
  have:=whl_pl (d:=d) d.length 0 0 0 (by omega)
  generalize (whl d d.length 0 0 0).2=x at *
  cases x with
  |none=>exact⟨by decide,by decide⟩
  |some y=>
   obtain⟨q,e⟩:=y;have:=this q e rfl;simp only;omega
theorem gf_mem {fs:List Fd} {i:Nat} (h:i<fs.length):gf fs i∈fs:=by
 rw[gf,List.getD_eq_getElem?_getD,List.getElem?_eq_getElem h];exact List.getElem_mem h
theorem ebs_take (fs:List Fd) (k:Nat) (h:k<fs.length):(ebs (fs.take (k+1))).length=(ebs (fs.take k)).length+(fby (gf fs k)).length:=by
 rw[List.take_add_one,ebs_app,List.length_append,List.getElem?_eq_getElem h]
 simp[ebs_one,gf,List.getD_eq_getElem?_getD,List.getElem?_eq_getElem h]
theorem Fts.at {W:World} {b:Nat} {v:Value} {us:List Value} {fs:List Fd} (h:Fts W b v us fs) {i:Nat} (hi:i<fs.length):∃g cap,v=.slice (some ⟨g,0,none⟩) fs.length cap∧b≤g∧g<W.heap.size∧W.rangeAt g (i*4) (frow (gf fs i) (gv us i)):=by
 obtain⟨h1,h2,h3,_⟩:=h;have h1':=h1
 obtain⟨_,⟨rfl,h0⟩|⟨g,cap,cur,rfl,hb,hg,hn,hm,hs,ht⟩⟩:=h1'
 ·omega
 ·refine⟨g,cap,rfl,hb,lt_of_row hg,fun j x hx=>?_⟩
  have hj:j<4:=by have:=(List.getElem?_eq_some_iff.1 hx).1;exact this
  have:=h1.cells (g:=g) rfl (i*4+j) x (by rw[frs_at fs us i j h2 hi hj];exact hx)
  rw[addr_add,Nat.zero_add] at this;exact this
theorem own_down_row {W:World} {b c:Nat} {e:TypeId} {sz:Nat} {v:Value} {n:Nat} {xs:List Value} (h:W.ownsRow b e sz v n xs) (hc:c≤b):W.ownsRow c e sz v n xs:=by
 obtain⟨q1,q2|⟨g,cap,cur,q2,hb,q3⟩⟩:=h
 ·exact⟨q1,.inl q2⟩
 ·exact⟨q1,.inr ⟨g,cap,cur,q2,by omega,q3⟩⟩
theorem wp_call_upW {P:Program} {o:Oper} {a:Act} {w:World} {K:Act→World→Prop} {Q:Exit→Act→World→Prop} {f:FuncId} {args:Array Value} (base:Nat) (F:Option Flt3) (R:Value→World→Prop) (B:World→Prop) (hx:(execOp a.eval o).run P w=.ok (.enter f args) w)
 (c:Calls P f args w fun e w'=>Gup base F e w' (fun v=>R v w')∧B w') (h:F=none→∀v w',R v w'→B w'→K (a.put o.dst v) w')
 (hp:∀x,F=some x→∀g w',base≤g→w'.heap[g]? =some (.cells (frw x) 41 (0,0))→B w'→Q (.panic [{v:=.iface 70 (.pointer (some ⟨g,0,none⟩)),recovered:=false}]) a w'):o.wp P a w K Q:=by
 unfold Oper.wp;rw[hx,Oper.upon_enter]
 refine c.mono fun e w' ⟨hG,hB⟩=>?_
 cases F with
 |none=>
  obtain⟨v,rfl,hv⟩:=hG;exact h rfl v w' hv hB
 |some x=>
  obtain⟨g,rfl,h1,h2⟩:=hG;exact hp x rfl g w' h1 h2 hB
end Go.Proofs.YtmmlkfkpblokiaaGreatDoor
namespace Go.Proofs.YtmmlkfkpblokiaaGreatDoor
set_option maxRecDepth 100000
open Go Go.RowKit Go.Sort
attribute [local go_sem] setCell_drewN alloc_drewN
theorem But.setRow {g:Nat} (w:World) (cs:Array Value):But g w (w.setRow g cs):=⟨rfl,rfl,rfl,by simp,fun k _ hne=>setRow_other w g k cs hne⟩
theorem But.keepBx {g:Nat} {w w':World} (h:But g w w') {k:Nat} {c:Array Value} (hk:Bx w k c) (hne:k≠g):Bx w' k c:=by
 obtain⟨T,hk⟩:=hk;exact⟨T,h.row hk hne⟩
theorem results_row_slot {P:Program} {fn:Func} {p q:Tmp} {ty:TypeId} (h:fn.results=#[.cell p ty,.tmp q]) (tmps:Array Value) (w:World) (g:Nat) (t:TypeId) (cs:Array Value) (fr:Nat×Nat) (d:TypeDesc) (v:Value)
 (hp:tmps.getD p undef=.pointer (some ⟨g,0,none⟩)) (hg:w.heap[g]? =some (.cells cs t fr)) (hq:tmps.getD q undef=v)
 (hu:P.underlying ty=some d) (hd:(match d with| .struct _| .array _ _=>true|_=>false)=true) (hi:(P.info? ty).map (·.size)=some cs.size):
 (results fn tmps).run P w=.ok (.tuple #[.agg cs,v]) w:=by
 have hp':tmps[p]?.getD undef=.pointer (some ⟨g,0,none⟩):=by simpa using hp
 have hq':tmps[q]?.getD undef=v:=by simpa using hq
 simp[results,h,hp',hq',asAddr,run_loadVar_row w g t ty cs fr d hg hu hd hi]
def CgtQ (base:Nat) (f:Option Flt3) (Q:World→Prop) (e:Ending) (w':World):Prop:=
 match f with
 |none=>e=.returned .nilIface∧Q w'
 |some x=>∃g,e=.returned (.iface 70 (.pointer (some ⟨g,0,none⟩)))∧base≤g∧w'.heap[g]? =some (.cells (frw x) 41 (0,0))
set_option maxRecDepth 100000 in
set_option maxHeartbeats 8000000 in
theorem a_caughtD (F:Option Flt3) (Q:World→Prop) (ca cb cc:Value) (bv:Nat) (w:World) (hbv:bv<w.heap.size)
 (hQ:∀V V',Q V→But w.heap.size V V'→Q V')
 (hD:∀V,Below w.heap.size w V→w.heap.size<V.heap.size→Calls Tryz.prog 37 #[ca,cb,cc] V fun e w'=>Gup V.heap.size F e w' (fun v=>v=.tuple #[]∧Q w')∧((F≠none→Below V.heap.size V w')∧But bv V w')):
 Calls Tryz.prog 31 #[.func (.func 37) #[] #[ca,cb,cc]] w fun e w'=>CgtQ w.heap.size F Q e w'∧((F≠none→Below w.heap.size w w')∧But bv w w'):=by
 have h0:=hmf;have hb0:Below w.heap.size w (w.alloc (.cells #[.nilIface] 37)):=(Below.refl _ _).alloc (Nat.le_refl _) _;have r0:=hp1_0 w (.cells #[.nilIface] 37)
 have cD:=hD _ hb0 (by simp)
 clear hD
 go_enter_defers Tryz.func31,Tryz.ntmps31
 go_wp2_with (fail)
 refine cD.mono ?_;rintro e_ w1 ⟨hG,hbn,hB⟩
 have r1:=hB.row r0 (by omega)
 have c1:w1.cell? ⟨w.heap.size,0,none⟩=some .nilIface:=by rw[cell_of_row _ _ _ _ _ _ r1];rfl
 have f1:=row_frozen r1 0;have hBw:But bv w w1:=(But.of hb0).trans hB
 cases F with
 |none=>
  obtain⟨v,rfl,rfl,hQ1⟩:=hG;have r2:=heap_setCell_same w1 w.heap.size 0 _ _ .nilIface r1;have hB2:=But.set (g:=w.heap.size) w1 .nilIface;have hQ2:=hQ _ _ hQ1 hB2
  have hBF:But bv w (w1.setCell ⟨w.heap.size,0,none⟩ .nilIface):=⟨hB2.os.trans hBw.os,hB2.tape.trans hBw.tape,hB2.output.trans hBw.output,Nat.le_trans hBw.size hB2.size,fun k hk hne=>(hB2.block k (Nat.lt_of_lt_of_le hk hBw.size) (by omega)).trans (hBw.block k hk hne)⟩
  have c2:(w1.setCell ⟨w.heap.size,0,none⟩ .nilIface).cell? ⟨w.heap.size,0,none⟩=some .nilIface:=by rw[cell_of_row _ _ _ _ _ _ r2];rfl
  go_wp2
  refine leaves_cons (f:=50) (args:=#[.pointer (some ⟨w.heap.size,0,none⟩)]) (by simp) (by simp[go_sem]) ?_
  refine(catch_idle ⟨w.heap.size,0,none⟩ _).mono ?_;rintro e u' w'' ⟨rfl,rfl,rfl⟩
  simp[Leaves,settle,results,Tryz.results31,go_sem,c2]
  exact⟨⟨rfl,hQ2⟩,hBF⟩
 |some f=>
  obtain⟨g,rfl,hg1,hg2⟩:=hG
  have hb1:=hbn (by simp)
  have hw:=Below.after hb0 hb1;have r2:=heap_setCell_same w1 w.heap.size 0 _ _ (.iface 70 (.pointer (some ⟨g,0,none⟩))) r1
  have hw2:=hw.setCell (show w.heap.size≤(⟨w.heap.size,0,none⟩:Addr).block from Nat.le_refl _) (.iface 70 (.pointer (some ⟨g,0,none⟩)))
  have c2:(w1.setCell ⟨w.heap.size,0,none⟩ (.iface 70 (.pointer (some ⟨g,0,none⟩)))).cell? ⟨w.heap.size,0,none⟩=some (.iface 70 (.pointer (some ⟨g,0,none⟩))):=by rw[cell_of_row _ _ _ _ _ _ r2];rfl
  go_wp2
  refine leaves_cons (f:=50) (args:=#[.pointer (some ⟨w.heap.size,0,none⟩)]) (by simp) (by simp[go_sem]) ?_
  refine(catch_panicking ⟨w.heap.size,0,none⟩ .nilIface g [] _ c1 f1).mono ?_;rintro e u' w'' ⟨rfl,rfl,rfl⟩
  simp[Leaves,settle,results,Tryz.results31,go_sem,c2]
  rw[size_alloc1] at hg1
  exact⟨⟨g,rfl,by omega,(heap_setCell_other w1 ⟨w.heap.size,0,none⟩ g _ (show g≠w.heap.size by omega)).trans hg2⟩,hw2,But.of hw2⟩
end Go.Proofs.YtmmlkfkpblokiaaGreatDoor
