import Derived.Test.YtmmlkfkpblokiaaGreatDoorQzWo
set_option maxRecDepth 100000
set_option maxHeartbeats 16000000
namespace Go.Proofs.YtmmlkfkpblokiaaGreatDoor
open Go Go.RowKit Go.Sort
attribute [local go_sem] setCell_drewN alloc_drewN
structure Plo (utf:List B→Bool) (flE:Nat→Nat→Int) (G:World→Prop):Prop where
 keep:∀w w',G w→Below w.heap.size w w'→G w'
 txt:∀w da dl dc bs,G w→dl≤dc→BysB w (.slice da dl dc) bs→Calls Tryz.prog 122 #[.slice da dl dc] w fun e w'=>e=.returned (.bool (utf bs))∧Below w.heap.size w w'
 flt:∀w (n m:Nat),n<18446744073709551616→Calls Tryz.prog 93 #[.agg #[.float .f64 (floatOfInt .f64 (m:Int))],.int .u64 (n:Int)] w fun e w'=>e=.returned (.int .i64 (flE n m))∧Below w.heap.size w w'
def txE (utf:List B→Bool) (l m:Int) (bs:List B):Int:=if wth (bs.length:Int) l m≠0 then wth (bs.length:Int) l m else if utf bs then 0 else 84
theorem a_octetsT {utf:List B→Bool} {flE:Nat→Nat→Int} {G:World→Prop} (hp:Plo utf flE G) (da:Option Addr) (dl dc:Nat) (hcp:dl≤dc) (bs:List B) (l m:Int) (hdl:dl<9223372036854775808) (w:World) (hG:G w) (hB:BysB w (.slice da dl dc) bs) (hbl:dl=bs.length):Calls Tryz.prog 95 #[.agg #[.int .u64 l,.int .u64 m,.bool true],.slice da dl dc] w fun e w'=>e=.returned (.int .i64 (txE utf l m bs))∧Below w.heap.size w w':=by
 have cW:=a_within (dl:Int) l m
 have hb:∀o,Below w.heap.size w (w.alloc o):=fun o=>(Below.refl _ _).alloc (Nat.le_refl _) _
 obtain⟨R,hR⟩:∃R,txE utf l m bs=R:=⟨_,rfl⟩;rw[hR];unfold txE at hR;rw[←hbl] at hR;clear hbl
 generalize hE:wth (dl:Int) l m=E at *
 go_enter Tryz.func95,Tryz.ntmps95
 go_wp2_with (fail)
 refine(cW.at _).mono ?_;rintro e_ w1 ⟨rfl,hb1⟩;have r0:=keep hb1 (hp1_0 w (.cells #[.int .u64 l,.int .u64 m,.bool true] 186))
 have c2:w1.cell? ⟨w.heap.size,2,none⟩=some (.bool true):=by rw[cell_of_row _ _ _ _ _ _ r0];rfl
 replace hb1:=Below.after (hb _) hb1;replace hE:=hide hE
 rcases hz:(E==0)
 ·have hz2:¬E=0:=by simpa using hz
  rw[if_pos hz2] at hR
  replace hR:=hide hR;clear r0 cW
  go_wp2
  go_ret
  exact⟨by rw[←hR.out];rfl,hb1⟩
 ·have hz2:E=0:=by simpa using hz
  subst hz2
  rw[if_neg (by simp)] at hR
  have cT:=hp.txt w1 da dl dc bs (hp.keep _ _ hG hb1) hcp (hB.keep hb1)
  generalize utf bs=B at *
  replace hR:=hide hR;clear r0 cW hz
  go_wp2_with (fail)
  refine cT.mono ?_;rintro e_ w2 ⟨rfl,hb2⟩;replace hb1:=Below.after hb1 hb2
  cases B
  ·go_wp2
   go_ret
   exact⟨by rw[←hR.out];rfl,hb1⟩
  ·go_wp2
   go_ret
   exact⟨by rw[←hR.out];rfl,hb1⟩
theorem a_fitTxt {utf:List B→Bool} {flE:Nat→Nat→Int} {G:World→Prop} (hp:Plo utf flE G) (n:Nat) (da:Option Addr) (dl dc:Nat) (hcp:dl≤dc) (pa:Option Addr) (pl pc:Nat) (bs:List B) (l m:Int) (hdl:dl<9223372036854775808) (g:Nat) (w:World) (hG:G w) (hB:BysB w (.slice da dl dc) bs) (hbl:dl=bs.length) (hg:Bx w g #[.int .u64 l,.int .u64 m,.bool true]):Calls Tryz.prog 94 #[.agg (vrw n (.slice da dl dc) (.slice pa pl pc)),.pointer (some ⟨g,0,none⟩)] w fun e w'=>e=.returned (.int .i64 (txE utf l m bs))∧Below w.heap.size w w':=by
 obtain⟨T,hg⟩:=hg;have hlt:=lt_of_row hg
 have hb:∀o,Below w.heap.size w (w.alloc o):=fun o=>(Below.refl _ _).alloc (Nat.le_refl _) _
 have cO:=fun V (hV:Below w.heap.size w V)=>a_octetsT hp da dl dc hcp bs l m hdl V (hp.keep _ _ hG hV) (hB.keep hV) hbl
 have hg2:=fun o=>keep (hb o) hg
 replace cO:=hide cO;clear hbl hB hG;unfold vrw
 go_enter Tryz.func94,Tryz.ntmps94
 go_wp2_with (first|(refine wpList_load_want rfl 186 _ rfl g rfl T #[.int .u64 l,.int .u64 m,.bool true] (0,0) _ (hg2 _) Tryz.underlying186 rfl infoOct ?_)|fail)
 refine(cO.out _ (hb _)).mono ?_;rintro e_ w1 ⟨rfl,hb1⟩;replace hb1:=Below.after (hb _) hb1;clear cO hg2 hg
 go_wp2
 go_ret;exact⟨rfl,hb1⟩
theorem infoFlo:(Tryz.prog.info? 183).map (·.size)=some 1:=by kernel_rfl
theorem a_fitFlt {utf:List B→Bool} {flE:Nat→Nat→Int} {G:World→Prop} (hp:Plo utf flE G) (n m:Nat) (hn:n<18446744073709551616) (da:Option Addr) (dl dc:Nat) (pa:Option Addr) (pl pc:Nat) (g:Nat) (w:World) (hg:Bx w g #[.float .f64 (floatOfInt .f64 (m:Int))]):Calls Tryz.prog 92 #[.agg (vrw n (.slice da dl dc) (.slice pa pl pc)),.pointer (some ⟨g,0,none⟩)] w fun e w'=>e=.returned (.int .i64 (flE n m))∧Below w.heap.size w w':=by
 obtain⟨T,hg⟩:=hg;have hlt:=lt_of_row hg
 have hb:∀o,Below w.heap.size w (w.alloc o):=fun o=>(Below.refl _ _).alloc (Nat.le_refl _) _
 have cO:=fun V=>hp.flt V n m hn
 generalize floatOfInt .f64 (m:Int)=F at *
 have hg2:=fun o=>keep (hb o) hg
 have cg:=fun o=>cell_of_row _ _ 0 _ _ _ (hg2 o)
 replace cO:=hide cO;unfold vrw
 go_enter Tryz.func92,Tryz.ntmps92
 go_wp2_with (first|(refine wpList_load_want rfl 183 _ rfl g rfl T #[.float .f64 F] (0,0) _ (hg2 _) Tryz.underlying183 rfl infoFlo ?_)|fail)
 refine(cO.out _).mono ?_;rintro e_ w1 ⟨rfl,hb1⟩;replace hb1:=Below.after (hb _) hb1;clear cO hg2 hg cg
 go_wp2
 go_ret;exact⟨rfl,hb1⟩
theorem a_slotCheckT {utf:List B→Bool} {flE:Nat→Nat→Int} {G:World→Prop} (hp:Plo utf flE G) {W:World} {S0:Nat→Prop} {t:Slt} {u:Value} {row:Array Value} (h:SlC W S0 t u row) (hG:G W)
 (hu:nst t→∃so sn sc,u=.slice so sn sc)
 (hsub:nst t→∀(S:Nat→Prop) (x:VR) (X:VT) (deep:Int) (w:World),VtM w S x X→Below W.heap.size W w→-9223372036854775808≤deep→deep+htT t.sub≤9223372036854775807→Calls Tryz.prog 33 #[u,.agg (vrv x),.int .i64 deep] w fun e w'=>Gup w.heap.size (ckT utf flE t.sub X deep) e w' (fun v=>v=.tuple #[])∧Below w.heap.size w w'):
 ∃wt k1 k2 k3 a1 a2 a3,row=rdv t.no wt k1 k2 k3 a1 a2 a3∧(∀args W,(callFunc k1 args).run Tryz.prog W=.ok (.enter k1 args) W)∧
 ∀(S:Nat→Prop) (x:VR) (X:VT) (deep:Int) (w:World),VtM w S x X→Below W.heap.size W w→-9223372036854775808≤deep→deep+(htT t.sub+1)≤9223372036854775807→Calls Tryz.prog k1 (#[.agg (vrv x),.int .i64 deep]++a1) w fun e w'=>Gup w.heap.size (slT utf flE t X deep) e w' (fun v=>v=.tuple #[])∧Below w.heap.size w w':=by
 have num:∀(wt l m:Int),PlC W S0 t.no wt 90 #[.int .i64 wt,.int .u64 l,.int .u64 m] row→wt≠2→isB t.kind=false→t.kind≠8→t.kind≠9→(∀X:VT,plE8 utf flE t.kind t.least t.most X=wth (X.num:Int) l m)→∃wt k1 k2 k3 a1 a2 a3,row=rdv t.no wt k1 k2 k3 a1 a2 a3∧(∀args W,(callFunc k1 args).run Tryz.prog W=.ok (.enter k1 args) W)∧
  ∀(S:Nat→Prop) (x:VR) (X:VT) (deep:Int) (w:World),VtM w S x X→Below W.heap.size W w→-9223372036854775808≤deep→deep+(htT t.sub+1)≤9223372036854775807→Calls Tryz.prog k1 (#[.agg (vrv x),.int .i64 deep]++a1) w fun e w'=>Gup w.heap.size (slT utf flE t X deep) e w' (fun v=>v=.tuple #[])∧Below w.heap.size w w':=by
  intro wt l m ⟨g0,g1,g2,g4,gs,e,h0,h1,h2,h4,h5⟩ hwt hB h8 h9 hE
  refine⟨wt,_,_,_,_,_,_,e,ent_plain1,fun S x X deep w hx hb _ _=>?_⟩
  have hb2:(wt==2)=false:=by simpa using hwt
  rw[hb2] at h4;obtain⟨en,enb,ed,edb,ep⟩:=hx.num_eq;rw[slT_pl utf flE h8 h9,hE X,hB,←en,←ed,←ep]
  exact a_plain1 _ (.inl rfl) x.num x.da x.dl x.dc x.pa x.pl x.pc deep t.no false _ g4 g0 g2 gs w (h4.2.keep hb) (h0.2.keep hb) (h2.2.keep hb) (fun V hV=>a_fitNum x.num x.da x.dl x.dc x.pa x.pl x.pc wt l m gs V (h5.2.keep (Below.after hb hV)))
 rcases h with⟨hk,h⟩|⟨hk,h⟩|⟨hk,h⟩|⟨hk,h⟩|⟨hk,h⟩|⟨hk,h⟩|⟨hk,h⟩|⟨hk,h⟩
 ·exact num 0 _ _ h (by decide) (by rw[hk];rfl) (by omega) (by omega) (fun X=>by unfold plE8;rw[if_neg (by omega),if_neg (by omega),if_neg (by omega),if_neg (by omega)])
 ·exact num 5 _ _ h (by decide) (by rw[hk];rfl) (by omega) (by omega) (fun X=>by unfold plE8;rw[if_neg (by omega),if_neg (by omega),if_neg (by omega),if_neg (by omega)])
 ·exact num 1 _ _ h (by decide) (by rw[hk];rfl) (by omega) (by omega) (fun X=>by unfold plE8;rw[if_neg (by omega),if_neg (by omega),if_neg (by omega),if_neg (by omega)])
 ·exact num 0 _ _ h (by decide) (by rw[hk];rfl) (by omega) (by omega) (fun X=>by unfold plE8;rw[if_neg (by omega),if_neg (by omega),if_neg (by omega),if_pos hk])
 ·obtain⟨g0,g1,g2,g4,gs,e,h0,h1,h2,h4,h5⟩:=h
  refine⟨2,_,_,_,_,_,_,e,ent_plain1,fun S x X deep w hx hb _ _=>?_⟩
  obtain⟨en,enb,ed,edb,ep⟩:=hx.num_eq
  rw[slT_pl utf flE (by omega) (by omega),←en,←ed,←ep]
  rcases hk with hk|hk
  ·rw[show(t.kind==6)=false by rw[hk];rfl] at h5
   rw[show isB t.kind=true by rw[hk];rfl,show plE8 utf flE t.kind t.least t.most X=wth (x.dl:Int) (t.least:Int) (t.most:Int) by unfold plE8;rw[if_pos hk,ed]]
   exact a_plain1 _ (.inr (.inr rfl)) x.num x.da x.dl x.dc x.pa x.pl x.pc deep t.no true _ g4 g0 g2 gs w (h4.2.keep hb) (h0.2.keep hb) (h2.2.keep hb) (fun V hV=>a_fitOct x.num x.da x.dl x.dc x.pa x.pl x.pc _ _ (by omega) gs V (h5.2.keep (Below.after hb hV)))
  ·rw[show(t.kind==6)=true by rw[hk];rfl] at h5
   rw[show isB t.kind=true by rw[hk];rfl,show plE8 utf flE t.kind t.least t.most X=txE utf (t.least:Int) (t.most:Int) X.dat by unfold plE8 txE;rw[if_neg (by omega),if_pos hk]]
   have hBB:BysB w (.slice x.da x.dl x.dc) X.dat∧x.dl≤x.dc:=by
    cases hx with
    |mk x bs xs ps hn hdl hbl hd hdc hds hpl hxl hpc hpm hps hP hs=>exact⟨hd,hdc⟩
   exact a_plain1 _ (.inr (.inr rfl)) x.num x.da x.dl x.dc x.pa x.pl x.pc deep t.no true _ g4 g0 g2 gs w (h4.2.keep hb) (h0.2.keep hb) (h2.2.keep hb) (fun V hV=>a_fitTxt hp x.num x.da x.dl x.dc hBB.2 x.pa x.pl x.pc X.dat _ _ (by omega) gs V (hp.keep _ _ hG (Below.after hb hV)) (hBB.1.keep hV) ed (h5.2.keep (Below.after hb hV)))
 ·obtain⟨g0,g1,g2,g4,gs,e,h0,h1,h2,h4,h5⟩:=h
  refine⟨1,_,_,_,_,_,_,e,ent_plain1,fun S x X deep w hx hb _ _=>?_⟩
  obtain⟨en,enb,ed,edb,ep⟩:=hx.num_eq
  rw[slT_pl utf flE (by omega) (by omega),←en,←ed,←ep]
  rw[show isB t.kind=false by rw[hk];rfl,show plE8 utf flE t.kind t.least t.most X=flE x.num t.most by unfold plE8;rw[if_neg (by omega),if_neg (by omega),if_pos hk,en]]
  exact a_plain1 _ (.inr (.inl rfl)) x.num x.da x.dl x.dc x.pa x.pl x.pc deep t.no false _ g4 g0 g2 gs w (h4.2.keep hb) (h0.2.keep hb) (h2.2.keep hb) (fun V hV=>a_fitFlt hp x.num t.most enb x.da x.dl x.dc x.pa x.pl x.pc gs V (h5.2.keep (Below.after hb hV)))
 ·obtain⟨so,sn,sc,rfl⟩:=hu (.inl hk)
  obtain⟨g0,g1,e,h0,h1⟩:=h
  refine⟨2,_,_,_,_,_,_,e,fun args W=>by kernel_rfl,fun S x X deep w hx hb hd1 hd2=>?_⟩
  have:=htT_pos t.sub;rw[slT_msg utf flE hk]
  exact a_inner1 x deep ⟨hd1,by omega⟩ g1 so sn sc w _ (h1.2.keep hb) (fun V hV=>hsub (.inl hk) S x X (deep+1) V (hx.blw hV) (Below.after hb hV) (by omega) (by omega))
 ·obtain⟨so,sn,sc,rfl⟩:=hu (.inr hk)
  obtain⟨g0,g1,g2,y,e,h0,h1,h2⟩:=h
  refine⟨2,_,_,_,_,_,_,e,fun args W=>by kernel_rfl,fun S x X deep w hx hb hd1 hd2=>?_⟩
  have:=htT_pos t.sub;rw[slT_lst utf flE hk]
  exact a_listed1 x X deep t.no (t.least:Int) (t.most:Int) ⟨hd1,by omega⟩ g0 g1 g2 y so sn sc w (fun Z=>ckT utf flE t.sub Z (deep+1)) hx (h0.2.keep hb) (h1.2.keep hb) (h2.2.keep hb) (fun V z Z hV hZ=>hsub (.inr hk) S z Z (deep+1) V hZ (Below.after hb hV) (by omega) (by omega))
theorem a_checkT {utf:List B→Bool} {flE:Nat→Nat→Int} {G:World→Prop} (hp:Plo utf flE G) {W:World} {S0:Nat→Prop} {v:Value} {ts:List Slt} (h:RdL W S0 v ts) (hG:G W):∀(S:Nat→Prop) (x:VR) (X:VT) (deep:Int) (w:World),VtM w S x X→Below W.heap.size W w→-9223372036854775808≤deep→deep+htT ts≤9223372036854775807→
 Calls Tryz.prog 33 #[v,.agg (vrv x),.int .i64 deep] w fun e w'=>Gup w.heap.size (ckT utf flE ts X deep) e w' (fun v=>v=.tuple #[])∧Below w.heap.size w w':=by
 induction h with
 |mk ao cap ts rows us hl hc hnn h hs ih=>
  intro S x X deep w hX hw hd1 hd2;obtain⟨en,enb,ed,edb,ep⟩:=hX.num_eq;obtain⟨xs,hP⟩:=hX.split;obtain⟨n,da,dl,dc,pa,pl,pc⟩:=x;simp only at en enb ed edb ep hP
  have eck:ckT utf flE ts X deep=if n≠0∨0<dl then some ⟨deep,0,84⟩ else if X.parts.length≠ts.length then some ⟨deep,0,81⟩ else chT utf flE ts X.parts deep:=by rw[en,ed];rfl
  generalize X.parts=ps at *
  obtain⟨pa',pc',e,hxl,hpc,hpm,hpr,hvt⟩:=hP
  injection e with e1 e2 e3
  subst e1 e2 e3
  have hsl:=fun k (hlt:k<ts.length)=>fun hSl=>a_slotCheckT hp (W:=W) (S0:=S0) (t:=gs ts k) (u:=us k) (row:=rows k) hSl hG (fun hn=>by obtain⟨a,c,q⟩:=(hs k hlt hn).form;exact⟨a,_,c,q⟩) (fun hn=>ih k hlt hn)
  unfold vrv;clear en ed ep hX hs ih;have hb0:Below w.heap.size w (w.alloc (.cells (vrw n (.slice da dl dc) (.slice pa ps.length pc)) 27)):=(Below.refl _ _).alloc (Nat.le_refl _) _;have rV:=hp1_0 w (.cells (vrw n (.slice da dl dc) (.slice pa ps.length pc)) 27);obtain⟨R,hR⟩:∃R,ckT utf flE ts X deep=R:=⟨_,rfl⟩;rw[hR]
  unfold vrw at rV hb0⊢
  by_cases hbad:n≠0∨0<dl
  ·have eR:R=some ⟨deep,0,84⟩:=by rw[←hR,eck,if_pos hbad]
   have cG:=a_giveUp deep 0 84
   replace eR:=hide eR
   rcases Nat.eq_zero_or_pos n with rfl|hnp
   ·have hd:decide ((dl:Int)>0)=true:=by simp;omega
    go_enter Tryz.func33,Tryz.ntmps33
    go_wp2_with (fail)
    refine(cG _).mono ?_;rintro e_ w2 ⟨⟨g,rfl,hgl,hgr⟩,hb2⟩;replace hb2:=Below.after hb0 hb2
    go_wp2
    rw[eR.out];exact⟨rfl,⟨g,rfl,Nat.le_trans hb0.size hgl,hgr⟩,hb2⟩
   ·have hd:((n:Int)==0)=false:=by simp;omega
    have hd2:¬(n:Int)=0:=by omega
    go_enter Tryz.func33,Tryz.ntmps33
    go_wp2_with (fail)
    refine(cG _).mono ?_;rintro e_ w2 ⟨⟨g,rfl,hgl,hgr⟩,hb2⟩;replace hb2:=Below.after hb0 hb2
    go_wp2
    rw[eR.out];exact⟨rfl,⟨g,rfl,Nat.le_trans hb0.size hgl,hgr⟩,hb2⟩
  ·obtain rfl:n=0:=by omega
   obtain rfl:dl=0:=by omega
   by_cases hln:ps.length=ts.length
   ·have eR:R=chT utf flE (ts.drop 0) (ps.drop 0) deep:=by rw[←hR,eck,if_neg (by omega),if_neg (by omega)];rfl
    have hle3:=hide hln
    rw[hln] at rV hb0⊢
    clear hR hbad;rw[hln] at hpc;clear hln;replace eR:=hide eR
    go_enter Tryz.func33,Tryz.ntmps33
    go_wp2_with (fail)
    generalize w.alloc (.cells #[.int .u64 ((0:Nat):Int),.slice da 0 dc,.slice pa ts.length pc] 27)=w0 at *
    go_loopw [29,6,7] (fun i _ _ wr=>∃k:Nat,k≤ts.length∧i=.int .i64 k∧R=chT utf flE (ts.drop k) (ps.drop k) deep∧Below w.heap.size w wr∧wr.heap[w.heap.size]? =some (.cells #[.int .u64 ((0:Nat):Int),.slice da 0 dc,.slice pa ts.length pc] 27 (0,0))) (fun i _ _ _=>ts.length-(intOf i).toNat)
    case atStart=>exact⟨0,by omega,rfl,eR.out,hb0,rV⟩
    case round=>
     clear rV hb0 eR;obtain⟨k,hk,rfl,eR,hb,rV⟩:=hrel;have hww:=Below.after hw hb
     by_cases hlt:k<ts.length
     ·have hd:decide ((k:Int)<(ts.length:Int))=true:=by simp;omega
      have hlx:=hle3.out
      obtain⟨b,rfl,hbl,_,hra,hSl⟩:=h k hlt
      obtain⟨pb,poff,rfl,hpb,hpra⟩:=hpr k (by omega)
      obtain⟨wt,k1,k2,k3,a1,a2,a3,hrow,hent,hcall⟩:=hsl k hlt hSl;rw[hrow] at hra;have hrw:=rangeS_keep2 hra hww hbl;have hpw:=rangeS_keep2 hpra hb hpb
      rw[chT_drop utf flE hlt (by omega)] at eR
      have hht:=htT_sub ts k hlt
      have cC:=fun V hV (hz:VtM V S (gx xs k) (gvt ps k))=>hcall S _ _ deep V hz hV hd1 (by omega)
      have hvz:=hvt k (by omega)
      have hlb:=lt_of_row rV;have hba:Below wr.heap.size wr (wr.alloc (.cells #[.int .i64 0,.int .i64 0,.nilFunc,.nilFunc,.nilFunc] 114)):=(Below.refl _ _).alloc (Nat.le_refl _) _;have rS:=hp1_0 wr (.cells #[.int .i64 0,.int .i64 0,.nilFunc,.nilFunc,.nilFunc] 114);have hbb:=below_setRow (g:=wr.heap.size) hba (Nat.le_refl _) (rdv (gs ts k).no wt k1 k2 k3 a1 a2 a3);have rS2:=setRow_heap _ wr.heap.size _ (rdv (gs ts k).no wt k1 k2 k3 a1 a2 a3) _ _ rS;replace rV:=keep hbb rV;replace hpw:=rangeS_keep2 hpw hbb (Nat.lt_of_lt_of_le hpb hb.size);have hpb2:=Nat.lt_of_lt_of_le hpb hb.size;replace hb:=Below.after hb hbb;replace hww:=Below.after hww hbb
      generalize (gs ts k).no=no at *
      obtain⟨F,hF⟩:∃F,slT utf flE (gs ts k) (gvt ps k) deep=F:=⟨_,rfl⟩;rw[hF] at eR cC
      generalize gvt ps k=Z at *
      generalize gx xs k=x at *
      obtain⟨xn,xda,xdl,xdc,xpa,xpl,xpc⟩:=x;replace hvz:=hide hvz;have eR2:=hide eR;have A1:=hide rV;have A2:=hide hpw;have A3:=hide hb;have A4:=hide hww;have A5:=hide rS2;have A6:=hide cC
      have hone:(rdv no wt k1 k2 k3 a1 a2 a3).all (·.oneCell')=true:=by simp[rdv,Value.oneCell']
      clear eR rV hpw hb hww rS2 cC hF hcall hSl hrow hra hpra h hpr hvt hsl hba hbb eck hht
      unfold rdv vrv vrw at *
      go_wp2_with (first|(refine wpList_load_mid rfl 114 _ rfl b (k*5) rfl _ _ hrw Tryz.underlying114 rfl infoSt' ?_)|(refine wpList_store_row rfl 114 _ _ rfl wr.heap.size #[.int .i64 no,.int .i64 wt,.func (.func k1) #[] a1,.func (.func k2) #[] a2,.func (.func k3) #[] a3] rfl rfl 114 _ rS infoSt' rfl hone ?_)|fail)
      have hS0:(fun W:World=>W.heap[wr.heap.size]? =some (.cells #[.int .i64 no,.int .i64 wt,.func (.func k1) #[] a1,.func (.func k2) #[] a2,.func (.func k3) #[] a3] 114 (0,0))∧W.heap[w.heap.size]? =some (.cells #[.int .u64 ((0:Nat):Int),.slice da 0 dc,.slice (some ⟨pb,poff,none⟩) ts.length pc] 27 (0,0))∧W.rangeAt pb (poff+k*3) [.int .u64 (xn:Int),.slice xda xdl xdc,.slice xpa xpl xpc]) _:=⟨A5.out,A1.out,A2.out⟩
      refine wp_region_held (S:=fun W:World=>W.heap[wr.heap.size]? =some (.cells #[.int .i64 no,.int .i64 wt,.func (.func k1) #[] a1,.func (.func k2) #[] a2,.func (.func k3) #[] a3] 114 (0,0))∧W.heap[w.heap.size]? =some (.cells #[.int .u64 ((0:Nat):Int),.slice da 0 dc,.slice (some ⟨pb,poff,none⟩) ts.length pc] 27 (0,0))∧W.rangeAt pb (poff+k*3) [.int .u64 (xn:Int),.slice xda xdl xdc,.slice xpa xpl xpc]) (by kernel_rfl) ?_
      change wpAnyH _ _ _ _ _ _ _ _ (World.drew _)
      generalize (wr.alloc (.cells #[.int .i64 0,.int .i64 0,.nilFunc,.nilFunc,.nilFunc] 114)).setRow wr.heap.size #[.int .i64 no,.int .i64 wt,.func (.func k1) #[] a1,.func (.func k2) #[] a2,.func (.func k3) #[] a3]=w2 at *
      have hbd:Below w2.heap.size w2 w2.drew:=below_drN (Below.refl _ _) 1
      replace hS0:(fun W:World=>W.heap[wr.heap.size]? =some (.cells #[.int .i64 no,.int .i64 wt,.func (.func k1) #[] a1,.func (.func k2) #[] a2,.func (.func k3) #[] a3] 114 (0,0))∧W.heap[w.heap.size]? =some (.cells #[.int .u64 ((0:Nat):Int),.slice da 0 dc,.slice (some ⟨pb,poff,none⟩) ts.length pc] 27 (0,0))∧W.rangeAt pb (poff+k*3) [.int .u64 (xn:Int),.slice xda xdl xdc,.slice xpa xpl xpc]) w2.drew:=hS0
      have hb:=Below.after A3.out hbd;have hww:=Below.after A4.out hbd;clear A1 A2 A3 A4 A5 hbd
      generalize w2.drew=w3 at *
      refine wTy 0 ?v1 rfl ?y1 hS0 ?r1
      case y1=>
       intro w_ hS_;go_simp
       try with_reducible rfl
      simp only[Act.put,ZPa,ZPc,ZPd,ZPe,ZPf];refine wTy 1 (.func (.func k1) #[] a1) rfl ?y2 hS0 ?r2
      case y2=>
       intro w_ hS_;have c_:=cell_of_row _ _ 2 _ _ _ hS_.1;go_simp
       try with_reducible rfl
      simp only[Act.put,ZPa,ZPb,ZPc,ZPd,ZPe,ZPf];refine wTy 2 ?v3 rfl ?y3 hS0 ?r3
      case y3=>
       intro w_ hS_;go_simp
       try with_reducible rfl
      simp only[Act.put,ZPa,ZPb,ZPc,ZPd,ZPe,ZPf];refine wTy 3 (.slice (some ⟨pb,poff,none⟩) ts.length pc) rfl ?y4 hS0 ?r4
      case y4=>
       intro w_ hS_;have c_:=cell_of_row _ _ 2 _ _ _ hS_.2.1;go_simp
       try with_reducible rfl
      simp only[Act.put,ZPa,ZPb,ZPc,ZPd,ZPe,ZPf];refine wTy 4 ?v5 rfl ?y5 hS0 ?r5
      case y5=>
       intro w_ hS_;go_simp
       try with_reducible rfl
      simp only[Act.put,ZPa,ZPb,ZPc,ZPd,ZPe,ZPf];refine wTy 5 ?v6 rfl ?y6 hS0 ?r6
      case y6=>
       intro w_ hS_;go_simp
       try with_reducible rfl
      simp only[Act.put,ZPa,ZPb,ZPc,ZPd,ZPe,ZPf]
      refine wTk (i:=6) (v:=.agg #[.int .u64 (xn:Int),.slice xda xdl xdc,.slice xpa xpl xpc]) rfl (yieldsIf_load_mid (by rfl) 27 _ rfl pb (poff+k*3) rfl [.int .u64 (xn:Int),.slice xda xdl xdc,.slice xpa xpl xpc] _ (fun _ h=>h.2.2) Tryz.underlying27 rfl infoV) hS0 ?_
      simp only[Act.put,ZPa,ZPb,ZPc,ZPd,ZPe,ZPf];refine wTy 7 ?v7 rfl ?y7 hS0 ?r7
      case y7=>
       intro w_ hS_;go_simp
       try with_reducible rfl
      simp only[Act.put,ZPa,ZPb,ZPc,ZPd,ZPe,ZPf]
      refine wpAnyH_one (k:=8) (fuel:=0) (by kernel_rfl) rfl (by kernel_rfl) (fun K_ hK=>?_)
      have c:=A6.out w3 hww (hvz.out.blw hb);clear A6
      refine wp_call_up (base:=w3.heap.size) (F:=F) (R:=fun v=>v=.tuple #[]) (B:=fun w'=>Below w3.heap.size w3 w') ?hx c ?_ ?_
      case hx=>exact run_call_val (.tmp 35) #[.tmp 40,.tmp 41] #[27,3] rfl rfl _ (by simp only[List.map_toArray,List.map_cons,List.map_nil];rfl) hent
      ·intro hF v_ w4 hv hb4
       subst hv
       subst hF;have hl1:=lt_of_row hS0.1;have hl2:=lt_of_row hS0.2.1
       refine hK _ _ ⟨keep hb4 hS0.1,keep hb4 hS0.2.1,rangeS_keep2 hS0.2.2 hb4 (Nat.lt_of_lt_of_le hpb2 (by omega))⟩ ?_
       simp only[Act.put,ZPa,ZPb,ZPc,ZPd,ZPe,ZPf];clear hK c;replace hb:=Below.after hb hb4;have rV2:=keep hb4 hS0.2.1;have B1:=hide hb;have B2:=hide rV2;clear hb rV2 hS0 hb4 hww
       refine wpAnyH_done (by kernel_rfl) ?_ _
       go_wp2_with (fail)
       refine⟨⟨_,_,_,⟨k+1,by omega,by go_num,eR2.out,B1.out,B2.out⟩,rfl,rfl,rfl⟩,?_⟩
       simp[intOf];omega
      ·intro x hF g w4 h1 h2 hb4
       subst hF
       have hsz:=hb.size;replace hb:=Below.after hb hb4
       go_wp2_with (fail)
       rw[eR2.out]
       exact⟨rfl,⟨g,rfl,by omega,h2⟩,hb⟩
     ·have hd:decide ((k:Int)<(ts.length:Int))=false:=by simp;omega
      obtain rfl:k=ts.length:=by omega
      rw[List.drop_length,chT_nil] at eR;replace eR:=hide eR;clear h hpr hvt hsl eck
      go_wp2_with (fail)
      go_end0;rw[eR.out];exact⟨⟨_,rfl,rfl⟩,hb⟩
   ·have eR:R=some ⟨deep,0,81⟩:=by rw[←hR,eck,if_neg (by omega),if_pos hln]
    have cG:=a_giveUp deep 0 81
    have hle:((ps.length:Int)==(ts.length:Int))=false:=by simp;omega
    have hle2:¬(ps.length:Int)=(ts.length:Int):=by omega
    replace eR:=hide eR
    go_enter Tryz.func33,Tryz.ntmps33
    go_wp2_with (fail)
    refine(cG _).mono ?_;rintro e_ w2 ⟨⟨g,rfl,hgl,hgr⟩,hb2⟩;replace hb2:=Below.after hb0 hb2
    go_wp2
    rw[eR.out];exact⟨rfl,⟨g,rfl,Nat.le_trans hb0.size hgl,hgr⟩,hb2⟩
def wtA (k:Int):Int:=if k=2 then 5 else if k=3∨k=7 then 1 else if k=1∨k=4 then 0 else 2
def fdN (no k:Int) (enc:VT→List B) (x:VT):Fd:=⟨no,wtA k,if k=8∨k=9 then 0 else x.num,if k=8 then enc x else if k=9 then jout (x.parts.map enc) else x.dat⟩
def fdT:List Slt→List VT→List Fd
 | .mk no k _ _ sub::ts,x::xs=>fdN no k (fun y=>eout (fdT sub y.parts)) x::fdT ts xs
 |_,_=>[]
def enT (ts:List Slt) (x:VT):List B:=eout (fdT ts x.parts)
def fdS (t:Slt) (x:VT):Fd:=fdN t.no t.kind (enT t.sub) x
theorem fdT_cons (t:Slt) (ts:List Slt) (x:VT) (xs:List VT):fdT (t::ts) (x::xs)=fdS t x::fdT ts xs:=by
 cases t
 rw[fdT];rfl
theorem fdT_nil (xs:List VT):fdT [] xs=[]:=by rw[fdT];intros;contradiction
theorem fdT_len:∀(ts:List Slt) (xs:List VT),ts.length=xs.length→(fdT ts xs).length=ts.length
 |[],[],_=>by rw[fdT_nil];rfl
 |t::ts,x::xs,h=>by rw[fdT_cons,List.length_cons,List.length_cons,fdT_len ts xs (by simpa using h)]
 |[],_::_,h=>by simp at h
 |_::_,[],h=>by simp at h
theorem fdT_at:∀(ts:List Slt) (xs:List VT) (i:Nat),ts.length=xs.length→i<ts.length→gf (fdT ts xs) i=fdS (gs ts i) (gvt xs i)
 |[],_,_,_,h=>by simp at h
 |_::_,[],_,h,_=>by simp at h
 |t::ts,x::xs,0,_,_=>by rw[fdT_cons];rfl
 |t::ts,x::xs,i+1,h,hi=>by
  rw[fdT_cons]
  show gf (fdT ts xs) i=_
  rw[fdT_at ts xs i (by simpa using h) (by simpa using hi)]
  rfl
theorem fdT_take:∀(ts:List Slt) (xs:List VT) (k:Nat),ts.length=xs.length→k<ts.length→fdT (ts.take (k+1)) (xs.take (k+1))=fdT (ts.take k) (xs.take k)++[fdS (gs ts k) (gvt xs k)]
 |[],_,_,_,h=>by simp at h
 |_::_,[],_,h,_=>by simp at h
 |t::ts,x::xs,0,_,_=>by
  rw[List.take_succ_cons,List.take_succ_cons,List.take_zero,List.take_zero,fdT_cons]
  have:∀ys,fdT [] ys=[]:=fun ys=>by rw[fdT];intros;contradiction
  rw[List.take_zero,List.take_zero,this];rfl
 |t::ts,x::xs,k+1,h,hk=>by
  rw[List.take_succ_cons,List.take_succ_cons,fdT_cons,fdT_take ts xs k (by simpa using h) (by simpa using hk),List.take_succ_cons,List.take_succ_cons,fdT_cons]
  rfl
def wfT:List Slt→List VT→Prop
 | .mk _ k _ _ sub::ts,x::xs=>(k=8→x.parts.length=sub.length∧wfT sub x.parts)∧(k=9→∀p∈x.parts,p.parts.length=sub.length∧wfT sub p.parts)∧wfT ts xs
 |_,_=>True
theorem wfT_cons (t:Slt) (ts:List Slt) (x:VT) (xs:List VT):wfT (t::ts) (x::xs)↔(t.kind=8→x.parts.length=t.sub.length∧wfT t.sub x.parts)∧(t.kind=9→∀p∈x.parts,p.parts.length=t.sub.length∧wfT t.sub p.parts)∧wfT ts xs:=by
 cases t
 rw[wfT];rfl
theorem wfT_at:∀(ts:List Slt) (xs:List VT) (i:Nat),ts.length=xs.length→i<ts.length→wfT ts xs→((gs ts i).kind=8→(gvt xs i).parts.length=(gs ts i).sub.length∧wfT (gs ts i).sub (gvt xs i).parts)∧((gs ts i).kind=9→∀p∈(gvt xs i).parts,p.parts.length=(gs ts i).sub.length∧wfT (gs ts i).sub p.parts)
 |[],_,_,_,h,_=>by simp at h
 |_::_,[],_,h,_,_=>by simp at h
 |t::ts,x::xs,0,_,_,hw=>by
  rw[wfT_cons] at hw;exact⟨hw.1,hw.2.1⟩
 |t::ts,x::xs,i+1,h,hi,hw=>by
  rw[wfT_cons] at hw
  exact wfT_at ts xs i (by simpa using h) (by simpa using hi) hw.2.2
theorem eout_len (fs:List Fd):(eout fs).length≤4194304:=by
 unfold eout
 split
 ·rename_i h
  unfold eer at h
  split at h
  ·cases h
  ·split at h
   ·omega
   ·split at h
    ·cases h
    ·omega
 ·simp
theorem jout_len (ps:List (List B)):(jout ps).length≤4194304:=by
 unfold jout
 split
 ·simp
 ·rename_i h
  unfold jbad at h
  omega
def FtW (W:World) (base:Nat) (v:Value) (us:List Value) (fs:List Fd):Prop:=
 W.ownsRow base 118 4 v fs.length (frs fs us)∧us.length=fs.length∧∀i,i<us.length→BysB W (gv us i) (gf fs i).dat∧Fok (gf fs i)∧∃da dl dc,gv us i=.slice da dl dc∧∀a,lv dl da=some a→a.block<W.heap.size∧v.ownBlock≠some a.block
theorem bysB_move {W V:World} {da:Option Addr} {dl dc:Nat} {bs:List B} (h:BysB W (.slice da dl dc) bs) (hz:W.heap.size≤V.heap.size) (hk:∀a,lv dl da=some a→V.heap[a.block]? =W.heap[a.block]?):BysB V (.slice da dl dc) bs:=by
 obtain⟨⟨ao,cap,e,hl,hc,hz2⟩,h2⟩:=h
 refine⟨⟨ao,cap,e,hl,fun j hj=>?_,hz2⟩,h2⟩
 obtain⟨b,off,e2,hb,hcell⟩:=hc j hj
 injection e with e3 e4 e5
 subst e3;refine⟨b,off,e2,Nat.lt_of_lt_of_le hb hz,?_⟩;rw[←hcell]
 have:=hk _ ((lv_pos (by omega)).trans e2)
 show V.cell? ⟨b,off+j,none⟩=W.cell? ⟨b,off+j,none⟩
 simp only[World.cell?,this]
theorem FtW.keep {W V:World} {b:Nat} {v:Value} {us:List Value} {fs:List Fd} (h:FtW W b v us fs) (hb:Below W.heap.size W V):FtW V b v us fs:=by
 refine⟨own_keep_row h.1 hb,h.2.1,fun i hi=>?_⟩
 obtain⟨h1,h2,da,dl,dc,e,h3⟩:=h.2.2 i hi
 exact⟨h1.keep hb,h2,da,dl,dc,e,fun a ea=>⟨Nat.lt_of_lt_of_le (h3 a ea).1 hb.size,(h3 a ea).2⟩⟩
theorem ftw_nil (W:World) (b:Nat):FtW W b nS [] []:=⟨⟨rfl,.inl ⟨rfl,rfl⟩⟩,rfl,fun i hi=>by simp at hi⟩
theorem FtW.snoc {W W':World} {b:Nat} {v v':Value} {us:List Value} {fs:List Fd} {da:Option Addr} {dl dc:Nat} {f:Fd} (h:FtW W b v us fs) (hu:BysB W (.slice da dl dc) f.dat) (hf:Fok f) (hd:∀a,lv dl da=some a→a.block<W.heap.size∧v.ownBlock≠some a.block)
 (ho:W'.ownsRow b 118 4 v' (fs.length+1) (frs fs us++frow f (.slice da dl dc))) (hg:W.grownBy W' v.ownBlock) (hk:Nx W v v'):FtW W' b v' (us++[.slice da dl dc]) (fs++[f]):=by
 have ne:∀a:Addr,a.block<W.heap.size→v.ownBlock≠some a.block→v'.ownBlock≠some a.block:=fun a h1 h2 e=>by
  rcases hk with q|⟨k,q,q2⟩
  ·exact h2 (q.symm.trans e)
  ·rw[q] at e
   injection e with e
   omega
 have mv:∀{da:Option Addr} {dl dc:Nat} {bs:List B},BysB W (.slice da dl dc) bs→(∀a,lv dl da=some a→a.block<W.heap.size∧v.ownBlock≠some a.block)→BysB W' (.slice da dl dc) bs:=fun hB hq=>bysB_move hB hg.size (fun a e=>hg.block a.block (hq a e).1 (fun e2=>(hq a e).2 e2.symm))
 refine⟨by rw[List.length_append,List.length_singleton,frs_snoc fs us f _ h.2.1];exact ho,by rw[List.length_append,List.length_append,h.2.1];rfl,fun i hi=>?_⟩
 rw[List.length_append,List.length_singleton] at hi;have h21:=h.2.1
 rcases Nat.lt_or_ge i us.length with q|q
 ·rw[gv_app_lo q,gf_app_lo (by omega)]
  obtain⟨h1,h2,da',dl',dc',e,h3⟩:=h.2.2 i q
  rw[e] at h1⊢
  exact⟨mv h1 h3,h2,da',dl',dc',rfl,fun a ea=>⟨Nat.lt_of_lt_of_le (h3 a ea).1 hg.size,ne a (h3 a ea).1 (h3 a ea).2⟩⟩
 ·obtain rfl:i=us.length:=by omega
  rw[gv_app_hi,h21,gf_app_hi]
  exact⟨mv hu hd,hf,da,dl,dc,rfl,fun a ea=>⟨Nat.lt_of_lt_of_le (hd a ea).1 hg.size,ne a (hd a ea).1 (hd a ea).2⟩⟩
theorem FtW.fds {W:World} {b:Nat} {v:Value} {us:List Value} {fs:List Fd} (h:FtW W b v us fs) (hl:fs.length≤2932031007317):Fds W v fs:=by
 obtain⟨h1,h2,h3⟩:=h;have h1':=h1
 obtain⟨_,⟨rfl,h0⟩|⟨g,cap,cur,rfl,hb,hg,hn,hm,hs,ht⟩⟩:=h1'
 ·refine⟨none,0,by rw[h0],hl,by omega,fun _=>rfl,fun i hi=>?_⟩
  omega
 ·refine⟨some ⟨g,0,none⟩,cap,rfl,hl,hn,(fun e=>by cases e),fun i hi=>⟨g,0,gv us i,rfl,lt_of_row hg,fun j x hx=>?_,(h3 i (by omega)).1,(h3 i (by omega)).2.1⟩⟩
  have hj:j<4:=by have:=(List.getElem?_eq_some_iff.1 hx).1;exact this
  have:=h1.cells (g:=g) rfl (i*4+j) x (by rw[frs_at fs us i j h2 hi hj];exact hx)
  rw[addr_add,←Nat.add_assoc] at this;exact this
theorem own_told {W:World} {b:Nat} {u:Value} {d:List B} (h:Own W b u d) (hl:d.length≤4194304):∃da dc,u=.slice da d.length dc∧BysB W (.slice da d.length dc) d∧∀a,da=some a→a.block<W.heap.size∧b≤a.block:=by
 have hB:=h.bysB (by omega)
 have h':=h
 obtain⟨_,⟨rfl,h0⟩|⟨g,cap,cur,rfl,hb,hg,_⟩⟩:=h'
 ·refine⟨none,0,by rw[h0],by rw[h0];exact hB,fun a e=>by cases e⟩
 ·refine⟨some ⟨g,0,none⟩,cap,rfl,hB,fun a e=>?_⟩
  cases e
  exact⟨lt_of_row hg,hb⟩
def WrR (w:World) (L:Nat) (f:Fd) (e:Ending) (w':World):Prop:=∃da dl dc,e=.returned (.agg #[.int .i64 f.no,.int .i64 f.ty,.int .u64 (f.num:Int),.slice da dl dc])∧BysB w' (.slice da dl dc) f.dat∧Fok f∧(∀a,lv dl da=some a→a.block<w'.heap.size∧(a.block<L∨w.heap.size≤a.block))∧Below w.heap.size w w'
theorem a_inner2 (no:Int) (hno: -9223372036854775808≤no∧no≤9223372036854775807) (x:VR) (g0 g1:Nat) (so:Option Addr) (sn sc:Nat) (w:World) (L:Nat) (bs:List B) (hbs:bs.length≤4194304) (h0:Bx w g0 #[.int .i64 no]) (h1:Bx w g1 #[.slice so sn sc])
 (hC:∀V,Below w.heap.size w V→Calls Tryz.prog 35 #[.slice so sn sc,.agg (vrv x)] V fun e w'=>∃u,e=.returned u∧Own w' V.heap.size u bs∧Below V.heap.size V w'):
 Calls Tryz.prog 124 #[.agg (vrv x),ptr g0,ptr g1] w (WrR w L ⟨no,2,0,bs⟩):=by
 obtain⟨xn,xda,xdl,xdc,xpa,xpl,xpc⟩:=x
 unfold vrv vrw at *
 have r0:=hp2_0 w (.cells #[.int .u64 (xn:Int),.slice xda xdl xdc,.slice xpa xpl xpc] 27) (.cells #[.int .i64 0,.int .i64 0,.int .u64 0,nS] 118);have r1:=hp2_1 w (.cells #[.int .u64 (xn:Int),.slice xda xdl xdc,.slice xpa xpl xpc] 27) (.cells #[.int .i64 0,.int .i64 0,.int .u64 0,nS] 118)
 have hb:Below w.heap.size w ((w.alloc (.cells #[.int .u64 (xn:Int),.slice xda xdl xdc,.slice xpa xpl xpc] 27)).alloc (.cells #[.int .i64 0,.int .i64 0,.int .u64 0,nS] 118)):=((Below.refl _ _).alloc (Nat.le_refl _) _).alloc (by simp) _
 have hb0:=h0.keep hb;have hb1:=h1.keep hb;unfold ptr
 go_enter Tryz.func124,Tryz.ntmps124
 iterate 9 go_step
 have hz:w.heap.size+1<((w.alloc (.cells #[.int .u64 (xn:Int),.slice xda xdl xdc,.slice xpa xpl xpc] 27)).alloc (.cells #[.int .i64 0,.int .i64 0,.int .u64 0,nS] 118)).heap.size:=by simp
 generalize (w.alloc (.cells #[.int .u64 (xn:Int),.slice xda xdl xdc,.slice xpa xpl xpc] 27)).alloc (.cells #[.int .i64 0,.int .i64 0,.int .u64 0,nS] 118)=w0 at *
 go_wp2_with (fail)
 have hbd:Below w0.heap.size w0 w0.drew:=below_drN (Below.refl _ _) 1
 have hS0:(fun W_:World=>Bx W_ w.heap.size #[.int .u64 (xn:Int),.slice xda xdl xdc,.slice xpa xpl xpc]∧Bx W_ g0 #[.int .i64 no]∧Bx W_ g1 #[.slice so sn sc]) w0.drew:=⟨⟨_,keep hbd r0⟩,hb0.keep hbd,hb1.keep hbd⟩
 refine wp_region_noPanic ?_
 refine wp_region_held (S:=fun W_:World=>Bx W_ w.heap.size #[.int .u64 (xn:Int),.slice xda xdl xdc,.slice xpa xpl xpc]∧Bx W_ g0 #[.int .i64 no]∧Bx W_ g1 #[.slice so sn sc]) (by kernel_rfl) ?_
 change wpAnyH _ _ _ _ _ _ _ _ (World.drew _)
 replace r1:=keep hbd r1;replace hz:=Nat.lt_of_lt_of_le hz hbd.size;replace hb:=Below.after hb hbd;have cC:=hC _ hb;clear hb0 hb1 hbd r0 hC
 generalize w0.drew=w1 at *
 refine wTy 0 (.int .i64 no) rfl ?y1a_inner2 hS0 ?r1a_inner2
 case y1a_inner2=>
  intro w_ hS_;obtain⟨_,h_⟩:=hS_.2.1;have c_:=cell_of_row _ _ 0 _ _ _ h_;go_simp
  try with_reducible rfl
 simp only[Act.put,ZPa,ZPc,ZPd,ZPe,ZPf];refine wTy 1 (.slice so sn sc) rfl ?y2a_inner2 hS0 ?r2a_inner2
 case y2a_inner2=>
  intro w_ hS_;obtain⟨_,h_⟩:=hS_.2.2;have c_:=cell_of_row _ _ 0 _ _ _ h_;go_simp
  try with_reducible rfl
 simp only[Act.put,ZPa,ZPb,ZPc,ZPd,ZPe,ZPf]
 refine wTk (i:=2) (v:=.agg #[.int .u64 (xn:Int),.slice xda xdl xdc,.slice xpa xpl xpc]) rfl (yieldsIf_load_mid (by rfl) 27 _ rfl w.heap.size 0 rfl [.int .u64 (xn:Int),.slice xda xdl xdc,.slice xpa xpl xpc] _ (fun _ h=>range_row h.1) Tryz.underlying27 rfl infoV) hS0 ?_
 simp only[Act.put,ZPa,ZPb,ZPc,ZPd,ZPe,ZPf]
 refine wpAnyH_one (k:=3) (fuel:=2) (by kernel_rfl) rfl (by kernel_rfl) (fun K_ hK=>?_)
 refine wp_call_ex (R:=fun u w'=>Own w' w1.heap.size u bs∧Below w1.heap.size w1 w') (by kernel_rfl) (cC.mono fun e w' h=>h) (fun u w2 hX_=>?_)
 obtain⟨hU,hb2⟩:=hX_;obtain⟨ua,uc,rfl,hB,hA⟩:=own_told hU hbs;have hS2:_∧_∧_:=⟨hS0.1.keep hb2,hS0.2.1.keep hb2,hS0.2.2.keep hb2⟩;replace r1:=keep hb2 r1;have hsz:=hb.size;have hsz2:=hb2.size;replace hb:=Below.after hb hb2;refine hK _ _ hS2 ?_;simp only[Act.put,ZPa,ZPb,ZPc,ZPd,ZPe,ZPf];clear hK cC hS0 hU hb2
 refine wpAnyH_one (k:=4) (fuel:=1) (by kernel_rfl) rfl (by kernel_rfl) (fun K_ hK=>?_)
 refine wp_pure_op (.agg #[.int .i64 no,.int .i64 2,.int .u64 0,.slice ua bs.length uc]) (by kernel_rfl) ?_
 refine hK _ _ hS2 ?_;simp only[Act.put,ZPa,ZPb,ZPc,ZPd,ZPe,ZPf];clear hK
 have hone:(#[.int .i64 no,.int .i64 2,.int .u64 0,.slice ua bs.length uc]:Array Value).all (·.oneCell')=true:=by simp[Value.oneCell']
 refine wpAnyH_one (k:=5) (fuel:=0) (by kernel_rfl) rfl (by kernel_rfl) (fun K_ hK=>?_)
 refine wp_store_row 118 _ _ rfl (w.heap.size+1) #[.int .i64 no,.int .i64 2,.int .u64 0,.slice ua bs.length uc] rfl rfl 118 _ r1 infoFi rfl hone ?_;have rF:=setRow_heap w2 (w.heap.size+1) _ #[.int .i64 no,.int .i64 2,.int .u64 0,.slice ua bs.length uc] _ _ r1
 have hS3:Bx (w2.setRow (w.heap.size+1) #[.int .i64 no,.int .i64 2,.int .u64 0,.slice ua bs.length uc]) w.heap.size #[.int .u64 (xn:Int),.slice xda xdl xdc,.slice xpa xpl xpc]∧Bx (w2.setRow (w.heap.size+1) #[.int .i64 no,.int .i64 2,.int .u64 0,.slice ua bs.length uc]) g0 #[.int .i64 no]∧Bx (w2.setRow (w.heap.size+1) #[.int .i64 no,.int .i64 2,.int .u64 0,.slice ua bs.length uc]) g1 #[.slice so sn sc]:=⟨hS2.1.row (by omega),hS2.2.1.row (by have:=h0.lt;omega),hS2.2.2.row (by have:=h1.lt;omega)⟩
 have hB3:=bysB_move (V:=w2.setRow (w.heap.size+1) #[.int .i64 no,.int .i64 2,.int .u64 0,.slice ua bs.length uc]) hB (by simp) (fun a e=>setRow_other _ _ _ _ (by have:=hA a (lv_some e);omega))
 have hA3:∀a,ua=some a→a.block<(w2.setRow (w.heap.size+1) #[.int .i64 no,.int .i64 2,.int .u64 0,.slice ua bs.length uc]).heap.size∧w.heap.size≤a.block:=fun a e=>⟨by have:=(hA a e).1;simpa using this,by have:=hA a e;omega⟩
 have hb3:=below_setRow (g:=w.heap.size+1) hb (by omega) #[.int .i64 no,.int .i64 2,.int .u64 0,.slice ua bs.length uc]
 refine hK _ _ hS3 ?_;simp only[Act.put];clear hK
 generalize w2.setRow (w.heap.size+1) #[.int .i64 no,.int .i64 2,.int .u64 0,.slice ua bs.length uc]=w3 at *
 refine wpAnyH_done (by kernel_rfl) ?_ _
 refine NoPanic.normal ?_
 go_wp2_with (fail)
 exact bodyPost_ret (v:=.agg #[.int .i64 no,.int .i64 2,.int .u64 0,.slice ua bs.length uc]) (results_cell_row Tryz.results124 _ _ (w.heap.size+1) _ #[.int .i64 no,.int .i64 2,.int .u64 0,.slice ua bs.length uc] _ _ rfl rF Tryz.underlying118 rfl infoFi) rfl ⟨ua,bs.length,uc,rfl,hB3,⟨by show 0<18446744073709551616;decide,by show bs.length≤_;omega,hno.1,hno.2⟩,fun a e=>⟨(hA3 a (lv_some e)).1,.inr (hA3 a (lv_some e)).2⟩,hb3⟩
theorem a_listed2 (no:Int) (hno: -9223372036854775808≤no∧no≤9223372036854775807) (x:VR) (g0 g1:Nat) (so:Option Addr) (sn sc:Nat) (w:World) (L:Nat) (bs:List B) (hbs:bs.length≤4194304) (h0:Bx w g0 #[.int .i64 no]) (h1:Bx w g1 #[.slice so sn sc])
 (hC:∀V,Below w.heap.size w V→Calls Tryz.prog 130 #[.slice so sn sc,.slice x.pa x.pl x.pc] V fun e w'=>∃u,e=.returned u∧Own w' V.heap.size u bs∧Below V.heap.size V w'):
 Calls Tryz.prog 129 #[.agg (vrv x),ptr g0,ptr g1] w (WrR w L ⟨no,2,0,bs⟩):=by
 obtain⟨xn,xda,xdl,xdc,xpa,xpl,xpc⟩:=x
 unfold vrv vrw at *
 have r0:=hp2_0 w (.cells #[.int .u64 (xn:Int),.slice xda xdl xdc,.slice xpa xpl xpc] 27) (.cells #[.int .i64 0,.int .i64 0,.int .u64 0,nS] 118);have r1:=hp2_1 w (.cells #[.int .u64 (xn:Int),.slice xda xdl xdc,.slice xpa xpl xpc] 27) (.cells #[.int .i64 0,.int .i64 0,.int .u64 0,nS] 118)
 have hb:Below w.heap.size w ((w.alloc (.cells #[.int .u64 (xn:Int),.slice xda xdl xdc,.slice xpa xpl xpc] 27)).alloc (.cells #[.int .i64 0,.int .i64 0,.int .u64 0,nS] 118)):=((Below.refl _ _).alloc (Nat.le_refl _) _).alloc (by simp) _
 have hb0:=h0.keep hb;have hb1:=h1.keep hb;unfold ptr
 go_enter Tryz.func129,Tryz.ntmps129
 iterate 9 go_step
 have hz:w.heap.size+1<((w.alloc (.cells #[.int .u64 (xn:Int),.slice xda xdl xdc,.slice xpa xpl xpc] 27)).alloc (.cells #[.int .i64 0,.int .i64 0,.int .u64 0,nS] 118)).heap.size:=by simp
 generalize (w.alloc (.cells #[.int .u64 (xn:Int),.slice xda xdl xdc,.slice xpa xpl xpc] 27)).alloc (.cells #[.int .i64 0,.int .i64 0,.int .u64 0,nS] 118)=w0 at *
 go_wp2_with (fail)
 have hbd:Below w0.heap.size w0 w0.drew:=below_drN (Below.refl _ _) 1
 have hS0:(fun W_:World=>Bx W_ w.heap.size #[.int .u64 (xn:Int),.slice xda xdl xdc,.slice xpa xpl xpc]∧Bx W_ g0 #[.int .i64 no]∧Bx W_ g1 #[.slice so sn sc]) w0.drew:=⟨⟨_,keep hbd r0⟩,hb0.keep hbd,hb1.keep hbd⟩
 refine wp_region_noPanic ?_
 refine wp_region_held (S:=fun W_:World=>Bx W_ w.heap.size #[.int .u64 (xn:Int),.slice xda xdl xdc,.slice xpa xpl xpc]∧Bx W_ g0 #[.int .i64 no]∧Bx W_ g1 #[.slice so sn sc]) (by kernel_rfl) ?_
 change wpAnyH _ _ _ _ _ _ _ _ (World.drew _)
 replace r1:=keep hbd r1;replace hz:=Nat.lt_of_lt_of_le hz hbd.size;replace hb:=Below.after hb hbd;have cC:=hC _ hb;clear hb0 hb1 hbd r0 hC
 generalize w0.drew=w1 at *
 refine wTy 0 (.int .i64 no) rfl ?y1a_listed2 hS0 ?r1a_listed2
 case y1a_listed2=>
  intro w_ hS_;obtain⟨_,h_⟩:=hS_.2.1;have c_:=cell_of_row _ _ 0 _ _ _ h_;go_simp
  try with_reducible rfl
 simp only[Act.put,ZPa,ZPc,ZPd,ZPe,ZPf];refine wTy 1 (.slice so sn sc) rfl ?y2a_listed2 hS0 ?r2a_listed2
 case y2a_listed2=>
  intro w_ hS_;obtain⟨_,h_⟩:=hS_.2.2;have c_:=cell_of_row _ _ 0 _ _ _ h_;go_simp
  try with_reducible rfl
 simp only[Act.put,ZPa,ZPb,ZPc,ZPd,ZPe,ZPf];refine wTy 2 ?vfa rfl ?y3a_listed2 hS0 ?r3a_listed2
 case y3a_listed2=>
  intro w_ hS_
  skip
  go_simp
  try with_reducible rfl
 simp only[Act.put,ZPa,ZPb,ZPc,ZPd,ZPe,ZPf];refine wTy 3 (.slice xpa xpl xpc) rfl ?y4a_listed2 hS0 ?r4a_listed2
 case y4a_listed2=>
  intro w_ hS_;obtain⟨_,h_⟩:=hS_.1;have c_:=cell_of_row _ _ 2 _ _ _ h_;go_simp
  try with_reducible rfl
 simp only[Act.put,ZPa,ZPb,ZPc,ZPd,ZPe,ZPf]
 refine wpAnyH_one (k:=4) (fuel:=2) (by kernel_rfl) rfl (by kernel_rfl) (fun K_ hK=>?_)
 refine wp_call_ex (R:=fun u w'=>Own w' w1.heap.size u bs∧Below w1.heap.size w1 w') (by kernel_rfl) (cC.mono fun e w' h=>h) (fun u w2 hX_=>?_)
 obtain⟨hU,hb2⟩:=hX_;obtain⟨ua,uc,rfl,hB,hA⟩:=own_told hU hbs;have hS2:_∧_∧_:=⟨hS0.1.keep hb2,hS0.2.1.keep hb2,hS0.2.2.keep hb2⟩;replace r1:=keep hb2 r1;have hsz:=hb.size;have hsz2:=hb2.size;replace hb:=Below.after hb hb2;refine hK _ _ hS2 ?_;simp only[Act.put,ZPa,ZPb,ZPc,ZPd,ZPe,ZPf];clear hK cC hS0 hU hb2
 refine wpAnyH_one (k:=5) (fuel:=1) (by kernel_rfl) rfl (by kernel_rfl) (fun K_ hK=>?_)
 refine wp_pure_op (.agg #[.int .i64 no,.int .i64 2,.int .u64 0,.slice ua bs.length uc]) (by kernel_rfl) ?_
 refine hK _ _ hS2 ?_;simp only[Act.put,ZPa,ZPb,ZPc,ZPd,ZPe,ZPf];clear hK
 have hone:(#[.int .i64 no,.int .i64 2,.int .u64 0,.slice ua bs.length uc]:Array Value).all (·.oneCell')=true:=by simp[Value.oneCell']
 refine wpAnyH_one (k:=6) (fuel:=0) (by kernel_rfl) rfl (by kernel_rfl) (fun K_ hK=>?_)
 refine wp_store_row 118 _ _ rfl (w.heap.size+1) #[.int .i64 no,.int .i64 2,.int .u64 0,.slice ua bs.length uc] rfl rfl 118 _ r1 infoFi rfl hone ?_;have rF:=setRow_heap w2 (w.heap.size+1) _ #[.int .i64 no,.int .i64 2,.int .u64 0,.slice ua bs.length uc] _ _ r1
 have hS3:Bx (w2.setRow (w.heap.size+1) #[.int .i64 no,.int .i64 2,.int .u64 0,.slice ua bs.length uc]) w.heap.size #[.int .u64 (xn:Int),.slice xda xdl xdc,.slice xpa xpl xpc]∧Bx (w2.setRow (w.heap.size+1) #[.int .i64 no,.int .i64 2,.int .u64 0,.slice ua bs.length uc]) g0 #[.int .i64 no]∧Bx (w2.setRow (w.heap.size+1) #[.int .i64 no,.int .i64 2,.int .u64 0,.slice ua bs.length uc]) g1 #[.slice so sn sc]:=⟨hS2.1.row (by omega),hS2.2.1.row (by have:=h0.lt;omega),hS2.2.2.row (by have:=h1.lt;omega)⟩
 have hB3:=bysB_move (V:=w2.setRow (w.heap.size+1) #[.int .i64 no,.int .i64 2,.int .u64 0,.slice ua bs.length uc]) hB (by simp) (fun a e=>setRow_other _ _ _ _ (by have:=hA a (lv_some e);omega))
 have hA3:∀a,ua=some a→a.block<(w2.setRow (w.heap.size+1) #[.int .i64 no,.int .i64 2,.int .u64 0,.slice ua bs.length uc]).heap.size∧w.heap.size≤a.block:=fun a e=>⟨by have:=(hA a e).1;simpa using this,by have:=hA a e;omega⟩
 have hb3:=below_setRow (g:=w.heap.size+1) hb (by omega) #[.int .i64 no,.int .i64 2,.int .u64 0,.slice ua bs.length uc]
 refine hK _ _ hS3 ?_;simp only[Act.put];clear hK
 generalize w2.setRow (w.heap.size+1) #[.int .i64 no,.int .i64 2,.int .u64 0,.slice ua bs.length uc]=w3 at *
 refine wpAnyH_done (by kernel_rfl) ?_ _
 refine NoPanic.normal ?_
 go_wp2_with (fail)
 exact bodyPost_ret (v:=.agg #[.int .i64 no,.int .i64 2,.int .u64 0,.slice ua bs.length uc]) (results_cell_row Tryz.results129 _ _ (w.heap.size+1) _ #[.int .i64 no,.int .i64 2,.int .u64 0,.slice ua bs.length uc] _ _ rfl rF Tryz.underlying118 rfl infoFi) rfl ⟨ua,bs.length,uc,rfl,hB3,⟨by show 0<18446744073709551616;decide,by show bs.length≤_;omega,hno.1,hno.2⟩,fun a e=>⟨(hA3 a (lv_some e)).1,.inr (hA3 a (lv_some e)).2⟩,hb3⟩
theorem a_join8 (L:Nat) (enc:VT→List B) (henc:∀Z,(enc Z).length≤4194304) (so:Option Addr) (sn sc:Nat) (pv:Value) (xs:List VR) (ps:List VT) (w:World) (hP:PtM w (fun b=>b<L) pv xs ps)
 (hC:∀V z Z,Below w.heap.size w V→VtM V (fun b=>b<L) z Z→Z∈ps→Calls Tryz.prog 35 #[.slice so sn sc,.agg (vrv z)] V fun e w'=>∃u,e=.returned u∧Own w' V.heap.size u (enc Z)∧Below V.heap.size V w'):
 Calls Tryz.prog 130 #[.slice so sn sc,pv] w fun e w'=>∃u,e=.returned u∧Own w' w.heap.size u (jout (ps.map enc))∧Below w.heap.size w w':=by
 obtain⟨pa,pc,rfl,hxl,hcap,hpm,hrow,hvt⟩:=hP;have HR:=hide hrow;have HV:=hide hvt;have HC:=hide hC;have HE:=hide henc;clear hrow hvt hC henc hxl
 go_enter Tryz.func130,Tryz.ntmps130
 go_wp2_with (fail)
 go_loopw [12,7,5] (fun i _ out wr=>∃(k:Nat) (us:List Value),k≤ps.length∧i=.int .i64 k∧Its wr w.heap.size out us ((ps.take k).map enc)∧Below w.heap.size w wr) (fun i _ _ _=>ps.length-(intOf i).toNat)
 case atStart=>exact⟨0,[],by omega,rfl,its_nil _ _,Below.refl _ _⟩
 case round=>
  obtain⟨k,us,hk,rfl,hI,hb⟩:=hrel;obtain⟨mo,mc,rfl⟩:=own_slice hI.1
  have hul:us.length=k:=by rw[hI.2.1,List.length_map,List.length_take];omega
  replace hul:=hide hul
  by_cases hlt:k<ps.length
  ·have hd2:decide ((k:Int)<(ps.length:Int))=true:=by simp;omega
   obtain⟨b,off,hxe,hbl,hra⟩:=HR.out k hlt
   subst hxe;have hvz:=(HV.out k hlt).blw hb;have hpw:=rangeS_keep2 hra hb hbl
   have hmem:gvt ps k∈ps:=by rw[gvt,List.getD_eq_getElem?_getD,List.getElem?_eq_getElem hlt];exact List.getElem_mem hlt
   have hmap:(ps.take (k+1)).map enc=(ps.take k).map enc++[enc (gvt ps k)]:=by
    rw[List.take_add_one,List.map_append,List.getElem?_eq_getElem hlt]
    simp[gvt,List.getD_eq_getElem?_getD,List.getElem?_eq_getElem hlt]
   have cC:=fun V (hV:Below w.heap.size w V) hz=>HC.out V (gx xs k) (gvt ps k) hV hz hmem
   have hEl:=HE.out (gvt ps k);replace hmap:=hide hmap;clear hmem hra HR HV HC HE
   generalize hEE:enc (gvt ps k)=E at *
   clear hEE
   generalize gvt ps k=Zk at *
   generalize gx xs k=z at *
   obtain⟨zn,zda,zdl,zdc,zpa,zpl,zpc⟩:=z
   unfold vrv vrw at *
   have hba:Below wr.heap.size wr (wr.alloc (.cells #[.int .u64 0,nS,nS] 27)):=(Below.refl _ _).alloc (Nat.le_refl _) _;have rS:=hp1_0 wr (.cells #[.int .u64 0,nS,nS] 27);have hbb:=below_setRow (g:=wr.heap.size) hba (Nat.le_refl _) #[.int .u64 (zn:Int),.slice zda zdl zdc,.slice zpa zpl zpc];have rS2:=setRow_heap _ wr.heap.size _ #[.int .u64 (zn:Int),.slice zda zdl zdc,.slice zpa zpl zpc] _ _ rS;have hvz2:=hvz.blw hbb;have hI2:=hI.keep hbb
   have hne:(Value.slice mo us.length mc).ownBlock≠some wr.heap.size:=fun e=>by have:=hI.high.1 _ e;omega
   have hbw:=Below.after hb hbb;have hszr:=hb.size
   have hone:(#[.int .u64 (zn:Int),.slice zda zdl zdc,.slice zpa zpl zpc]:Array Value).all (·.oneCell')=true:=by simp[Value.oneCell']
   have A1:=hide hvz2;have A2:=hide hbw;have A3:=hide rS2;have A4:=hide cC;have A5:=hide hI2;clear hvz hvz2 hbw rS2 cC hba hbb hb hI hI2
   go_wp2_with (first|(refine wpList_load_mid rfl 27 _ rfl b (off+k*3) rfl _ _ hpw Tryz.underlying27 rfl infoV ?_)|(refine wpList_store_row rfl 27 _ _ rfl wr.heap.size #[.int .u64 (zn:Int),.slice zda zdl zdc,.slice zpa zpl zpc] rfl rfl 27 _ rS infoV rfl hone ?_;refine wpList_stay ?_)|fail)
   unfold WpStay
   generalize (wr.alloc (.cells #[.int .u64 0,nS,nS] 27)).setRow wr.heap.size #[.int .u64 (zn:Int),.slice zda zdl zdc,.slice zpa zpl zpc]=w2 at *
   have rS2:=A3.out;have hszw:=A2.out.size;clear rS hpw
   go_wp2_with (first|(refine wpList_load_want rfl 27 _ rfl wr.heap.size rfl 27 #[.int .u64 (zn:Int),.slice zda zdl zdc,.slice zpa zpl zpc] (0,0) _ rS2 Tryz.underlying27 rfl infoV ?_)|fail)
   refine(A4.out _ A2.out A1.out).mono ?_;rintro e_ w4 ⟨u,rfl,hU,hb4⟩;obtain⟨ua,uc,rfl⟩:=slen_own hU;have hH:=A5.out.high;have hba:Below w4.heap.size w4 (w4.alloc (.cells #[.slice ua E.length uc] 24)):=(Below.refl _ _).alloc (Nat.le_refl _) _;have r5:=hp1_0 w4 (.cells #[.slice ua E.length uc] 24);have hI5:=(A5.out.keep hb4).keep hba;have hU5:=hU.keep hba;have hb5:=Below.after (Below.after A2.out hb4) hba
   have hlen5:((ps.take k).map enc).length≤5864062014634:=by rw[List.length_map,List.length_take];omega
   have hsz5:=hb5.size
   have hnews:∀(j:Nat) (x:Value),[Value.slice ua E.length uc][j]? =some x→(w4.alloc (.cells #[.slice ua E.length uc] 24)).cell? ((⟨w4.heap.size,0,none⟩:Addr).add j)=some x:=fun j u hu=>by rw[add_off,cell_of_row _ _ _ _ _ _ r5];simpa using hu
   replace hI5:=hide hI5;replace hU5:=hide hU5;replace hb5:=hide hb5;replace hnews:=hide hnews;clear A1 A2 A3 A4 A5 hba r5 hU hb4 rS2
   go_wp2_with (at_builtin;refine wpList_append_I rfl (.tmp 16) (.tmp 20) rfl w.heap.size _ us _ rfl w2.heap.size hI5.out hH.1 hH.2 hszw _ E hU5.out w4.heap.size rfl hnews.out hlen5 hsz5 ?_)
   intro v' w6 hI6 hg6
   have hB6:Below w.heap.size w w6:=hb5.out.grown hg6 hsz5 (fun q hq=>(own_high_row hI5.out.1 q hq).1)
   obtain⟨vo,vc,rfl⟩:=own_slice hI6.1;have B1:=hide hI6;have B2:=hide hB6;clear hI6 hg6 hB6 hI5 hU5 hb5 hnews hH
   go_wp2_with (fail)
   refine⟨⟨k+1,us++[.slice ua E.length uc],by omega,by go_num,?_,B2.out⟩,?_⟩
   ·rw[hmap.out,List.map_take]
    exact B1.out
   ·simp[intOf];omega
  ·have hd2:decide ((k:Int)<(ps.length:Int))=false:=by simp;omega
   obtain rfl:k=ps.length:=by omega
   rw[List.take_length] at hI
   have cJ:=a_join (ps.map enc) wr _ (hI.pcb (by rw[List.length_map];exact hpm) (fun i hi=>by
    rw[List.length_map] at hi
    have:gp (ps.map enc) i=enc (gvt ps i):=by
     rw[gp,List.getD_eq_getElem?_getD,List.getElem?_map,List.getElem?_eq_getElem hi,gvt,List.getD_eq_getElem?_getD,List.getElem?_eq_getElem hi];rfl
    rw[this];have:=HE.out (gvt ps i)
    omega))
   clear hI HR HV HC HE hul
   generalize hJ:jout (ps.map enc)=J at *
   replace hJ:=hide hJ
   generalize jer (ps.map enc)=JE at *
   go_wp2_with (fail)
   refine cJ.mono ?_;rintro e_ w4 ⟨u,rfl,hU,hb4⟩;have hsz:=hb.size;have hU2:=own_down hU hsz;replace hb:=Below.after hb hb4;obtain⟨ua,uc,rfl⟩:=slen_own hU2;clear hU cJ
   go_wp2_with (fail)
   go_ret
   exact⟨_,rfl,by rw[hJ.out];exact hU2,hb⟩
end Go.Proofs.YtmmlkfkpblokiaaGreatDoor
