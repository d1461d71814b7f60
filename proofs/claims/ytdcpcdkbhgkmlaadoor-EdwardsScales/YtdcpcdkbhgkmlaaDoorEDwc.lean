import Derived.Test.YtdcpcdkbhgkmlaaDoorEDwa
import Derived.Test.YtdcpcdkbhgkmlaaDoorProg
import Derived.WalkKit
import Derived.WalkSpells
import Derived.WalkLawsBesides
import Derived.Lib.QuietBelow
import Derived.BigQuiet
import Derived.Test.YtdcpcdkbhgkmlaaDoorEKa
import Derived.Test.YtdcpcdkbhgkmlaaDoorEDwf
import Derived.Test.YtdcpcdkbhgkmlaaDoorEGs
import Derived.Test.YtdcpcdkbhgkmlaaDoorEGb
import Derived.Test.YtdcpcdkbhgkmlaaDoorEMa
import Derived.Test.YtdcpcdkbhgkmlaaDoorERa
import Derived.Test.YtdcpcdkbhgkmlaaDoorERc
namespace Go.Proofs.YtdcpcdkbhgkmlaaDoor
set_option maxRecDepth 100000
def bp:E1:=⟨48124660576694895147914813076284018110470804336376098912894897995932653867602,46316835694926478169428394003475163141307993866256225615783033603165251855960,by decide,by decide,by unfold Zp;decide+kernel⟩
theorem bp_tx:tx bp=15112221349535400772501151409588531511454012693041857206046113283949847762202:=by decide+kernel
def t2:E1:=⟨0,57896044618658097711785492504343953926634992332820282019728792003956564819948,by decide,by decide,by unfold Zp;decide+kernel⟩
end Go.Proofs.YtdcpcdkbhgkmlaaDoor
namespace Go.Proofs.YtdcpcdkbhgkmlaaDoor
set_option maxRecDepth 100000
open Go.RowKit Go.Sort
attribute [local go_sem] setCell_drewN alloc_drewN
def Edw (w:World):Prop:=Both w∧(∃t fr,w.heap[0]? =some (.cells (kb (tx bp)) t fr))∧(∃t fr,w.heap[1]? =some (.cells (kb bp.y) t fr))
theorem Edw.sz {w:World} (h:Edw w):4<w.heap.size:=h.1.sz
theorem Edw.belowN {w w':World} {m:Nat} (h:Edw w) (hm:4<m) (hb:Below m w w'):Edw w':=by
 obtain⟨h1,⟨t,fr,h2⟩,⟨t',fr',h3⟩⟩:=h
 exact⟨h1.belowN hm hb,⟨t,fr,(hb.block _ (by omega)).trans h2⟩,⟨t',fr',(hb.block _ (by omega)).trans h3⟩⟩
theorem Edw.below {w w':World} (h:Edw w) (hb:Below w.heap.size w w'):Edw w':=h.belowN h.sz hb
theorem Edw.alloc {w:World} (h:Edw w) (o:Obj):Edw (w.alloc o):=h.below ((Below.refl _ _).alloc (Nat.le_refl _) _)
theorem Edw.setRow {w:World} {g:Nat} (h:Edw w) (hg:4<g) (cs:Array Value):Edw (w.setRow g cs):=h.belowN (Nat.lt_succ_self _) (below_setRow (Below.refl _ _) hg cs)
def GivesE (f:FuncId) (args:Array Value) (v:Value):Prop:=∀W,Edw W→Calls Tryd.prog f args W fun e w'=>e=.returned v∧Below W.heap.size W w'
theorem GivesE.at {f:FuncId} {args:Array Value} {v:Value} (h:GivesE f args v) {W:World} (hW:Edw W):Calls Tryd.prog f args W fun e w'=>e=.returned v∧Below W.heap.size W w':=h W hW
theorem GivesE.re {f:FuncId} {args:Array Value} {v:Value} (h:GivesE f args v) {w:World} {d:Nat} {os:Array Obj} (hw:Edw w):Calls Tryd.prog f args (grow (redrawn w d) os) fun e w''=>e=.returned v∧∃p:Regrown,w''=grow (redrawn w p.d) p.os:=Calls.regrown_of (h _ (hw.below (below_regrown w d os)))
theorem txbp_key:KeyOf (kb (tx bp)) (tx bp):=kb_key _ (tx_bd bp).1 (by have:=(tx_bd bp).2;rw[prm_is] at this;omega)
set_option maxRecDepth 100000 in
set_option maxHeartbeats 8000000 in
theorem a_Base:∃t,PtO t bp∧GivesE 13 #[] (.agg t):=by
 obtain⟨xr,hx0,cX⟩:=a_from txbp_key
 have hx:NumOf xr (tx bp):=hx0.congr (by decide+kernel)
 obtain⟨yr,hy0,cY⟩:=a_from (y_key bp)
 have hy:NumOf yr bp.y:=hy0.congr (by decide+kernel)
 clear hx0 hy0
 obtain⟨s,hs,cS⟩:=a_flat (P:=bp) hx hy (by rw[Int.sub_self];exact zp_zero) (by rw[Int.sub_self];exact zp_zero)
 obtain⟨t,ht,cP⟩:=a_point hs
 refine⟨t,ht,fun w hF=>?_⟩
 go_enter Tryd.func13,Tryd.ntmps13
 go_wp2
 have rp0:(w.alloc (.cells q20 30)).heap[w.heap.size]? =some (.cells q20 30 (0,0)):=hp1_0 w _;have hw:Below w.heap.size w (w.alloc (.cells q20 30)):=((Below.refl _ _).alloc (Nat.le_refl _) _);have hz0:=hF.sz;have f4:Edw (w.alloc (.cells q20 30)):=(hF.alloc _)
 generalize (w.alloc (.cells q20 30))=w0 at *
 obtain⟨⟨tA,fA,gA⟩,⟨tB,fB,gB⟩⟩:=f4.2;have Hrp0:=keepr rp0;have HgA:=keepr gA;have HgB:=keepr gB
 refine wp_region_tail (C:=fun w'=>∃p:Regrown,w'=grow (redrawn w0 p.d) p.os) 6 _ rfl rfl rfl (by kernel_rfl) (by kernel_rfl) (by kernel_rfl) (by kernel_rfl) ⟨⟨w0.drawn+1,#[]⟩,by rw[grow_empty];rfl⟩ ?_
 dsimp only[List.set,idle];refine wpQuiet_load_row rfl 23 _ rfl (0) rfl tA (kb (tx bp)) fA _ HgA.out Tryd.underlying23 rfl txbp_key.info ?_;simp only[Act.put,ZPd,ZPe,ZPf];go_big_quiet_step (exact cX.re);refine wpQuiet_load_row rfl 23 _ rfl (1) rfl tB (kb bp.y) fB _ HgB.out Tryd.underlying23 rfl (y_key bp).info ?_;simp only[Act.put,ZPd,ZPe,ZPf];go_big_quiet_step (exact cY.re);go_big_quiet_step (exact cS.re);go_big_quiet_step (exact cP.re f4.1.1);refine wpQuiet_idle rfl rfl rfl ?_;rintro _ ⟨p,rfl⟩;have hb:=below_regrown w0 p.d p.os
 generalize grow (redrawn w0 p.d) p.os=w5 at *
 replace rp0:=keep hb rp0;replace gA:=keep hb gA;replace gB:=keep hb gB;replace hw:=Below.after hw hb;replace f4:=f4.below hb;clear hb;clear Hrp0 HgA HgB
 go_wp2_with (first|(refine wpList_store_row rfl 30 _ _ rfl (w.heap.size) t rfl rfl 30 _ rp0 ht.info ((show _=20 from rfl).trans ht.size.symm) ht.one ?_)|fail)
 exact bodyPost_ret (v:=.agg t) (results_cell_row Tryd.results13 _ _ (w.heap.size) _ t _ _ rfl (setRow_heap _ _ _ _ _ _ rp0) Tryd.underlying30 rfl ht.info) rfl ⟨rfl,below_setRow hw (by omega) _⟩
end Go.Proofs.YtdcpcdkbhgkmlaaDoor
namespace Go.Proofs.YtdcpcdkbhgkmlaaDoor
set_option maxRecDepth 100000
open Go.ChangeShapes Go.WideShapes Go.ChangeAt Go.WideMaps Go.WideElems Go.RowKit
theorem gBx : Tryd.prog.globalNamed "pawl/edwards.baseX" = some 0 := by kernel_rfl
theorem tBx:(Tryd.prog.globals[0]?).map (·.type)=some 23:=by kernel_rfl
theorem gBy : Tryd.prog.globalNamed "pawl/edwards.baseY" = some 1 := by kernel_rfl
theorem tBy:(Tryd.prog.globals[1]?).map (·.type)=some 23:=by kernel_rfl
theorem cU8:Tryd.prog.cellsOf 5=1:=by kernel_rfl
theorem cKey:Tryd.prog.cellsOf 23=32:=by kernel_rfl
theorem rowN_of {P:Program} {t e:TypeId} {n:Nat} {k:IntKind} (ht:P.underlying t=some (.array n e)) (he:P.underlying e=some (.int k)) (hce:P.cellsOf e=1) (hct:P.cellsOf t=n) {W:World} {m:Nat} {cs:Array Value} {p:List MemPlace} {ks:List Int}
 (h:DataW.trod (fun _=>()) P W 0 (fun _=>true) false m t cs.toList=some (.agg (ks.map fun x=>.lit (.int k x)),p)):cs=(ks.map (Value.int k)).toArray:=by
 obtain⟨xs,m1,_,hx,hlen,hn,hel⟩:=DataW.trod_array ht h;rw[hct] at hlen;simp only[Prod.mk.injEq,DataW.agg.injEq] at hx
 have hk:ks.length=n:=by
  have:=congrArg List.length hx.1;simp only[List.length_map] at this;omega
 apply Array.ext'
 apply List.ext_getElem
 ·simp only[List.length_map];omega
 ·intro i h1 h2
  have hin:i<n:=by omega
  have hx':xs[i]? =some xs[i]:=List.getElem?_eq_getElem (by omega)
  have e1:=hel i hin;rw[hce,hx'] at e1;obtain⟨a,q0,q1,_⟩:=DataW.trod_int he e1;simp only[Nat.mul_one] at q0;rw[List.drop_eq_getElem_cons h1] at q0
  have q0':cs.toList[i]=.int k a:=by simpa using q0
  rw[q0']
  have hi:=congrArg (fun l=>l[i]?) hx.1
  simp only[List.getElem?_map,List.getElem?_eq_getElem (show i<ks.length by omega),hx',Option.map_some,Option.some.injEq] at hi
  rw[q1] at hi;simp only[DataW.lit.injEq,Lit.int.injEq,true_and] at hi
  simp[hi]
theorem row_of_var {W:World} {s:String} {g:Nat} (hg:Tryd.prog.globalNamed s=some g) {cs:Array Value} (hv:World.var? Tryd.prog W s=some cs):∃t fr,W.heap[g]? =some (.cells cs t fr):=by
 unfold World.var? at hv;rw[hg] at hv;simp only[Option.bind_some] at hv
 split at hv
 ·rename_i cs' t fr hh
  obtain rfl:=Option.some.inj hv
  exact⟨t,fr,hh⟩
 ·cases hv
theorem edw_of_laid {W : World} (h : laidMetH Tryd.prog [("pawl/field.fourfold", Rows.laid_pawl_field_fourfold), ("pawl/field.unit", Rows.laid_pawl_field_unit), ("pawl/edwards.baseX", Rows.laid_pawl_edwards_baseX), ("pawl/edwards.baseY", Rows.laid_pawl_edwards_baseY)] W) : Edw W := by
 rw[MakeChecks.laidMetH_plain _ _ _ (by kernel_rfl)] at h
 obtain⟨ps,⟨g0,t0,cs0,f0,p0,q0,hg0,ht0,hv0,hd0,⟨g1,t1,cs1,f1,p1,q1,hg1,ht1,hv1,hd1,⟨g2,t2,cs2,f2,p2,q2,hg2,ht2,hv2,hd2,⟨g3,t3,cs3,f3,p3,q3,hg3,ht3,hv3,hd3,_⟩,_⟩,_⟩,_⟩,_,_⟩:=h;obtain rfl:=Option.some.inj (gFour.symm.trans hg0);obtain rfl:=Option.some.inj (tFour.symm.trans ht0);obtain rfl:=row5_of Tryd.underlying26 Tryd.underlying25 c1 c5 hd0;obtain rfl:=Option.some.inj (gUnit.symm.trans hg1);obtain rfl:=Option.some.inj (tUnit.symm.trans ht1);obtain⟨y0,n,hx,hl,hy⟩:=trod_struct1 Tryd.underlying28 hd1
 have hx':y0=(.agg [.lit (.int .u64 1718705420411056),.lit (.int .u64 234908883556509),.lit (.int .u64 2233514472574048),.lit (.int .u64 2117202627021982),.lit (.int .u64 765476049583133)],y0.2):=by
  simp only[Rows.laid_pawl_field_unit,Prod.mk.injEq,DataW.agg.injEq,List.cons.injEq,and_true] at hx;exact Prod.ext hx.1.symm rfl
 rw[hx'] at hy;rw[cNum] at hl
 have e5:(cs1.toList.drop 0).take 5=cs1.toList:=by rw[List.drop_zero,←hl];exact List.take_length
 have hy2:DataW.trod (fun _=>()) Tryd.prog W 0 (fun _=>true) false n 26 cs1.toList=some (.agg [.lit (.int .u64 1718705420411056),.lit (.int .u64 234908883556509),.lit (.int .u64 2233514472574048),.lit (.int .u64 2117202627021982),.lit (.int .u64 765476049583133)],y0.2):=by
  have hy':=hy
  rw[show Tryd.prog.cellsOf _=5 from c5,e5] at hy'
  exact hy'
 obtain rfl:=row5_of Tryd.underlying26 Tryd.underlying25 c1 c5 hy2;obtain rfl:=Option.some.inj (gBx.symm.trans hg2);obtain rfl:=Option.some.inj (tBx.symm.trans ht2);obtain rfl:=rowN_of (ks:=[26,213,37,143,96,45,86,201,178,167,37,149,96,199,44,105,92,220,214,253,49,226,164,192,254,83,110,205,211,54,105,33]) Tryd.underlying23 Tryd.underlying5 cU8 cKey hd2;obtain rfl:=Option.some.inj (gBy.symm.trans hg3);obtain rfl:=Option.some.inj (tBy.symm.trans ht3);obtain rfl:=rowN_of (ks:=[88,102,102,102,102,102,102,102,102,102,102,102,102,102,102,102,102,102,102,102,102,102,102,102,102,102,102,102,102,102,102,102]) Tryd.underlying23 Tryd.underlying5 cU8 cKey hd3
 have e1:kb (tx bp)=([26,213,37,143,96,45,86,201,178,167,37,149,96,199,44,105,92,220,214,253,49,226,164,192,254,83,110,205,211,54,105,33].map (Value.int .u8)).toArray:=by rw[bp_tx];rfl
 have e2:kb bp.y=([88,102,102,102,102,102,102,102,102,102,102,102,102,102,102,102,102,102,102,102,102,102,102,102,102,102,102,102,102,102,102,102].map (Value.int .u8)).toArray:=rfl;have hU:∃t fr,W.heap[4]? =some (.cells ucells t fr):=row_of_var gUnit hv1;refine⟨⟨four_of_cells hv0,hU⟩,?_,?_⟩
 ·rw[e1];exact row_of_var gBx hv2
 ·rw[e2];exact row_of_var gBy hv3
end Go.Proofs.YtdcpcdkbhgkmlaaDoor
namespace Go.Proofs.YtdcpcdkbhgkmlaaDoor
set_option maxRecDepth 100000
open Go.RowKit Go.Sort
attribute [local go_sem] setCell_drewN alloc_drewN
def Bys (W:World) (v:Value) (bs:List Int):Prop:=∃ao cap,v=.slice ao bs.length cap∧bs.length≤9223372036854775807∧(∀j,j<bs.length→∃b off,ao=some ⟨b,off,none⟩∧b<W.heap.size∧W.cell? ⟨b,off+j,none⟩=some (.int .u8 (bs.getD j 0)))∧(∀z∈bs,0≤z∧z<256)
theorem Bys.keep {W W':World} {v:Value} {bs:List Int} (h:Bys W v bs) (hb:Below W.heap.size W W'):Bys W' v bs:=by
 obtain⟨ao,cap,e,hl,hc,hz⟩:=h
 refine⟨ao,cap,e,hl,fun j hj=>?_,hz⟩
 obtain⟨b,off,e1,h1,h2⟩:=hc j hj;exact⟨b,off,e1,Nat.lt_of_lt_of_le h1 hb.size,(hb.cell h1).trans h2⟩
def bval:List Int→Nat
 |[]=>0
 |z::l=>z.toNat+256*bval l
def bat (bs:List Int) (k:Nat):Int:=bs.getD (bs.length-1-k) 0
theorem bat_bd {bs:List Int} (h:∀z∈bs,0≤z∧z<256) {k:Nat} (hk:k<bs.length):0≤bat bs k∧bat bs k<256:=by
 apply h
 have:bs.length-1-k<bs.length:=by omega
 unfold bat;rw[List.getD_eq_getElem?_getD,List.getElem?_eq_getElem this];exact List.getElem_mem _
def topv (bs:List Int) (k:Nat):Nat:=bval (bs.drop (bs.length-k))
theorem topv_zero (bs:List Int):topv bs 0=0:=by simp[topv,bval]
theorem topv_succ {bs:List Int} {k:Nat} (hk:k<bs.length):topv bs (k+1)=topv bs k*256+(bat bs k).toNat:=by
 have h1:bs.length-(k+1)<bs.length:=by omega
 unfold topv bat
 rw[List.drop_eq_getElem_cons h1,bval,show bs.length-(k+1)+1=bs.length-k by omega,show bs.length-1-k=bs.length-(k+1) by omega,List.getD_eq_getElem?_getD,List.getElem?_eq_getElem h1]
 simp only[Option.getD_some];omega
theorem topv_all (bs:List Int):topv bs bs.length=bval bs:=by simp[topv]
end Go.Proofs.YtdcpcdkbhgkmlaaDoor
namespace Go.Proofs.YtdcpcdkbhgkmlaaDoor
set_option maxRecDepth 100000
open Go.RowKit Go.Sort
attribute [local go_sem] setCell_drewN alloc_drewN
def brow (l:List Int):Array Value:=(l.map fun z=>Value.int .u8 z).toArray
theorem brow_get (l:List Int) (k:Nat) (hk:k<l.length):(brow l)[k]? =some (.int .u8 (l.getD k 0)):=by
 simp[brow,List.getElem?_eq_getElem hk,List.getD_eq_getElem?_getD]
theorem brow_cell {W:World} {g:Nat} {l:List Int} {t:TypeId} (hg:W.heap[g]? =some (.cells (brow l) t (0,0))) {k:Nat} (hk:k<l.length):W.cell? ⟨g,k,none⟩=some (.int .u8 (l.getD k 0)):=by
 simp only[World.cell?,hg]
 simpa using brow_get l k hk
theorem brow_frozen {W:World} {g:Nat} {l:List Int} {t:TypeId} (hg:W.heap[g]? =some (.cells (brow l) t (0,0))) (k:Nat):W.frozen? ⟨g,k,none⟩=false:=by
 simp[World.frozen?,hg]
theorem brow_set {W:World} {g:Nat} {l:List Int} {t:TypeId} (hg:W.heap[g]? =some (.cells (brow l) t (0,0))) (k:Nat) (z:Int):(W.setCell ⟨g,k,none⟩ (.int .u8 z)).heap[g]? =some (.cells (brow (l.set k z)) t (0,0)):=by
 rw[heap_setCell_same W g k _ t _ hg]
 simp[brow,List.map_set]
theorem Bys.of_row {W:World} {g:Nat} {l:List Int} {t:TypeId} (hg:W.heap[g]? =some (.cells (brow l) t (0,0))) (hl:l.length≤9223372036854775807) (hz:∀z∈l,0≤z∧z<256) (cap:Nat):Bys W (.slice (some ⟨g,0,none⟩) l.length cap) l:=by
 refine⟨_,cap,rfl,hl,fun j hj=>⟨g,0,rfl,lt_of_row hg,?_⟩,hz⟩
 rw[Nat.zero_add];exact brow_cell hg hj
def fillL (k:Nat):List Int:=List.replicate k 255++List.replicate (32-k) 0
end Go.Proofs.YtdcpcdkbhgkmlaaDoor
namespace Go.Proofs.YtdcpcdkbhgkmlaaDoor
set_option maxRecDepth 100000
open Go.RowKit Go.Sort
attribute [local go_sem] setCell_drewN alloc_drewN
def nl (k:Nat):List Int:=(List.range 32).map fun j=>(((2^k-1)/256^j%256:Nat):Int)
def onev (k:Nat):Int:=if k=0 then 1 else if k%8=0 then 0 else((2^(k%8):Nat):Int)
def one2 (k:Nat):Int:=((2^(k%8):Nat):Int)
theorem nl_len (k:Nat):(nl k).length=32:=by simp[nl]
theorem nl_set:∀k,k<255→(nl k).set (k/8) ((nl k).getD (k/8) 0+one2 k)=nl (k+1):=by decide+kernel
theorem nl_bd:∀k,k<255→0≤(nl k).getD (k/8) 0∧(nl k).getD (k/8) 0+one2 k<256:=by decide+kernel
theorem nl_first':∀k,k<256→8≤k→(nl k).getD 0 0=255:=by decide+kernel
theorem nl_first (k:Nat) (h:8≤k) (g:k<256):(nl k).getD 0 0=255:=nl_first' k g h
theorem nl_all (k:Nat):∀z∈nl k,0≤z∧z<256:=by
 intro z hz;unfold nl at hz;obtain⟨j,_,rfl⟩:=List.mem_map.1 hz;omega
theorem nl_zero:nl 0=fillL 0:=by decide+kernel
theorem one_next:∀k,k<255→onev (k+1)=one2 k*2%256:=by decide+kernel
theorem one_same:∀k,k<255→k%8≠0→onev k=one2 k:=by decide+kernel
theorem one_zero:∀k,k%8=0→one2 k=1:=by intro k h;simp[one2,h]
theorem one_bd:∀k,1≤one2 k∧one2 k≤128:=by
 intro k
 have:k%8<8:=Nat.mod_lt _ (by decide)
 unfold one2
 generalize k%8=r at *
 rcases(by omega:r=0∨r=1∨r=2∨r=3∨r=4∨r=5∨r=6∨r=7) with rfl|rfl|rfl|rfl|rfl|rfl|rfl|rfl<;>decide
set_option maxHeartbeats 2000000 in
theorem number_walk (K:Nat) (less:Int) (hK8:8≤K) (hK:K≤255) (h0:1≤less) (h1:less≤255) (w:World):Calls Tryd.prog 85 #[.int .i64 K,.int .i64 less] w fun e w'=>∃ev,e=.returned ev∧Bys w' ev ((nl K).set 0 (255-(less-1)))∧Below w.heap.size w w':=by
 have hmk:(Instr.makeSlice 24 (.int .i64 32) (.int .i64 32)).run Tryd.prog w=.ok (.slice (some ⟨w.heap.size,0,none⟩) 32 32) (w.alloc (.cells (brow (fillL 0)) 5)):=by kernel_rfl
 go_enter Tryd.func85,Tryd.ntmps85
 go_wp2
 go_loopw [6,7] (fun o i wr=>∃k:Nat,k≤K∧i=.int .i64 k∧o=.int .u8 (onev k)∧wr.heap[w.heap.size]? =some (.cells (brow (nl k)) 5 (0,0))∧Below w.heap.size w wr) (fun _ i _=>K-(intOf i).toNat)
 case atStart=>exact⟨0,by omega,rfl,rfl,by rw[nl_zero];exact hp1_0 w _,(Below.refl _ _).alloc (Nat.le_refl _) _⟩
 case round=>
  obtain⟨k,hk,rfl,rfl,r0,hw⟩:=hrel
  by_cases hlt:k<K
  ·have hd:decide ((k:Int)<(K:Int))=true:=by simp;omega
   have hc:=brow_cell r0 (k:=k/8) (by rw[nl_len];omega)
   have hf:=brow_frozen r0 (k/8)
   have hz:=nl_bd k (by omega)
   have hs:=nl_set k (by omega)
   have hn:=one_next k (by omega)
   have ho:=one_bd k
   have hsame:=one_same k (by omega)
   have hone:=one_zero k
   generalize (nl k).getD (k/8) 0=z at *
   generalize one2 k=o at *
   by_cases h8:k%8=0
   ·have hd8:((k:Int)%8==0)=true:=by rw[beq_iff_eq];omega
    have e:=hone h8
    subst e
    go_wp2
    go_roundw
    case rel=>exact⟨k+1,by omega,by go_num,by rw[hn];rfl,by rw[←hs];exact brow_set r0 _ _,hw.setCell (Nat.le_refl _) _⟩
    case measure=>simp[intOf];omega
   ·have hd8:((k:Int)%8==0)=false:=by rw[beq_eq_false_iff_ne];omega
    rw[hsame h8]
    go_wp2
    go_roundw
    case rel=>exact⟨k+1,by omega,by go_num,by rw[hn],by rw[←hs];exact brow_set r0 _ _,hw.setCell (Nat.le_refl _) _⟩
    case measure=>simp[intOf];omega
  ·obtain rfl:k=K:=by omega
   have hd:decide ((k:Int)<(k:Int))=false:=by simp
   have hc:=brow_cell r0 (k:=0) (by rw[nl_len];omega)
   have hf:=brow_frozen r0 0
   rw[nl_first k hK8 (by omega)] at hc
   have r1:=brow_set r0 0 (255-(less-1))
   have hlen:((nl k).set 0 (255-(less-1))).length=32:=by rw[List.length_set,nl_len]
   have hB:=Bys.of_row r1 (by rw[hlen];decide) (by
    intro z hz
    rcases List.mem_or_eq_of_mem_set hz with hz|rfl
    ·exact nl_all k z hz
    ·omega) 32
   rw[hlen] at hB;clear r1 hlen
   go_wp2
   go_ret;exact⟨_,rfl,hB,hw.setCell (Nat.le_refl _) _⟩
end Go.Proofs.YtdcpcdkbhgkmlaaDoor
namespace Go.Proofs.YtdcpcdkbhgkmlaaDoor
set_option maxRecDepth 100000
open Go.RowKit Go.Sort
attribute [local go_sem] setCell_drewN alloc_drewN
set_option maxHeartbeats 4000000 in
theorem refFrom_any (b0 b1 b2 b3 b4 b5 b6 b7 b8 b9 b10 b11 b12 b13 b14 b15 b16 b17 b18 b19 b20 b21 b22 b23 b24 b25 b26 b27 b28 b29 b30 b31:Int) (lo0:0≤b0) (hi0:b0<256) (lo1:0≤b1) (hi1:b1<256) (lo2:0≤b2) (hi2:b2<256) (lo3:0≤b3) (hi3:b3<256) (lo4:0≤b4) (hi4:b4<256) (lo5:0≤b5) (hi5:b5<256) (lo6:0≤b6) (hi6:b6<256) (lo7:0≤b7) (hi7:b7<256) (lo8:0≤b8) (hi8:b8<256) (lo9:0≤b9) (hi9:b9<256) (lo10:0≤b10) (hi10:b10<256) (lo11:0≤b11) (hi11:b11<256) (lo12:0≤b12) (hi12:b12<256) (lo13:0≤b13) (hi13:b13<256) (lo14:0≤b14) (hi14:b14<256) (lo15:0≤b15) (hi15:b15<256) (lo16:0≤b16) (hi16:b16<256) (lo17:0≤b17) (hi17:b17<256) (lo18:0≤b18) (hi18:b18<256) (lo19:0≤b19) (hi19:b19<256) (lo20:0≤b20) (hi20:b20<256) (lo21:0≤b21) (hi21:b21<256) (lo22:0≤b22) (hi22:b22<256) (lo23:0≤b23) (hi23:b23<256) (lo24:0≤b24) (hi24:b24<256) (lo25:0≤b25) (hi25:b25<256) (lo26:0≤b26) (hi26:b26<256) (lo27:0≤b27) (hi27:b27<256) (lo28:0≤b28) (hi28:b28<256) (lo29:0≤b29) (hi29:b29<256) (lo30:0≤b30) (hi30:b30<256) (lo31:0≤b31) (hi31:b31<256) (w:World):
 Calls Tryd.prog 33 #[.agg #[.int .u8 b0,.int .u8 b1,.int .u8 b2,.int .u8 b3,.int .u8 b4,.int .u8 b5,.int .u8 b6,.int .u8 b7,.int .u8 b8,.int .u8 b9,.int .u8 b10,.int .u8 b11,.int .u8 b12,.int .u8 b13,.int .u8 b14,.int .u8 b15,.int .u8 b16,.int .u8 b17,.int .u8 b18,.int .u8 b19,.int .u8 b20,.int .u8 b21,.int .u8 b22,.int .u8 b23,.int .u8 b24,.int .u8 b25,.int .u8 b26,.int .u8 b27,.int .u8 b28,.int .u8 b29,.int .u8 b30,.int .u8 b31]] w fun e w'=>e=.returned (.agg #[.int .u64 (dg (kv b0 b1 b2 b3 b4 b5 b6 b7 b8 b9 b10 b11 b12 b13 b14 b15 b16 b17 b18 b19 b20 b21 b22 b23 b24 b25 b26 b27 b28 b29 b30 b31%57896044618658097711785492504343953926634992332820282019728792003956564819968%prm) 0),.int .u64 (dg (kv b0 b1 b2 b3 b4 b5 b6 b7 b8 b9 b10 b11 b12 b13 b14 b15 b16 b17 b18 b19 b20 b21 b22 b23 b24 b25 b26 b27 b28 b29 b30 b31%57896044618658097711785492504343953926634992332820282019728792003956564819968%prm) 1),.int .u64 (dg (kv b0 b1 b2 b3 b4 b5 b6 b7 b8 b9 b10 b11 b12 b13 b14 b15 b16 b17 b18 b19 b20 b21 b22 b23 b24 b25 b26 b27 b28 b29 b30 b31%57896044618658097711785492504343953926634992332820282019728792003956564819968%prm) 2),.int .u64 (dg (kv b0 b1 b2 b3 b4 b5 b6 b7 b8 b9 b10 b11 b12 b13 b14 b15 b16 b17 b18 b19 b20 b21 b22 b23 b24 b25 b26 b27 b28 b29 b30 b31%57896044618658097711785492504343953926634992332820282019728792003956564819968%prm) 3),.int .u64 (dg (kv b0 b1 b2 b3 b4 b5 b6 b7 b8 b9 b10 b11 b12 b13 b14 b15 b16 b17 b18 b19 b20 b21 b22 b23 b24 b25 b26 b27 b28 b29 b30 b31%57896044618658097711785492504343953926634992332820282019728792003956564819968%prm) 4),.int .u64 (dg (kv b0 b1 b2 b3 b4 b5 b6 b7 b8 b9 b10 b11 b12 b13 b14 b15 b16 b17 b18 b19 b20 b21 b22 b23 b24 b25 b26 b27 b28 b29 b30 b31%57896044618658097711785492504343953926634992332820282019728792003956564819968%prm) 5),.int .u64 (dg (kv b0 b1 b2 b3 b4 b5 b6 b7 b8 b9 b10 b11 b12 b13 b14 b15 b16 b17 b18 b19 b20 b21 b22 b23 b24 b25 b26 b27 b28 b29 b30 b31%57896044618658097711785492504343953926634992332820282019728792003956564819968%prm) 6),.int .u64 (dg (kv b0 b1 b2 b3 b4 b5 b6 b7 b8 b9 b10 b11 b12 b13 b14 b15 b16 b17 b18 b19 b20 b21 b22 b23 b24 b25 b26 b27 b28 b29 b30 b31%57896044618658097711785492504343953926634992332820282019728792003956564819968%prm) 7),.int .u64 (dg (kv b0 b1 b2 b3 b4 b5 b6 b7 b8 b9 b10 b11 b12 b13 b14 b15 b16 b17 b18 b19 b20 b21 b22 b23 b24 b25 b26 b27 b28 b29 b30 b31%57896044618658097711785492504343953926634992332820282019728792003956564819968%prm) 8),.int .u64 (dg (kv b0 b1 b2 b3 b4 b5 b6 b7 b8 b9 b10 b11 b12 b13 b14 b15 b16 b17 b18 b19 b20 b21 b22 b23 b24 b25 b26 b27 b28 b29 b30 b31%57896044618658097711785492504343953926634992332820282019728792003956564819968%prm) 9),.int .u64 (dg (kv b0 b1 b2 b3 b4 b5 b6 b7 b8 b9 b10 b11 b12 b13 b14 b15 b16 b17 b18 b19 b20 b21 b22 b23 b24 b25 b26 b27 b28 b29 b30 b31%57896044618658097711785492504343953926634992332820282019728792003956564819968%prm) 10),.int .u64 (dg (kv b0 b1 b2 b3 b4 b5 b6 b7 b8 b9 b10 b11 b12 b13 b14 b15 b16 b17 b18 b19 b20 b21 b22 b23 b24 b25 b26 b27 b28 b29 b30 b31%57896044618658097711785492504343953926634992332820282019728792003956564819968%prm) 11),.int .u64 (dg (kv b0 b1 b2 b3 b4 b5 b6 b7 b8 b9 b10 b11 b12 b13 b14 b15 b16 b17 b18 b19 b20 b21 b22 b23 b24 b25 b26 b27 b28 b29 b30 b31%57896044618658097711785492504343953926634992332820282019728792003956564819968%prm) 12),.int .u64 (dg (kv b0 b1 b2 b3 b4 b5 b6 b7 b8 b9 b10 b11 b12 b13 b14 b15 b16 b17 b18 b19 b20 b21 b22 b23 b24 b25 b26 b27 b28 b29 b30 b31%57896044618658097711785492504343953926634992332820282019728792003956564819968%prm) 13),.int .u64 (dg (kv b0 b1 b2 b3 b4 b5 b6 b7 b8 b9 b10 b11 b12 b13 b14 b15 b16 b17 b18 b19 b20 b21 b22 b23 b24 b25 b26 b27 b28 b29 b30 b31%57896044618658097711785492504343953926634992332820282019728792003956564819968%prm) 14),.int .u64 (dg (kv b0 b1 b2 b3 b4 b5 b6 b7 b8 b9 b10 b11 b12 b13 b14 b15 b16 b17 b18 b19 b20 b21 b22 b23 b24 b25 b26 b27 b28 b29 b30 b31%57896044618658097711785492504343953926634992332820282019728792003956564819968%prm) 15)])∧Below w.heap.size w w':=by
 go_enter Tryd.func33,Tryd.ntmps33
 go_wp2
 refine wp_loop_rounds 17 ?_;rw[rounds_succ]
 go_wp2
 refine wp_region_tail (C:=fun w'=>∃n,w'=World.drewN _ n) 15 _ rfl rfl rfl (by kernel_rfl) (by kernel_rfl) (by kernel_rfl) (by kernel_rfl) ⟨1,rfl⟩ ?_
 dsimp only[List.set,idle]
 repeat (go_big_quiet_step (fail))
 first|refine wpQuiet_nil ?_|refine wpQuiet_idle rfl rfl rfl ?_
 rintro _ ⟨n0,rfl⟩
 go_wp2
 rw[rounds_succ]
 go_wp2
 refine wp_region_tail (C:=fun w'=>∃n,w'=World.drewN _ n) 15 _ rfl rfl rfl (by kernel_rfl) (by kernel_rfl) (by kernel_rfl) (by kernel_rfl) ⟨1,rfl⟩ ?_
 dsimp only[List.set,idle]
 repeat (go_big_quiet_step (fail))
 first|refine wpQuiet_nil ?_|refine wpQuiet_idle rfl rfl rfl ?_
 rintro _ ⟨n1,rfl⟩
 go_wp2
 rw[rounds_succ]
 go_wp2
 refine wp_region_tail (C:=fun w'=>∃n,w'=World.drewN _ n) 15 _ rfl rfl rfl (by kernel_rfl) (by kernel_rfl) (by kernel_rfl) (by kernel_rfl) ⟨1,rfl⟩ ?_
 dsimp only[List.set,idle]
 repeat (go_big_quiet_step (fail))
 first|refine wpQuiet_nil ?_|refine wpQuiet_idle rfl rfl rfl ?_
 rintro _ ⟨n2,rfl⟩
 go_wp2
 rw[rounds_succ]
 go_wp2
 refine wp_region_tail (C:=fun w'=>∃n,w'=World.drewN _ n) 15 _ rfl rfl rfl (by kernel_rfl) (by kernel_rfl) (by kernel_rfl) (by kernel_rfl) ⟨1,rfl⟩ ?_
 dsimp only[List.set,idle]
 repeat (go_big_quiet_step (fail))
 first|refine wpQuiet_nil ?_|refine wpQuiet_idle rfl rfl rfl ?_
 rintro _ ⟨n3,rfl⟩
 go_wp2
 rw[rounds_succ]
 go_wp2
 refine wp_region_tail (C:=fun w'=>∃n,w'=World.drewN _ n) 15 _ rfl rfl rfl (by kernel_rfl) (by kernel_rfl) (by kernel_rfl) (by kernel_rfl) ⟨1,rfl⟩ ?_
 dsimp only[List.set,idle]
 repeat (go_big_quiet_step (fail))
 first|refine wpQuiet_nil ?_|refine wpQuiet_idle rfl rfl rfl ?_
 rintro _ ⟨n4,rfl⟩
 go_wp2
 rw[rounds_succ]
 go_wp2
 refine wp_region_tail (C:=fun w'=>∃n,w'=World.drewN _ n) 15 _ rfl rfl rfl (by kernel_rfl) (by kernel_rfl) (by kernel_rfl) (by kernel_rfl) ⟨1,rfl⟩ ?_
 dsimp only[List.set,idle]
 repeat (go_big_quiet_step (fail))
 first|refine wpQuiet_nil ?_|refine wpQuiet_idle rfl rfl rfl ?_
 rintro _ ⟨n5,rfl⟩
 go_wp2
 rw[rounds_succ]
 go_wp2
 refine wp_region_tail (C:=fun w'=>∃n,w'=World.drewN _ n) 15 _ rfl rfl rfl (by kernel_rfl) (by kernel_rfl) (by kernel_rfl) (by kernel_rfl) ⟨1,rfl⟩ ?_
 dsimp only[List.set,idle]
 repeat (go_big_quiet_step (fail))
 first|refine wpQuiet_nil ?_|refine wpQuiet_idle rfl rfl rfl ?_
 rintro _ ⟨n6,rfl⟩
 go_wp2
 rw[rounds_succ]
 go_wp2
 refine wp_region_tail (C:=fun w'=>∃n,w'=World.drewN _ n) 15 _ rfl rfl rfl (by kernel_rfl) (by kernel_rfl) (by kernel_rfl) (by kernel_rfl) ⟨1,rfl⟩ ?_
 dsimp only[List.set,idle]
 repeat (go_big_quiet_step (fail))
 first|refine wpQuiet_nil ?_|refine wpQuiet_idle rfl rfl rfl ?_
 rintro _ ⟨n7,rfl⟩
 go_wp2
 rw[rounds_succ]
 go_wp2
 refine wp_region_tail (C:=fun w'=>∃n,w'=World.drewN _ n) 15 _ rfl rfl rfl (by kernel_rfl) (by kernel_rfl) (by kernel_rfl) (by kernel_rfl) ⟨1,rfl⟩ ?_
 dsimp only[List.set,idle]
 repeat (go_big_quiet_step (fail))
 first|refine wpQuiet_nil ?_|refine wpQuiet_idle rfl rfl rfl ?_
 rintro _ ⟨n8,rfl⟩
 go_wp2
 rw[rounds_succ]
 go_wp2
 refine wp_region_tail (C:=fun w'=>∃n,w'=World.drewN _ n) 15 _ rfl rfl rfl (by kernel_rfl) (by kernel_rfl) (by kernel_rfl) (by kernel_rfl) ⟨1,rfl⟩ ?_
 dsimp only[List.set,idle]
 repeat (go_big_quiet_step (fail))
 first|refine wpQuiet_nil ?_|refine wpQuiet_idle rfl rfl rfl ?_
 rintro _ ⟨n9,rfl⟩
 go_wp2
 rw[rounds_succ]
 go_wp2
 refine wp_region_tail (C:=fun w'=>∃n,w'=World.drewN _ n) 15 _ rfl rfl rfl (by kernel_rfl) (by kernel_rfl) (by kernel_rfl) (by kernel_rfl) ⟨1,rfl⟩ ?_
 dsimp only[List.set,idle]
 repeat (go_big_quiet_step (fail))
 first|refine wpQuiet_nil ?_|refine wpQuiet_idle rfl rfl rfl ?_
 rintro _ ⟨n10,rfl⟩
 go_wp2
 rw[rounds_succ]
 go_wp2
 refine wp_region_tail (C:=fun w'=>∃n,w'=World.drewN _ n) 15 _ rfl rfl rfl (by kernel_rfl) (by kernel_rfl) (by kernel_rfl) (by kernel_rfl) ⟨1,rfl⟩ ?_
 dsimp only[List.set,idle]
 repeat (go_big_quiet_step (fail))
 first|refine wpQuiet_nil ?_|refine wpQuiet_idle rfl rfl rfl ?_
 rintro _ ⟨n11,rfl⟩
 go_wp2
 rw[rounds_succ]
 go_wp2
 refine wp_region_tail (C:=fun w'=>∃n,w'=World.drewN _ n) 15 _ rfl rfl rfl (by kernel_rfl) (by kernel_rfl) (by kernel_rfl) (by kernel_rfl) ⟨1,rfl⟩ ?_
 dsimp only[List.set,idle]
 repeat (go_big_quiet_step (fail))
 first|refine wpQuiet_nil ?_|refine wpQuiet_idle rfl rfl rfl ?_
 rintro _ ⟨n12,rfl⟩
 go_wp2
 rw[rounds_succ]
 go_wp2
 refine wp_region_tail (C:=fun w'=>∃n,w'=World.drewN _ n) 15 _ rfl rfl rfl (by kernel_rfl) (by kernel_rfl) (by kernel_rfl) (by kernel_rfl) ⟨1,rfl⟩ ?_
 dsimp only[List.set,idle]
 repeat (go_big_quiet_step (fail))
 first|refine wpQuiet_nil ?_|refine wpQuiet_idle rfl rfl rfl ?_
 rintro _ ⟨n13,rfl⟩
 go_wp2
 rw[rounds_succ]
 go_wp2
 refine wp_region_tail (C:=fun w'=>∃n,w'=World.drewN _ n) 15 _ rfl rfl rfl (by kernel_rfl) (by kernel_rfl) (by kernel_rfl) (by kernel_rfl) ⟨1,rfl⟩ ?_
 dsimp only[List.set,idle]
 repeat (go_big_quiet_step (fail))
 first|refine wpQuiet_nil ?_|refine wpQuiet_idle rfl rfl rfl ?_
 rintro _ ⟨n14,rfl⟩
 go_wp2
 rw[rounds_succ]
 go_wp2
 refine wp_region_tail (C:=fun w'=>∃n,w'=World.drewN _ n) 15 _ rfl rfl rfl (by kernel_rfl) (by kernel_rfl) (by kernel_rfl) (by kernel_rfl) ⟨1,rfl⟩ ?_
 dsimp only[List.set,idle]
 repeat (go_big_quiet_step (fail))
 first|refine wpQuiet_nil ?_|refine wpQuiet_idle rfl rfl rfl ?_
 rintro _ ⟨n15,rfl⟩
 go_wp2
 rw[rounds_succ]
 go_wp2_with (first|(refine wpList_load_row rfl 34 _ rfl (w.heap.size+1+1) rfl 34 #[.int .u64 (b0+256*b1),.int .u64 (b2+256*b3),.int .u64 (b4+256*b5),.int .u64 (b6+256*b7),.int .u64 (b8+256*b9),.int .u64 (b10+256*b11),.int .u64 (b12+256*b13),.int .u64 (b14+256*b15),.int .u64 (b16+256*b17),.int .u64 (b18+256*b19),.int .u64 (b20+256*b21),.int .u64 (b22+256*b23),.int .u64 (b24+256*b25),.int .u64 (b26+256*b27),.int .u64 (b28+256*b29),.int .u64 ((b30+256*b31)%32768)] (0,0) _ (by rw[World.heap_drewN,hp3_2]) Tryd.underlying34 rfl (by kernel_rfl) ?_)|fail)
 refine(settle_any _ _ _ _ _ _ _ _ _ _ _ _ _ _ _ _ (by omega) (by omega) (by omega) (by omega) (by omega) (by omega) (by omega) (by omega) (by omega) (by omega) (by omega) (by omega) (by omega) (by omega) (by omega) (by omega) (by omega) (by omega) (by omega) (by omega) (by omega) (by omega) (by omega) (by omega) (by omega) (by omega) (by omega) (by omega) (by omega) (by omega) (by omega) (by omega) _).mono ?_
 rintro e w1 ⟨rfl,hb⟩;have hsz:=hb.size;simp only[World.heap_drewN,World.size_alloc] at hsz
 have rZ:w1.heap[w.heap.size+1]? =some (.cells #[.int .u64 0,.int .u64 0,.int .u64 0,.int .u64 0,.int .u64 0,.int .u64 0,.int .u64 0,.int .u64 0,.int .u64 0,.int .u64 0,.int .u64 0,.int .u64 0,.int .u64 0,.int .u64 0,.int .u64 0,.int .u64 0] 36 (0,0)):=(hb.block _ (by simp)).trans (by rw[World.heap_drewN,hp3_1])
 have hbw:Below w.heap.size w w1:=(below_drN ((((Below.refl _ _).alloc (Nat.le_refl _) _).alloc (by simp) _).alloc (by simp;omega) _) _).trans (hb.mono (by simp;omega))
 clear hb;rw[kv_v16 b0 b1 b2 b3 b4 b5 b6 b7 b8 b9 b10 b11 b12 b13 b14 b15 b16 b17 b18 b19 b20 b21 b22 b23 b24 b25 b26 b27 b28 b29 b30 b31 lo0 hi0 lo1 hi1 lo2 hi2 lo3 hi3 lo4 hi4 lo5 hi5 lo6 hi6 lo7 hi7 lo8 hi8 lo9 hi9 lo10 hi10 lo11 hi11 lo12 hi12 lo13 hi13 lo14 hi14 lo15 hi15 lo16 hi16 lo17 hi17 lo18 hi18 lo19 hi19 lo20 hi20 lo21 hi21 lo22 hi22 lo23 hi23 lo24 hi24 lo25 hi25 lo26 hi26 lo27 hi27 lo28 hi28 lo29 hi29]
 go_wp2_with (first|(refine wpList_store_row rfl 36 _ _ rfl (w.heap.size+1) #[.int .u64 (dg (kv b0 b1 b2 b3 b4 b5 b6 b7 b8 b9 b10 b11 b12 b13 b14 b15 b16 b17 b18 b19 b20 b21 b22 b23 b24 b25 b26 b27 b28 b29 b30 b31%57896044618658097711785492504343953926634992332820282019728792003956564819968%prm) 0),.int .u64 (dg (kv b0 b1 b2 b3 b4 b5 b6 b7 b8 b9 b10 b11 b12 b13 b14 b15 b16 b17 b18 b19 b20 b21 b22 b23 b24 b25 b26 b27 b28 b29 b30 b31%57896044618658097711785492504343953926634992332820282019728792003956564819968%prm) 1),.int .u64 (dg (kv b0 b1 b2 b3 b4 b5 b6 b7 b8 b9 b10 b11 b12 b13 b14 b15 b16 b17 b18 b19 b20 b21 b22 b23 b24 b25 b26 b27 b28 b29 b30 b31%57896044618658097711785492504343953926634992332820282019728792003956564819968%prm) 2),.int .u64 (dg (kv b0 b1 b2 b3 b4 b5 b6 b7 b8 b9 b10 b11 b12 b13 b14 b15 b16 b17 b18 b19 b20 b21 b22 b23 b24 b25 b26 b27 b28 b29 b30 b31%57896044618658097711785492504343953926634992332820282019728792003956564819968%prm) 3),.int .u64 (dg (kv b0 b1 b2 b3 b4 b5 b6 b7 b8 b9 b10 b11 b12 b13 b14 b15 b16 b17 b18 b19 b20 b21 b22 b23 b24 b25 b26 b27 b28 b29 b30 b31%57896044618658097711785492504343953926634992332820282019728792003956564819968%prm) 4),.int .u64 (dg (kv b0 b1 b2 b3 b4 b5 b6 b7 b8 b9 b10 b11 b12 b13 b14 b15 b16 b17 b18 b19 b20 b21 b22 b23 b24 b25 b26 b27 b28 b29 b30 b31%57896044618658097711785492504343953926634992332820282019728792003956564819968%prm) 5),.int .u64 (dg (kv b0 b1 b2 b3 b4 b5 b6 b7 b8 b9 b10 b11 b12 b13 b14 b15 b16 b17 b18 b19 b20 b21 b22 b23 b24 b25 b26 b27 b28 b29 b30 b31%57896044618658097711785492504343953926634992332820282019728792003956564819968%prm) 6),.int .u64 (dg (kv b0 b1 b2 b3 b4 b5 b6 b7 b8 b9 b10 b11 b12 b13 b14 b15 b16 b17 b18 b19 b20 b21 b22 b23 b24 b25 b26 b27 b28 b29 b30 b31%57896044618658097711785492504343953926634992332820282019728792003956564819968%prm) 7),.int .u64 (dg (kv b0 b1 b2 b3 b4 b5 b6 b7 b8 b9 b10 b11 b12 b13 b14 b15 b16 b17 b18 b19 b20 b21 b22 b23 b24 b25 b26 b27 b28 b29 b30 b31%57896044618658097711785492504343953926634992332820282019728792003956564819968%prm) 8),.int .u64 (dg (kv b0 b1 b2 b3 b4 b5 b6 b7 b8 b9 b10 b11 b12 b13 b14 b15 b16 b17 b18 b19 b20 b21 b22 b23 b24 b25 b26 b27 b28 b29 b30 b31%57896044618658097711785492504343953926634992332820282019728792003956564819968%prm) 9),.int .u64 (dg (kv b0 b1 b2 b3 b4 b5 b6 b7 b8 b9 b10 b11 b12 b13 b14 b15 b16 b17 b18 b19 b20 b21 b22 b23 b24 b25 b26 b27 b28 b29 b30 b31%57896044618658097711785492504343953926634992332820282019728792003956564819968%prm) 10),.int .u64 (dg (kv b0 b1 b2 b3 b4 b5 b6 b7 b8 b9 b10 b11 b12 b13 b14 b15 b16 b17 b18 b19 b20 b21 b22 b23 b24 b25 b26 b27 b28 b29 b30 b31%57896044618658097711785492504343953926634992332820282019728792003956564819968%prm) 11),.int .u64 (dg (kv b0 b1 b2 b3 b4 b5 b6 b7 b8 b9 b10 b11 b12 b13 b14 b15 b16 b17 b18 b19 b20 b21 b22 b23 b24 b25 b26 b27 b28 b29 b30 b31%57896044618658097711785492504343953926634992332820282019728792003956564819968%prm) 12),.int .u64 (dg (kv b0 b1 b2 b3 b4 b5 b6 b7 b8 b9 b10 b11 b12 b13 b14 b15 b16 b17 b18 b19 b20 b21 b22 b23 b24 b25 b26 b27 b28 b29 b30 b31%57896044618658097711785492504343953926634992332820282019728792003956564819968%prm) 13),.int .u64 (dg (kv b0 b1 b2 b3 b4 b5 b6 b7 b8 b9 b10 b11 b12 b13 b14 b15 b16 b17 b18 b19 b20 b21 b22 b23 b24 b25 b26 b27 b28 b29 b30 b31%57896044618658097711785492504343953926634992332820282019728792003956564819968%prm) 14),.int .u64 (dg (kv b0 b1 b2 b3 b4 b5 b6 b7 b8 b9 b10 b11 b12 b13 b14 b15 b16 b17 b18 b19 b20 b21 b22 b23 b24 b25 b26 b27 b28 b29 b30 b31%57896044618658097711785492504343953926634992332820282019728792003956564819968%prm) 15)] rfl rfl 36 _ rZ (by kernel_rfl) rfl (by kernel_rfl) ?_)|fail)
 exact bodyPost_ret (v:=.agg #[.int .u64 (dg (kv b0 b1 b2 b3 b4 b5 b6 b7 b8 b9 b10 b11 b12 b13 b14 b15 b16 b17 b18 b19 b20 b21 b22 b23 b24 b25 b26 b27 b28 b29 b30 b31%57896044618658097711785492504343953926634992332820282019728792003956564819968%prm) 0),.int .u64 (dg (kv b0 b1 b2 b3 b4 b5 b6 b7 b8 b9 b10 b11 b12 b13 b14 b15 b16 b17 b18 b19 b20 b21 b22 b23 b24 b25 b26 b27 b28 b29 b30 b31%57896044618658097711785492504343953926634992332820282019728792003956564819968%prm) 1),.int .u64 (dg (kv b0 b1 b2 b3 b4 b5 b6 b7 b8 b9 b10 b11 b12 b13 b14 b15 b16 b17 b18 b19 b20 b21 b22 b23 b24 b25 b26 b27 b28 b29 b30 b31%57896044618658097711785492504343953926634992332820282019728792003956564819968%prm) 2),.int .u64 (dg (kv b0 b1 b2 b3 b4 b5 b6 b7 b8 b9 b10 b11 b12 b13 b14 b15 b16 b17 b18 b19 b20 b21 b22 b23 b24 b25 b26 b27 b28 b29 b30 b31%57896044618658097711785492504343953926634992332820282019728792003956564819968%prm) 3),.int .u64 (dg (kv b0 b1 b2 b3 b4 b5 b6 b7 b8 b9 b10 b11 b12 b13 b14 b15 b16 b17 b18 b19 b20 b21 b22 b23 b24 b25 b26 b27 b28 b29 b30 b31%57896044618658097711785492504343953926634992332820282019728792003956564819968%prm) 4),.int .u64 (dg (kv b0 b1 b2 b3 b4 b5 b6 b7 b8 b9 b10 b11 b12 b13 b14 b15 b16 b17 b18 b19 b20 b21 b22 b23 b24 b25 b26 b27 b28 b29 b30 b31%57896044618658097711785492504343953926634992332820282019728792003956564819968%prm) 5),.int .u64 (dg (kv b0 b1 b2 b3 b4 b5 b6 b7 b8 b9 b10 b11 b12 b13 b14 b15 b16 b17 b18 b19 b20 b21 b22 b23 b24 b25 b26 b27 b28 b29 b30 b31%57896044618658097711785492504343953926634992332820282019728792003956564819968%prm) 6),.int .u64 (dg (kv b0 b1 b2 b3 b4 b5 b6 b7 b8 b9 b10 b11 b12 b13 b14 b15 b16 b17 b18 b19 b20 b21 b22 b23 b24 b25 b26 b27 b28 b29 b30 b31%57896044618658097711785492504343953926634992332820282019728792003956564819968%prm) 7),.int .u64 (dg (kv b0 b1 b2 b3 b4 b5 b6 b7 b8 b9 b10 b11 b12 b13 b14 b15 b16 b17 b18 b19 b20 b21 b22 b23 b24 b25 b26 b27 b28 b29 b30 b31%57896044618658097711785492504343953926634992332820282019728792003956564819968%prm) 8),.int .u64 (dg (kv b0 b1 b2 b3 b4 b5 b6 b7 b8 b9 b10 b11 b12 b13 b14 b15 b16 b17 b18 b19 b20 b21 b22 b23 b24 b25 b26 b27 b28 b29 b30 b31%57896044618658097711785492504343953926634992332820282019728792003956564819968%prm) 9),.int .u64 (dg (kv b0 b1 b2 b3 b4 b5 b6 b7 b8 b9 b10 b11 b12 b13 b14 b15 b16 b17 b18 b19 b20 b21 b22 b23 b24 b25 b26 b27 b28 b29 b30 b31%57896044618658097711785492504343953926634992332820282019728792003956564819968%prm) 10),.int .u64 (dg (kv b0 b1 b2 b3 b4 b5 b6 b7 b8 b9 b10 b11 b12 b13 b14 b15 b16 b17 b18 b19 b20 b21 b22 b23 b24 b25 b26 b27 b28 b29 b30 b31%57896044618658097711785492504343953926634992332820282019728792003956564819968%prm) 11),.int .u64 (dg (kv b0 b1 b2 b3 b4 b5 b6 b7 b8 b9 b10 b11 b12 b13 b14 b15 b16 b17 b18 b19 b20 b21 b22 b23 b24 b25 b26 b27 b28 b29 b30 b31%57896044618658097711785492504343953926634992332820282019728792003956564819968%prm) 12),.int .u64 (dg (kv b0 b1 b2 b3 b4 b5 b6 b7 b8 b9 b10 b11 b12 b13 b14 b15 b16 b17 b18 b19 b20 b21 b22 b23 b24 b25 b26 b27 b28 b29 b30 b31%57896044618658097711785492504343953926634992332820282019728792003956564819968%prm) 13),.int .u64 (dg (kv b0 b1 b2 b3 b4 b5 b6 b7 b8 b9 b10 b11 b12 b13 b14 b15 b16 b17 b18 b19 b20 b21 b22 b23 b24 b25 b26 b27 b28 b29 b30 b31%57896044618658097711785492504343953926634992332820282019728792003956564819968%prm) 14),.int .u64 (dg (kv b0 b1 b2 b3 b4 b5 b6 b7 b8 b9 b10 b11 b12 b13 b14 b15 b16 b17 b18 b19 b20 b21 b22 b23 b24 b25 b26 b27 b28 b29 b30 b31%57896044618658097711785492504343953926634992332820282019728792003956564819968%prm) 15)]) (results_cell_row Tryd.results33 _ _ (w.heap.size+1) _ #[.int .u64 (dg (kv b0 b1 b2 b3 b4 b5 b6 b7 b8 b9 b10 b11 b12 b13 b14 b15 b16 b17 b18 b19 b20 b21 b22 b23 b24 b25 b26 b27 b28 b29 b30 b31%57896044618658097711785492504343953926634992332820282019728792003956564819968%prm) 0),.int .u64 (dg (kv b0 b1 b2 b3 b4 b5 b6 b7 b8 b9 b10 b11 b12 b13 b14 b15 b16 b17 b18 b19 b20 b21 b22 b23 b24 b25 b26 b27 b28 b29 b30 b31%57896044618658097711785492504343953926634992332820282019728792003956564819968%prm) 1),.int .u64 (dg (kv b0 b1 b2 b3 b4 b5 b6 b7 b8 b9 b10 b11 b12 b13 b14 b15 b16 b17 b18 b19 b20 b21 b22 b23 b24 b25 b26 b27 b28 b29 b30 b31%57896044618658097711785492504343953926634992332820282019728792003956564819968%prm) 2),.int .u64 (dg (kv b0 b1 b2 b3 b4 b5 b6 b7 b8 b9 b10 b11 b12 b13 b14 b15 b16 b17 b18 b19 b20 b21 b22 b23 b24 b25 b26 b27 b28 b29 b30 b31%57896044618658097711785492504343953926634992332820282019728792003956564819968%prm) 3),.int .u64 (dg (kv b0 b1 b2 b3 b4 b5 b6 b7 b8 b9 b10 b11 b12 b13 b14 b15 b16 b17 b18 b19 b20 b21 b22 b23 b24 b25 b26 b27 b28 b29 b30 b31%57896044618658097711785492504343953926634992332820282019728792003956564819968%prm) 4),.int .u64 (dg (kv b0 b1 b2 b3 b4 b5 b6 b7 b8 b9 b10 b11 b12 b13 b14 b15 b16 b17 b18 b19 b20 b21 b22 b23 b24 b25 b26 b27 b28 b29 b30 b31%57896044618658097711785492504343953926634992332820282019728792003956564819968%prm) 5),.int .u64 (dg (kv b0 b1 b2 b3 b4 b5 b6 b7 b8 b9 b10 b11 b12 b13 b14 b15 b16 b17 b18 b19 b20 b21 b22 b23 b24 b25 b26 b27 b28 b29 b30 b31%57896044618658097711785492504343953926634992332820282019728792003956564819968%prm) 6),.int .u64 (dg (kv b0 b1 b2 b3 b4 b5 b6 b7 b8 b9 b10 b11 b12 b13 b14 b15 b16 b17 b18 b19 b20 b21 b22 b23 b24 b25 b26 b27 b28 b29 b30 b31%57896044618658097711785492504343953926634992332820282019728792003956564819968%prm) 7),.int .u64 (dg (kv b0 b1 b2 b3 b4 b5 b6 b7 b8 b9 b10 b11 b12 b13 b14 b15 b16 b17 b18 b19 b20 b21 b22 b23 b24 b25 b26 b27 b28 b29 b30 b31%57896044618658097711785492504343953926634992332820282019728792003956564819968%prm) 8),.int .u64 (dg (kv b0 b1 b2 b3 b4 b5 b6 b7 b8 b9 b10 b11 b12 b13 b14 b15 b16 b17 b18 b19 b20 b21 b22 b23 b24 b25 b26 b27 b28 b29 b30 b31%57896044618658097711785492504343953926634992332820282019728792003956564819968%prm) 9),.int .u64 (dg (kv b0 b1 b2 b3 b4 b5 b6 b7 b8 b9 b10 b11 b12 b13 b14 b15 b16 b17 b18 b19 b20 b21 b22 b23 b24 b25 b26 b27 b28 b29 b30 b31%57896044618658097711785492504343953926634992332820282019728792003956564819968%prm) 10),.int .u64 (dg (kv b0 b1 b2 b3 b4 b5 b6 b7 b8 b9 b10 b11 b12 b13 b14 b15 b16 b17 b18 b19 b20 b21 b22 b23 b24 b25 b26 b27 b28 b29 b30 b31%57896044618658097711785492504343953926634992332820282019728792003956564819968%prm) 11),.int .u64 (dg (kv b0 b1 b2 b3 b4 b5 b6 b7 b8 b9 b10 b11 b12 b13 b14 b15 b16 b17 b18 b19 b20 b21 b22 b23 b24 b25 b26 b27 b28 b29 b30 b31%57896044618658097711785492504343953926634992332820282019728792003956564819968%prm) 12),.int .u64 (dg (kv b0 b1 b2 b3 b4 b5 b6 b7 b8 b9 b10 b11 b12 b13 b14 b15 b16 b17 b18 b19 b20 b21 b22 b23 b24 b25 b26 b27 b28 b29 b30 b31%57896044618658097711785492504343953926634992332820282019728792003956564819968%prm) 13),.int .u64 (dg (kv b0 b1 b2 b3 b4 b5 b6 b7 b8 b9 b10 b11 b12 b13 b14 b15 b16 b17 b18 b19 b20 b21 b22 b23 b24 b25 b26 b27 b28 b29 b30 b31%57896044618658097711785492504343953926634992332820282019728792003956564819968%prm) 14),.int .u64 (dg (kv b0 b1 b2 b3 b4 b5 b6 b7 b8 b9 b10 b11 b12 b13 b14 b15 b16 b17 b18 b19 b20 b21 b22 b23 b24 b25 b26 b27 b28 b29 b30 b31%57896044618658097711785492504343953926634992332820282019728792003956564819968%prm) 15)] _ _ rfl (setRow_heap _ _ _ _ _ _ rZ) Tryd.underlying36 rfl (by kernel_rfl)) rfl ⟨rfl,below_setRow hbw (by omega) _⟩
end Go.Proofs.YtdcpcdkbhgkmlaaDoor
namespace Go.Proofs.YtdcpcdkbhgkmlaaDoor
set_option maxRecDepth 100000
open Go.RowKit Go.Sort
attribute [local go_sem] setCell_drewN alloc_drewN
set_option maxHeartbeats 4000000 in
theorem refBytes_any (x0 x1 x2 x3 x4 x5 x6 x7 x8 x9 x10 x11 x12 x13 x14 x15:Int) (lo0:0≤x0) (hi0:x0<65536) (lo1:0≤x1) (hi1:x1<65536) (lo2:0≤x2) (hi2:x2<65536) (lo3:0≤x3) (hi3:x3<65536) (lo4:0≤x4) (hi4:x4<65536) (lo5:0≤x5) (hi5:x5<65536) (lo6:0≤x6) (hi6:x6<65536) (lo7:0≤x7) (hi7:x7<65536) (lo8:0≤x8) (hi8:x8<65536) (lo9:0≤x9) (hi9:x9<65536) (lo10:0≤x10) (hi10:x10<65536) (lo11:0≤x11) (hi11:x11<65536) (lo12:0≤x12) (hi12:x12<65536) (lo13:0≤x13) (hi13:x13<65536) (lo14:0≤x14) (hi14:x14<65536) (lo15:0≤x15) (hi15:x15<65536) (w:World):
 Calls Tryd.prog 34 #[.agg #[.int .u64 x0,.int .u64 x1,.int .u64 x2,.int .u64 x3,.int .u64 x4,.int .u64 x5,.int .u64 x6,.int .u64 x7,.int .u64 x8,.int .u64 x9,.int .u64 x10,.int .u64 x11,.int .u64 x12,.int .u64 x13,.int .u64 x14,.int .u64 x15]] w fun e w'=>e=.returned (.agg #[.int .u8 (x0%256),.int .u8 (x0/256),.int .u8 (x1%256),.int .u8 (x1/256),.int .u8 (x2%256),.int .u8 (x2/256),.int .u8 (x3%256),.int .u8 (x3/256),.int .u8 (x4%256),.int .u8 (x4/256),.int .u8 (x5%256),.int .u8 (x5/256),.int .u8 (x6%256),.int .u8 (x6/256),.int .u8 (x7%256),.int .u8 (x7/256),.int .u8 (x8%256),.int .u8 (x8/256),.int .u8 (x9%256),.int .u8 (x9/256),.int .u8 (x10%256),.int .u8 (x10/256),.int .u8 (x11%256),.int .u8 (x11/256),.int .u8 (x12%256),.int .u8 (x12/256),.int .u8 (x13%256),.int .u8 (x13/256),.int .u8 (x14%256),.int .u8 (x14/256),.int .u8 (x15%256),.int .u8 (x15/256)])∧Below w.heap.size w w':=by
 go_enter Tryd.func34,Tryd.ntmps34
 go_wp2
 refine wp_loop_rounds 17 ?_;rw[rounds_succ]
 go_wp2
 rw[rounds_succ]
 go_wp2
 rw[rounds_succ]
 go_wp2
 rw[rounds_succ]
 go_wp2
 rw[rounds_succ]
 go_wp2
 rw[rounds_succ]
 go_wp2
 rw[rounds_succ]
 go_wp2
 rw[rounds_succ]
 go_wp2
 rw[rounds_succ]
 go_wp2
 rw[rounds_succ]
 go_wp2
 rw[rounds_succ]
 go_wp2
 rw[rounds_succ]
 go_wp2
 rw[rounds_succ]
 go_wp2
 rw[rounds_succ]
 go_wp2
 rw[rounds_succ]
 go_wp2
 rw[rounds_succ]
 go_wp2
 rw[rounds_succ]
 go_wp2_with (first|(refine wpList_load_row rfl 23 _ rfl (w.heap.size+1+1) rfl 23 #[.int .u8 (x0%256),.int .u8 (x0/256),.int .u8 (x1%256),.int .u8 (x1/256),.int .u8 (x2%256),.int .u8 (x2/256),.int .u8 (x3%256),.int .u8 (x3/256),.int .u8 (x4%256),.int .u8 (x4/256),.int .u8 (x5%256),.int .u8 (x5/256),.int .u8 (x6%256),.int .u8 (x6/256),.int .u8 (x7%256),.int .u8 (x7/256),.int .u8 (x8%256),.int .u8 (x8/256),.int .u8 (x9%256),.int .u8 (x9/256),.int .u8 (x10%256),.int .u8 (x10/256),.int .u8 (x11%256),.int .u8 (x11/256),.int .u8 (x12%256),.int .u8 (x12/256),.int .u8 (x13%256),.int .u8 (x13/256),.int .u8 (x14%256),.int .u8 (x14/256),.int .u8 (x15%256),.int .u8 (x15/256)] (0,0) _ (hp3_2 w _ _ _) Tryd.underlying23 rfl (by kernel_rfl) ?_)|(refine wpList_store_row rfl 23 _ _ rfl (w.heap.size+1) #[.int .u8 (x0%256),.int .u8 (x0/256),.int .u8 (x1%256),.int .u8 (x1/256),.int .u8 (x2%256),.int .u8 (x2/256),.int .u8 (x3%256),.int .u8 (x3/256),.int .u8 (x4%256),.int .u8 (x4/256),.int .u8 (x5%256),.int .u8 (x5/256),.int .u8 (x6%256),.int .u8 (x6/256),.int .u8 (x7%256),.int .u8 (x7/256),.int .u8 (x8%256),.int .u8 (x8/256),.int .u8 (x9%256),.int .u8 (x9/256),.int .u8 (x10%256),.int .u8 (x10/256),.int .u8 (x11%256),.int .u8 (x11/256),.int .u8 (x12%256),.int .u8 (x12/256),.int .u8 (x13%256),.int .u8 (x13/256),.int .u8 (x14%256),.int .u8 (x14/256),.int .u8 (x15%256),.int .u8 (x15/256)] rfl rfl 23 _ (hp3_1 w _ _ _) (by kernel_rfl) rfl (by kernel_rfl) ?_))
 exact bodyPost_ret (v:=.agg #[.int .u8 (x0%256),.int .u8 (x0/256),.int .u8 (x1%256),.int .u8 (x1/256),.int .u8 (x2%256),.int .u8 (x2/256),.int .u8 (x3%256),.int .u8 (x3/256),.int .u8 (x4%256),.int .u8 (x4/256),.int .u8 (x5%256),.int .u8 (x5/256),.int .u8 (x6%256),.int .u8 (x6/256),.int .u8 (x7%256),.int .u8 (x7/256),.int .u8 (x8%256),.int .u8 (x8/256),.int .u8 (x9%256),.int .u8 (x9/256),.int .u8 (x10%256),.int .u8 (x10/256),.int .u8 (x11%256),.int .u8 (x11/256),.int .u8 (x12%256),.int .u8 (x12/256),.int .u8 (x13%256),.int .u8 (x13/256),.int .u8 (x14%256),.int .u8 (x14/256),.int .u8 (x15%256),.int .u8 (x15/256)]) (results_cell_row Tryd.results34 _ _ (w.heap.size+1) _ #[.int .u8 (x0%256),.int .u8 (x0/256),.int .u8 (x1%256),.int .u8 (x1/256),.int .u8 (x2%256),.int .u8 (x2/256),.int .u8 (x3%256),.int .u8 (x3/256),.int .u8 (x4%256),.int .u8 (x4/256),.int .u8 (x5%256),.int .u8 (x5/256),.int .u8 (x6%256),.int .u8 (x6/256),.int .u8 (x7%256),.int .u8 (x7/256),.int .u8 (x8%256),.int .u8 (x8/256),.int .u8 (x9%256),.int .u8 (x9/256),.int .u8 (x10%256),.int .u8 (x10/256),.int .u8 (x11%256),.int .u8 (x11/256),.int .u8 (x12%256),.int .u8 (x12/256),.int .u8 (x13%256),.int .u8 (x13/256),.int .u8 (x14%256),.int .u8 (x14/256),.int .u8 (x15%256),.int .u8 (x15/256)] _ _ rfl (setRow_heap _ _ _ _ _ _ (hp3_1 w _ _ _)) Tryd.underlying23 rfl (by kernel_rfl)) rfl ⟨rfl,below_setRow ((((Below.refl _ _).alloc (Nat.le_refl _) _).alloc (by simp) _).alloc (by simp;omega) _) (by omega) _⟩
theorem refBytes_dg (m:Int) (w:World):
 Calls Tryd.prog 34 #[.agg #[.int .u64 (dg m 0),.int .u64 (dg m 1),.int .u64 (dg m 2),.int .u64 (dg m 3),.int .u64 (dg m 4),.int .u64 (dg m 5),.int .u64 (dg m 6),.int .u64 (dg m 7),.int .u64 (dg m 8),.int .u64 (dg m 9),.int .u64 (dg m 10),.int .u64 (dg m 11),.int .u64 (dg m 12),.int .u64 (dg m 13),.int .u64 (dg m 14),.int .u64 (dg m 15)]] w fun e w'=>e=.returned (.agg #[.int .u8 (byt m 0),.int .u8 (byt m 1),.int .u8 (byt m 2),.int .u8 (byt m 3),.int .u8 (byt m 4),.int .u8 (byt m 5),.int .u8 (byt m 6),.int .u8 (byt m 7),.int .u8 (byt m 8),.int .u8 (byt m 9),.int .u8 (byt m 10),.int .u8 (byt m 11),.int .u8 (byt m 12),.int .u8 (byt m 13),.int .u8 (byt m 14),.int .u8 (byt m 15),.int .u8 (byt m 16),.int .u8 (byt m 17),.int .u8 (byt m 18),.int .u8 (byt m 19),.int .u8 (byt m 20),.int .u8 (byt m 21),.int .u8 (byt m 22),.int .u8 (byt m 23),.int .u8 (byt m 24),.int .u8 (byt m 25),.int .u8 (byt m 26),.int .u8 (byt m 27),.int .u8 (byt m 28),.int .u8 (byt m 29),.int .u8 (byt m 30),.int .u8 (byt m 31)])∧Below w.heap.size w w':=by
 have h:=refBytes_any (dg m 0) (dg m 1) (dg m 2) (dg m 3) (dg m 4) (dg m 5) (dg m 6) (dg m 7) (dg m 8) (dg m 9) (dg m 10) (dg m 11) (dg m 12) (dg m 13) (dg m 14) (dg m 15) (dg_bd m 0).1 (dg_bd m 0).2 (dg_bd m 1).1 (dg_bd m 1).2 (dg_bd m 2).1 (dg_bd m 2).2 (dg_bd m 3).1 (dg_bd m 3).2 (dg_bd m 4).1 (dg_bd m 4).2 (dg_bd m 5).1 (dg_bd m 5).2 (dg_bd m 6).1 (dg_bd m 6).2 (dg_bd m 7).1 (dg_bd m 7).2 (dg_bd m 8).1 (dg_bd m 8).2 (dg_bd m 9).1 (dg_bd m 9).2 (dg_bd m 10).1 (dg_bd m 10).2 (dg_bd m 11).1 (dg_bd m 11).2 (dg_bd m 12).1 (dg_bd m 12).2 (dg_bd m 13).1 (dg_bd m 13).2 (dg_bd m 14).1 (dg_bd m 14).2 (dg_bd m 15).1 (dg_bd m 15).2 w;simp only[dg_low,dg_high] at h;exact h
end Go.Proofs.YtdcpcdkbhgkmlaaDoor
namespace Go.Proofs.YtdcpcdkbhgkmlaaDoor
set_option maxRecDepth 100000
open Go.RowKit Go.Sort
attribute [local go_sem] setCell_drewN alloc_drewN
def rd (m:Int):Array Value:=#[.int .u64 (dg m 0),.int .u64 (dg m 1),.int .u64 (dg m 2),.int .u64 (dg m 3),.int .u64 (dg m 4),.int .u64 (dg m 5),.int .u64 (dg m 6),.int .u64 (dg m 7),.int .u64 (dg m 8),.int .u64 (dg m 9),.int .u64 (dg m 10),.int .u64 (dg m 11),.int .u64 (dg m 12),.int .u64 (dg m 13),.int .u64 (dg m 14),.int .u64 (dg m 15)]
theorem rd_size (m:Int):(rd m).size=16:=rfl
theorem rd_one (m:Int):(rd m).all (·.oneCell')=true:=by kernel_rfl
theorem ref_info:(Tryd.prog.info? 36).map (·.size)=some 16:=by kernel_rfl
theorem rd_info (m:Int):(Tryd.prog.info? 36).map (·.size)=some (rd m).size:=ref_info
theorem rd_zero:rd 0=#[.int .u64 0,.int .u64 0,.int .u64 0,.int .u64 0,.int .u64 0,.int .u64 0,.int .u64 0,.int .u64 0,.int .u64 0,.int .u64 0,.int .u64 0,.int .u64 0,.int .u64 0,.int .u64 0,.int .u64 0,.int .u64 0]:=by simp[rd,dg]
def inP (m:Int):Prop:=0≤m∧m<prm
theorem inP_mod (x:Int):inP (x%prm):=by unfold inP prm;omega
theorem r_from {k:Array Value} {N:Int} (h:KeyOf k N):Gives 33 #[.agg k] (.agg (rd (N%57896044618658097711785492504343953926634992332820282019728792003956564819968%prm))):=by
 obtain⟨k0,k1,k2,k3,k4,k5,k6,k7,k8,k9,k10,k11,k12,k13,k14,k15,k16,k17,k18,k19,k20,k21,k22,k23,k24,k25,k26,k27,k28,k29,k30,k31,rfl,⟨h0,h1,h2,h3,h4,h5,h6,h7,h8,h9,h10,h11,h12,h13,h14,h15,h16,h17,h18,h19,h20,h21,h22,h23,h24,h25,h26,h27,h28,h29,h30,h31⟩,rfl⟩:=h
 exact fun W=>refFrom_any k0 k1 k2 k3 k4 k5 k6 k7 k8 k9 k10 k11 k12 k13 k14 k15 k16 k17 k18 k19 k20 k21 k22 k23 k24 k25 k26 k27 k28 k29 k30 k31 h0.1 h0.2 h1.1 h1.2 h2.1 h2.2 h3.1 h3.2 h4.1 h4.2 h5.1 h5.2 h6.1 h6.2 h7.1 h7.2 h8.1 h8.2 h9.1 h9.2 h10.1 h10.2 h11.1 h11.2 h12.1 h12.2 h13.1 h13.2 h14.1 h14.2 h15.1 h15.2 h16.1 h16.2 h17.1 h17.2 h18.1 h18.2 h19.1 h19.2 h20.1 h20.2 h21.1 h21.2 h22.1 h22.2 h23.1 h23.2 h24.1 h24.2 h25.1 h25.2 h26.1 h26.2 h27.1 h27.2 h28.1 h28.2 h29.1 h29.2 h30.1 h30.2 h31.1 h31.2 W
theorem r_bytes (m:Int):Gives 34 #[.agg (rd m)] (.agg (kb m)):=fun W=>refBytes_dg m W
theorem r_mul {m q:Int} (h:inP m) (g:inP q):Gives 47 #[.agg (rd m),.agg (rd q)] (.agg (rd (m*q%prm))):=fun W=>refMul_dg m q h.1 h.2 g.1 g.2 W
theorem r_small (x:Int) (l:0≤x) (u:x<18446744073709551616):Gives 37 #[.int .u64 x] (.agg (rd x)):=fun W=>refSmall_any x l u W
set_option maxHeartbeats 1000000 in
theorem r_square {m:Int} (h:inP m):Gives 66 #[.agg (rd m)] (.agg (rd (m*m%prm))):=by
 have c:=r_mul h h
 generalize m*m%prm=q at *
 intro w
 go_enter Tryd.func66,Tryd.ntmps66
 go_wp2_with (first|(refine wpList_load_row rfl 36 _ rfl w.heap.size rfl 36 (rd m) (0,0) _ (hp2_0 w _ _) Tryd.underlying36 rfl (rd_info m) ?_)|fail)
 refine(c.at _).mono ?_;rintro e w1 ⟨rfl,hb⟩
 have rZ:w1.heap[w.heap.size+1]? =some (.cells #[.int .u64 0,.int .u64 0,.int .u64 0,.int .u64 0,.int .u64 0,.int .u64 0,.int .u64 0,.int .u64 0,.int .u64 0,.int .u64 0,.int .u64 0,.int .u64 0,.int .u64 0,.int .u64 0,.int .u64 0,.int .u64 0] 36 (0,0)):=(hb.block _ (by simp)).trans (hp2_1 w _ _)
 have hbw:Below w.heap.size w w1:=(((Below.refl _ _).alloc (Nat.le_refl _) _).alloc (by simp) _).trans (hb.mono (by simp;omega))
 clear hb
 go_wp2_with (first|(refine wpList_store_row rfl 36 _ _ rfl (w.heap.size+1) (rd q) rfl rfl 36 _ rZ (rd_info q) rfl (rd_one q) ?_)|fail)
 exact bodyPost_ret (v:=.agg (rd q)) (results_cell_row Tryd.results66 _ _ (w.heap.size+1) _ (rd q) _ _ rfl (setRow_heap _ _ _ _ _ _ rZ) Tryd.underlying36 rfl (rd_info q)) rfl ⟨rfl,below_setRow hbw (by omega) _⟩
end Go.Proofs.YtdcpcdkbhgkmlaaDoor
