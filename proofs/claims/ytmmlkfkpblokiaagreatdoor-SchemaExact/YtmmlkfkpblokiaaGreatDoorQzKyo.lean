import Derived.Test.YtmmlkfkpblokiaaGreatDoorQzKyn
import Derived.Test.YtmmlkfkpblokiaaGreatDoorQzKyv
import Derived.ChangeOld
set_option maxRecDepth 100000
set_option maxHeartbeats 16000000
namespace Go.Proofs.YtmmlkfkpblokiaaGreatDoor
open Go Go.RowKit Go.Sort
theorem r_encodeA:∀(m:Nat) (ts:List Slt),htT ts≤(m:Int)→gd ts→∀(L:Nat) (sv:Value) (x:VR) (X:VT) (w:World),Slo w sv ts→VtM w (fun b=>b<L) x X→X.parts.length=ts.length→wfT ts X.parts→lnT ts X.parts→L≤w.heap.size→
 Calls Tryz.prog 36 #[sv,.agg (vrv x)] w fun e w'=>∃u,e=.returned u∧Own w' w.heap.size u (enT ts X)∧Below w.heap.size w w':=by
 intro m
 induction m with
 |zero=>
  intro ts hh hg L sv x X w h hX hlx hwf hln hL
  refine r_encodeN L x X w h hX hg hlx hwf hln hL (fun k hk=>?_)
  have:=htT_sub ts k hk;have:=htT_pos (gs ts k).sub;omega
 |succ m ih=>
  intro ts hh hg L sv x X w h hX hlx hwf hln hL
  refine r_encodeN L x X w h hX hg hlx hwf hln hL (fun k hk hn u y Y V hV hu hY hyl hyw hyn=>?_)
  have hs:=htT_sub ts k hk;have hgk:=(gd_at ts k hk hg).2
  exact ih (gs ts k).sub (by omega) (gd_subs hgk.1 hgk.2) L u y Y V hu hY hyl hyw hyn (Nat.le_trans hL hV.size)
section
variable (utf : List B → Bool) (flE : Nat → Nat → Int)
theorem ln_ck:∀(ts:List Slt) (xs:List VT) (deep:Int),chT utf flE ts xs deep=none→xs.length=ts.length→lnT ts xs
 |[],xs,deep,_,_=>by rw[lnT];exact trivial;intros;contradiction
 |_::_,[],_,_,h=>by simp at h
 | .mk no k l m sub::ts,x::xs,deep,h,hl=>by
  rw[chT_cons] at h
  cases hs:slT utf flE (.mk no k l m sub) x deep with
  |some f=>rw[hs] at h;cases h
  |none=>
   rw[hs] at h;rw[lnT_cons]
   refine⟨fun hk=>?_,fun hk=>?_,ln_ck ts xs deep h (by simpa using hl)⟩
   ·rw[slT_msg utf flE hk] at hs
    obtain⟨_,_,h3,h4⟩:=ck_none utf flE hs
    exact ln_ck sub x.parts _ h4 h3
   ·rw[slT_lst utf flE hk] at hs
    split at hs
    ·cases hs
    ·rename_i h0
     split at hs
     ·cases hs
     ·refine⟨by omega,fun p hp=>?_⟩
      obtain⟨_,_,h3,h4⟩:=ck_none utf flE (frs_none hs p hp)
      exact ln_ck sub p.parts _ h4 h3
end
end Go.Proofs.YtmmlkfkpblokiaaGreatDoor
namespace Go.Proofs.YtmmlkfkpblokiaaGreatDoor
open Go Go.RowKit Go.Sort
attribute [local go_sem] setCell_drewN alloc_drewN
theorem VtM.lim {W:World} {S:Nat→Prop} {x:VR} {X:VT} (h:VtM W S x X):VtM W (fun b=>b<W.heap.size) x X:=h.keep ⟨Nat.le_refl _,fun _ h1 _=>⟨rfl,h1⟩⟩
theorem results_slot_cell9 {P:Program} {fn:Func} {p q:Tmp} {ty:TypeId} (h:fn.results=#[.tmp q,.cell p ty]) (tmps:Array Value) (w:World) (g:Nat) (t:TypeId) (cs:Array Value) (fr:Nat×Nat) (d:TypeDesc)
 (hp:tmps.getD p undef=.pointer (some ⟨g,0,none⟩)) (hg:w.heap[g]? =some (.cells cs t fr))
 (hu:P.underlying ty=some d) (hd:(match d with| .struct _| .array _ _=>true|_=>false)=true) (hi:(P.info? ty).map (·.size)=some cs.size):
 (results fn tmps).run P w=.ok (.tuple #[tmps.getD q undef,.agg cs]) w:=by
 have hp':tmps[p]?.getD undef=.pointer (some ⟨g,0,none⟩):=by simpa using hp
 simp[results,h,hp',asAddr,run_loadVar_row w g t ty cs fr d hg hu hd hi]
theorem r_EncodeT {g:Nat} {ts:List Slt} (hv:vld ts=0) (L0:Nat) (x:VR) (X:VT) (w:World) (hC:Rdc w g ts) (hX:VtM w (fun b=>b<L0) x X) (hL0:L0≤w.heap.size) (hck:ckT utD flD ts X 1=none):
 Calls Tryz.prog 16 #[.pointer (some ⟨g,0,none⟩),.agg (vrv x)] w fun e w'=>∃u,e=.returned (.tuple #[u,.agg #[.int .i64 0,.int .i64 0,.int .i64 0]])∧Own w' w.heap.size u (enT ts X)∧Below w.heap.size w w':=by
 have cC:=hide (fun V (hV:Below w.heap.size w V)=>r_CheckT hv (fun b=>b<L0) x X V (by obtain⟨u,h1,h2⟩:=hC;exact⟨u,keep hV h1,h2.keep hV⟩) (hX.blw hV))
 rw[hck] at cC;obtain⟨u,hg,hS⟩:=hC;obtain⟨so,sc,rfl⟩:=hS.form;have ok:=vld_ok hv;obtain⟨hnum,hdat,hlx,hch⟩:=ck_none utD flD hck
 have cE:=hide (fun V (hV:Below w.heap.size w V)=>r_encodeA (htT ts).toNat ts (Int.self_le_toNat _) ok.2.2.1 L0 _ x X V (hS.keep hV) (hX.blw hV) hlx (wf_ck utD flD ts X.parts 1 hch hlx) (ln_ck utD flD ts X.parts 1 hch hlx) (Nat.le_trans hL0 hV.size))
 clear ok hnum hdat hch hck;obtain⟨n,da,dl,dc,pa,pl,pc⟩:=x
 unfold vrv vrw at cC cE⊢
 obtain⟨L,hL⟩:∃L,enT ts X=L:=⟨_,rfl⟩;rw[hL] at cE;replace hL:=hide hL;clear hS hX
 generalize hsn:ts.length=sn at *
 replace hsn:=hide hsn;clear hlx;have hlg:=lt_of_row hg
 have hb:Below w.heap.size w ((w.alloc (.cells #[.int .u64 (n:Int),.slice da dl dc,.slice pa pl pc] 27)).alloc (.cells #[.int .i64 0,.int .i64 0,.int .i64 0] 41)):=((Below.refl _ _).alloc (Nat.le_refl _) _).alloc (by simp) _
 have rV:=hp2_0 w (.cells #[.int .u64 (n:Int),.slice da dl dc,.slice pa pl pc] 27) (.cells #[.int .i64 0,.int .i64 0,.int .i64 0] 41);have rF:=hp2_1 w (.cells #[.int .u64 (n:Int),.slice da dl dc,.slice pa pl pc] 27) (.cells #[.int .i64 0,.int .i64 0,.int .i64 0] 41);have rg:=keep hb hg;have hbv:=bVal #[.int .u64 (n:Int),.slice da dl dc,.slice pa pl pc];have cC1:=cC.out _ hb;clear hg cC
 go_enter Tryz.func16,Tryz.ntmps16
 go_wp2_with (first|(refine wpList_load_want rfl 27 _ rfl w.heap.size rfl 27 _ (0,0) _ rV Tryz.underlying27 rfl infoV ?_)|fail)
 refine cC1.mono ?_;rintro e_ w1 ⟨rfl,hb1⟩;clear cC1;replace rV:=keep hb1 rV;replace rF:=keep hb1 rF;replace rg:=keep hb1 rg;replace hb:=Below.after hb hb1;have hl1:=lt_of_row rF;have hba:Below w1.heap.size w1 (w1.alloc (.cells #[.int .i64 0,.int .i64 0,.int .i64 0] 41)):=(Below.refl _ _).alloc (Nat.le_refl _) _;have r2:=hp1_0 w1 (.cells #[.int .i64 0,.int .i64 0,.int .i64 0] 41);have hbb:=below_setRow (g:=w1.heap.size) hba (Nat.le_refl _) #[.int .i64 0,.int .i64 0,.int .i64 0];have r3:=setRow_heap _ w1.heap.size _ #[.int .i64 0,.int .i64 0,.int .i64 0] _ _ r2;replace rV:=keep hbb rV;replace rF:=keep hbb rF;replace rg:=keep hbb rg;replace hb:=Below.after hb hbb
 have hone:(#[.int .i64 0,.int .i64 0,.int .i64 0]:Array Value).all (·.oneCell')=true:=by simp[Value.oneCell']
 have c3:((w1.alloc (.cells #[.int .i64 0,.int .i64 0,.int .i64 0] 41)).setRow w1.heap.size #[.int .i64 0,.int .i64 0,.int .i64 0]).cell? ⟨w1.heap.size,2,none⟩=some (.int .i64 0):=by rw[cell_of_row _ _ _ _ _ _ r3];rfl
 unfold flr;clear hb1 hba hbb
 go_wp2_with (first|(refine wpList_store_row rfl 41 _ _ rfl w1.heap.size #[.int .i64 0,.int .i64 0,.int .i64 0] rfl rfl 41 _ r2 infoFt rfl hone ?_)|fail)
 generalize (w1.alloc (.cells #[.int .i64 0,.int .i64 0,.int .i64 0] 41)).setRow w1.heap.size #[.int .i64 0,.int .i64 0,.int .i64 0]=w3 at *
 generalize w1.heap.size=gf at *
 clear c3 r2
 have hS0:(fun W:World=>Bx W w.heap.size #[.int .u64 (n:Int),.slice da dl dc,.slice pa pl pc]∧Bx W g #[.slice so sn sc]∧Bx W gf #[.int .i64 0,.int .i64 0,.int .i64 0]) w3:=⟨⟨_,rV⟩,⟨_,rg⟩,⟨_,r3⟩⟩
 refine wp_region_held (S:=fun W:World=>Bx W w.heap.size #[.int .u64 (n:Int),.slice da dl dc,.slice pa pl pc]∧Bx W g #[.slice so sn sc]∧Bx W gf #[.int .i64 0,.int .i64 0,.int .i64 0]) (by kernel_rfl) ?_
 change wpAnyH _ _ _ _ _ _ _ _ (World.drew _)
 have hbd:Below w3.heap.size w3 w3.drew:=below_drN (Below.refl _ _) 1
 replace hS0:(fun W:World=>Bx W w.heap.size #[.int .u64 (n:Int),.slice da dl dc,.slice pa pl pc]∧Bx W g #[.slice so sn sc]∧Bx W gf #[.int .i64 0,.int .i64 0,.int .i64 0]) w3.drew:=hS0
 replace hb:=Below.after hb hbd;replace rF:=keep hbd rF;have cX:=cE.out w3.drew hb;clear cE rV rg r3 hbd
 generalize w3.drew=w4 at *
 have hl4:=lt_of_row rF;refine wTy 0 ?v1 rfl ?y1 hS0 ?r1
 case y1=>
  intro w_ hS_;go_simp
  try with_reducible rfl
 simp only[Act.put,ZPa,ZPc,ZPd,ZPe,ZPf];refine wTy 1 ?v2 rfl ?y2 hS0 ?r2
 case y2=>
  intro w_ hS_;go_simp
  try with_reducible rfl
 simp only[Act.put,ZPa,ZPb,ZPc,ZPd,ZPe,ZPf];refine wTy 2 ?v3 rfl ?y3 hS0 ?r3
 case y3=>
  intro w_ hS_;go_simp
  try with_reducible rfl
 simp only[Act.put,ZPa,ZPb,ZPc,ZPd,ZPe,ZPf];refine wTy 3 (.slice so sn sc) rfl ?y4 hS0 ?r4
 case y4=>
  intro w_ hS_;obtain⟨_,h_⟩:=hS_.2.1;have c_:=cell_of_row _ _ 0 _ _ _ h_;go_simp
  try with_reducible rfl
 simp only[Act.put,ZPa,ZPb,ZPc,ZPd,ZPe,ZPf]
 refine wTk (i:=4) (v:=.agg #[.int .u64 (n:Int),.slice da dl dc,.slice pa pl pc]) rfl (yieldsIf_load_mid (by rfl) 27 _ rfl w.heap.size 0 rfl [.int .u64 (n:Int),.slice da dl dc,.slice pa pl pc] _ (fun _ h=>range_row h.1) Tryz.underlying27 rfl infoV) hS0 ?_
 simp only[Act.put,ZPa,ZPb,ZPc,ZPd,ZPe,ZPf]
 refine wTk (i:=6) (v:=.agg #[.int .i64 0,.int .i64 0,.int .i64 0]) rfl (yieldsIf_load_mid (by rfl) 41 _ rfl gf 0 rfl [.int .i64 0,.int .i64 0,.int .i64 0] _ (fun _ h=>range_row h.2.2) Tryz.underlying41 rfl infoFt) hS0 ?_
 simp only[Act.put,ZPa,ZPb,ZPc,ZPd,ZPe,ZPf]
 refine wpAnyH_one (k:=5) (fuel:=2) (by kernel_rfl) rfl (by kernel_rfl) (fun K_ hK=>?_)
 refine wp_call_ex (R:=fun u w'=>Own w' w4.heap.size u L∧Below w4.heap.size w4 w') (by kernel_rfl) cX (fun u w5 hX_=>?_)
 obtain⟨hU,hbx⟩:=hX_;have hU2:=own_down hU hb.size
 replace hS0:(fun W:World=>Bx W w.heap.size #[.int .u64 (n:Int),.slice da dl dc,.slice pa pl pc]∧Bx W g #[.slice so sn sc]∧Bx W gf #[.int .i64 0,.int .i64 0,.int .i64 0]) w5:=⟨hS0.1.keep hbx,hS0.2.1.keep hbx,hS0.2.2.keep hbx⟩
 replace rF:=keep hbx rF;replace hb:=Below.after hb hbx;refine hK _ _ hS0 ?_;simp only[Act.put,ZPa,ZPb,ZPc,ZPd,ZPe,ZPf];clear hK cX;obtain⟨ua,uc,rfl⟩:=slen_own hU2
 refine wpAnyH_one (k:=7) (fuel:=1) (by kernel_rfl) rfl (by kernel_rfl) (fun K_ hK=>?_)
 refine wp_pure_op (.slice ua L.length uc) (by kernel_rfl) ?_
 refine hK _ _ hS0 ?_;simp only[Act.put,ZPa,ZPb,ZPc,ZPd,ZPe,ZPf];clear hK
 refine wpAnyH_one (k:=8) (fuel:=0) (by kernel_rfl) rfl (by kernel_rfl) (fun K_ hK=>?_)
 refine wp_store_row 41 _ _ rfl (w.heap.size+1) #[.int .i64 0,.int .i64 0,.int .i64 0] rfl rfl 41 _ rF infoFt rfl hone ?_;have r6:=setRow_heap w5 (w.heap.size+1) _ #[.int .i64 0,.int .i64 0,.int .i64 0] _ _ rF
 have hb6:=below_setRow (g:=w.heap.size+1) hb (by omega) #[.int .i64 0,.int .i64 0,.int .i64 0]
 have hU6:Own (w5.setRow (w.heap.size+1) #[.int .i64 0,.int .i64 0,.int .i64 0]) w.heap.size (.slice ua L.length uc) L:=own_but hU2 fun q hq=>setRow_other w5 (w.heap.size+1) q _ (by have:=own_low hU q hq;omega)
 refine hK _ _ ⟨hS0.1.row (by omega),hS0.2.1.row (by omega),hS0.2.2.row (by omega)⟩ ?_
 simp only[Act.put,ZPa,ZPb,ZPc];have B1:=hide hU6;have B2:=hide hb6;have B3:=hide r6;clear hK hS0 hb rF hU hU2 hU6 hb6 r6
 refine wpAnyH_done (by kernel_rfl) ?_ _
 go_wp2_with (fail)
 exact bodyPost_ret (v:=.tuple #[.slice ua L.length uc,.agg #[.int .i64 0,.int .i64 0,.int .i64 0]]) (results_slot_cell9 Tryz.results16 _ _ (w.heap.size+1) _ _ _ _ rfl B3.out Tryz.underlying41 rfl infoFt) rfl ⟨_,rfl,by rw[hL.out];exact B1.out,B2.out⟩
theorem r_EncodeE {g:Nat} {ts:List Slt} (hv:vld ts=0) (L0:Nat) (x:VR) (X:VT) (w:World) (hC:Rdc w g ts) (hX:VtM w (fun b=>b<L0) x X) (f:Flt3) (hck:ckT utD flD ts X 1=some f):
 Calls Tryz.prog 16 #[.pointer (some ⟨g,0,none⟩),.agg (vrv x)] w fun e w'=>e=.returned (.tuple #[nS,.agg (flr (some f))])∧Below w.heap.size w w':=by
 have cC:=hide (fun V (hV:Below w.heap.size w V)=>r_CheckT hv (fun b=>b<L0) x X V (by obtain⟨u,h1,h2⟩:=hC;exact⟨u,keep hV h1,h2.keep hV⟩) (hX.blw hV))
 rw[hck] at cC;obtain⟨u,hg,hS⟩:=hC;obtain⟨so,sc,rfl⟩:=hS.form;have hwy:=ck_why hck;obtain⟨n,da,dl,dc,pa,pl,pc⟩:=x
 unfold vrv vrw at cC⊢
 clear hS hX hck
 generalize hsn:ts.length=sn at *
 replace hsn:=hide hsn;have hlg:=lt_of_row hg
 have hb:Below w.heap.size w ((w.alloc (.cells #[.int .u64 (n:Int),.slice da dl dc,.slice pa pl pc] 27)).alloc (.cells #[.int .i64 0,.int .i64 0,.int .i64 0] 41)):=((Below.refl _ _).alloc (Nat.le_refl _) _).alloc (by simp) _
 have rV:=hp2_0 w (.cells #[.int .u64 (n:Int),.slice da dl dc,.slice pa pl pc] 27) (.cells #[.int .i64 0,.int .i64 0,.int .i64 0] 41);have rF:=hp2_1 w (.cells #[.int .u64 (n:Int),.slice da dl dc,.slice pa pl pc] 27) (.cells #[.int .i64 0,.int .i64 0,.int .i64 0] 41);have rg:=keep hb hg;have hbv:=bVal #[.int .u64 (n:Int),.slice da dl dc,.slice pa pl pc];have cC1:=cC.out _ hb;clear hg cC
 go_enter Tryz.func16,Tryz.ntmps16
 go_wp2_with (first|(refine wpList_load_want rfl 27 _ rfl w.heap.size rfl 27 _ (0,0) _ rV Tryz.underlying27 rfl infoV ?_)|fail)
 refine cC1.mono ?_;rintro e_ w1 ⟨rfl,hb1⟩;clear cC1;replace rF:=keep hb1 rF;replace hb:=Below.after hb hb1;have hl1:=lt_of_row rF;have hba:Below w1.heap.size w1 (w1.alloc (.cells #[.int .i64 0,.int .i64 0,.int .i64 0] 41)):=(Below.refl _ _).alloc (Nat.le_refl _) _;have r2:=hp1_0 w1 (.cells #[.int .i64 0,.int .i64 0,.int .i64 0] 41);have hbb:=below_setRow (g:=w1.heap.size) hba (Nat.le_refl _) #[.int .i64 f.line,.int .i64 f.at_,.int .i64 f.why];have r3:=setRow_heap _ w1.heap.size _ #[.int .i64 f.line,.int .i64 f.at_,.int .i64 f.why] _ _ r2;replace rF:=keep hbb rF;replace hb:=Below.after hb hbb
 have hone:(#[.int .i64 f.line,.int .i64 f.at_,.int .i64 f.why]:Array Value).all (·.oneCell')=true:=by simp[Value.oneCell']
 have hw2:(f.why==0)=false:=by simpa using hwy
 have c3:((w1.alloc (.cells #[.int .i64 0,.int .i64 0,.int .i64 0] 41)).setRow w1.heap.size #[.int .i64 f.line,.int .i64 f.at_,.int .i64 f.why]).cell? ⟨w1.heap.size,2,none⟩=some (.int .i64 f.why):=by rw[cell_of_row _ _ _ _ _ _ r3];rfl
 unfold flr;clear hb1 hba hbb rg rV
 go_wp2_with (first|(refine wpList_store_row rfl 41 _ _ rfl w1.heap.size #[.int .i64 f.line,.int .i64 f.at_,.int .i64 f.why] rfl rfl 41 _ r2 infoFt rfl hone ?_)|fail)
 generalize (w1.alloc (.cells #[.int .i64 0,.int .i64 0,.int .i64 0] 41)).setRow w1.heap.size #[.int .i64 f.line,.int .i64 f.at_,.int .i64 f.why]=w3 at *
 have hgf:w.heap.size+1<w1.heap.size:=hl1
 generalize w1.heap.size=gf at *
 clear c3 r2
 have hS0:(fun W:World=>Bx W gf #[.int .i64 f.line,.int .i64 f.at_,.int .i64 f.why]) w3:=⟨_,r3⟩
 refine wp_region_held (S:=fun W:World=>Bx W gf #[.int .i64 f.line,.int .i64 f.at_,.int .i64 f.why]) (by kernel_rfl) ?_
 change wpAnyH _ _ _ _ _ _ _ _ (World.drew _)
 have hbd:Below w3.heap.size w3 w3.drew:=below_drN (Below.refl _ _) 1
 replace hS0:(fun W:World=>Bx W gf #[.int .i64 f.line,.int .i64 f.at_,.int .i64 f.why]) w3.drew:=hS0
 replace hb:=Below.after hb hbd;replace rF:=keep hbd rF;clear r3 hbd
 generalize w3.drew=w4 at *
 refine wTk (i:=0) (v:=.agg #[.int .i64 f.line,.int .i64 f.at_,.int .i64 f.why]) rfl (yieldsIf_load_mid (by rfl) 41 _ rfl gf 0 rfl [.int .i64 f.line,.int .i64 f.at_,.int .i64 f.why] _ (fun _ h=>range_row h) Tryz.underlying41 rfl infoFt) hS0 ?_
 simp only[Act.put,ZPa,ZPc,ZPd,ZPe,ZPf];refine wTy 1 nS rfl ?y1 hS0 ?r1
 case y1=>
  intro w_ hS_;go_simp
  try with_reducible rfl
 simp only[Act.put,ZPa,ZPb,ZPc,ZPd,ZPe,ZPf]
 refine wpAnyH_one (k:=2) (fuel:=0) (by kernel_rfl) rfl (by kernel_rfl) (fun K_ hK=>?_)
 refine wp_store_row 41 _ _ rfl (w.heap.size+1) #[.int .i64 f.line,.int .i64 f.at_,.int .i64 f.why] rfl rfl 41 _ rF infoFt rfl hone ?_;have r6:=setRow_heap w4 (w.heap.size+1) _ #[.int .i64 f.line,.int .i64 f.at_,.int .i64 f.why] _ _ rF
 have hb6:=below_setRow (g:=w.heap.size+1) hb (by omega) #[.int .i64 f.line,.int .i64 f.at_,.int .i64 f.why]
 refine hK _ _ (hS0.row (by omega)) ?_
 simp only[Act.put,ZPa,ZPb,ZPc];have B2:=hide hb6;have B3:=hide r6;clear hK hS0 hb rF hb6 r6
 refine wpAnyH_done (by kernel_rfl) ?_ _
 go_wp2_with (fail)
 exact bodyPost_ret (v:=.tuple #[nS,.agg #[.int .i64 f.line,.int .i64 f.at_,.int .i64 f.why]]) (results_slot_cell9 Tryz.results16 _ _ (w.heap.size+1) _ _ _ _ rfl B3.out Tryz.underlying41 rfl infoFt) rfl ⟨rfl,B2.out⟩
end Go.Proofs.YtmmlkfkpblokiaaGreatDoor
namespace Go.Proofs.YtmmlkfkpblokiaaGreatDoor
open Go Go.ChangeShapes Go.WideShapes Go.ChangeAt Go.RowKit Go.Deep
theorem bVl56:Tryz.prog.bytesOf 27=56:=by kernel_rfl
theorem cVl3:Tryz.prog.cellsOf 27=3:=by kernel_rfl
theorem cUv1:Tryz.prog.cellsOf 23=1:=by kernel_rfl
theorem cSv1:Tryz.prog.cellsOf 25=1:=by kernel_rfl
theorem cBv1:Tryz.prog.cellsOf 24=1:=by kernel_rfl
theorem block_ltv {w:World} {b o:Nat} {v:Value} (h:w.cell? ⟨b,o,none⟩=some v):b<w.heap.size:=by
 rcases Nat.lt_or_ge b w.heap.size with x|x
 ·exact x
 ·have:w.heap[b]? =none:=Array.getElem?_eq_none x
  simp[World.cell?,this] at h
theorem weightsAll_inV {H:Type} {P:Program} {e:TypeId}:∀{l:List (DataW H)} {d:DataW H},d∈l→∀n∈d.weights P e,n∈DataW.weightsAll P e l
 |x::r,d,h,n,hn=>by
  rw[DataW.weightsAll,List.mem_append]
  rcases List.mem_cons.1 h with rfl|h
  ·exact .inl hn
  ·exact .inr (weightsAll_inV h n hn)
theorem range_gx (PS:Nat→VR) (n i:Nat) (h:i<n):gx ((List.range n).map PS) i=PS i:=by
 rw[gx,List.getD_eq_getElem?_getD,List.getElem?_map,List.getElem?_range h];rfl
theorem range_gvt (PS:Nat→VT) (n i:Nat) (h:i<n):gvt ((List.range n).map PS) i=PS i:=by
 rw[gvt,List.getD_eq_getElem?_getD,List.getElem?_map,List.getElem?_range h];rfl
theorem val_of_trod {H:Type} {enc:TypeId×Value→H} {W:World} {m:Nat} {cs:List Value} {x:DataW H×List MemPlace} (h:DataW.trod enc Tryz.prog W 0 (fun _=>true) true m 27 cs=some x) (hs:∀n∈x.1.weights Tryz.prog 27,n≤reachBytes):
 ∃(N:Nat) (bs:List B) (v u:Value) (n:Nat) (y:DataW H×List MemPlace),cs=[.int .u64 (N:Int),v,u]∧N<18446744073709551616∧BysC W v bs∧DataW.trod enc Tryz.prog W 0 (fun _=>true) true n 25 [u]=some y∧SizeOf.sizeOf y.1<SizeOf.sizeOf x.1∧∀z∈y.1.weights Tryz.prog 25,z∈x.1.weights Tryz.prog 27:=by
 obtain⟨xs,m,rfl,rfl,hlen,hxl,hf⟩:=DataW.trod_struct Tryz.underlying27 h;rw[cVl3] at hlen;have g0:=hf 0 _ rfl;have g1:=hf 1 _ rfl;have g2:=hf 2 _ rfl;clear hf h
 match cs,hlen,xs,hxl,g0,g1,g2 with
 |[c0,c1,c2],_,[x0,x1,x2],_,g0,g1,g2=>
  obtain⟨C,e0,_,wC⟩:=DataW.trod_int Tryz.underlying23 g0
  have q0:c0=.int .u64 C:=by
   have q:([c0,c1,c2].drop 0).take (Tryz.prog.cellsOf 23)=[.int .u64 C]:=e0;rw[cUv1] at q
   simpa using q
  have q1:DataW.trod enc Tryz.prog W 0 (fun _=>true) true m 24 [c1]=some x1:=by
   have q:DataW.trod enc Tryz.prog W 0 (fun _=>true) true m 24 (([c0,c1,c2].drop 1).take (Tryz.prog.cellsOf 24))=some x1:=g1
   rw[cBv1] at q
   simpa using q
  have q2:DataW.trod enc Tryz.prog W 0 (fun _=>true) true m 25 [c2]=some x2:=by
   have q:DataW.trod enc Tryz.prog W 0 (fun _=>true) true m 25 (([c0,c1,c2].drop 2).take (Tryz.prog.cellsOf 25))=some x2:=g2
   rw[cSv1] at q
   simpa using q
  have bC:=bounds_u64 wC;obtain⟨N,rfl⟩:=Int.eq_ofNat_of_zero_le bC.1
  obtain⟨v,bs,ev,hB⟩:=bysC_of_trod q1 (fun z hz=>hs z (by
   simp only[DataW.weights,Tryz.underlying27]
   exact DataW.weights_mem_each (j:=1) rfl rfl z hz))
  injection ev with ev _
  subst ev
  refine⟨N,bs,c1,c2,m,x2,by rw[q0],by omega,hB,q2,?_,fun z hz=>?_⟩
  ·simp only[List.map_cons,List.map_nil,DataW.agg.sizeOf_spec,List.cons.sizeOf_spec]
   omega
  ·simp only[DataW.weights,Tryz.underlying27]
   exact DataW.weights_mem_each (j:=2) rfl rfl z hz
theorem bysC_form {W:World} {v:Value} {bs:List B} (h:BysC W v bs):∃da dc,v=.slice da bs.length dc∧bs.length≤dc:=by
 obtain⟨⟨⟨ao,cap,e,_⟩,_⟩,_,hc⟩:=h;rw[bl_len] at e;exact⟨ao,cap,e,hc _ _ _ e⟩
theorem inS_data {W:World} {da:Option Addr} {dl dc:Nat} {bs:List B} (h:BysC W (.slice da dl dc) bs):InS W (fun _=>True) (lv dl da):=by
 intro a e;have e1:=lv_some e;subst e1;obtain⟨⟨ao,cap,e2,hl,hc,hz⟩,_⟩:=h.1
 injection e2 with e3 e4 e5
 subst e3
 have hpos:0<dl:=by
  rcases Nat.eq_zero_or_pos dl with h0|h0
  ·rw[h0] at e
   cases e
  ·exact h0
 obtain⟨b,off,ea,hb,_⟩:=hc 0 (by omega)
 injection ea with ea
 subst ea;exact⟨trivial,hb⟩
theorem vtm_of_size {H:Type} {enc:TypeId×Value→H} {W:World}:∀(N:Nat) {m:Nat} {cs:List Value} {x:DataW H×List MemPlace},SizeOf.sizeOf x.1≤N→DataW.trod enc Tryz.prog W 0 (fun _=>true) true m 27 cs=some x→(∀n∈x.1.weights Tryz.prog 27,n≤reachBytes)→∃(r:VR) (X:VT),cs=(vrv r).toList∧VtM W (fun _=>True) r X
 |0,m,cs,x,hN,_,_=>by
  exfalso
  cases h:x.1<;>rw[h] at hN<;>simp at hN
 |N+1,m,cs,x,hN,hf,hs=>by
  obtain⟨Nn,bs,dv,u,n',y,hcs,hNn,hB,hy,hsz,hw⟩:=val_of_trod hf hs;obtain⟨da,dc,rfl,hdc⟩:=bysC_form hB;have hI:=inS_data hB
  rcases open_slice Tryz.underlying25 hy with⟨hcu,hx⟩|⟨a,len,cap,m,n,D,Pl,hcu,_,hl,hm,hmm,hx,hel⟩
  ·injection hcu with hv _
   subst hv
   exact⟨⟨Nn,da,bs.length,dc,none,0,0⟩,.mk Nn bs [],hcs,.mk ⟨Nn,da,bs.length,dc,none,0,0⟩ bs [] [] hNn rfl hB.2.1 hB.1 hdc hI rfl rfl (by simp) (by simp) (fun a e=>by cases lv_some e) (fun i hi=>by simp at hi) (fun i hi=>by simp at hi)⟩
  ·injection hcu with hv _
   subst hv
   simp only[if_true] at hmm;subst hmm;rw[cVl3] at hel
   have hy1:y.1=.slice ((List.range len).map D) ((List.range (m-len)).map fun j=>D (len+j)):=by rw[hx]
   have hb:=hs ((((List.range len).map D).length+((List.range (m-len)).map fun j=>D (len+j)).length)*56) (hw _ (by rw[hy1];simp[DataW.weights,Tryz.underlying25,bVl56]))
   simp only[List.length_map,List.length_range,reachBytes] at hb
   obtain⟨PS,hPS⟩:=@choose_lt (VR×VT) ⟨(vr0,vt0)⟩ len (fun i f=>∃cs',W.cells? 0 (a.add (i*3)) 3=some cs'∧cs'=(vrv f.1).toList∧VtM W (fun _=>True) f.1 f.2) (fun i hi=>by
    obtain⟨cs',h1,h2⟩:=hel i (by omega)
    have hmem:D i∈(List.range len).map D:=List.mem_map.2 ⟨i,List.mem_range.2 hi,rfl⟩;have hsz2:SizeOf.sizeOf (D i)<SizeOf.sizeOf ((List.range len).map D):=List.sizeOf_lt_of_mem hmem
    obtain⟨r,X,e1,e2⟩:=vtm_of_size N (x:=(D i,_)) (by
     rw[hy1] at hsz;simp only[DataW.slice.sizeOf_spec] at hsz;simp only
     omega) h2 (fun z hz=>hs z (hw z (by
     rw[hy1];simp only[DataW.weights,Tryz.underlying25]
     exact List.mem_cons_of_mem _ (List.mem_append_left _ (weightsAll_inV hmem z hz)))))
    exact⟨(r,X),cs',h1,e1,e2⟩)
   have spot:0<len→∃bb off,a=⟨bb,off,none⟩:=fun h0=>by
    obtain⟨bb,off,sp⟩:=a
    obtain⟨cs0,h0',_⟩:=hel 0 (by omega)
    obtain⟨_,hl0,hc0⟩:=World.cells?_some h0'
    have:=hc0 0 (by omega)
    rw[List.getElem?_eq_getElem (by omega)] at this
    exact⟨bb,off,by rw[show sp=none by simpa[Addr.add] using World.cell?_spot this]⟩
   have rng:∀i,i<len→∃b off,some a=some (⟨b,off,none⟩:Addr)∧b<W.heap.size∧W.rangeAt b (off+i*3) (vrv (PS i).1).toList:=fun i hi=>by
    obtain⟨cs',h1,h2,_⟩:=hPS i hi;obtain⟨_,hln,hc⟩:=World.cells?_some h1
    obtain⟨bb,off,rfl⟩:=spot (by omega)
    have hr:W.rangeAt bb (off+i*3) cs':=by
     intro j v hv
     have hj:j<3:=by have:=(List.getElem?_eq_some_iff.1 hv).1;omega
     have:=hc j hj;rw[addr_add,addr_add,hv] at this;exact this
    rw[h2] at hr;exact⟨bb,off,rfl,block_ltv (hr 0 _ rfl),hr⟩
   refine⟨⟨Nn,da,bs.length,dc,some a,len,m⟩,.mk Nn bs ((List.range len).map fun i=>(PS i).2),hcs,.mk ⟨Nn,da,bs.length,dc,some a,len,m⟩ bs ((List.range len).map fun i=>(PS i).1) _ hNn rfl hB.2.1 hB.1 hdc hI (by simp) (by simp) (by simp;exact hl) (by simp;omega) (fun b e=>?_) (fun i hi=>?_) (fun i hi=>?_)⟩
   ·have e1:=lv_some e
    injection e1 with e1
    subst e1
    have hpos:0<len:=by
     rcases Nat.eq_zero_or_pos len with h0|h0
     ·rw[h0] at e
      cases e
     ·exact h0
    obtain⟨bb,off,e2,hb2,_⟩:=rng 0 hpos
    injection e2 with e2
    subst e2;exact⟨trivial,hb2⟩
   ·have hi':i<len:=by simpa using hi
    obtain⟨bb,off,e2,hb2,hr⟩:=rng i hi'
    rw[range_gx _ len i hi'];exact⟨bb,off,e2,hr⟩
   ·have hi':i<len:=by simpa using hi
    obtain⟨_,_,_,h4⟩:=hPS i hi'
    rw[range_gx _ len i hi',range_gvt _ len i hi'];exact h4
theorem val_of_data {H:Type} {enc:TypeId×Value→H} {W:World} {m:Nat} {cs:List Value} {x:DataW H×List MemPlace} (hf:DataW.trod enc Tryz.prog W 0 (fun _=>true) true m 27 cs=some x) (hs:∀n∈x.1.weights Tryz.prog 27,n≤reachBytes):∃(r:VR) (X:VT),cs=(vrv r).toList∧VtM W (fun _=>True) r X:=vtm_of_size _ (Nat.le_refl _) hf hs
end Go.Proofs.YtmmlkfkpblokiaaGreatDoor
namespace Go.Proofs.YtmmlkfkpblokiaaGreatDoor
open Go Go.RowKit Go.Sort Go.ChangeShapes Go.WideShapes Go.ChangeAt Go.Deep
theorem cOpX:Tryz.prog.cellsOf 57=6:=by kernel_rfl
theorem bOpX:Tryz.prog.bytesOf 57=96:=by kernel_rfl
theorem cIntX:Tryz.prog.cellsOf 3=1:=by kernel_rfl
theorem cBoolX:Tryz.prog.cellsOf 4=1:=by kernel_rfl
structure OpR where
 kind:Int
 oth:Bool
 x:VR
 X:VT
 bv:Value
 b:List B
def zopX:OpR:=⟨0,false,vr0,vt0,nS,[]⟩
def gor (os:List OpR) (i:Nat):OpR:=os.getD i zopX
def opc (o:OpR):List Value:=[.int .i64 o.kind,.bool o.oth,.int .u64 (o.x.num:Int),.slice o.x.da o.x.dl o.x.dc,.slice o.x.pa o.x.pl o.x.pc,o.bv]
def ScX (W:World) (v:Value) (os:List OpR):Prop:=∃ao cap,v=.slice ao os.length cap∧os.length≤1466015503700∧∀i,i<os.length→∃b off,ao=some ⟨b,off,none⟩∧b<W.heap.size∧W.rangeAt b (off+i*6) (opc (gor os i))∧VtM W (fun _=>True) (gor os i).x (gor os i).X∧BysC W (gor os i).bv (gor os i).b
theorem op_of_trod {H:Type} {enc:TypeId×Value→H} {W:World} {m:Nat} {cs:List Value} {x:DataW H×List MemPlace} (hf:DataW.trod enc Tryz.prog W 0 (fun _=>true) true m 57 cs=some x) (hs:∀n∈x.1.weights Tryz.prog 57,n≤reachBytes):∃o:OpR,cs=opc o∧VtM W (fun _=>True) o.x o.X∧BysC W o.bv o.b:=by
 obtain⟨xs,n,rfl,rfl,hlen,hxl,hfld⟩:=DataW.trod_struct Tryz.underlying57 hf;rw[cOpX] at hlen
 match cs,hlen,xs,hxl with
 |[c0,c1,c2,c3,c4,c5],_,[y0,y1,y2,y3],_=>
  have f0:DataW.trod enc Tryz.prog W 0 (fun _=>true) true n 3 (([c0,c1,c2,c3,c4,c5].drop 0).take (Tryz.prog.cellsOf 3))=some y0:=hfld 0 _ rfl
  have f1:DataW.trod enc Tryz.prog W 0 (fun _=>true) true n 4 (([c0,c1,c2,c3,c4,c5].drop 1).take (Tryz.prog.cellsOf 4))=some y1:=hfld 1 _ rfl
  have f2:DataW.trod enc Tryz.prog W 0 (fun _=>true) true n 27 (([c0,c1,c2,c3,c4,c5].drop 2).take (Tryz.prog.cellsOf 27))=some y2:=hfld 2 _ rfl
  have f3:DataW.trod enc Tryz.prog W 0 (fun _=>true) true n 24 (([c0,c1,c2,c3,c4,c5].drop 5).take (Tryz.prog.cellsOf 24))=some y3:=hfld 3 _ rfl
  obtain⟨d,e0,_,_⟩:=DataW.trod_int Tryz.underlying3 f0;obtain⟨t,e1,_⟩:=DataW.trod_bool Tryz.underlying4 f1;rw[cVl3] at f2;rw[cBv1] at f3;rw[cIntX] at e0;rw[cBoolX] at e1
  have q2:DataW.trod enc Tryz.prog W 0 (fun _=>true) true n 27 [c2,c3,c4]=some y2:=f2
  have q3:DataW.trod enc Tryz.prog W 0 (fun _=>true) true n 24 [c5]=some y3:=f3
  obtain⟨r,X,eV,hV⟩:=val_of_data q2 (fun z hz=>hs z (by
   simp only[DataW.weights,Tryz.underlying57]
   exact DataW.weights_mem_each (j:=2) rfl rfl z hz))
  obtain⟨v,bs,ev,hB⟩:=bysC_of_trod q3 (fun z hz=>hs z (by
   simp only[DataW.weights,Tryz.underlying57]
   exact DataW.weights_mem_each (j:=3) rfl rfl z hz))
  have g0:[c0]=[Value.int .i64 d]:=e0;have g1:[c1]=[Value.bool t]:=e1
  injection g0 with g0 _
  injection g1 with g1 _
  injection ev with ev _
  subst g0 g1 ev;refine⟨⟨d,t,r,X,c5,bs⟩,?_,hV,hB⟩;have h3:[c2,c3,c4]=[.int .u64 (r.num:Int),.slice r.da r.dl r.dc,.slice r.pa r.pl r.pc]:=eV
  injection h3 with h4 h5
  injection h5 with h5 h6
  injection h6 with h6 _
  subst h4 h5 h6;rfl
theorem range_gor (PS:Nat→OpR) (n i:Nat) (h:i<n):gor ((List.range n).map PS) i=PS i:=by
 rw[gor,List.getD_eq_getElem?_getD,List.getElem?_map,List.getElem?_range h];rfl
theorem scx_of_trod {H:Type} {enc:TypeId×Value→H} {W:World} {m:Nat} {v:Value} {x:DataW H×List MemPlace} (hf:DataW.trod enc Tryz.prog W 0 (fun _=>true) true m 55 [v]=some x) (hs:∀n∈x.1.weights Tryz.prog 55,n≤reachBytes):∃os:List OpR,ScX W v os:=by
 rcases open_slice Tryz.underlying55 hf with⟨hcs,hx⟩|⟨a,len,cap,m,n,D,Pl,hcs,_,hl,hm,hmm,hx,hel⟩
 ·injection hcs with hv _
  subst hv
  exact⟨[],none,0,rfl,by decide,fun i hi=>by simp at hi⟩
 ·injection hcs with hv _
  subst hv
  subst hx;simp only[if_true] at hmm;subst hmm;rw[cOpX] at hel
  have hb:=hs ((((List.range len).map D).length+((List.range (m-len)).map fun j=>D (len+j)).length)*96) (by simp[DataW.weights,Tryz.underlying55,bOpX])
  simp only[List.length_map,List.length_range,reachBytes] at hb
  obtain⟨PS,hPS⟩:=@choose_lt OpR ⟨zopX⟩ len (fun i o=>∃cs',W.cells? 0 (a.add (i*6)) 6=some cs'∧cs'=opc o∧VtM W (fun _=>True) o.x o.X∧BysC W o.bv o.b) (fun i hi=>by
   obtain⟨cs',h1,h2⟩:=hel i (by omega)
   obtain⟨o,h3,h4,h5⟩:=op_of_trod h2 (fun n hn=>hs n (by
    simp only[DataW.weights,Tryz.underlying55]
    exact List.mem_cons_of_mem _ (List.mem_append_left _ (weightsAll_inV (List.mem_map.2 ⟨i,List.mem_range.2 hi,rfl⟩) n hn))))
   exact⟨o,cs',h1,h3,h4,h5⟩)
  refine⟨(List.range len).map PS,some a,_,by simp;rfl,by simp;omega,fun i hi=>?_⟩
  have hi':i<len:=by simpa using hi
  obtain⟨cs',h1,h2,h3,h4⟩:=hPS i hi';obtain⟨_,hln,hc⟩:=World.cells?_some h1;obtain⟨bb,off,spot⟩:=a
  have hspot:spot=none:=by
   obtain⟨cs0,h0,_⟩:=hel 0 (by omega)
   obtain⟨_,hl0,hc0⟩:=World.cells?_some h0
   have:=hc0 0 (by omega)
   rw[List.getElem?_eq_getElem (by omega)] at this
   simpa[Addr.add] using World.cell?_spot this
  subst hspot;rw[range_gor PS len i hi']
  have hr:W.rangeAt bb (off+i*6) cs':=by
   intro j v hv
   have hj:j<6:=by have:=(List.getElem?_eq_some_iff.1 hv).1;omega
   have:=hc j hj;rw[addr_add,addr_add,hv] at this;exact this
  have h0:cs'[0]? =some (cs'[0]'(by omega)):=List.getElem?_eq_getElem (by omega)
  have hbb:=block_ltv (hr 0 _ h0);rw[h2] at hr;exact⟨bb,off,rfl,hbb,hr,h3,h4⟩
theorem ScX.keep {W V:World} {v:Value} {os:List OpR} (h:ScX W v os) (hb:Below W.heap.size W V):ScX V v os:=by
 obtain⟨ao,cap,e,hm,hi⟩:=h
 refine⟨ao,cap,e,hm,fun i q=>?_⟩
 obtain⟨b,off,e1,e2,e3,e4,e5⟩:=hi i q;exact⟨b,off,e1,Nat.lt_of_lt_of_le e2 hb.size,rangeS_keep2 e3 hb e2,e4.blw hb,e5.1.keep hb,e5.2⟩
theorem ScX.at_ {W:World} {ao:Option Addr} {n c:Nat} {os:List OpR} (h:ScX W (.slice ao n c) os) {k:Nat} (hk:k<os.length):∃b off,ao=some ⟨b,off,none⟩∧b<W.heap.size∧W.rangeAt b (off+k*6) (opc (gor os k))∧VtM W (fun _=>True) (gor os k).x (gor os k).X∧BysC W (gor os k).bv (gor os k).b:=by
 obtain⟨ao2,cap,e,_,hi⟩:=h
 injection e with e1 _ _
 subst e1;exact hi k hk
end Go.Proofs.YtmmlkfkpblokiaaGreatDoor
