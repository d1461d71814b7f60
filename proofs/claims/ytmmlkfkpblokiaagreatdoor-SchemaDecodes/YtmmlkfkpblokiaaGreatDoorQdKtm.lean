import Derived.Test.YtmmlkfkpblokiaaGreatDoorQdKtk
import Derived.OwnWalk
import Derived.Test.YtmmlkfkpblokiaaGreatDoorQdKta
namespace Go.Proofs.YtmmlkfkpblokiaaGreatDoor
set_option maxRecDepth 100000
open Go Go.RowKit Go.Sort
attribute [local go_sem] setCell_drewN alloc_drewN
section
variable (utf : List B → Bool) (flE : Nat → Nat → Int)
end
set_option maxRecDepth 100000 in
set_option maxHeartbeats 8000000 in
theorem a_decode1T (F:Option Flt3) (Rs:World→VR→Prop) (bc bb bv g:Nat) (b:Value) (xo:Option Addr) (xn xc:Nat) (lo hi:Int) (cur:Array Value) (hcur:cur.size=3) (w:World)
 (hc:Bx w bc #[.pointer (some ⟨g,0,none⟩)]) (hb:Bx w bb #[b]) (hg:Bx w g #[.slice xo xn xc,.int .i64 lo,.int .i64 hi]) (hv:w.heap[bv]? =some (.cells cur 27 (0,0))) (hbs:∃ao l c,b=.slice ao l c)
 (cC:∀V,Below w.heap.size w V→Calls Tryz.prog 38 #[.slice xo xn xc,b,.int .i64 0] V fun e w'=>Gup V.heap.size F e w' (fun u=>∃x,u=.agg (vrv x)∧Rs w' x)∧Below V.heap.size V w')
 (hst:∀V V' x,w.heap.size≤V.heap.size→Rs V x→But bv V V'→Rs V' x) (hne:bc≠bv∧bb≠bv∧g≠bv):
 Calls Tryz.prog 37 #[.pointer (some ⟨bc,0,none⟩),.pointer (some ⟨bb,0,none⟩),.pointer (some ⟨bv,0,none⟩)] w fun e w'=>Gup w.heap.size F e w' (fun v=>v=.tuple #[]∧∃x,w'.heap[bv]? =some (.cells (vrv x) 27 (0,0))∧Rs w' x)∧((F≠none→Below w.heap.size w w')∧But bv w w'):=by
 obtain⟨bao,bl_,bcc,rfl⟩:=hbs
 go_enter Tryz.func37,Tryz.ntmps37
 have hbd:Below w.heap.size w w.drew:=below_drN (Below.refl _ _) 1
 have hS0:(fun W:World=>Bx W bc #[.pointer (some ⟨g,0,none⟩)]∧Bx W bb #[.slice bao bl_ bcc]∧Bx W g #[.slice xo xn xc,.int .i64 lo,.int .i64 hi]) w.drew:=⟨hc.keep hbd,hb.keep hbd,hg.keep hbd⟩
 have hv1:=keep hbd hv;have cC2:=hide (cC w.drew hbd);have lbv:=lt_of_row hv;clear cC
 refine wp_region_held (S:=fun W:World=>Bx W bc #[.pointer (some ⟨g,0,none⟩)]∧Bx W bb #[.slice bao bl_ bcc]∧Bx W g #[.slice xo xn xc,.int .i64 lo,.int .i64 hi]) (by kernel_rfl) ?_
 change wpAnyH _ _ _ _ _ _ _ _ (World.drew _)
 generalize w.drew=w1 at *
 refine wpAnyH_take (i:=0) (v:=.pointer (some ⟨g,0,none⟩)) rfl (by kernel_rfl) (by kernel_rfl) (by kernel_rfl) (fun _ _ _ h=>h) (Or.inl ⟨by rfl,?y8⟩) hS0 ?r8
 case y8=>
  intro w_ hS_;obtain⟨_,h_⟩:=hS_.1;have c_:=cell_of_row _ _ 0 _ _ _ h_;go_simp
  try with_reducible rfl
 simp only[Act.put,List.getElem_toArray,List.getElem_cons_zero,List.setIfInBounds_toArray,List.set_cons_succ,List.set_cons_zero]
 refine wpAnyH_take (i:=1) (v:=?v9) rfl (by kernel_rfl) (by kernel_rfl) (by kernel_rfl) (fun _ _ _ h=>h) (Or.inl ⟨by rfl,?y9⟩) hS0 ?r9
 case y9=>
  intro w_ hS_;go_simp
  try with_reducible rfl
 simp only[Act.put,List.getElem_toArray,List.getElem_cons_succ,List.getElem_cons_zero,List.setIfInBounds_toArray,List.set_cons_succ,List.set_cons_zero]
 refine wpAnyH_take (i:=2) (v:=?v10) rfl (by kernel_rfl) (by kernel_rfl) (by kernel_rfl) (fun _ _ _ h=>h) (Or.inl ⟨by rfl,?y10⟩) hS0 ?r10
 case y10=>
  intro w_ hS_;go_simp
  try with_reducible rfl
 simp only[Act.put,List.getElem_toArray,List.getElem_cons_succ,List.getElem_cons_zero,List.setIfInBounds_toArray,List.set_cons_succ,List.set_cons_zero]
 refine wpAnyH_take (i:=3) (v:=.slice xo xn xc) rfl (by kernel_rfl) (by kernel_rfl) (by kernel_rfl) (fun _ _ _ h=>h) (Or.inl ⟨by rfl,?y11⟩) hS0 ?r11
 case y11=>
  intro w_ hS_;obtain⟨_,h_⟩:=hS_.2.2;have c_:=cell_of_row _ _ 0 _ _ _ h_;go_simp
  try with_reducible rfl
 simp only[Act.put,List.getElem_toArray,List.getElem_cons_succ,List.getElem_cons_zero,List.setIfInBounds_toArray,List.set_cons_succ,List.set_cons_zero]
 refine wpAnyH_take (i:=4) (v:=.slice bao bl_ bcc) rfl (by kernel_rfl) (by kernel_rfl) (by kernel_rfl) (fun _ _ _ h=>h) (Or.inl ⟨by rfl,?y12⟩) hS0 ?r12
 case y12=>
  intro w_ hS_;obtain⟨_,h_⟩:=hS_.2.1;have c_:=cell_of_row _ _ 0 _ _ _ h_;go_simp
  try with_reducible rfl
 simp only[Act.put,List.getElem_toArray,List.getElem_cons_succ,List.getElem_cons_zero,List.setIfInBounds_toArray,List.set_cons_succ,List.set_cons_zero]
 refine wpAnyH_one (k:=5) (fuel:=1) (by kernel_rfl) rfl (by kernel_rfl) (fun K_ hK=>?_)
 refine wp_call_upW w1.heap.size F (fun u w'=>∃x,u=.agg (vrv x)∧Rs w' x) (fun w'=>Below w1.heap.size w1 w') (by kernel_rfl) cC2.out ?_ ?_
 ·intro hF v_ w4 hX hb4
  obtain⟨⟨yn,xda,xdl,xdc,xpa,xpl,xpc⟩,rfl,hRs⟩:=hX
  subst hF
  have hS4:=(⟨hS0.1.keep hb4,hS0.2.1.keep hb4,hS0.2.2.keep hb4⟩:(fun W:World=>Bx W bc #[.pointer (some ⟨g,0,none⟩)]∧Bx W bb #[.slice bao bl_ bcc]∧Bx W g #[.slice xo xn xc,.int .i64 lo,.int .i64 hi]) w4)
  have hv4:=keep hb4 hv1;have hw4:=Below.after hbd hb4;refine hK _ _ hS4 ?_;simp only[Act.put,List.getElem_toArray,List.getElem_cons_succ,List.getElem_cons_zero,List.setIfInBounds_toArray,List.set_cons_succ,List.set_cons_zero];clear hK
  have hone:(#[Value.int .u64 (yn:Int),.slice xda xdl xdc,.slice xpa xpl xpc]:Array Value).all (·.oneCell')=true:=by simp[Value.oneCell']
  refine wpAnyH_one (k:=6) (fuel:=0) (by kernel_rfl) rfl (by kernel_rfl) (fun K_ hK=>?_)
  refine wp_store_row 27 _ _ rfl bv #[.int .u64 (yn:Int),.slice xda xdl xdc,.slice xpa xpl xpc] rfl rfl 27 _ hv4 infoV (by rw[hcur];rfl) hone ?_
  have hB5:=But.setRow (g:=bv) w4 #[.int .u64 (yn:Int),.slice xda xdl xdc,.slice xpa xpl xpc];have hv5:=setRow_heap w4 bv _ #[.int .u64 (yn:Int),.slice xda xdl xdc,.slice xpa xpl xpc] _ _ hv4;have hRs5:=hst _ _ _ hw4.size hRs hB5;have hbut:=(But.of hw4).trans hB5;refine hK _ _ ?_ ?_
  ·exact⟨hB5.keepBx hS4.1 hne.1,hB5.keepBx hS4.2.1 hne.2.1,hB5.keepBx hS4.2.2 hne.2.2⟩
  simp only[Act.put];clear hK
  refine wpAnyH_done (by kernel_rfl) ?_ _
  have A1:=hide hv5;have A2:=hide hRs5;have A3:=hide hbut;clear hv5 hRs5 hbut hB5 hS4 hv4 hw4 hRs hS0
  go_wp2_with (fail)
  go_end0
  exact⟨⟨_,rfl,rfl,⟨yn,xda,xdl,xdc,xpa,xpl,xpc⟩,A1.out,A2.out⟩,fun h=>absurd rfl h,A3.out⟩
 ·intro x hF g4 w4 h1 h2 hb4
  subst hF
  have hw4:=Below.after hbd hb4;have sz1:=hbd.size
  go_wp2_with (fail)
  exact⟨rfl,⟨g4,rfl,by omega,h2⟩,fun _=>hw4,But.of hw4⟩
def DcO (base:Nat) (F:Option Flt3) (X:VT) (e:Ending) (w':World):Prop:=
 match F with
 |none=>∃x,e=.returned (.tuple #[.agg (vrv x),.nilIface])∧VtO w' (fun b=>base≤b) x X
 |some x=>∃g,e=.returned (.tuple #[.agg #[.int .u64 0,.slice none 0 0,.slice none 0 0],.iface 70 (.pointer (some ⟨g,0,none⟩))])∧base≤g∧w'.heap[g]? =some (.cells (frw x) 41 (0,0))
theorem VtO.but {W V:World} {n g:Nat} {x:VR} {X:VT} (h:VtO W (fun b=>n≤b) x X) (hb:But g W V) (hg:g<n):VtO V (fun b=>n≤b) x X:=h.keep ⟨hb.size,fun b hlt hS=>⟨hb.block b hlt (by omega),hS⟩⟩
set_option maxRecDepth 100000 in
set_option maxHeartbeats 8000000 in
theorem a_DecodeO {utf:List B→Bool} {flE:Nat→Nat→Int} {G:World→Prop} (hp:Plo utf flE G) {g:Nat} {ts:List Slt} (d:List B) (b:Value) (w:World) (hG:G w) (hC:Cdc w g ts) (hB:BysB w b d) (hcap:∀a l c,b=.slice a l c→l≤c):
 Calls Tryz.prog 17 #[.pointer (some ⟨g,0,none⟩),b] w fun e w'=>DcO w.heap.size (deT utf flE ts d 0) (mgT ts d) e w'∧Below w.heap.size w w':=by
 have hdle:d.length≤140737488355000:=hB.2.1;obtain⟨bao,bcc,rfl⟩:=hB.form
 generalize hbl:d.length=bl_ at *
 obtain⟨x,hx,hg⟩:=hC;obtain⟨xo,xc,rfl⟩:=hx.form;have lg:=lt_of_row hg;have r0:=hp4_0 w (.cells #[.pointer (some ⟨g,0,none⟩)] 30) (.cells #[.slice bao bl_ bcc] 24) (.cells #[.int .u64 0,.slice none 0 0,.slice none 0 0] 27) (.cells #[.int .u64 0,.slice none 0 0,.slice none 0 0] 27);have r1:=hp4_1 w (.cells #[.pointer (some ⟨g,0,none⟩)] 30) (.cells #[.slice bao bl_ bcc] 24) (.cells #[.int .u64 0,.slice none 0 0,.slice none 0 0] 27) (.cells #[.int .u64 0,.slice none 0 0,.slice none 0 0] 27);have r2:=hp4_2 w (.cells #[.pointer (some ⟨g,0,none⟩)] 30) (.cells #[.slice bao bl_ bcc] 24) (.cells #[.int .u64 0,.slice none 0 0,.slice none 0 0] 27) (.cells #[.int .u64 0,.slice none 0 0,.slice none 0 0] 27);have r3:=hp4_3 w (.cells #[.pointer (some ⟨g,0,none⟩)] 30) (.cells #[.slice bao bl_ bcc] 24) (.cells #[.int .u64 0,.slice none 0 0,.slice none 0 0] 27) (.cells #[.int .u64 0,.slice none 0 0,.slice none 0 0] 27)
 have hb:Below w.heap.size w ((((w.alloc (.cells #[.pointer (some ⟨g,0,none⟩)] 30)).alloc (.cells #[.slice bao bl_ bcc] 24)).alloc (.cells #[.int .u64 0,.slice none 0 0,.slice none 0 0] 27)).alloc (.cells #[.int .u64 0,.slice none 0 0,.slice none 0 0] 27)):=((((Below.refl _ _).alloc (Nat.le_refl _) _).alloc (by simp) _).alloc (by simp;omega) _).alloc (by simp;omega) _
 have hsz:((((w.alloc (.cells #[.pointer (some ⟨g,0,none⟩)] 30)).alloc (.cells #[.slice bao bl_ bcc] 24)).alloc (.cells #[.int .u64 0,.slice none 0 0,.slice none 0 0] 27)).alloc (.cells #[.int .u64 0,.slice none 0 0,.slice none 0 0] 27)).heap.size=w.heap.size+4:=by simp
 have hB4:=hB.keep hb;have h0:=hmf;have hrd:Bx ((((w.alloc (.cells #[.pointer (some ⟨g,0,none⟩)] 30)).alloc (.cells #[.slice bao bl_ bcc] 24)).alloc (.cells #[.int .u64 0,.slice none 0 0,.slice none 0 0] 27)).alloc (.cells #[.int .u64 0,.slice none 0 0,.slice none 0 0] 27)) g #[.slice xo ts.length xc,.int .i64 ((prS ts).1:Int),.int .i64 ((prS ts).2:Int)]:=⟨_,(hb.block g lg).trans hg⟩;have b0:Bx ((((w.alloc (.cells #[.pointer (some ⟨g,0,none⟩)] 30)).alloc (.cells #[.slice bao bl_ bcc] 24)).alloc (.cells #[.int .u64 0,.slice none 0 0,.slice none 0 0] 27)).alloc (.cells #[.int .u64 0,.slice none 0 0,.slice none 0 0] 27)) w.heap.size #[.pointer (some ⟨g,0,none⟩)]:=⟨_,r0⟩;have b1:Bx ((((w.alloc (.cells #[.pointer (some ⟨g,0,none⟩)] 30)).alloc (.cells #[.slice bao bl_ bcc] 24)).alloc (.cells #[.int .u64 0,.slice none 0 0,.slice none 0 0] 27)).alloc (.cells #[.int .u64 0,.slice none 0 0,.slice none 0 0] 27)) (w.heap.size+1) #[.slice bao bl_ bcc]:=⟨_,r1⟩
 go_enter Tryz.func17,Tryz.ntmps17
 go_upto_region 2 with(fail)
 generalize ((((w.alloc (.cells #[.pointer (some ⟨g,0,none⟩)] 30)).alloc (.cells #[.slice bao bl_ bcc] 24)).alloc (.cells #[.int .u64 0,.slice none 0 0,.slice none 0 0] 27)).alloc (.cells #[.int .u64 0,.slice none 0 0,.slice none 0 0] 27))=w4 at *
 have hst:∀V V' x g',g'<w.heap.size+5→VtO V (fun b=>w.heap.size+5≤b) x (mgT ts d)→But g' V V'→VtO V' (fun b=>w.heap.size+5≤b) x (mgT ts d):=fun V V' x g' hg' hr hbut=>hr.but hbut hg'
 have cS:∀V,Below w4.heap.size w4 V→w4.heap.size<V.heap.size→Calls Tryz.prog 38 #[.slice xo ts.length xc,.slice bao bl_ bcc,.int .i64 0] V fun e w'=>Gup V.heap.size (deT utf flE ts d 0) e w' (fun u=>∃x,u=.agg (vrv x)∧VtO w' (fun b=>w.heap.size+5≤b) x (mgT ts d))∧Below V.heap.size V w':=by
  intro V hV hlt
  refine(a_decodeT hp hx hG V d (.slice bao bl_ bcc) 0 (by omega) (by rw[hbl];omega) (Below.after hb hV) (hB4.keep hV) hcap).mono fun e w' hX=>⟨hX.1.mp (fun v hv=>?_),hX.2⟩
  obtain⟨x,hv1,hv2⟩:=hv
  exact⟨x,hv1,hv2.wid (fun b hb_=>by omega)⟩
 have cA:=a_caughtD (deT utf flE ts d 0) (fun V=>∃x,V.heap[w.heap.size+1+1+1]? =some (.cells (vrv x) 27 (0,0))∧VtO V (fun b=>w.heap.size+5≤b) x (mgT ts d)) (.pointer (some ⟨w.heap.size,0,none⟩)) (.pointer (some ⟨w.heap.size+1,0,none⟩)) (.pointer (some ⟨w.heap.size+1+1+1,0,none⟩)) (w.heap.size+1+1+1) w4 (by omega)
  (fun V V' hq hbut=>by
   obtain⟨pv,hq1,hq2⟩:=hq
   exact⟨pv,hbut.row hq1 (by omega),hst V V' pv _ (by omega) hq2 hbut⟩)
  (fun V hV hlt=>a_decode1T (deT utf flE ts d 0) (fun V x=>VtO V (fun b=>w.heap.size+5≤b) x (mgT ts d)) w.heap.size (w.heap.size+1) (w.heap.size+1+1+1) g (.slice bao bl_ bcc) xo ts.length xc _ _ #[.int .u64 0,.slice none 0 0,.slice none 0 0] rfl V (b0.keep hV) (b1.keep hV) (hrd.keep hV) (keep hV r3) ⟨_,_,_,rfl⟩ (fun V' hV'=>cS V' (Below.after hV hV') (Nat.lt_of_lt_of_le hlt hV'.size)) (fun V1 V2 pv _ hr hbut=>hst V1 V2 pv _ (by omega) hr hbut) ⟨by omega,by omega,by omega⟩)
 replace cA:=hide cA;clear cS b0 b1 hrd hB4 hx hB hcap
 go_wp2_with (fail)
 refine cA.out.mono ?_;rintro e_ w5 ⟨hG,hbn,hBt⟩
 have r25:=hBt.row r2 (by omega)
 have hw5:=But.after hb (by omega) hBt
 clear cA;obtain⟨R,hR⟩:∃R,deT utf flE ts d 0=R:=⟨_,rfl⟩;rw[hR] at hG hbn;replace hR:=hide hR
 cases R with
 |none=>
  obtain⟨rfl,⟨yn,xda,xdl,xdc,xpa,xpl,xpc⟩,r35,hr⟩:=hG
  have hr':=hide (hst _ (w5.setRow (w.heap.size+1+1) #[.int .u64 (yn:Int),.slice xda xdl xdc,.slice xpa xpl xpc]) _ _ (by omega) hr (But.setRow (g:=w.heap.size+1+1) w5 #[.int .u64 (yn:Int),.slice xda xdl xdc,.slice xpa xpl xpc]))
  unfold vrv vrw at r35
  have hone:(#[Value.int .u64 (yn:Int),.slice xda xdl xdc,.slice xpa xpl xpc]:Array Value).all (·.oneCell')=true:=by simp[Value.oneCell']
  have RF:=hide (setRow_heap _ (w.heap.size+1+1) _ #[.int .u64 (yn:Int),.slice xda xdl xdc,.slice xpa xpl xpc] _ _ r25)
  have hwF:=hide (below_setRow (g:=w.heap.size+1+1) hw5 (by omega) #[.int .u64 (yn:Int),.slice xda xdl xdc,.slice xpa xpl xpc])
  clear hr hBt hbn hw5 hb hst
  go_wp2_with (first|(refine wpList_load_want rfl 27 _ rfl (w.heap.size+1+1+1) rfl 27 #[.int .u64 (yn:Int),.slice xda xdl xdc,.slice xpa xpl xpc] (0,0) _ r35 Tryz.underlying27 rfl infoV ?_)|(refine wpList_store_row rfl 27 _ _ rfl (w.heap.size+1+1) #[.int .u64 (yn:Int),.slice xda xdl xdc,.slice xpa xpl xpc] rfl rfl 27 _ r25 infoV rfl hone ?_)|fail)
  refine bodyPost_ret (results_row_slot Tryz.results17 _ _ (w.heap.size+1+1) _ _ _ _ _ rfl RF.out rfl Tryz.underlying27 rfl infoV) rfl ⟨?_,hwF.out⟩;unfold DcO;rw[hR.out]
  exact⟨⟨yn,xda,xdl,xdc,xpa,xpl,xpc⟩,rfl,hr'.out.wid (fun b hb_=>by omega)⟩
 |some x=>
  obtain⟨q,rfl,hq1,hq2⟩:=hG
  have r35:=keep (hbn (by simp)) r3
  have hone:(#[Value.int .u64 0,.slice none 0 0,.slice none 0 0]:Array Value).all (·.oneCell')=true:=by simp[Value.oneCell']
  have RF:=hide (setRow_heap _ (w.heap.size+1+1) _ #[.int .u64 0,.slice none 0 0,.slice none 0 0] _ _ r25)
  have hwF:=hide (below_setRow (g:=w.heap.size+1+1) hw5 (by omega) #[.int .u64 0,.slice none 0 0,.slice none 0 0])
  have hq3:=hide ((setRow_other w5 (w.heap.size+1+1) q #[.int .u64 0,.slice none 0 0,.slice none 0 0] (by omega)).trans hq2)
  clear hq2 hBt hbn hw5 hb hst
  go_wp2_with (first|(refine wpList_load_want rfl 27 _ rfl (w.heap.size+1+1+1) rfl 27 #[.int .u64 0,.slice none 0 0,.slice none 0 0] (0,0) _ r35 Tryz.underlying27 rfl infoV ?_)|(refine wpList_store_row rfl 27 _ _ rfl (w.heap.size+1+1) #[.int .u64 0,.slice none 0 0,.slice none 0 0] rfl rfl 27 _ r25 infoV rfl hone ?_)|fail)
  refine bodyPost_ret (results_row_slot Tryz.results17 _ _ (w.heap.size+1+1) _ _ _ _ _ rfl RF.out rfl Tryz.underlying27 rfl infoV) rfl ⟨?_,hwF.out⟩;unfold DcO;rw[hR.out]
  exact⟨q,rfl,by omega,hq3.out⟩
def DcT (base:Nat) (F:Option Flt3) (X:VT) (e:Ending) (w':World):Prop:=
 match F with
 |none=>∃x,e=.returned (.tuple #[.agg (vrv x),.nilIface])∧VtM w' (fun b=>base≤b) x X
 |some x=>∃g,e=.returned (.tuple #[.agg #[.int .u64 0,.slice none 0 0,.slice none 0 0],.iface 70 (.pointer (some ⟨g,0,none⟩))])∧base≤g∧w'.heap[g]? =some (.cells (frw x) 41 (0,0))
theorem DcO.t {base:Nat} {F:Option Flt3} {X:VT} {e:Ending} {w':World} (h:DcO base F X e w'):DcT base F X e w':=by
 cases F with
 |none=>obtain⟨x,h1,h2⟩:=h;exact⟨x,h1,h2.1⟩
 |some x=>exact h
end Go.Proofs.YtmmlkfkpblokiaaGreatDoor
namespace Go.Proofs.YtmmlkfkpblokiaaGreatDoor
set_option maxRecDepth 100000
open Go Go.RowKit Go.Sort
attribute [local go_sem] setCell_drewN alloc_drewN
def Zvr (y:VR):Prop:=∃m:Nat,m<18446744073709551616∧y=⟨m,none,0,0,none,0,0⟩
def Vat (cs:Array Value) (i:Nat) (y:VR):Prop:=∀c,c<3→cs[i*3+c]? =(vrv y).toList[c]?
structure Wpd (S:Nat→Prop) (W V:World):Prop where
 os:V.os=W.os
 tape:V.tape=W.tape
 output:V.output=W.output
 size:W.heap.size≤V.heap.size
 out:∀b:Nat,b<W.heap.size→¬S b→V.heap[b]? =W.heap[b]?
 byt:∀(b:Nat) (cs:Array Value),W.heap[b]? =some (.cells cs 5 (0,0))→∃cs':Array Value,V.heap[b]? =some (.cells cs' 5 (0,0))∧cs'.size=cs.size∧∀(j:Nat) (z:B),cs[j]? =some (.int .u8 (bv z))→∃z':B,cs'[j]? =some (.int .u8 (bv z'))
 val:∀(b:Nat) (cs:Array Value),W.heap[b]? =some (.cells cs 27 (0,0))→∃cs':Array Value,V.heap[b]? =some (.cells cs' 27 (0,0))∧cs'.size=cs.size∧∀i y,Vat cs i y→∃y',(y'=y∨Zvr y')∧Vat cs' i y'
theorem Wpd.blw {S:Nat→Prop} {W V:World} (hb:Below W.heap.size W V):Wpd S W V:=
 ⟨hb.os,hb.tape,hb.output,hb.size,fun b h _=>hb.block b h,fun b cs h=>⟨cs,(hb.block b (lt_of_row h)).trans h,rfl,fun _ z q=>⟨z,q⟩⟩,fun b cs h=>⟨cs,(hb.block b (lt_of_row h)).trans h,rfl,fun _ y q=>⟨y,.inl rfl,q⟩⟩⟩
theorem Wpd.refl (S:Nat→Prop) (W:World):Wpd S W W:=.blw (Below.refl _ _)
theorem Wpd.trans {S:Nat→Prop} {W V U:World} (h:Wpd S W V) (k:Wpd S V U):Wpd S W U:=by
 refine⟨k.os.trans h.os,k.tape.trans h.tape,k.output.trans h.output,Nat.le_trans h.size k.size,fun b hb hS=>(k.out b (Nat.lt_of_lt_of_le hb h.size) hS).trans (h.out b hb hS),fun b cs hc=>?_,fun b cs hc=>?_⟩
 ·obtain⟨c1,h1,h2,h3⟩:=h.byt b cs hc
  obtain⟨c2,k1,k2,k3⟩:=k.byt b c1 h1
  refine⟨c2,k1,k2.trans h2,fun j z q=>?_⟩
  obtain⟨z',q'⟩:=h3 j z q;exact k3 j z' q'
 ·obtain⟨c1,h1,h2,h3⟩:=h.val b cs hc
  obtain⟨c2,k1,k2,k3⟩:=k.val b c1 h1
  refine⟨c2,k1,k2.trans h2,fun i y q=>?_⟩
  obtain⟨y1,e1,q1⟩:=h3 i y q;obtain⟨y2,e2,q2⟩:=k3 i y1 q1;refine⟨y2,?_,q2⟩
  rcases e2 with e2|e2
  ·rw[e2];exact e1
  ·exact .inr e2
theorem Wpd.wid {S T:Nat→Prop} {W V:World} (h:Wpd S W V) (hk:∀b,b<W.heap.size→S b→T b):Wpd T W V:=⟨h.os,h.tape,h.output,h.size,fun b hb hT=>h.out b hb (fun q=>hT (hk b hb q)),h.byt,h.val⟩
theorem Wpd.low {S:Nat→Prop} {W V:World} {n:Nat} (h:Wpd S W V) (hS:∀b,S b→n≤b) (hn:n≤W.heap.size):Below n W V:=
 ⟨h.os,h.tape,h.output,h.size,fun k hk=>h.out k (by omega) (fun q=>by have:=hS k q;omega)⟩
theorem row_tags {W:World} {b:Nat} {cs ds:Array Value} (h:W.heap[b]? =some (.cells cs 5 (0,0))) (k:W.heap[b]? =some (.cells ds 27 (0,0))):False:=by
 rw[h] at k
 injection k with k
 injection k with _ k2 _
 revert k2
 decide
theorem Wpd.mkB {S:Nat→Prop} {W V:World} {g:Nat} {cur cs':Array Value} (h1:V.os=W.os) (h2:V.tape=W.tape) (h3:V.output=W.output) (h4:W.heap.size≤V.heap.size) (ho:∀b,b≠g→V.heap[b]? =W.heap[b]?)
 (hg:W.heap[g]? =some (.cells cur 5 (0,0))) (hS:S g) (hV:V.heap[g]? =some (.cells cs' 5 (0,0))) (hs:cs'.size=cur.size) (hb:∀(j:Nat) (z:B),cur[j]? =some (.int .u8 (bv z))→∃z':B,cs'[j]? =some (.int .u8 (bv z'))):Wpd S W V:=by
 refine⟨h1,h2,h3,h4,fun b _ hn=>ho b (fun e=>hn (e▸hS)),fun b cs hc=>?_,fun b cs hc=>?_⟩
 ·by_cases e:b=g
  ·subst e
   rw[hg] at hc
   injection hc with hc
   injection hc with hc _ _
   subst hc;exact⟨cs',hV,hs,hb⟩
  ·exact⟨cs,(ho b e).trans hc,rfl,fun j z q=>⟨z,q⟩⟩
 ·by_cases e:b=g
  ·subst e
   exact(row_tags hg hc).elim
  ·exact⟨cs,(ho b e).trans hc,rfl,fun i y q=>⟨y,.inl rfl,q⟩⟩
theorem Wpd.mkV {S:Nat→Prop} {W V:World} {g:Nat} {cur cs':Array Value} (h1:V.os=W.os) (h2:V.tape=W.tape) (h3:V.output=W.output) (h4:W.heap.size≤V.heap.size) (ho:∀b,b≠g→V.heap[b]? =W.heap[b]?)
 (hg:W.heap[g]? =some (.cells cur 27 (0,0))) (hS:S g) (hV:V.heap[g]? =some (.cells cs' 27 (0,0))) (hs:cs'.size=cur.size) (hb:∀i y,Vat cur i y→∃y',(y'=y∨Zvr y')∧Vat cs' i y'):Wpd S W V:=by
 refine⟨h1,h2,h3,h4,fun b _ hn=>ho b (fun e=>hn (e▸hS)),fun b cs hc=>?_,fun b cs hc=>?_⟩
 ·by_cases e:b=g
  ·subst e
   exact(row_tags hc hg).elim
  ·exact⟨cs,(ho b e).trans hc,rfl,fun j z q=>⟨z,q⟩⟩
 ·by_cases e:b=g
  ·subst e
   rw[hg] at hc
   injection hc with hc
   injection hc with hc _ _
   subst hc;exact⟨cs',hV,hs,hb⟩
  ·exact⟨cs,(ho b e).trans hc,rfl,fun i y q=>⟨y,.inl rfl,q⟩⟩
theorem bys_of:∀(n:Nat) (L:List Value),(∀j,j<n→∃z:B,L[j]? =some (.int .u8 (bv z)))→∃bs:List B,bs.length=n∧L.take n=(bl bs).map (Value.int .u8)
 |0,L,_=>⟨[],rfl,by simp[bl]⟩
 |n+1,[],h=>by obtain⟨z,q⟩:=h 0 (by omega);simp at q
 |n+1,u::L,h=>by
  obtain⟨z,q⟩:=h 0 (by omega)
  obtain⟨bs,h1,h2⟩:=bys_of n L (fun j hj=>by have:=h (j+1) (by omega);simpa using this)
  simp at q
  exact⟨z::bs,by simp[h1],by rw[List.take_succ_cons,h2,q];rfl⟩
theorem vrs_of (Y:Nat→VR) (L:List Value):∀(n:Nat),(∀i,i<n→∀c,c<3→L[i*3+c]? =(vrv (Y i)).toList[c]?)→L.take (n*3)=vrs ((List.range n).map Y)
 |0,_=>by simp[vrs]
 |n+1,h=>by
  have ih:=vrs_of Y L n (fun i hi=>h i (by omega))
  rw[List.range_succ,List.map_append,List.map_singleton,vrs_snoc,←ih]
  have e0:=h n (by omega) 0 (by omega)
  have e1:=h n (by omega) 1 (by omega)
  have e2:=h n (by omega) 2 (by omega)
  rw[show(n+1)*3=n*3+0+1+1+1 by omega,List.take_add_one,List.take_add_one,List.take_add_one,Nat.add_zero]
  rw[Nat.add_zero] at e0
  rw[e0,e1,show n*3+1+1=n*3+2 by omega,e2]
  simp[vrv,vrw]
theorem gx_map {Y:Nat→VR} {n i:Nat} (h:i<n):gx ((List.range n).map Y) i=Y i:=by
 rw[gx,List.getD_eq_getElem?_getD,List.getElem?_map,List.getElem?_range h];rfl
theorem own_wpd {S:Nat→Prop} {W V:World} {v:Value} {bs:List B} (h:Own W 0 v bs) (k:Wpd S W V):∃bs',bs'.length=bs.length∧Own V 0 v bs':=by
 obtain⟨h1,⟨rfl,h0⟩|⟨g,cap,cur,rfl,hbg,hg,hn,hm,hs,ht⟩⟩:=h
 ·exact⟨bs,rfl,h1,.inl ⟨rfl,h0⟩⟩
 ·obtain⟨c1,k1,k2,k3⟩:=k.byt g cur hg
  obtain⟨bs',e1,e2⟩:=bys_of bs.length c1.toList (fun j hj=>by
   have hz:cur[j]? =some (.int .u8 (bv (gb bs j))):=by
    have this:(cur.toList.take (bs.length*1))[j]? =some (Value.int .u8 (bv (gb bs j))):=by
     rw[ht,List.getElem?_map,bl,List.getElem?_map,List.getElem?_eq_getElem hj,gb,List.getD_eq_getElem?_getD,List.getElem?_eq_getElem hj];rfl
    rw[List.getElem?_take_of_lt (by omega),Array.getElem?_toList] at this
    exact this
   obtain⟨z',hz'⟩:=k3 j _ hz
   exact⟨z',by rw[Array.getElem?_toList];exact hz'⟩)
  refine⟨bs',e1,by simp[bl],.inr ⟨g,cap,c1,by rw[e1],hbg,k1,by rw[e1];exact hn,hm,by rw[k2];exact hs,by rw[e1,Nat.mul_one];exact e2⟩⟩
theorem val_at {W:World} {v:Value} {xs:List VR} {g cap:Nat} (h:W.ownsRow 0 27 3 v xs.length (vrs xs)) {cur:Array Value} (hv:v=.slice (some ⟨g,0,none⟩) xs.length cap) (hg:W.heap[g]? =some (.cells cur 27 (0,0))) {i:Nat} (hi:i<xs.length):Vat cur i (gx xs i):=by
 intro c hc
 obtain⟨h1,⟨e,_⟩|⟨g2,cap2,cur2,e,hbg,hg2,hn,hm,hs,ht⟩⟩:=h
 ·rw[hv] at e;cases e
 ·rw[hv] at e
  injection e with e1 e2 e3
  injection e1 with e1
  injection e1 with e1 _ _
  subst e1;rw[hg] at hg2
  injection hg2 with hg2
  injection hg2 with hg2 _ _
  subst hg2
  rw[←vrs_at xs i c hi hc,←ht,List.getElem?_take_of_lt (by omega),Array.getElem?_toList]
theorem par_wpd {S:Nat→Prop} {W V:World} {v:Value} {xs:List VR} (h:W.ownsRow 0 27 3 v xs.length (vrs xs)) (k:Wpd S W V):∃xs',xs'.length=xs.length∧V.ownsRow 0 27 3 v xs'.length (vrs xs')∧∀i,i<xs.length→gx xs' i=gx xs i∨Zvr (gx xs' i):=by
 have h':=h
 obtain⟨h1,⟨rfl,h0⟩|⟨g,cap,cur,rfl,hbg,hg,hn,hm,hs,ht⟩⟩:=h
 ·exact⟨xs,rfl,⟨h1,.inl ⟨rfl,h0⟩⟩,fun i hi=>by omega⟩
 ·obtain⟨c1,k1,k2,k3⟩:=k.val g cur hg
  have hy:∀i,i<xs.length→∃y',(y'=gx xs i∨Zvr y')∧Vat c1 i y':=fun i hi=>k3 i _ (val_at h' rfl hg hi)
  obtain⟨Y,hY⟩:∃Y:Nat→VR,∀i,i<xs.length→(Y i=gx xs i∨Zvr (Y i))∧Vat c1 i (Y i):=by
   classical
   refine⟨fun i=>if hi:i<xs.length then(hy i hi).choose else vr0,fun i hi=>?_⟩
   show(((if hi:i<xs.length then(hy i hi).choose else vr0)=gx xs i∨Zvr (if hi:i<xs.length then(hy i hi).choose else vr0))∧Vat c1 i (if hi:i<xs.length then(hy i hi).choose else vr0))
   rw[dif_pos hi];exact(hy i hi).choose_spec
  have hl:((List.range xs.length).map Y).length=xs.length:=by simp
  have hvs:=vrs_of Y c1.toList xs.length (fun i hi c hc=>by rw[Array.getElem?_toList];exact(hY i hi).2 c hc)
  refine⟨(List.range xs.length).map Y,hl,?_,fun i hi=>by rw[gx_map hi];exact(hY i hi).1⟩
  rw[hl]
  exact⟨by rw[vrs_len,hl],.inr ⟨g,cap,c1,rfl,hbg,k1,hn,hm,by rw[k2];exact hs,hvs⟩⟩
theorem wip_nil {W:World} {S:Nat→Prop} {y:VR} (h:Zvr y) (n:Nat):Wip W S (n+1) y:=by
 obtain⟨m,_,rfl⟩:=h
 exact .mk n _ [] [] ⟨rfl,.inl ⟨rfl,rfl⟩⟩ (fun k q=>by cases q) ⟨rfl,.inl ⟨rfl,rfl⟩⟩ (fun k q=>by cases q) (by simp) (by simp) (fun i hi=>by simp at hi)
theorem Wip.wpd {S T:Nat→Prop} {W V:World} {n:Nat} {x:VR} (h:Wip W S n x) (k:Wpd T W V):Wip V S n x:=by
 induction h with
 |mk n x bs xs hd hds hp hps hbl hxl h ih=>
  obtain⟨bs',b1,b2⟩:=own_wpd hd k;obtain⟨xs',p1,p2,p3⟩:=par_wpd hp k
  refine .mk n x bs' xs' b2 hds p2 hps (by omega) (by omega) (fun i hi=>?_)
  rcases p3 i (by omega) with e|z
  ·rw[e];exact ih i (by omega)
  ·cases n with
   |zero=>cases h i (by omega)
   |succ n=>exact wip_nil z n
theorem Wpd.setB {S:Nat→Prop} {W:World} {g j:Nat} {cur:Array Value} (hg:W.heap[g]? =some (.cells cur 5 (0,0))) (hS:S g) (z:B):Wpd S W (W.setCell ⟨g,j,none⟩ (.int .u8 (bv z))):=
 .mkB rfl rfl rfl (by simp) (fun b hb=>heap_setCell_other W _ b _ hb) hg hS (heap_setCell_same W g j cur _ _ hg) (by simp) (fun i y q=>by
  rw[Array.getElem?_setIfInBounds]
  by_cases e:j=i
  ·rw[if_pos e,if_pos (by subst e;exact(Array.getElem?_eq_some_iff.1 q).1)]
   exact⟨z,rfl⟩
  ·rw[if_neg e]
   exact⟨y,q⟩)
theorem sc_out (W:World) (a:Addr) (v:Value):(W.setCell a v).os=W.os∧(W.setCell a v).tape=W.tape∧(W.setCell a v).output=W.output∧(W.setCell a v).heap.size=W.heap.size:=⟨rfl,rfl,rfl,by simp⟩
theorem Wpd.setV {S:Nat→Prop} {W:World} {g k:Nat} {cur:Array Value} (hg:W.heap[g]? =some (.cells cur 27 (0,0))) (hS:S g) (m:Nat) (hm:m<18446744073709551616) (hk:k*3+3≤cur.size):Wpd S W (((W.setCell ⟨g,k*3,none⟩ (.int .u64 (m:Int))).setCell ⟨g,k*3+1,none⟩ (.slice none 0 0)).setCell ⟨g,k*3+2,none⟩ (.slice none 0 0)):=by
 have q1:=heap_setCell_same W g (k*3) cur _ (.int .u64 (m:Int)) hg;have q2:=heap_setCell_same _ g (k*3+1) _ _ (.slice none 0 0) q1;have q3:=heap_setCell_same _ g (k*3+2) _ _ (.slice none 0 0) q2;have s1:=sc_out W ⟨g,k*3,none⟩ (.int .u64 (m:Int))
 have o1:=fun(b:Nat) (hb:b≠g)=>heap_setCell_other W ⟨g,k*3,none⟩ b (.int .u64 (m:Int)) hb
 generalize W.setCell ⟨g,k*3,none⟩ (.int .u64 (m:Int))=W1 at *
 have s2:=sc_out W1 ⟨g,k*3+1,none⟩ (.slice none 0 0)
 have o2:=fun(b:Nat) (hb:b≠g)=>heap_setCell_other W1 ⟨g,k*3+1,none⟩ b (.slice none 0 0) hb
 generalize W1.setCell ⟨g,k*3+1,none⟩ (.slice none 0 0)=W2 at *
 have s3:=sc_out W2 ⟨g,k*3+2,none⟩ (.slice none 0 0)
 have o3:=fun(b:Nat) (hb:b≠g)=>heap_setCell_other W2 ⟨g,k*3+2,none⟩ b (.slice none 0 0) hb
 generalize W2.setCell ⟨g,k*3+2,none⟩ (.slice none 0 0)=W3 at *
 refine .mkV (s3.1.trans (s2.1.trans s1.1)) (s3.2.1.trans (s2.2.1.trans s1.2.1)) (s3.2.2.1.trans (s2.2.2.1.trans s1.2.2.1)) (by rw[s3.2.2.2,s2.2.2.2,s1.2.2.2];exact Nat.le_refl _) (fun b hb=>(o3 b hb).trans ((o2 b hb).trans (o1 b hb))) hg hS q3 (by simp) (fun i y q=>?_)
 by_cases e:i=k
 ·subst e
  refine⟨⟨m,none,0,0,none,0,0⟩,.inr ⟨m,hm,rfl⟩,fun c hc=>?_⟩
  rw[Array.getElem?_setIfInBounds,Array.getElem?_setIfInBounds,Array.getElem?_setIfInBounds]
  obtain rfl|rfl|rfl:c=0∨c=1∨c=2:=by omega
  ·rw[if_neg (by omega),if_neg (by omega),if_pos (by omega),if_pos (by first|omega|(simp;omega))];rfl
  ·rw[if_neg (by omega),if_pos (by omega),if_pos (by first|omega|(simp;omega))];rfl
  ·rw[if_pos (by omega),if_pos (by first|omega|(simp;omega))];rfl
 ·refine⟨y,.inl rfl,fun c hc=>?_⟩
  rw[Array.getElem?_setIfInBounds,Array.getElem?_setIfInBounds,Array.getElem?_setIfInBounds,if_neg (by omega),if_neg (by omega),if_neg (by omega)]
  exact q c hc
def App (e:TypeId) (size:Nat) (w w':World) (v:Value) (n:Nat) (news:List Value):Prop:=
 (∃g cur,v.ownBlock=some g∧w.heap[g]? =some (.cells cur e (0,0))∧n*size+news.length≤cur.size∧w'=w.setRow g (cur.toList.take (n*size)++news++cur.toList.drop (n*size+news.length)).toArray)∨Below w.heap.size w w'
theorem wp_append_w {P:Program} {w:World} {o:Oper} {a:Act} {K:Act→World→Prop} {Q:Exit→Act→World→Prop} (s x:Operand) (t:TypeId)
 (ho:o.op=.call {callee:=.builtin .append,args:=#[s,x],argTypes:=#[t,t]})
 (e:TypeId) (i:TypeInfo) (z:Value) (size bytes:Nat) (ht:P.underlying t=some (.slice e)) (hi:P.info? e=some i) (hz:i.zero=some z)
 (hsize:i.size=size) (hby:i.bytes=bytes) (hzs:z.cells.size=size) (hsz:0<size)
 (v:Value) (n:Nat) (xs:List Value) (hs:a.eval s=v) (hown:w.ownsRow 0 e size v n xs)
 (ad:Addr) (m c:Nat) (news:List Value) (hx:a.eval x=.slice (some ad) m c) (hl:news.length=m*size) (hm0:0<m) (hnews:∀j u,news[j]? =some u→w.cell? (ad.add j)=some u) (h1:∀u∈news,u.oneCell'=true)
 (h63:n+m≤maxLen) (hbytes:(n+m)*bytes≤140737488355328)
 (h:∀v' w',App e size w w' v n news→K (a.put o.dst v') w'):o.wp P a w K Q:=by
 have key:∃v' w',(Builtin.append_ #[t,t] o.type #[v,.slice (some ad) m c]).run P w=.ok v' w'∧App e size w w' v n news:=by
  subst hsize;subst hby
  have hsmall:n+m≤9223372036854775807:=by simp only[maxLen] at h63;omega
  have hnew:∀o,Below w.heap.size w (w.drew.alloc o):=fun o=>(below_drN (Below.refl _ _) 1).alloc (Nat.le_refl _) _
  rcases hown.2 with⟨rfl,rfl⟩|⟨g,cap,cur,rfl,hbg,hg,hnc,hcm,hcs,htake⟩
  ·have hr:=run_append_nil (P:=P) w t o.type e i z ht hi hz ad m c news hl hnews (by omega) (by omega) (by have hb:=hbytes;simp only[Nat.zero_add] at hb;omega)
   exact⟨_,_,hr,.inr (hnew _)⟩
  ·by_cases hroom:n+m≤cap
   ·have hfit:n*i.size+news.length≤cur.size:=by rw[hl,hcs,←Nat.add_mul];exact Nat.mul_le_mul_right _ hroom
    have hr:=run_append_room (P:=P) w t o.type e i ht hi g n cap cur hg ad m c news hl hnews h1 hroom hfit
    exact⟨_,_,hr,.inl ⟨g,cur,rfl,hg,hfit,rfl⟩⟩
   ·have holds:∀j u,xs[j]? =some u→w.cell? ((⟨g,0,none⟩:Addr).add j)=some u:=hown.cells (g:=g) rfl
    have hr:=run_append_grow (P:=P) w t o.type e i z ht hi hz ⟨g,0,none⟩ n cap xs hown.1 holds ad m c news hl hnews (by omega) (by omega) (growslice_fits (by omega) hbytes)
    exact⟨_,_,hr,.inr (hnew _)⟩
 obtain⟨v',w',hr,h2⟩:=key;unfold Oper.wp execOp;simp only[ho,resolve,invoke,builtin,Sem.run_bind,Sem.run_pure,Result.andThen_ok,List.map_toArray,List.map_cons,List.map_nil,hs,hx,hr];exact h v' w' h2
theorem app_get {cur:Array Value} {a:Nat} {news:List Value} (h:a+news.length≤cur.size) (j:Nat):(cur.toList.take a++news++cur.toList.drop (a+news.length)).toArray[j]? =if j<a then cur[j]? else if j<a+news.length then news[j-a]? else cur[j]? :=by
 have hl:(cur.toList.take a).length=a:=by rw[List.length_take,Array.length_toList];omega
 rw[List.getElem?_toArray]
 by_cases q1:j<a
 ·rw[if_pos q1,List.getElem?_append_left (by rw[List.length_append,hl];omega),List.getElem?_append_left (by rw[hl];exact q1),List.getElem?_take_of_lt q1,Array.getElem?_toList]
 ·rw[if_neg q1]
  by_cases q2:j<a+news.length
  ·rw[if_pos q2,List.getElem?_append_left (by rw[List.length_append,hl];omega),List.getElem?_append_right (by rw[hl];omega),hl]
  ·rw[if_neg q2,List.getElem?_append_right (by rw[List.length_append,hl];omega),List.length_append,hl,List.getElem?_drop,Array.getElem?_toList]
   congr 1
   omega
theorem app_size {cur:Array Value} {a:Nat} {news:List Value} (h:a+news.length≤cur.size):(cur.toList.take a++news++cur.toList.drop (a+news.length)).toArray.size=cur.size:=by
 simp only[List.size_toArray,List.length_append,List.length_take,List.length_drop,Array.length_toList];omega
theorem App.byt {S:Nat→Prop} {w w':World} {v:Value} {n:Nat} {news:List Value} (h:App 5 1 w w' v n news) (hS:∀k,v.ownBlock=some k→S k) (hn:∀j,j<news.length→∃z:B,news[j]? =some (.int .u8 (bv z))):Wpd S w w':=by
 rcases h with⟨g,cur,hv,hg,hf,rfl⟩|hb
 ·refine .mkB rfl rfl rfl (by simp[World.setRow]) (fun b hb=>setRow_other w g b _ hb) hg (hS g hv) (setRow_heap w g cur _ _ _ hg) (app_size hf) (fun j z q=>?_)
  rw[app_get hf]
  split
  ·exact⟨z,q⟩
  split
  ·exact hn _ (by omega)
  ·exact⟨z,q⟩
 ·exact .blw hb
theorem App.val {S:Nat→Prop} {w w':World} {v:Value} {n:Nat} {news:List Value} (h:App 27 3 w w' v n news) (hS:∀k,v.ownBlock=some k→S k) (m:Nat) (hl:news.length=m*3) (hn:∀i,i<m→∃y,Zvr y∧∀c,c<3→news[i*3+c]? =(vrv y).toList[c]?):Wpd S w w':=by
 rcases h with⟨g,cur,hv,hg,hf,rfl⟩|hb
 ·refine .mkV rfl rfl rfl (by simp[World.setRow]) (fun b hb=>setRow_other w g b _ hb) hg (hS g hv) (setRow_heap w g cur _ _ _ hg) (app_size hf) (fun i y q=>?_)
  by_cases q1:i<n
  ·exact⟨y,.inl rfl,fun c hc=>by rw[app_get hf,if_pos (by omega)];exact q c hc⟩
  by_cases q2:i<n+m
  ·obtain⟨y',z1,z2⟩:=hn (i-n) (by omega)
   refine⟨y',.inr z1,fun c hc=>?_⟩
   rw[app_get hf,if_neg (by omega),if_pos (by omega),←z2 c hc]
   congr 1
   omega
  ·exact⟨y,.inl rfl,fun c hc=>by rw[app_get hf,if_neg (by omega),if_neg (by omega)];exact q c hc⟩
 ·exact .blw hb
end Go.Proofs.YtmmlkfkpblokiaaGreatDoor
namespace Go.Proofs.YtmmlkfkpblokiaaGreatDoor
set_option maxRecDepth 100000
open Go Go.RowKit Go.Sort
attribute [local go_sem] setCell_drewN alloc_drewN
theorem infoU8T:∃i,Tryz.prog.info? 5=some i∧i.zero=some (.int .u8 0)∧i.size=1∧i.bytes=1:=⟨_,rfl,rfl,rfl,rfl⟩
theorem own_rowT {V:World} {a:Option Addr} {l c:Nat} {bs:List B} (h:Own V 0 (.slice a l c) bs) (h0:0<l):∃g cur,a=some ⟨g,0,none⟩∧V.heap[g]? =some (.cells cur 5 (0,0))∧cur.size=c∧l≤c:=by
 obtain⟨h1,⟨e,_⟩|⟨g,cap,cur,e,hbg,hg,hn,hm,hs,ht⟩⟩:=h
 ·injection e with e1 e2 e3;omega
 ·injection e with e1 e2 e3
  exact⟨g,cur,e1,hg,by omega,by omega⟩
theorem own_rowV {V:World} {a:Option Addr} {l c:Nat} {xs:List Value} (h:V.ownsRow 0 27 3 (.slice a l c) l xs) (h0:0<l):∃g cur,a=some ⟨g,0,none⟩∧V.heap[g]? =some (.cells cur 27 (0,0))∧cur.size=c*3∧l≤c:=by
 obtain⟨h1,⟨e,_⟩|⟨g,cap,cur,e,hbg,hg,hn,hm,hs,ht⟩⟩:=h
 ·injection e with e1 e2 e3;omega
 ·injection e with e1 e2 e3
  exact⟨g,cur,e1,hg,by omega,by omega⟩
theorem wip_inv {V:World} {S:Nat→Prop} {n:Nat} {x:VR} (h:Wip V S (n+1) x):∃bs xs,bs.length=x.dl∧xs.length=x.pl∧Own V 0 (.slice x.da x.dl x.dc) bs∧(∀k,(Value.slice x.da x.dl x.dc).ownBlock=some k→S k)∧V.ownsRow 0 27 3 (.slice x.pa x.pl x.pc) x.pl (vrs xs)∧(∀k,(Value.slice x.pa x.pl x.pc).ownBlock=some k→S k)∧x.dl≤140737488351232∧x.pl≤1048576∧∀i,i<x.pl→Wip V S n (gx xs i):=by
 cases h with
 |mk n x bs xs hd hds hp hps hbl hxl h=>
  have e1:bs.length=x.dl:=by
   obtain⟨_,⟨e,q⟩|⟨g,cap,cur,e,_⟩⟩:=hd
   ·injection e with e1 e2 e3;omega
   ·injection e with e1 e2 e3;omega
  have e2:xs.length=x.pl:=by
   obtain⟨_,⟨e,q⟩|⟨g,cap,cur,e,_⟩⟩:=hp
   ·injection e with e1 e2 e3;omega
   ·injection e with e1 e2 e3;omega
  exact⟨bs,xs,e1,e2,hd,hds,by rw[←e2] at hp⊢;exact hp,hps,by omega,by omega,fun i hi=>h i (by omega)⟩
set_option maxRecDepth 100000 in
set_option maxHeartbeats 16000000 in
theorem l_wipe8:∀(n:Nat) (S:Nat→Prop) (x:VR) (w:World),Wip w S n x→Calls Tryz.prog 20 #[.agg (vrv x)] w fun e w'=>(∃u,e=.returned u)∧Wpd S w w':=by
 intro n
 induction n with
 |zero=>intro S x w h;cases h
 |succ n ih=>
  intro S0 x w h0
  have h:Wip w (fun b=>S0 b∧b<w.heap.size) (n+1) x:=h0.keep ⟨Nat.le_refl _,fun b hb hS=>⟨rfl,hS,hb⟩⟩
  obtain⟨S,hSd⟩:∃S,(fun b=>S0 b∧b<w.heap.size)=S:=⟨_,rfl⟩
  rw[hSd] at h
  have hSl:∀b,S b→b<w.heap.size:=by rw[←hSd];exact fun b hb=>hb.2
  have fin:∀V,Wpd S w V→Wpd S0 w V:=fun V k=>k.wid (fun b _ q=>by rw[←hSd] at q;exact q.1)
  clear hSd h0
  have hd0:=fun V (k:Wpd S w V)=>wip_inv (h.wpd k)
  obtain⟨xn,xda,xdl,xdc,xpa,xpl,xpc⟩:=x;dsimp only at hd0;unfold vrv vrw;dsimp only;have k0:Wpd S w (w.alloc (.cells #[.int .u64 (xn:Int),.slice xda xdl xdc,.slice xpa xpl xpc] 27)):=.blw ((Below.refl w.heap.size w).alloc (Nat.le_refl _) _);have rB:=hp1_0 w (.cells #[.int .u64 (xn:Int),.slice xda xdl xdc,.slice xpa xpl xpc] 27)
  have gS:¬S w.heap.size:=fun q=>by have:=hSl _ q;omega
  clear h hSl
  go_enter Tryz.func20,Tryz.ntmps20
  go_wp2_with (fail)
  generalize w.alloc (.cells #[.int .u64 (xn:Int),.slice xda xdl xdc,.slice xpa xpl xpc] 27)=w1 at *
  have lB:=lt_of_row rB
  go_loopw [2] (fun i wr=>∃k:Nat,k≤xdl∧i=.int .i64 k∧Wpd S w1 wr) (fun i _=>xdl-(intOf i).toNat)
  case atStart=>exact⟨0,by omega,rfl,.refl _ _⟩
  case round=>
   obtain⟨k,hk,rfl,hW⟩:=hrel;have rBr:=(hW.out _ lB gS).trans rB;have cX:=cell_of_row _ _ 1 _ _ _ rBr;obtain⟨bs,xs,eb,ex,hO,hOS,hP,hPS,hbl,hxl,hpw⟩:=hd0 wr (k0.trans hW)
   by_cases hlt:k<xdl
   ·have hd:decide ((k:Int)<(xdl:Int))=true:=by simp;omega
    have hd3:0≤(k:Int)∧(k:Int)<(xdl:Int):=by omega
    obtain⟨g,cur,rfl,hg,hcs,hlc⟩:=own_rowT hO (by omega)
    obtain⟨z,hcell⟩:∃z,wr.cell? ⟨g,k,none⟩=some z:=by
     rw[cell_of_row _ _ _ _ _ _ hg]
     exact⟨_,Array.getElem?_eq_getElem (by omega)⟩
    have hfz:wr.frozen? ⟨g,k,none⟩=false:=by simp[World.frozen?,hg]
    have hset:=hide (hW.trans (Wpd.setB (j:=k) hg (hOS g rfl) 238#8));clear hO hP hpw hOS hPS hg rBr hW
    go_wp2_with (fail)
    refine⟨⟨k+1,by omega,by go_num,hset.out⟩,?_⟩
    simp[intOf];omega
   ·have hd:decide ((k:Int)<(xdl:Int))=false:=by simp;omega
    have hba:=(Below.refl wr.heap.size wr).alloc (Nat.le_refl _) (.cells #[.int .u8 221,.int .u8 221,.int .u8 221,.int .u8 221] 5)
    have r5:=hp1_0 wr (.cells #[.int .u8 221,.int .u8 221,.int .u8 221,.int .u8 221] 5);have hO2:=hO.keep hba
    have hnews:∀(j:Nat) (u:Value),([.int .u8 221,.int .u8 221,.int .u8 221,.int .u8 221]:List Value)[j]? =some u→(wr.alloc (.cells #[.int .u8 221,.int .u8 221,.int .u8 221,.int .u8 221] 5)).cell? ((⟨wr.heap.size,0,none⟩:Addr).add j)=some u:=fun j u hu=>by rw[add_off,cell_of_row _ _ _ _ _ _ r5];simpa using hu
    obtain⟨i0,hi,hz0,hz1,hz2⟩:=infoU8T
    have hOl:(wr.alloc (.cells #[.int .u8 221,.int .u8 221,.int .u8 221,.int .u8 221] 5)).ownsRow 0 5 1 (.slice xda xdl xdc) xdl ((bl bs).map (Value.int .u8)):=by rw[←eb] at hO2⊢;exact hO2
    clear hO hO2 hP hpw hPS r5
    go_wp2_with (first|(at_builtin;refine wpList_plain rfl fun K_ hKp=>wp_append_w _ _ 24 rfl 5 i0 (.int .u8 0) 1 1 Tryz.underlying24 hi hz0 hz1 hz2 rfl (by decide) (.slice xda xdl xdc) xdl _ rfl hOl ⟨wr.heap.size,0,none⟩ 4 4 [.int .u8 221,.int .u8 221,.int .u8 221,.int .u8 221] rfl rfl (by decide) hnews (by simp[Value.oneCell']) (by unfold maxLen;omega) (by omega) ?_)|fail)
    intro v' w5 hA;refine hKp _ _ ?_
    have hW5:=hide (hW.trans ((Wpd.blw hba).trans (hA.byt hOS (fun j hj=>(by
     have hj4:j<4:=hj
     obtain rfl|rfl|rfl|rfl:j=0∨j=1∨j=2∨j=3:=by omega
     all_goals exact⟨221#8,rfl⟩:∃z:B,([.int .u8 221,.int .u8 221,.int .u8 221,.int .u8 221]:List Value)[j]? =some (.int .u8 (bv z)))))))
    clear hKp hA hW hba hnews hOl hOS rBr cX eb ex hbl hxl hd bs xs
    go_wp2_with (fail)
    go_loopw [3] (fun i wr=>∃k:Nat,k≤xpl∧i=.int .i64 k∧Wpd S w1 wr) (fun i _=>xpl-(intOf i).toNat)
    case atStart=>exact⟨0,by omega,rfl,hW5.out⟩
    case round=>
     clear hW5;obtain⟨k,hk,rfl,hW⟩:=hrel;have rBr:=(hW.out _ lB gS).trans rB;have cX:=cell_of_row _ _ 2 _ _ _ rBr;obtain⟨bs,xs,eb,ex,hO,hOS,hP,hPS,hbl,hxl,hpw⟩:=hd0 wr (k0.trans hW)
     by_cases hlt:k<xpl
     ·have hd:decide ((k:Int)<(xpl:Int))=true:=by simp;omega
      have hd3:0≤(k:Int)∧(k:Int)<(xpl:Int):=by omega
      obtain⟨g,cur,rfl,hg,hcs,hlc⟩:=own_rowV hP (by omega)
      have hya:=val_at (by rw[ex];exact hP) (by rw[ex]) hg (show k<xs.length by omega)
      have hyw:=hpw k hlt
      generalize gx xs k=y at *
      have cW:=ih S y wr hyw;obtain⟨yn,yda,ydl,ydc,ypa,ypl,ypc⟩:=y
      have hr:wr.rangeAt g (k*3) [.int .u64 (yn:Int),.slice yda ydl ydc,.slice ypa ypl ypc]:=fun j v hv=>by
       have hj:j<3:=(List.getElem?_eq_some_iff.1 hv).1;rw[cell_of_row _ _ _ _ _ _ hg];exact(hya j hj).trans hv
      unfold vrv vrw at cW;dsimp only at cW;replace cW:=hide cW;replace hW:=hide hW;clear hO hP hpw hOS hPS rBr hyw hya hg
      go_wp2_with (first|(refine wpList_load_mid rfl 27 _ rfl g (k*3) rfl _ _ hr Tryz.underlying27 rfl infoV ?_)|fail)
      refine cW.out.mono ?_;rintro e_ w6 ⟨⟨u0,rfl⟩,hk6⟩;have hW6:=hide (hW.out.trans hk6);clear cW hr hW hk6 cX
      go_wp2_with (fail)
      refine⟨⟨k+1,by omega,by go_num,hW6.out⟩,?_⟩
      simp[intOf];omega
     ·have hd:decide ((k:Int)<(xpl:Int))=false:=by simp;omega
      replace hW:=hide hW
      clear hO hP hpw hOS hPS rBr
      go_wp2_with (fail)
      go_loopw [4] (fun i wr=>∃k:Nat,k≤xpl∧i=.int .i64 k∧Wpd S w1 wr) (fun i _=>xpl-(intOf i).toNat)
      case atStart=>exact⟨0,by omega,rfl,hW.out⟩
      case round=>
       clear hW cX;obtain⟨k,hk,rfl,hW⟩:=hrel;have rBr:=(hW.out _ lB gS).trans rB;have cX:=cell_of_row _ _ 2 _ _ _ rBr;obtain⟨bs,xs,eb,ex,hO,hOS,hP,hPS,hbl,hxl,hpw⟩:=hd0 wr (k0.trans hW)
       by_cases hlt:k<xpl
       ·have hd:decide ((k:Int)<(xpl:Int))=true:=by simp;omega
        have hd3:0≤(k:Int)∧(k:Int)<(xpl:Int):=by omega
        obtain⟨g,cur,rfl,hg,hcs,hlc⟩:=own_rowV hP (by omega)
        obtain⟨z0,n0⟩:∃z,wr.cell? ⟨g,k*3,none⟩=some z:=by
         rw[cell_of_row _ _ _ _ _ _ hg]
         exact⟨_,Array.getElem?_eq_getElem (by omega)⟩
        have f0:wr.frozen? ⟨g,k*3,none⟩=false:=by simp[World.frozen?,hg]
        obtain⟨z1,n1⟩:∃z,wr.cell? ⟨g,k*3+1,none⟩=some z:=by
         rw[cell_of_row _ _ _ _ _ _ hg]
         exact⟨_,Array.getElem?_eq_getElem (by omega)⟩
        have f1:wr.frozen? ⟨g,k*3+1,none⟩=false:=by simp[World.frozen?,hg]
        obtain⟨z2,n2⟩:∃z,wr.cell? ⟨g,k*3+2,none⟩=some z:=by
         rw[cell_of_row _ _ _ _ _ _ hg]
         exact⟨_,Array.getElem?_eq_getElem (by omega)⟩
        have f2:wr.frozen? ⟨g,k*3+2,none⟩=false:=by simp[World.frozen?,hg]
        have hset:=hide (hW.trans (Wpd.setV hg (hPS g rfl) 4712 (by decide) (show k*3+3≤cur.size by omega)))
        clear hO hP hpw hOS hPS hg rBr hW
        go_wp2_with (fail)
        refine⟨⟨k+1,by omega,by go_num,hset.out⟩,?_⟩
        simp[intOf];omega
       ·have hd:decide ((k:Int)<(xpl:Int))=false:=by simp;omega
        have hba:=(Below.refl wr.heap.size wr).alloc (Nat.le_refl _) (.cells #[.int .u64 4713,.slice none 0 0,.slice none 0 0,.int .u64 4713,.slice none 0 0,.slice none 0 0,.int .u64 4713,.slice none 0 0,.slice none 0 0] 27)
        have r5:=hp1_0 wr (.cells #[.int .u64 4713,.slice none 0 0,.slice none 0 0,.int .u64 4713,.slice none 0 0,.slice none 0 0,.int .u64 4713,.slice none 0 0,.slice none 0 0] 27);have hP2:=own_keep_row hP hba
        have hnews:∀(j:Nat) (u:Value),([.int .u64 4713,.slice none 0 0,.slice none 0 0,.int .u64 4713,.slice none 0 0,.slice none 0 0,.int .u64 4713,.slice none 0 0,.slice none 0 0]:List Value)[j]? =some u→(wr.alloc (.cells #[.int .u64 4713,.slice none 0 0,.slice none 0 0,.int .u64 4713,.slice none 0 0,.slice none 0 0,.int .u64 4713,.slice none 0 0,.slice none 0 0] 27)).cell? ((⟨wr.heap.size,0,none⟩:Addr).add j)=some u:=fun j u hu=>by rw[add_off,cell_of_row _ _ _ _ _ _ r5];simpa using hu
        obtain⟨iV,hiV,hiz,his,hib⟩:=infoVI;clear hO hP hpw hOS r5
        go_wp2_with (first|(at_builtin;refine wpList_plain rfl fun K_ hKp=>wp_append_w _ _ 25 rfl 27 iV (.agg #[.int .u64 0,.slice none 0 0,.slice none 0 0]) 3 56 Tryz.underlying25 hiV hiz his hib rfl (by decide) (.slice xpa xpl xpc) xpl _ rfl hP2 ⟨wr.heap.size,0,none⟩ 3 3 [.int .u64 4713,.slice none 0 0,.slice none 0 0,.int .u64 4713,.slice none 0 0,.slice none 0 0,.int .u64 4713,.slice none 0 0,.slice none 0 0] rfl rfl (by decide) hnews (by simp[Value.oneCell']) (by unfold maxLen;omega) (by omega) ?_)|fail)
        intro v' w5 hA;refine hKp _ _ ?_
        have hW5:=fin _ (k0.trans (hW.trans ((Wpd.blw hba).trans (hA.val hPS 3 rfl (fun i hi=>⟨⟨4713,none,0,0,none,0,0⟩,⟨4713,by decide,rfl⟩,fun c hc=>(by
         obtain rfl|rfl|rfl:i=0∨i=1∨i=2:=by omega
         all_goals (obtain rfl|rfl|rfl:c=0∨c=1∨c=2:=by omega)<;>rfl:([.int .u64 4713,.slice none 0 0,.slice none 0 0,.int .u64 4713,.slice none 0 0,.slice none 0 0,.int .u64 4713,.slice none 0 0,.slice none 0 0]:List Value)[i*3+c]? =(vrv ⟨4713,none,0,0,none,0,0⟩).toList[c]?)⟩)))))
        clear hKp hA hW hba hnews hP2 hPS
        go_wp2_with (fail)
        go_end0;exact⟨⟨_,rfl⟩,hW5⟩
end Go.Proofs.YtmmlkfkpblokiaaGreatDoor
