import Derived.Test.YtalgcjkiajojoaaGreatDoorQbKtk
import Derived.Laws.BitsAllLaws
import Derived.Laws.Externs
namespace Go.Proofs.YtalgcjkiajojoaaGreatDoor
set_option maxRecDepth 100000
open Go Go.RowKit Go.Sort
attribute [local go_sem] setCell_drewN alloc_drewN
section
variable (utf : List B → Bool) (flE : Nat → Nat → Int)
theorem ck_none {ts : List Slt} {x : VT} {deep : Int} (h : ckT utf flE ts x deep = none) : x.num = 0 ∧ x.dat = [] ∧ x.parts.length = ts.length ∧ chT utf flE ts x.parts deep = none := by
 unfold ckT ckN at h
 split at h
 ·cases h
 ·rename_i h1
  split at h
  ·cases h
  ·rename_i h2
   exact ⟨by omega, List.eq_nil_of_length_eq_zero (by omega), by omega, h⟩
theorem frs_none {f : VT → Option Flt3} : ∀ {xs : List VT}, frsT f xs = none → ∀ p ∈ xs, f p = none
 | [], _, p, hp => by simp at hp
 | x :: xs, h, p, hp => by
  rw [frsT] at h
  cases hx : f x with
  | some e => rw [hx] at h; cases h
  | none =>
   rw [hx] at h
   rcases List.mem_cons.1 hp with rfl | hp
   ·exact hx
   ·exact frs_none h p hp
theorem wf_ck : ∀ (ts : List Slt) (xs : List VT) (deep : Int), chT utf flE ts xs deep = none → xs.length = ts.length → wfT ts xs
 | [], xs, deep, _, _ => by rw [wfT]; exact trivial; intros; contradiction
 | _ :: _, [], _, _, h => by simp at h
 | .mk no k l m sub :: ts, x :: xs, deep, h, hl => by
  rw [chT_cons] at h
  cases hs : slT utf flE (.mk no k l m sub) x deep with
  | some f => rw [hs] at h; cases h
  | none =>
   rw [hs] at h
   rw [wfT_cons]
   refine ⟨fun hk => ?_, fun hk p hp => ?_, wf_ck ts xs deep h (by simpa using hl)⟩
   ·rw [slT_msg utf flE hk] at hs
    obtain ⟨_, _, h3, h4⟩ := ck_none utf flE hs
    exact ⟨h3, wf_ck sub x.parts _ h4 h3⟩
   ·rw [slT_lst utf flE hk] at hs
    split at hs
    ·cases hs
    ·split at hs
     ·cases hs
     ·obtain ⟨_, _, h3, h4⟩ := ck_none utf flE (frs_none hs p hp)
      exact ⟨h3, wf_ck sub p.parts _ h4 h3⟩
end
set_option maxRecDepth 100000 in
set_option maxHeartbeats 4000000 in
theorem a_CheckT {utf : List B → Bool} {flE : Nat → Nat → Int} {G : World → Prop} (hp : Plo utf flE G) {g : Nat} {ts : List Slt} (S : Nat → Prop) (x : VR) (X : VT) (w : World) (hG : G w) (hC : Cdc w g ts) (hX : VtM w S x X) (hh : 1 + (htT ts : Int) ≤ 9223372036854775807) :
 Calls Tryz.prog 11 #[.pointer (some ⟨g, 0, none⟩), .agg (vrv x)] w fun e w' => Cgt w.heap.size (ckT utf flE ts X 1) e w' ∧ Below w.heap.size w w' := by
 obtain ⟨xv, hR, hg⟩ := hC
 obtain ⟨xo, xc, rfl⟩ := hR.form
 have hcf := fun V hV => a_checkT hp hR hG S x X 1 V (hX.blw hV) hV (by omega) hh
 clear hX hh
 obtain ⟨n, da, dl, dc, pa, pl, pc⟩ := x
 unfold vrv at hcf ⊢
 generalize ckT utf flE ts X 1 = F at *
 unfold vrw at hcf ⊢
 have hb : Below w.heap.size w ((w.alloc (.cells #[.pointer (some ⟨g, 0, none⟩)] 31)).alloc (.cells #[.int .u64 (n : Int), .slice da dl dc, .slice pa pl pc] 27)) := ((Below.refl _ _).alloc (Nat.le_refl _) _).alloc (by simp) _
 have r0 := hp2_0 w (.cells #[.pointer (some ⟨g, 0, none⟩)] 31) (.cells #[.int .u64 (n : Int), .slice da dl dc, .slice pa pl pc] 27)
 have r1 := hp2_1 w (.cells #[.pointer (some ⟨g, 0, none⟩)] 31) (.cells #[.int .u64 (n : Int), .slice da dl dc, .slice pa pl pc] 27)
 have rg := keep hb hg
 have cK := a_caughtC F (.pointer (some ⟨w.heap.size, 0, none⟩)) (.pointer (some ⟨w.heap.size + 1, 0, none⟩)) ((w.alloc (.cells #[.pointer (some ⟨g, 0, none⟩)] 31)).alloc (.cells #[.int .u64 (n : Int), .slice da dl dc, .slice pa pl pc] 27)) (fun V hV => a_check1 F w.heap.size (w.heap.size + 1) g xo ts.length xc _ _ n da dl dc pa pl pc V ⟨_, keep hV r0⟩ ⟨_, keep hV r1⟩ ⟨_, keep hV rg⟩ (fun V' hV' => hcf V' (Below.after (Below.after hb hV) hV')))
 have h0 := hmf
 have A1 := hide hb
 clear hcf hb r0 r1 rg hg hR
 go_enter Tryz.func11, Tryz.ntmps11
 go_wp2_with (fail)
 refine cK.mono ?_
 rintro e_ w1 ⟨hG, hb1⟩
 replace hb1 := Below.after A1.out hb1
 have hsz := A1.out.size
 cases F with
 | none =>
  obtain rfl : e_ = .returned .nilIface := hG
  go_wp2_with (fail)
  go_ret
  exact ⟨rfl, hb1⟩
 | some f =>
  obtain ⟨q, rfl, h1, h2⟩ := hG
  go_wp2_with (fail)
  go_ret
  exact ⟨⟨q, rfl, Nat.le_trans hsz h1, h2⟩, hb1⟩
set_option maxRecDepth 100000 in
set_option maxHeartbeats 4000000 in
theorem a_EncodeT {utf : List B → Bool} {flE : Nat → Nat → Int} {G : World → Prop} (hp : Plo utf flE G) {g : Nat} {ts : List Slt} (hgd : gd ts) (S : Nat → Prop) (x : VR) (X : VT) (w : World) (hG : G w) (hC : Cdc w g ts) (hX : VtM w S x X) (hh : 1 + (htT ts : Int) ≤ 9223372036854775807) :
 Calls Tryz.prog 12 #[.pointer (some ⟨g, 0, none⟩), .agg (vrv x)] w fun e w' => Enc w.heap.size (ckT utf flE ts X 1) (enT ts X) e w' ∧ Below w.heap.size w w' := by
 have cK := hide (fun V hV => a_CheckT hp S x X V (hp.keep _ _ hG hV) (hC.keep hV) (hX.blw hV) hh)
 have hCh := hide hC
 obtain ⟨xv, hR, hg⟩ := hC
 obtain ⟨xo, xc, rfl⟩ := hR.form
 have hX2 : VtM w (fun b => b < w.heap.size) x X := hX.keep ⟨Nat.le_refl _, fun b hb _ => ⟨rfl, hb⟩⟩
 have hln : ckT utf flE ts X 1 = none → X.parts.length = ts.length ∧ wfT ts X.parts := fun h => by
  obtain ⟨_, _, h3, h4⟩ := ck_none utf flE h
  exact ⟨h3, wf_ck utf flE ts X.parts 1 h4 h3⟩
 have cE := hide (fun V (hV : Below w.heap.size w V) (hx : X.parts.length = ts.length ∧ wfT ts X.parts) => a_encodeT hR hgd w.heap.size x X V (hX2.blw hV) hV hx.1 hx.2 hV.size)
 clear hX hX2 hh hG hgd
 obtain ⟨n, da, dl, dc, pa, pl, pc⟩ := x
 unfold vrv vrw at cK cE ⊢
 generalize enT ts X = L at *
 generalize hFF : ckT utf flE ts X 1 = F at *
 generalize ((prS ts).1 : Int) = lo at *
 generalize ((prS ts).2 : Int) = hi at *
 have hb0 : Below w.heap.size w (w.alloc (.cells #[.int .u64 (n : Int), .slice da dl dc, .slice pa pl pc] 27)) := (Below.refl _ _).alloc (Nat.le_refl _) _
 have rV := hp1_0 w (.cells #[.int .u64 (n : Int), .slice da dl dc, .slice pa pl pc] 27)
 have cK1 := cK.out _ hb0
 have rg := keep hb0 hg
 have hbv := bVal #[.int .u64 (n : Int), .slice da dl dc, .slice pa pl pc]
 clear hFF hR hg cK hCh
 go_enter Tryz.func12, Tryz.ntmps12
 go_wp2_with (first | (refine wpList_load_want rfl 27 _ rfl w.heap.size rfl 27 #[.int .u64 (n : Int), .slice da dl dc, .slice pa pl pc] (0, 0) _ rV Tryz.underlying27 rfl infoV ?_) | fail)
 refine cK1.mono ?_
 rintro e_ w1 ⟨hG, hb1⟩
 replace rV := keep hb1 rV
 replace rg := keep hb1 rg
 have hs1 := hb1.size
 replace hb1 := Below.after hb0 hb1
 have hs0 := size_alloc1 w (.cells #[.int .u64 (n : Int), .slice da dl dc, .slice pa pl pc] 27)
 clear cK1 hb0 hbv
 cases F with
 | none =>
  obtain rfl : e_ = .returned .nilIface := hG
  have hx := hln rfl
  have hq := neq_nils
  clear hln
  go_wp2_with (fail)
  have hS0 : (fun W : World => Bx W w.heap.size #[.int .u64 (n : Int), .slice da dl dc, .slice pa pl pc] ∧ Bx W g #[.slice xo ts.length xc, .int .i64 lo, .int .i64 hi]) w1 := ⟨⟨_, rV⟩, ⟨_, rg⟩⟩
  refine wp_region_held (S := fun W : World => Bx W w.heap.size #[.int .u64 (n : Int), .slice da dl dc, .slice pa pl pc] ∧ Bx W g #[.slice xo ts.length xc, .int .i64 lo, .int .i64 hi]) (by kernel_rfl) ?_
  change wpAnyH _ _ _ _ _ _ _ _ (World.drew _)
  have hbd : Below w1.heap.size w1 w1.drew := below_drN (Below.refl _ _) 1
  replace hS0 : (fun W : World => Bx W w.heap.size #[.int .u64 (n : Int), .slice da dl dc, .slice pa pl pc] ∧ Bx W g #[.slice xo ts.length xc, .int .i64 lo, .int .i64 hi]) w1.drew := hS0
  replace hb1 := Below.after hb1 hbd
  have cC2 := cE.out w1.drew hb1
  clear cE hbd rV rg
  generalize w1.drew = w2 at *
  refine wpAnyH_take (i := 0) (v := ?v1) rfl (by kernel_rfl) (by kernel_rfl) (by kernel_rfl) (fun _ _ _ h => h) (Or.inl ⟨by rfl, ?y1⟩) hS0 ?r1
  case y1 =>
   intro w_ hS_
   go_simp
   try with_reducible rfl
  simp only [Act.put, List.getElem_toArray, List.getElem_cons_zero, List.setIfInBounds_toArray, List.set_cons_succ, List.set_cons_zero]
  refine wpAnyH_take (i := 1) (v := ?v2) rfl (by kernel_rfl) (by kernel_rfl) (by kernel_rfl) (fun _ _ _ h => h) (Or.inl ⟨by rfl, ?y2⟩) hS0 ?r2
  case y2 =>
   intro w_ hS_
   go_simp
   try with_reducible rfl
  simp only [Act.put, List.getElem_toArray, List.getElem_cons_succ, List.getElem_cons_zero, List.setIfInBounds_toArray, List.set_cons_succ, List.set_cons_zero]
  refine wpAnyH_take (i := 2) (v := ?v3) rfl (by kernel_rfl) (by kernel_rfl) (by kernel_rfl) (fun _ _ _ h => h) (Or.inl ⟨by rfl, ?y3⟩) hS0 ?r3
  case y3 =>
   intro w_ hS_
   go_simp
   try with_reducible rfl
  simp only [Act.put, List.getElem_toArray, List.getElem_cons_succ, List.getElem_cons_zero, List.setIfInBounds_toArray, List.set_cons_succ, List.set_cons_zero]
  refine wpAnyH_take (i := 3) (v := .slice xo ts.length xc) rfl (by kernel_rfl) (by kernel_rfl) (by kernel_rfl) (fun _ _ _ h => h) (Or.inl ⟨by rfl, ?y4⟩) hS0 ?r4
  case y4 =>
   intro w_ hS_
   obtain ⟨_, h_⟩ := hS_.2
   have c_ := cell_of_row _ _ 0 _ _ _ h_
   go_simp
   try with_reducible rfl
  simp only [Act.put, List.getElem_toArray, List.getElem_cons_succ, List.getElem_cons_zero, List.setIfInBounds_toArray, List.set_cons_succ, List.set_cons_zero]
  refine wpAnyH_take (i := 4) (v := .agg #[.int .u64 (n : Int), .slice da dl dc, .slice pa pl pc]) rfl (by kernel_rfl) (by kernel_rfl) (by kernel_rfl) (fun _ _ _ h => h) (yieldsIf_load_mid (by rfl) 27 _ rfl w.heap.size 0 rfl [.int .u64 (n : Int), .slice da dl dc, .slice pa pl pc] _ (fun _ h => range_row h.1) Tryz.underlying27 rfl infoV) hS0 ?_
  simp only [Act.put, List.getElem_toArray, List.getElem_cons_succ, List.getElem_cons_zero, List.setIfInBounds_toArray, List.set_cons_succ, List.set_cons_zero]
  have cC3 := cC2 hx
  clear cC2 hx
  refine wpAnyH_one (k := 5) (fuel := 2) (by kernel_rfl) rfl (by kernel_rfl) (fun K_ hK => ?_)
  refine wp_call_ex (R := fun u w' => Own w' w2.heap.size u L ∧ Below w2.heap.size w2 w') (by kernel_rfl) cC3 (fun u w3 hX_ => ?_)
  obtain ⟨hU, hb3⟩ := hX_
  have hU2 := own_down hU hb1.size
  have hb4 := Below.after hb1 hb3
  have hS3 : _ ∧ _ := ⟨hS0.1.keep hb3, hS0.2.keep hb3⟩
  refine hK _ _ hS3 ?_
  simp only [Act.put, List.getElem_toArray, List.getElem_cons_succ, List.getElem_cons_zero, List.setIfInBounds_toArray, List.set_cons_succ, List.set_cons_zero]
  clear hK cC3 hS0 hU hb3
  obtain ⟨ua, uc, rfl⟩ := slen_own hU2
  refine wpAnyH_one (k := 6) (fuel := 1) (by kernel_rfl) rfl (by kernel_rfl) (fun K_ hK => ?_)
  refine wp_pure_op (.slice ua L.length uc) (by kernel_rfl) ?_
  refine hK _ _ hS3 ?_
  simp only [Act.put, List.getElem_toArray, List.getElem_cons_succ, List.getElem_cons_zero, List.setIfInBounds_toArray, List.set_cons_succ, List.set_cons_zero]
  clear hK
  refine wpAnyH_one (k := 7) (fuel := 0) (by kernel_rfl) rfl (by kernel_rfl) (fun K_ hK => ?_)
  refine wp_pure_op .nilIface (by kernel_rfl) ?_
  refine hK _ _ hS3 ?_
  simp only [Act.put, List.getElem_toArray, List.getElem_cons_succ, List.getElem_cons_zero, List.setIfInBounds_toArray, List.set_cons_succ, List.set_cons_zero]
  clear hK hS3
  refine wpAnyH_done (by kernel_rfl) ?_ _
  go_wp2_with (fail)
  go_ret2
  exact ⟨⟨_, rfl, hU2⟩, hb4⟩
 | some f =>
  obtain ⟨q, rfl, h1, h2⟩ := hG
  have hq := neq_fault (.pointer (some ⟨q, 0, none⟩))
  clear rV rg
  go_wp2_with (fail)
  go_ret2
  exact ⟨⟨q, rfl, by omega, h2⟩, hb1⟩
set_option maxRecDepth 100000 in
set_option maxHeartbeats 8000000 in
theorem a_decode1T (F : Option Flt3) (Rs : World → VR → Prop) (bc bb bv g : Nat) (b : Value) (xo : Option Addr) (xn xc : Nat) (lo hi : Int) (cur : Array Value) (hcur : cur.size = 3) (w : World)
 (hc : Bx w bc #[.pointer (some ⟨g, 0, none⟩)]) (hb : Bx w bb #[b]) (hg : Bx w g #[.slice xo xn xc, .int .i64 lo, .int .i64 hi]) (hv : w.heap[bv]? = some (.cells cur 27 (0, 0))) (hbs : ∃ ao l c, b = .slice ao l c)
 (cC : ∀ V, Below w.heap.size w V → Calls Tryz.prog 23 #[.slice xo xn xc, b, .int .i64 0] V fun e w' => Gup V.heap.size F e w' (fun u => ∃ x, u = .agg (vrv x) ∧ Rs w' x) ∧ Below V.heap.size V w')
 (hst : ∀ V V' x, w.heap.size ≤ V.heap.size → Rs V x → But bv V V' → Rs V' x) (hne : bc ≠ bv ∧ bb ≠ bv ∧ g ≠ bv) :
 Calls Tryz.prog 22 #[.pointer (some ⟨bc, 0, none⟩), .pointer (some ⟨bb, 0, none⟩), .pointer (some ⟨bv, 0, none⟩)] w fun e w' => Gup w.heap.size F e w' (fun v => v = .tuple #[] ∧ ∃ x, w'.heap[bv]? = some (.cells (vrv x) 27 (0, 0)) ∧ Rs w' x) ∧ ((F ≠ none → Below w.heap.size w w') ∧ But bv w w') := by
 obtain ⟨bao, bl_, bcc, rfl⟩ := hbs
 go_enter Tryz.func22, Tryz.ntmps22
 have hbd : Below w.heap.size w w.drew := below_drN (Below.refl _ _) 1
 have hS0 : (fun W : World => Bx W bc #[.pointer (some ⟨g, 0, none⟩)] ∧ Bx W bb #[.slice bao bl_ bcc] ∧ Bx W g #[.slice xo xn xc, .int .i64 lo, .int .i64 hi]) w.drew := ⟨hc.keep hbd, hb.keep hbd, hg.keep hbd⟩
 have hv1 := keep hbd hv
 have cC2 := hide (cC w.drew hbd)
 have lbv := lt_of_row hv
 clear cC
 refine wp_region_held (S := fun W : World => Bx W bc #[.pointer (some ⟨g, 0, none⟩)] ∧ Bx W bb #[.slice bao bl_ bcc] ∧ Bx W g #[.slice xo xn xc, .int .i64 lo, .int .i64 hi]) (by kernel_rfl) ?_
 change wpAnyH _ _ _ _ _ _ _ _ (World.drew _)
 generalize w.drew = w1 at *
 refine wpAnyH_take (i := 0) (v := .pointer (some ⟨g, 0, none⟩)) rfl (by kernel_rfl) (by kernel_rfl) (by kernel_rfl) (fun _ _ _ h => h) (Or.inl ⟨by rfl, ?y8⟩) hS0 ?r8
 case y8 =>
  intro w_ hS_
  obtain ⟨_, h_⟩ := hS_.1
  have c_ := cell_of_row _ _ 0 _ _ _ h_
  go_simp
  try with_reducible rfl
 simp only [Act.put, List.getElem_toArray, List.getElem_cons_zero, List.setIfInBounds_toArray, List.set_cons_succ, List.set_cons_zero]
 refine wpAnyH_take (i := 1) (v := ?v9) rfl (by kernel_rfl) (by kernel_rfl) (by kernel_rfl) (fun _ _ _ h => h) (Or.inl ⟨by rfl, ?y9⟩) hS0 ?r9
 case y9 =>
  intro w_ hS_
  go_simp
  try with_reducible rfl
 simp only [Act.put, List.getElem_toArray, List.getElem_cons_succ, List.getElem_cons_zero, List.setIfInBounds_toArray, List.set_cons_succ, List.set_cons_zero]
 refine wpAnyH_take (i := 2) (v := ?v10) rfl (by kernel_rfl) (by kernel_rfl) (by kernel_rfl) (fun _ _ _ h => h) (Or.inl ⟨by rfl, ?y10⟩) hS0 ?r10
 case y10 =>
  intro w_ hS_
  go_simp
  try with_reducible rfl
 simp only [Act.put, List.getElem_toArray, List.getElem_cons_succ, List.getElem_cons_zero, List.setIfInBounds_toArray, List.set_cons_succ, List.set_cons_zero]
 refine wpAnyH_take (i := 3) (v := .slice xo xn xc) rfl (by kernel_rfl) (by kernel_rfl) (by kernel_rfl) (fun _ _ _ h => h) (Or.inl ⟨by rfl, ?y11⟩) hS0 ?r11
 case y11 =>
  intro w_ hS_
  obtain ⟨_, h_⟩ := hS_.2.2
  have c_ := cell_of_row _ _ 0 _ _ _ h_
  go_simp
  try with_reducible rfl
 simp only [Act.put, List.getElem_toArray, List.getElem_cons_succ, List.getElem_cons_zero, List.setIfInBounds_toArray, List.set_cons_succ, List.set_cons_zero]
 refine wpAnyH_take (i := 4) (v := .slice bao bl_ bcc) rfl (by kernel_rfl) (by kernel_rfl) (by kernel_rfl) (fun _ _ _ h => h) (Or.inl ⟨by rfl, ?y12⟩) hS0 ?r12
 case y12 =>
  intro w_ hS_
  obtain ⟨_, h_⟩ := hS_.2.1
  have c_ := cell_of_row _ _ 0 _ _ _ h_
  go_simp
  try with_reducible rfl
 simp only [Act.put, List.getElem_toArray, List.getElem_cons_succ, List.getElem_cons_zero, List.setIfInBounds_toArray, List.set_cons_succ, List.set_cons_zero]
 refine wpAnyH_one (k := 5) (fuel := 1) (by kernel_rfl) rfl (by kernel_rfl) (fun K_ hK => ?_)
 refine wp_call_upW w1.heap.size F (fun u w' => ∃ x, u = .agg (vrv x) ∧ Rs w' x) (fun w' => Below w1.heap.size w1 w') (by kernel_rfl) cC2.out ?_ ?_
 ·intro hF v_ w4 hX hb4
  obtain ⟨⟨yn, xda, xdl, xdc, xpa, xpl, xpc⟩, rfl, hRs⟩ := hX
  subst hF
  have hS4 := (⟨hS0.1.keep hb4, hS0.2.1.keep hb4, hS0.2.2.keep hb4⟩ : (fun W : World => Bx W bc #[.pointer (some ⟨g, 0, none⟩)] ∧ Bx W bb #[.slice bao bl_ bcc] ∧ Bx W g #[.slice xo xn xc, .int .i64 lo, .int .i64 hi]) w4)
  have hv4 := keep hb4 hv1
  have hw4 := Below.after hbd hb4
  refine hK _ _ hS4 ?_
  simp only [Act.put, List.getElem_toArray, List.getElem_cons_succ, List.getElem_cons_zero, List.setIfInBounds_toArray, List.set_cons_succ, List.set_cons_zero]
  clear hK
  have hone : (#[Value.int .u64 (yn : Int), .slice xda xdl xdc, .slice xpa xpl xpc] : Array Value).all (·.oneCell') = true := by simp [Value.oneCell']
  refine wpAnyH_one (k := 6) (fuel := 0) (by kernel_rfl) rfl (by kernel_rfl) (fun K_ hK => ?_)
  refine wp_store_row 27 _ _ rfl bv #[.int .u64 (yn : Int), .slice xda xdl xdc, .slice xpa xpl xpc] rfl rfl 27 _ hv4 infoV (by rw [hcur]; rfl) hone ?_
  have hB5 := But.setRow (g := bv) w4 #[.int .u64 (yn : Int), .slice xda xdl xdc, .slice xpa xpl xpc]
  have hv5 := setRow_heap w4 bv _ #[.int .u64 (yn : Int), .slice xda xdl xdc, .slice xpa xpl xpc] _ _ hv4
  have hRs5 := hst _ _ _ hw4.size hRs hB5
  have hbut := (But.of hw4).trans hB5
  refine hK _ _ ?_ ?_
  ·exact ⟨hB5.keepBx hS4.1 hne.1, hB5.keepBx hS4.2.1 hne.2.1, hB5.keepBx hS4.2.2 hne.2.2⟩
  simp only [Act.put]
  clear hK
  refine wpAnyH_done (by kernel_rfl) ?_ _
  have A1 := hide hv5
  have A2 := hide hRs5
  have A3 := hide hbut
  clear hv5 hRs5 hbut hB5 hS4 hv4 hw4 hRs hS0
  go_wp2_with (fail)
  go_end0
  exact ⟨⟨_, rfl, rfl, ⟨yn, xda, xdl, xdc, xpa, xpl, xpc⟩, A1.out, A2.out⟩, fun h => absurd rfl h, A3.out⟩
 ·intro x hF g4 w4 h1 h2 hb4
  subst hF
  have hw4 := Below.after hbd hb4
  have sz1 := hbd.size
  go_wp2_with (fail)
  exact ⟨rfl, ⟨g4, rfl, by omega, h2⟩, fun _ => hw4, But.of hw4⟩
def DcT (base : Nat) (F : Option Flt3) (X : VT) (e : Ending) (w' : World) : Prop :=
 match F with
 | none => ∃ x, e = .returned (.tuple #[.agg (vrv x), .nilIface]) ∧ VtM w' (fun b => base ≤ b) x X
 | some x => ∃ g, e = .returned (.tuple #[.agg #[.int .u64 0, .slice none 0 0, .slice none 0 0], .iface 39 (.pointer (some ⟨g, 0, none⟩))]) ∧ base ≤ g ∧ w'.heap[g]? = some (.cells (frw x) 43 (0, 0))
theorem VtM.but {W V : World} {n g : Nat} {x : VR} {X : VT} (h : VtM W (fun b => n ≤ b) x X) (hb : But g W V) (hg : g < n) : VtM V (fun b => n ≤ b) x X := h.keep ⟨hb.size, fun b hlt hS => ⟨hb.block b hlt (by omega), hS⟩⟩
set_option maxRecDepth 100000 in
set_option maxHeartbeats 8000000 in
theorem a_DecodeT {utf : List B → Bool} {flE : Nat → Nat → Int} {G : World → Prop} (hp : Plo utf flE G) {g : Nat} {ts : List Slt} (d : List B) (b : Value) (w : World) (hG : G w) (hC : Cdc w g ts) (hB : BysB w b d) (hcap : ∀ a l c, b = .slice a l c → l ≤ c) :
 Calls Tryz.prog 9 #[.pointer (some ⟨g, 0, none⟩), b] w fun e w' => DcT w.heap.size (deT utf flE ts d 0) (mgT ts d) e w' ∧ Below w.heap.size w w' := by
 have hdle : d.length ≤ 140737488355000 := hB.2.1
 obtain ⟨bao, bcc, rfl⟩ := hB.form
 generalize hbl : d.length = bl_ at *
 obtain ⟨x, hx, hg⟩ := hC
 obtain ⟨xo, xc, rfl⟩ := hx.form
 have lg := lt_of_row hg
 have r0 := hp4_0 w (.cells #[.pointer (some ⟨g, 0, none⟩)] 31) (.cells #[.slice bao bl_ bcc] 23) (.cells #[.int .u64 0, .slice none 0 0, .slice none 0 0] 27) (.cells #[.int .u64 0, .slice none 0 0, .slice none 0 0] 27)
 have r1 := hp4_1 w (.cells #[.pointer (some ⟨g, 0, none⟩)] 31) (.cells #[.slice bao bl_ bcc] 23) (.cells #[.int .u64 0, .slice none 0 0, .slice none 0 0] 27) (.cells #[.int .u64 0, .slice none 0 0, .slice none 0 0] 27)
 have r2 := hp4_2 w (.cells #[.pointer (some ⟨g, 0, none⟩)] 31) (.cells #[.slice bao bl_ bcc] 23) (.cells #[.int .u64 0, .slice none 0 0, .slice none 0 0] 27) (.cells #[.int .u64 0, .slice none 0 0, .slice none 0 0] 27)
 have r3 := hp4_3 w (.cells #[.pointer (some ⟨g, 0, none⟩)] 31) (.cells #[.slice bao bl_ bcc] 23) (.cells #[.int .u64 0, .slice none 0 0, .slice none 0 0] 27) (.cells #[.int .u64 0, .slice none 0 0, .slice none 0 0] 27)
 have hb : Below w.heap.size w ((((w.alloc (.cells #[.pointer (some ⟨g, 0, none⟩)] 31)).alloc (.cells #[.slice bao bl_ bcc] 23)).alloc (.cells #[.int .u64 0, .slice none 0 0, .slice none 0 0] 27)).alloc (.cells #[.int .u64 0, .slice none 0 0, .slice none 0 0] 27)) := ((((Below.refl _ _).alloc (Nat.le_refl _) _).alloc (by simp) _).alloc (by simp; omega) _).alloc (by simp; omega) _
 have hsz : ((((w.alloc (.cells #[.pointer (some ⟨g, 0, none⟩)] 31)).alloc (.cells #[.slice bao bl_ bcc] 23)).alloc (.cells #[.int .u64 0, .slice none 0 0, .slice none 0 0] 27)).alloc (.cells #[.int .u64 0, .slice none 0 0, .slice none 0 0] 27)).heap.size = w.heap.size + 4 := by simp
 have hB4 := hB.keep hb
 have h0 := hmf
 have hrd : Bx ((((w.alloc (.cells #[.pointer (some ⟨g, 0, none⟩)] 31)).alloc (.cells #[.slice bao bl_ bcc] 23)).alloc (.cells #[.int .u64 0, .slice none 0 0, .slice none 0 0] 27)).alloc (.cells #[.int .u64 0, .slice none 0 0, .slice none 0 0] 27)) g #[.slice xo ts.length xc, .int .i64 ((prS ts).1 : Int), .int .i64 ((prS ts).2 : Int)] := ⟨_, (hb.block g lg).trans hg⟩
 have b0 : Bx ((((w.alloc (.cells #[.pointer (some ⟨g, 0, none⟩)] 31)).alloc (.cells #[.slice bao bl_ bcc] 23)).alloc (.cells #[.int .u64 0, .slice none 0 0, .slice none 0 0] 27)).alloc (.cells #[.int .u64 0, .slice none 0 0, .slice none 0 0] 27)) w.heap.size #[.pointer (some ⟨g, 0, none⟩)] := ⟨_, r0⟩
 have b1 : Bx ((((w.alloc (.cells #[.pointer (some ⟨g, 0, none⟩)] 31)).alloc (.cells #[.slice bao bl_ bcc] 23)).alloc (.cells #[.int .u64 0, .slice none 0 0, .slice none 0 0] 27)).alloc (.cells #[.int .u64 0, .slice none 0 0, .slice none 0 0] 27)) (w.heap.size + 1) #[.slice bao bl_ bcc] := ⟨_, r1⟩
 go_enter Tryz.func9, Tryz.ntmps9
 go_upto_region 2 with (fail)
 generalize ((((w.alloc (.cells #[.pointer (some ⟨g, 0, none⟩)] 31)).alloc (.cells #[.slice bao bl_ bcc] 23)).alloc (.cells #[.int .u64 0, .slice none 0 0, .slice none 0 0] 27)).alloc (.cells #[.int .u64 0, .slice none 0 0, .slice none 0 0] 27)) = w4 at *
 have hst : ∀ V V' x g', g' < w.heap.size + 5 → VtM V (fun b => w.heap.size + 5 ≤ b) x (mgT ts d) → But g' V V' → VtM V' (fun b => w.heap.size + 5 ≤ b) x (mgT ts d) := fun V V' x g' hg' hr hbut => hr.but hbut hg'
 have cS : ∀ V, Below w4.heap.size w4 V → w4.heap.size < V.heap.size → Calls Tryz.prog 23 #[.slice xo ts.length xc, .slice bao bl_ bcc, .int .i64 0] V fun e w' => Gup V.heap.size (deT utf flE ts d 0) e w' (fun u => ∃ x, u = .agg (vrv x) ∧ VtM w' (fun b => w.heap.size + 5 ≤ b) x (mgT ts d)) ∧ Below V.heap.size V w' := by
  intro V hV hlt
  refine (a_decodeT hp hx hG V d (.slice bao bl_ bcc) 0 (by omega) (by rw [hbl]; omega) (Below.after hb hV) (hB4.keep hV) hcap).mono fun e w' hX => ⟨hX.1.mp (fun v hv => ?_), hX.2⟩
  obtain ⟨x, hv1, hv2⟩ := hv
  exact ⟨x, hv1, hv2.wid (fun b hb_ => by omega)⟩
 have cA := a_caughtD (deT utf flE ts d 0) (fun V => ∃ x, V.heap[w.heap.size + 1 + 1 + 1]? = some (.cells (vrv x) 27 (0, 0)) ∧ VtM V (fun b => w.heap.size + 5 ≤ b) x (mgT ts d)) (.pointer (some ⟨w.heap.size, 0, none⟩)) (.pointer (some ⟨w.heap.size + 1, 0, none⟩)) (.pointer (some ⟨w.heap.size + 1 + 1 + 1, 0, none⟩)) (w.heap.size + 1 + 1 + 1) w4 (by omega)
  (fun V V' hq hbut => by
   obtain ⟨pv, hq1, hq2⟩ := hq
   exact ⟨pv, hbut.row hq1 (by omega), hst V V' pv _ (by omega) hq2 hbut⟩)
  (fun V hV hlt => a_decode1T (deT utf flE ts d 0) (fun V x => VtM V (fun b => w.heap.size + 5 ≤ b) x (mgT ts d)) w.heap.size (w.heap.size + 1) (w.heap.size + 1 + 1 + 1) g (.slice bao bl_ bcc) xo ts.length xc _ _ #[.int .u64 0, .slice none 0 0, .slice none 0 0] rfl V (b0.keep hV) (b1.keep hV) (hrd.keep hV) (keep hV r3) ⟨_, _, _, rfl⟩ (fun V' hV' => cS V' (Below.after hV hV') (Nat.lt_of_lt_of_le hlt hV'.size)) (fun V1 V2 pv _ hr hbut => hst V1 V2 pv _ (by omega) hr hbut) ⟨by omega, by omega, by omega⟩)
 replace cA := hide cA
 clear cS b0 b1 hrd hB4 hx hB hcap
 go_wp2_with (fail)
 refine cA.out.mono ?_
 rintro e_ w5 ⟨hG, hbn, hBt⟩
 have r25 := hBt.row r2 (by omega)
 have hw5 := But.after hb (by omega) hBt
 clear cA
 obtain ⟨R, hR⟩ : ∃ R, deT utf flE ts d 0 = R := ⟨_, rfl⟩
 rw [hR] at hG hbn
 replace hR := hide hR
 cases R with
 | none =>
  obtain ⟨rfl, ⟨yn, xda, xdl, xdc, xpa, xpl, xpc⟩, r35, hr⟩ := hG
  have hr' := hide (hst _ (w5.setRow (w.heap.size + 1 + 1) #[.int .u64 (yn : Int), .slice xda xdl xdc, .slice xpa xpl xpc]) _ _ (by omega) hr (But.setRow (g := w.heap.size + 1 + 1) w5 #[.int .u64 (yn : Int), .slice xda xdl xdc, .slice xpa xpl xpc]))
  unfold vrv vrw at r35
  have hone : (#[Value.int .u64 (yn : Int), .slice xda xdl xdc, .slice xpa xpl xpc] : Array Value).all (·.oneCell') = true := by simp [Value.oneCell']
  have RF := hide (setRow_heap _ (w.heap.size + 1 + 1) _ #[.int .u64 (yn : Int), .slice xda xdl xdc, .slice xpa xpl xpc] _ _ r25)
  have hwF := hide (below_setRow (g := w.heap.size + 1 + 1) hw5 (by omega) #[.int .u64 (yn : Int), .slice xda xdl xdc, .slice xpa xpl xpc])
  clear hr hBt hbn hw5 hb hst
  go_wp2_with (first | (refine wpList_load_want rfl 27 _ rfl (w.heap.size + 1 + 1 + 1) rfl 27 #[.int .u64 (yn : Int), .slice xda xdl xdc, .slice xpa xpl xpc] (0, 0) _ r35 Tryz.underlying27 rfl infoV ?_) | (refine wpList_store_row rfl 27 _ _ rfl (w.heap.size + 1 + 1) #[.int .u64 (yn : Int), .slice xda xdl xdc, .slice xpa xpl xpc] rfl rfl 27 _ r25 infoV rfl hone ?_) | fail)
  refine bodyPost_ret (results_row_slot Tryz.results9 _ _ (w.heap.size + 1 + 1) _ _ _ _ _ rfl RF.out rfl Tryz.underlying27 rfl infoV) rfl ⟨?_, hwF.out⟩
  unfold DcT
  rw [hR.out]
  exact ⟨⟨yn, xda, xdl, xdc, xpa, xpl, xpc⟩, rfl, hr'.out.wid (fun b hb_ => by omega)⟩
 | some x =>
  obtain ⟨q, rfl, hq1, hq2⟩ := hG
  have r35 := keep (hbn (by simp)) r3
  have hone : (#[Value.int .u64 0, .slice none 0 0, .slice none 0 0] : Array Value).all (·.oneCell') = true := by simp [Value.oneCell']
  have RF := hide (setRow_heap _ (w.heap.size + 1 + 1) _ #[.int .u64 0, .slice none 0 0, .slice none 0 0] _ _ r25)
  have hwF := hide (below_setRow (g := w.heap.size + 1 + 1) hw5 (by omega) #[.int .u64 0, .slice none 0 0, .slice none 0 0])
  have hq3 := hide ((setRow_other w5 (w.heap.size + 1 + 1) q #[.int .u64 0, .slice none 0 0, .slice none 0 0] (by omega)).trans hq2)
  clear hq2 hBt hbn hw5 hb hst
  go_wp2_with (first | (refine wpList_load_want rfl 27 _ rfl (w.heap.size + 1 + 1 + 1) rfl 27 #[.int .u64 0, .slice none 0 0, .slice none 0 0] (0, 0) _ r35 Tryz.underlying27 rfl infoV ?_) | (refine wpList_store_row rfl 27 _ _ rfl (w.heap.size + 1 + 1) #[.int .u64 0, .slice none 0 0, .slice none 0 0] rfl rfl 27 _ r25 infoV rfl hone ?_) | fail)
  refine bodyPost_ret (results_row_slot Tryz.results9 _ _ (w.heap.size + 1 + 1) _ _ _ _ _ rfl RF.out rfl Tryz.underlying27 rfl infoV) rfl ⟨?_, hwF.out⟩
  unfold DcT
  rw [hR.out]
  exact ⟨q, rfl, by omega, hq3.out⟩
end Go.Proofs.YtalgcjkiajojoaaGreatDoor
namespace Go.Proofs.YtalgcjkiajojoaaGreatDoor
set_option maxRecDepth 100000
open Go Go.RowKit Go.Sort
attribute [local go_sem] setCell_drewN alloc_drewN
/-! What is wrong with a float's bits. -/
theorem run_bits8 (x : Nat) (w : World) : (callFunc 90 #[.float .f64 x]).run Tryz.prog w = .ok (.value (.int .u64 x)) w := by
 rw [run_callFunc_extern Tryz.func90 (by kernel_rfl) (by kernel_rfl) (by kernel_rfl) (e := Extern.MathFloatBits.float64bits) (by kernel_rfl)]; rfl
theorem run_frombits8 (z : Int) (w : World) : (callFunc 65 #[.int .u64 z]).run Tryz.prog w = .ok (.value (.float .f64 z.toNat)) w := by
 rw [run_callFunc_extern Tryz.func65 (by kernel_rfl) (by kernel_rfl) (by kernel_rfl) (e := Extern.MathFloatBits.float64frombits) (by kernel_rfl)]; rfl
theorem abs_bits8 {b : Nat} (hb : b < 18446744073709551616) : (bits .andNot .u64 (b : Int) 9223372036854775808).toNat = b % 9223372036854775808 := by
 rw [show (9223372036854775808 : Int) = ((9223372036854775808 : Nat) : Int) from rfl, u64_andNot_nat b _ hb (by decide), Int.toNat_natCast]
 exact Nat.and_two_pow_sub_one_eq_mod b 63
theorem a_abs8 (b : Nat) (hb : b < 18446744073709551616) (w : World) : Calls Tryz.prog 69 #[.float .f64 b] w fun e w' => e = .returned (.float .f64 (b % 9223372036854775808)) ∧ Below w.heap.size w w' := by
 have r1 := run_bits8 b
 have r2 := run_frombits8 (bits .andNot .u64 (b : Int) 9223372036854775808)
 rw [abs_bits8 hb] at r2
 go_enter Tryz.func69, Tryz.ntmps69
 go_wp2_with (fail)
 go_ret
 exact ⟨rfl, .refl _ _⟩
theorem a_nan8 (b : Nat) (w : World) : Calls Tryz.prog 66 #[.float .f64 b] w fun e w' => e = .returned (.bool (FloatKind.f64.format.order b b != some .eq)) ∧ Below w.heap.size w w' := by
 go_enter Tryz.func66, Tryz.ntmps66
 go_wp2_with (fail)
 go_ret
 exact ⟨rfl, .refl _ _⟩
theorem a_inf8 (b : Nat) (hb : b < 18446744073709551616) (w : World) : Calls Tryz.prog 67 #[.float .f64 b, .int .i64 0] w fun e w' => e = .returned (.bool (FloatKind.f64.format.order (b % 9223372036854775808) 9218868437227405311 == some .gt)) ∧ Below w.heap.size w w' := by
 have cA := a_abs8 b hb w
 go_enter Tryz.func67, Tryz.ntmps67
 go_wp2_with (fail)
 refine cA.mono ?_
 rintro e_ w1 ⟨rfl, hb1⟩
 go_wp2_with (fail)
 go_ret
 exact ⟨rfl, hb1⟩
theorem a_sign8 (b : Nat) (hb : b < 18446744073709551616) (w : World) : Calls Tryz.prog 68 #[.float .f64 b] w fun e w' => e = .returned (.bool (decide (9223372036854775808 ≤ b))) ∧ Below w.heap.size w w' := by
 have r1 := run_bits8 b
 have q0 : decide (wrap64 (b : Int) < 0) = decide (9223372036854775808 ≤ b) := by
  rw [decide_eq_decide]
  unfold wrap64
  omega
 go_enter Tryz.func68, Tryz.ntmps68
 go_wp2_with (fail)
 go_ret
 exact ⟨by rw [← q0]; rfl, .refl _ _⟩
def flD (n m : Nat) : Int :=
 if (FloatKind.f64.format.order n n != some .eq) = true then 84
 else if (FloatKind.f64.format.order (n % 9223372036854775808) 9218868437227405311 == some .gt) = true then 84
 else if (FloatKind.f64.format.order n 0 == some .eq) = true ∧ 9223372036854775808 ≤ n then 84
 else if (FloatKind.f64.format.order (n % 9223372036854775808) (floatOfInt .f64 (m : Int)) == some .gt) = true then 83 else 0
set_option maxRecDepth 100000 in
set_option maxHeartbeats 8000000 in
theorem a_flt8 (w : World) (n m : Nat) (hn : n < 18446744073709551616) : Calls Tryz.prog 51 #[.agg #[.float .f64 (floatOfInt .f64 (m : Int))], .int .u64 (n : Int)] w fun e w' => e = .returned (.int .i64 (flD n m)) ∧ Below w.heap.size w w' := by
 have r0 := hp1_0 w (.cells #[.float .f64 (floatOfInt .f64 (m : Int))] 138)
 have hb : Below w.heap.size w (w.alloc (.cells #[.float .f64 (floatOfInt .f64 (m : Int))] 138)) := (Below.refl _ _).alloc (Nat.le_refl _) _
 have r2 := run_frombits8 (n : Int)
 rw [Int.toNat_natCast] at r2
 have cN := a_nan8 n
 have cI := a_inf8 n hn
 have cS := a_sign8 n hn
 have cA := a_abs8 n hn
 obtain ⟨R, hR⟩ : ∃ R, flD n m = R := ⟨_, rfl⟩
 rw [hR]
 unfold flD at hR
 generalize floatOfInt .f64 (m : Int) = M at *
 generalize hx1 : (FloatKind.f64.format.order n n != some .eq) = x1 at *
 generalize hx2 : (FloatKind.f64.format.order (n % 9223372036854775808) 9218868437227405311 == some .gt) = x2 at *
 generalize hx3 : (FloatKind.f64.format.order n 0 == some .eq) = x3 at *
 generalize hx4 : (FloatKind.f64.format.order (n % 9223372036854775808) M == some .gt) = x4 at *
 generalize hx5 : decide (9223372036854775808 ≤ n) = x5 at *
 generalize n % 9223372036854775808 = N at *
 clear hx1 hx2
 go_enter Tryz.func51, Tryz.ntmps51
 go_upto_region 1 with (fail)
 generalize w.alloc (.cells #[.float .f64 M] 138) = w0 at *
 go_wp2_with (fail)
 refine (cN w0).mono ?_
 rintro e_ w1 ⟨rfl, hb1⟩
 replace r0 := keep hb1 r0
 replace hb := Below.after hb hb1
 clear hb1 cN
 cases x1
 ·go_wp2_with (fail)
  refine (cI w1).mono ?_
  rintro e_ w2 ⟨rfl, hb1⟩
  replace r0 := keep hb1 r0
  replace hb := Below.after hb hb1
  clear hb1 cI
  cases x2
  ·cases x3
   ·go_upto_region 6 with (fail)
    have hbd : Below w2.heap.size w2 w2.drew := below_drN (Below.refl _ _) 1
    have hS0 : (fun W_ : World => Bx W_ w.heap.size #[.float .f64 M]) w2.drew := ⟨_, keep hbd r0⟩
    replace hb := Below.after hb hbd
    refine wp_region_noPanic ?_
    refine wp_region_held (S := fun W_ : World => Bx W_ w.heap.size #[.float .f64 M]) (by kernel_rfl) ?_
    change wpAnyH _ _ _ _ _ _ _ _ (World.drew _)
    clear r0 hbd
    generalize w2.drew = y1 at *
    refine wpAnyH_take (i := 0) (v := ?va) rfl (by kernel_rfl) (by kernel_rfl) (by kernel_rfl) (fun _ _ _ h => h) (Or.inl ⟨by rfl, ?y1⟩) hS0 ?r1
    case y1 =>
     intro w_ hS_
     skip
     go_simp
     try with_reducible rfl
    simp only [Act.put, List.getElem_toArray, List.getElem_cons_zero, List.setIfInBounds_toArray, List.set_cons_succ, List.set_cons_zero]
    refine wpAnyH_take (i := 2) (v := ?vb) rfl (by kernel_rfl) (by kernel_rfl) (by kernel_rfl) (fun _ _ _ h => h) (Or.inl ⟨by rfl, ?y2⟩) hS0 ?r2
    case y2 =>
     intro w_ hS_
     skip
     go_simp
     try with_reducible rfl
    simp only [Act.put, List.getElem_toArray, List.getElem_cons_succ, List.getElem_cons_zero, List.setIfInBounds_toArray, List.set_cons_succ, List.set_cons_zero]
    refine wpAnyH_take (i := 3) (v := .float .f64 M) rfl (by kernel_rfl) (by kernel_rfl) (by kernel_rfl) (fun _ _ _ h => h) (Or.inl ⟨by rfl, ?y3⟩) hS0 ?r3
    case y3 =>
     intro w_ hS_
     obtain ⟨_, h_⟩ := hS_
     have c_ := cell_of_row _ _ 0 _ _ _ h_
     go_simp
     try with_reducible rfl
    simp only [Act.put, List.getElem_toArray, List.getElem_cons_succ, List.getElem_cons_zero, List.setIfInBounds_toArray, List.set_cons_succ, List.set_cons_zero]
    refine wpAnyH_one (k := 1) (fuel := 2) (by kernel_rfl) rfl (by kernel_rfl) (fun K_ hK => ?_)
    refine wp_call_ex (R := fun u w' => u = .float .f64 N ∧ Below y1.heap.size y1 w') (by kernel_rfl) ((cA y1).mono fun e w' h => ⟨_, h.1, rfl, h.2⟩) (fun u y2 hX_ => ?_)
    obtain ⟨rfl, hb2⟩ := hX_
    replace hS0 := hS0.keep hb2
    replace hb := Below.after hb hb2
    refine hK _ _ hS0 ?_
    simp only [Act.put, List.getElem_toArray, List.getElem_cons_succ, List.getElem_cons_zero, List.setIfInBounds_toArray, List.set_cons_succ, List.set_cons_zero]
    clear hK hb2 cA
    refine wpAnyH_take (i := 4) (v := .bool x4) rfl (by kernel_rfl) (by kernel_rfl) (by kernel_rfl) (fun _ _ _ h => h) (Or.inl ⟨by rfl, ?y4⟩) hS0 ?r4
    case y4 =>
     intro w_ hS_
     skip
     go_simp
     try with_reducible rfl
    simp only [Act.put, List.getElem_toArray, List.getElem_cons_succ, List.getElem_cons_zero, List.setIfInBounds_toArray, List.set_cons_succ, List.set_cons_zero]
    refine wpAnyH_take (i := 5) (v := .bool x4) rfl (by kernel_rfl) (by kernel_rfl) (by kernel_rfl) (fun _ _ _ h => h) (Or.inl ⟨by rfl, ?y5⟩) hS0 ?r5
    case y5 =>
     intro w_ hS_
     skip
     go_simp
     try with_reducible rfl
    simp only [Act.put, List.getElem_toArray, List.getElem_cons_succ, List.getElem_cons_zero, List.setIfInBounds_toArray, List.set_cons_succ, List.set_cons_zero]
    refine wpAnyH_done (by kernel_rfl) ?_ _
    refine NoPanic.normal ?_
    cases x4
    ·go_wp2
     go_ret
     exact ⟨by rw [← hR]; simp, hb⟩
    ·go_wp2
     go_ret
     exact ⟨by rw [← hR]; simp, hb⟩
   ·go_wp2_with (fail)
    refine (cS w2).mono ?_
    rintro e_ w3 ⟨rfl, hb1⟩
    replace r0 := keep hb1 r0
    replace hb := Below.after hb hb1
    clear hb1 cS
    cases x5
    ·have hlt : ¬ 9223372036854775808 ≤ n := by simpa using hx5
     go_upto_region 6 with (fail)
     have hbd : Below w3.heap.size w3 w3.drew := below_drN (Below.refl _ _) 1
     have hS0 : (fun W_ : World => Bx W_ w.heap.size #[.float .f64 M]) w3.drew := ⟨_, keep hbd r0⟩
     replace hb := Below.after hb hbd
     refine wp_region_noPanic ?_
     refine wp_region_held (S := fun W_ : World => Bx W_ w.heap.size #[.float .f64 M]) (by kernel_rfl) ?_
     change wpAnyH _ _ _ _ _ _ _ _ (World.drew _)
     clear r0 hbd
     generalize w3.drew = y1 at *
     refine wpAnyH_take (i := 0) (v := ?va) rfl (by kernel_rfl) (by kernel_rfl) (by kernel_rfl) (fun _ _ _ h => h) (Or.inl ⟨by rfl, ?y6⟩) hS0 ?r6
     case y6 =>
      intro w_ hS_
      skip
      go_simp
      try with_reducible rfl
     simp only [Act.put, List.getElem_toArray, List.getElem_cons_zero, List.setIfInBounds_toArray, List.set_cons_succ, List.set_cons_zero]
     refine wpAnyH_take (i := 2) (v := ?vb) rfl (by kernel_rfl) (by kernel_rfl) (by kernel_rfl) (fun _ _ _ h => h) (Or.inl ⟨by rfl, ?y7⟩) hS0 ?r7
     case y7 =>
      intro w_ hS_
      skip
      go_simp
      try with_reducible rfl
     simp only [Act.put, List.getElem_toArray, List.getElem_cons_succ, List.getElem_cons_zero, List.setIfInBounds_toArray, List.set_cons_succ, List.set_cons_zero]
     refine wpAnyH_take (i := 3) (v := .float .f64 M) rfl (by kernel_rfl) (by kernel_rfl) (by kernel_rfl) (fun _ _ _ h => h) (Or.inl ⟨by rfl, ?y8⟩) hS0 ?r8
     case y8 =>
      intro w_ hS_
      obtain ⟨_, h_⟩ := hS_
      have c_ := cell_of_row _ _ 0 _ _ _ h_
      go_simp
      try with_reducible rfl
     simp only [Act.put, List.getElem_toArray, List.getElem_cons_succ, List.getElem_cons_zero, List.setIfInBounds_toArray, List.set_cons_succ, List.set_cons_zero]
     refine wpAnyH_one (k := 1) (fuel := 2) (by kernel_rfl) rfl (by kernel_rfl) (fun K_ hK => ?_)
     refine wp_call_ex (R := fun u w' => u = .float .f64 N ∧ Below y1.heap.size y1 w') (by kernel_rfl) ((cA y1).mono fun e w' h => ⟨_, h.1, rfl, h.2⟩) (fun u y2 hX_ => ?_)
     obtain ⟨rfl, hb2⟩ := hX_
     replace hS0 := hS0.keep hb2
     replace hb := Below.after hb hb2
     refine hK _ _ hS0 ?_
     simp only [Act.put, List.getElem_toArray, List.getElem_cons_succ, List.getElem_cons_zero, List.setIfInBounds_toArray, List.set_cons_succ, List.set_cons_zero]
     clear hK hb2 cA
     refine wpAnyH_take (i := 4) (v := .bool x4) rfl (by kernel_rfl) (by kernel_rfl) (by kernel_rfl) (fun _ _ _ h => h) (Or.inl ⟨by rfl, ?y9⟩) hS0 ?r9
     case y9 =>
      intro w_ hS_
      skip
      go_simp
      try with_reducible rfl
     simp only [Act.put, List.getElem_toArray, List.getElem_cons_succ, List.getElem_cons_zero, List.setIfInBounds_toArray, List.set_cons_succ, List.set_cons_zero]
     refine wpAnyH_take (i := 5) (v := .bool x4) rfl (by kernel_rfl) (by kernel_rfl) (by kernel_rfl) (fun _ _ _ h => h) (Or.inl ⟨by rfl, ?y10⟩) hS0 ?r10
     case y10 =>
      intro w_ hS_
      skip
      go_simp
      try with_reducible rfl
     simp only [Act.put, List.getElem_toArray, List.getElem_cons_succ, List.getElem_cons_zero, List.setIfInBounds_toArray, List.set_cons_succ, List.set_cons_zero]
     refine wpAnyH_done (by kernel_rfl) ?_ _
     refine NoPanic.normal ?_
     cases x4
     ·go_wp2
      go_ret
      exact ⟨by rw [← hR]; simp [hlt], hb⟩
     ·go_wp2
      go_ret
      exact ⟨by rw [← hR]; simp [hlt], hb⟩
    ·have hle : 9223372036854775808 ≤ n := by simpa using hx5
     go_wp2
     go_ret
     exact ⟨by rw [← hR]; simp [hle], hb⟩
  ·go_wp2
   go_ret
   exact ⟨by rw [← hR]; rfl, hb⟩
 ·go_wp2
  go_ret
  exact ⟨by rw [← hR]; rfl, hb⟩
end Go.Proofs.YtalgcjkiajojoaaGreatDoor
namespace Go.Proofs.YtalgcjkiajojoaaGreatDoor
set_option maxRecDepth 100000
open Go Go.RowKit Go.Sort
/-! What decode reads, encode writes again. -/
section
variable (utf : List B → Bool) (flE : Nat → Nat → Int)
end
end Go.Proofs.YtalgcjkiajojoaaGreatDoor

