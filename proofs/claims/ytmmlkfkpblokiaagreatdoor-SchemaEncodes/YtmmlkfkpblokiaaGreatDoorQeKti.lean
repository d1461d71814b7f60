import Derived.Test.YtmmlkfkpblokiaaGreatDoorQeKte
import Derived.Test.YtmmlkfkpblokiaaGreatDoorQeXdb
import Derived.Laws.BitsAllLaws
import Derived.Laws.Externs
import Derived.Test.YtmmlkfkpblokiaaGreatDoorQeUg
import Derived.Lib.ValidAsc
import Derived.Lib.Endian
import Derived.Lib.EndianBits
namespace Go.Proofs.YtmmlkfkpblokiaaGreatDoor
set_option maxRecDepth 100000
open Go Go.RowKit Go.Sort
attribute [local go_sem] setCell_drewN alloc_drewN
/-! What decode finds, and what it reads, on trees. -/
section
variable (utf : List B → Bool) (flE : Nat → Nat → Int)
end
def vrs : List VR → List Value
 | [] => []
 | x :: xs => (vrv x).toList ++ vrs xs
theorem vrs_snoc : ∀ (xs : List VR) (x : VR), vrs (xs ++ [x]) = vrs xs ++ (vrv x).toList
 | [], x => by simp [vrs]
 | y :: xs, x => by rw [List.cons_append, vrs, vrs, vrs_snoc xs x, List.append_assoc]
theorem vrs_at : ∀ (xs : List VR) (i j : Nat), i < xs.length → j < 3 → (vrs xs)[i * 3 + j]? = (vrv (gx xs i)).toList[j]?
 | [], _, _, h, _ => by simp at h
 | x :: xs, 0, j, _, hj => by
  rw [vrs, Nat.zero_mul, Nat.zero_add, List.getElem?_append_left (by show j < 3; exact hj)]
  rfl
 | x :: xs, i + 1, j, h, hj => by
  rw [vrs, List.getElem?_append_right (by show 3 ≤ _; omega)]
  have : (i + 1) * 3 + j - (vrv x).toList.length = i * 3 + j := by show _ - 3 = _; omega
  rw [this, vrs_at xs i j (by simpa using h) hj]
  rfl
def PaW (W : World) (lo base : Nat) (v : Value) (xs : List VR) (ps : List VT) : Prop :=
 W.ownsRow base 27 3 v ps.length (vrs xs) ∧ xs.length = ps.length ∧ ∀ i, i < ps.length → VtM W (fun b => lo ≤ b ∧ v.ownBlock ≠ some b) (gx xs i) (gvt ps i)
theorem PaW.keep {W V : World} {lo base : Nat} {v : Value} {xs : List VR} {ps : List VT} (h : PaW W lo base v xs ps) (hb : Below W.heap.size W V) : PaW V lo base v xs ps :=
 ⟨own_keep_row h.1 hb, h.2.1, fun i hi => (h.2.2 i hi).blw hb⟩
theorem gx_lo {xs : List VR} {x : VR} {i : Nat} (h : i < xs.length) : gx (xs ++ [x]) i = gx xs i := by
 rw [gx, gx, List.getD_eq_getElem?_getD, List.getElem?_append_left h, ← List.getD_eq_getElem?_getD]
theorem gx_hi {xs : List VR} {x : VR} : gx (xs ++ [x]) xs.length = x := by
 rw [gx, List.getD_eq_getElem?_getD, List.getElem?_append_right (Nat.le_refl _), Nat.sub_self]; rfl
theorem gvt_lo {xs : List VT} {x : VT} {i : Nat} (h : i < xs.length) : gvt (xs ++ [x]) i = gvt xs i := by
 rw [gvt, gvt, List.getD_eq_getElem?_getD, List.getElem?_append_left h, ← List.getD_eq_getElem?_getD]
theorem gvt_hi {xs : List VT} {x : VT} : gvt (xs ++ [x]) xs.length = x := by
 rw [gvt, List.getD_eq_getElem?_getD, List.getElem?_append_right (Nat.le_refl _), Nat.sub_self]; rfl
theorem PaW.snoc {W W' : World} {lo base : Nat} {v v' : Value} {xs : List VR} {ps : List VT} {x : VR} {X : VT} (h : PaW W lo base v xs ps) (hx : VtM W (fun b => lo ≤ b ∧ v.ownBlock ≠ some b) x X)
 (ho : W'.ownsRow base 27 3 v' (ps.length + 1) (vrs xs ++ (vrv x).toList)) (hg : W.grownBy W' v.ownBlock) (hk : Nx W v v') : PaW W' lo base v' (xs ++ [x]) (ps ++ [X]) := by
 have hst : Sty W W' (fun b => lo ≤ b ∧ v.ownBlock ≠ some b) (fun b => lo ≤ b ∧ v'.ownBlock ≠ some b) := ⟨hg.size, fun b hb hS => ⟨hg.block b hb (fun e => hS.2 e.symm), hS.1, fun e => by
  rcases hk with q | ⟨k, q, q2⟩
  ·exact hS.2 (q.symm.trans e)
  ·rw [q] at e
   injection e with e
   omega⟩⟩
 have h21 := h.2.1
 refine ⟨by rw [List.length_append, List.length_singleton, vrs_snoc]; exact ho, by rw [List.length_append, List.length_append, h21]; rfl, fun i hi => ?_⟩
 rw [List.length_append, List.length_singleton] at hi
 rcases Nat.lt_or_ge i ps.length with q | q
 ·rw [gx_lo (by omega), gvt_lo q]
  exact (h.2.2 i q).keep hst
 ·obtain rfl : i = ps.length := by omega
  rw [gvt_hi, ← h21, gx_hi]
  exact hx.keep hst
theorem PaW.msg {W : World} {lo base : Nat} {v : Value} {xs : List VR} {ps : List VT} (h : PaW W lo base v xs ps) (hl : lo ≤ base) (hm : ps.length ≤ 5864062014634) : ∃ pa pc, v = .slice pa ps.length pc ∧ VtM W (fun b => lo ≤ b) ⟨0, none, 0, 0, pa, ps.length, pc⟩ (.mk 0 [] ps) := by
 obtain ⟨h1, h2, h3⟩ := h
 have h1' := h1
 have hB0 : BysB W (.slice none 0 0) ([] : List B) := ⟨⟨none, 0, rfl, by decide, fun j hj => by simp [bl] at hj, by simp [bl]⟩, by decide, fun a l c e _ => by cases e; rfl⟩
 have hs : ∀ i, i < ps.length → VtM W (fun b => lo ≤ b) (gx xs i) (gvt ps i) := fun i hi => (h3 i hi).keep ⟨Nat.le_refl _, fun b _ hS => ⟨rfl, hS.1⟩⟩
 obtain ⟨_, ⟨rfl, h0⟩ | ⟨g, cap, cur, rfl, hb, hg, hn, hmx, hsz, ht⟩⟩ := h1'
 ·refine ⟨none, 0, by rw [h0], .mk ⟨0, none, 0, 0, none, ps.length, 0⟩ [] xs ps (by show 0 < 18446744073709551616; decide) rfl (by decide) hB0 (Nat.le_refl _) (fun a e => by cases lv_some e) rfl h2 (by omega) hm (fun a e => by cases lv_some e) (fun i hi => by omega) hs⟩
 ·refine ⟨some ⟨g, 0, none⟩, cap, rfl, .mk ⟨0, none, 0, 0, some ⟨g, 0, none⟩, ps.length, cap⟩ [] xs ps (by show 0 < 18446744073709551616; decide) rfl (by decide) hB0 (Nat.le_refl _) (fun a e => by cases lv_some e) rfl h2 hn hm (fun a e => by cases lv_some e; exact ⟨Nat.le_trans hl hb, lt_of_row hg⟩) (fun i hi => ⟨g, 0, rfl, fun j x hx => ?_⟩) hs⟩
  have hj : j < 3 := by have := (List.getElem?_eq_some_iff.1 hx).1; exact this
  have := h1.cells (g := g) rfl (i * 3 + j) x (by rw [vrs_at xs i j (by omega) hj]; exact hx)
  rw [add_off] at this
  rw [← this, Nat.zero_add]
end Go.Proofs.YtmmlkfkpblokiaaGreatDoor
namespace Go.Proofs.YtmmlkfkpblokiaaGreatDoor
set_option maxRecDepth 100000
open Go Go.RowKit Go.Sort
attribute [local go_sem] setCell_drewN alloc_drewN
structure Fdk (W : World) (P : Nat → Prop) (f : Fd) (da : Option Addr) (dc : Nat) (at_ : Int) : Prop where
 hB : BysB W (.slice da f.dat.length dc) f.dat
 hc : f.dat.length ≤ dc
 hi : InS W P da
 ok : Fok f
 no0 : 0 ≤ f.no
 no1 : f.no ≤ 536870911
 kn : known f.ty
 fb : (fby f).length ≤ 4194304
 a0 : 0 ≤ at_
 a1 : at_ + ((fby f).length : Int) ≤ 1152921504606846976
theorem Fdk.keep {W V : World} {P : Nat → Prop} {f : Fd} {da : Option Addr} {dc : Nat} {at_ : Int} (h : Fdk W P f da dc at_) (hb : Below W.heap.size W V) : Fdk V P f da dc at_ :=
 ⟨h.hB.keep hb, h.hc, fun a e => ⟨(h.hi a e).1, Nat.lt_of_lt_of_le (h.hi a e).2 hb.size⟩, h.ok, h.no0, h.no1, h.kn, h.fb, h.a0, h.a1⟩
theorem VtM.other {W : World} {S T : Nat → Prop} {x : VR} {X : VT} (h : VtM W S x X) (g : Nat) (cs : Array Value) (hk : ∀ b, S b → b ≠ g ∧ T b) : VtM (W.setRow g cs) T x X := h.keep ⟨by simp, fun b _ hS => ⟨setRow_other W g b cs (hk b hS).1, (hk b hS).2⟩⟩
end Go.Proofs.YtmmlkfkpblokiaaGreatDoor
namespace Go.Proofs.YtmmlkfkpblokiaaGreatDoor
set_option maxRecDepth 100000
open Go Go.RowKit Go.Sort
attribute [local go_sem] setCell_drewN alloc_drewN
end Go.Proofs.YtmmlkfkpblokiaaGreatDoor
namespace Go.Proofs.YtmmlkfkpblokiaaGreatDoor
set_option maxRecDepth 100000
open Go Go.RowKit Go.Sort
attribute [local go_sem] setCell_drewN alloc_drewN
end Go.Proofs.YtmmlkfkpblokiaaGreatDoor
namespace Go.Proofs.YtmmlkfkpblokiaaGreatDoor
set_option maxRecDepth 100000
open Go Go.RowKit Go.Sort
attribute [local go_sem] setCell_drewN alloc_drewN
section
variable (utf : List B → Bool) (flE : Nat → Nat → Int)
theorem ck_none {ts : List Slt} {x : VT} {deep : Int} (h : ckT utf flE ts x deep = none) : x.num = 0 ∧ x.dat = [] ∧ x.parts.length = ts.length ∧ chT utf flE ts x.parts deep = none := by
 unfold ckT ckN at h
 split at h
 ·cases h
 ·rename_i h1
  split at h
  ·cases h
  ·rename_i h2
   exact ⟨by omega, List.eq_nil_of_length_eq_zero (by omega), by omega, h⟩
theorem frs_none {f : VT → Option Flt3} : ∀ {xs : List VT}, frsT f xs = none → ∀ p ∈ xs, f p = none
 | [], _, p, hp => by simp at hp
 | x :: xs, h, p, hp => by
  rw [frsT] at h
  cases hx : f x with
  | some e => rw [hx] at h; cases h
  | none =>
   rw [hx] at h
   rcases List.mem_cons.1 hp with rfl | hp
   ·exact hx
   ·exact frs_none h p hp
theorem wf_ck : ∀ (ts : List Slt) (xs : List VT) (deep : Int), chT utf flE ts xs deep = none → xs.length = ts.length → wfT ts xs
 | [], xs, deep, _, _ => by rw [wfT]; exact trivial; intros; contradiction
 | _ :: _, [], _, _, h => by simp at h
 | .mk no k l m sub :: ts, x :: xs, deep, h, hl => by
  rw [chT_cons] at h
  cases hs : slT utf flE (.mk no k l m sub) x deep with
  | some f => rw [hs] at h; cases h
  | none =>
   rw [hs] at h
   rw [wfT_cons]
   refine ⟨fun hk => ?_, fun hk p hp => ?_, wf_ck ts xs deep h (by simpa using hl)⟩
   ·rw [slT_msg utf flE hk] at hs
    obtain ⟨_, _, h3, h4⟩ := ck_none utf flE hs
    exact ⟨h3, wf_ck sub x.parts _ h4 h3⟩
   ·rw [slT_lst utf flE hk] at hs
    split at hs
    ·cases hs
    ·split at hs
     ·cases hs
     ·obtain ⟨_, _, h3, h4⟩ := ck_none utf flE (frs_none hs p hp)
      exact ⟨h3, wf_ck sub p.parts _ h4 h3⟩
end
set_option maxRecDepth 100000 in
set_option maxHeartbeats 4000000 in
theorem a_CheckT {utf : List B → Bool} {flE : Nat → Nat → Int} {G : World → Prop} (hp : Plo utf flE G) {g : Nat} {ts : List Slt} (S : Nat → Prop) (x : VR) (X : VT) (w : World) (hG : G w) (hC : Cdc w g ts) (hX : VtM w S x X) (hh : 1 + (htT ts : Int) ≤ 9223372036854775807) :
 Calls Tryz.prog 12 #[.pointer (some ⟨g, 0, none⟩), .agg (vrv x)] w fun e w' => Cgt w.heap.size (ckT utf flE ts X 1) e w' ∧ Below w.heap.size w w' := by
 obtain ⟨xv, hR, hg⟩ := hC
 obtain ⟨xo, xc, rfl⟩ := hR.form
 have hcf := fun V hV => a_checkT hp hR hG S x X 1 V (hX.blw hV) hV (by omega) hh
 clear hX hh
 obtain ⟨n, da, dl, dc, pa, pl, pc⟩ := x
 unfold vrv at hcf ⊢
 generalize ckT utf flE ts X 1 = F at *
 unfold vrw at hcf ⊢
 have hb : Below w.heap.size w ((w.alloc (.cells #[.pointer (some ⟨g, 0, none⟩)] 30)).alloc (.cells #[.int .u64 (n : Int), .slice da dl dc, .slice pa pl pc] 27)) := ((Below.refl _ _).alloc (Nat.le_refl _) _).alloc (by simp) _
 have r0 := hp2_0 w (.cells #[.pointer (some ⟨g, 0, none⟩)] 30) (.cells #[.int .u64 (n : Int), .slice da dl dc, .slice pa pl pc] 27)
 have r1 := hp2_1 w (.cells #[.pointer (some ⟨g, 0, none⟩)] 30) (.cells #[.int .u64 (n : Int), .slice da dl dc, .slice pa pl pc] 27)
 have rg := keep hb hg
 have cK := a_caughtC F (.pointer (some ⟨w.heap.size, 0, none⟩)) (.pointer (some ⟨w.heap.size + 1, 0, none⟩)) ((w.alloc (.cells #[.pointer (some ⟨g, 0, none⟩)] 30)).alloc (.cells #[.int .u64 (n : Int), .slice da dl dc, .slice pa pl pc] 27)) (fun V hV => a_check1 F w.heap.size (w.heap.size + 1) g xo ts.length xc _ _ n da dl dc pa pl pc V ⟨_, keep hV r0⟩ ⟨_, keep hV r1⟩ ⟨_, keep hV rg⟩ (fun V' hV' => hcf V' (Below.after (Below.after hb hV) hV')))
 have h0 := hmf
 have A1 := hide hb
 clear hcf hb r0 r1 rg hg hR
 go_enter Tryz.func12, Tryz.ntmps12
 go_wp2_with (fail)
 refine cK.mono ?_
 rintro e_ w1 ⟨hG, hb1⟩
 replace hb1 := Below.after A1.out hb1
 have hsz := A1.out.size
 cases F with
 | none =>
  obtain rfl : e_ = .returned .nilIface := hG
  go_wp2_with (fail)
  go_ret
  exact ⟨rfl, hb1⟩
 | some f =>
  obtain ⟨q, rfl, h1, h2⟩ := hG
  go_wp2_with (fail)
  go_ret
  exact ⟨⟨q, rfl, Nat.le_trans hsz h1, h2⟩, hb1⟩
set_option maxRecDepth 100000 in
set_option maxHeartbeats 4000000 in
theorem a_EncodeT {utf : List B → Bool} {flE : Nat → Nat → Int} {G : World → Prop} (hp : Plo utf flE G) {g : Nat} {ts : List Slt} (hgd : gd ts) (S : Nat → Prop) (x : VR) (X : VT) (w : World) (hG : G w) (hC : Cdc w g ts) (hX : VtM w S x X) (hh : 1 + (htT ts : Int) ≤ 9223372036854775807) :
 Calls Tryz.prog 15 #[.pointer (some ⟨g, 0, none⟩), .agg (vrv x)] w fun e w' => Enc w.heap.size (ckT utf flE ts X 1) (enT ts X) e w' ∧ Below w.heap.size w w' := by
 have cK := hide (fun V hV => a_CheckT hp S x X V (hp.keep _ _ hG hV) (hC.keep hV) (hX.blw hV) hh)
 have hCh := hide hC
 obtain ⟨xv, hR, hg⟩ := hC
 obtain ⟨xo, xc, rfl⟩ := hR.form
 have hX2 : VtM w (fun b => b < w.heap.size) x X := hX.keep ⟨Nat.le_refl _, fun b hb _ => ⟨rfl, hb⟩⟩
 have hln : ckT utf flE ts X 1 = none → X.parts.length = ts.length ∧ wfT ts X.parts := fun h => by
  obtain ⟨_, _, h3, h4⟩ := ck_none utf flE h
  exact ⟨h3, wf_ck utf flE ts X.parts 1 h4 h3⟩
 have cE := hide (fun V (hV : Below w.heap.size w V) (hx : X.parts.length = ts.length ∧ wfT ts X.parts) => a_encodeT hR hgd w.heap.size x X V (hX2.blw hV) hV hx.1 hx.2 hV.size)
 clear hX hX2 hh hG hgd
 obtain ⟨n, da, dl, dc, pa, pl, pc⟩ := x
 unfold vrv vrw at cK cE ⊢
 generalize enT ts X = L at *
 generalize hFF : ckT utf flE ts X 1 = F at *
 generalize ((prS ts).1 : Int) = lo at *
 generalize ((prS ts).2 : Int) = hi at *
 have hb0 : Below w.heap.size w (w.alloc (.cells #[.int .u64 (n : Int), .slice da dl dc, .slice pa pl pc] 27)) := (Below.refl _ _).alloc (Nat.le_refl _) _
 have rV := hp1_0 w (.cells #[.int .u64 (n : Int), .slice da dl dc, .slice pa pl pc] 27)
 have cK1 := cK.out _ hb0
 have rg := keep hb0 hg
 have hbv := bVal #[.int .u64 (n : Int), .slice da dl dc, .slice pa pl pc]
 clear hFF hR hg cK hCh
 go_enter Tryz.func15, Tryz.ntmps15
 go_wp2_with (first | (refine wpList_load_want rfl 27 _ rfl w.heap.size rfl 27 #[.int .u64 (n : Int), .slice da dl dc, .slice pa pl pc] (0, 0) _ rV Tryz.underlying27 rfl infoV ?_) | fail)
 refine cK1.mono ?_
 rintro e_ w1 ⟨hG, hb1⟩
 replace rV := keep hb1 rV
 replace rg := keep hb1 rg
 have hs1 := hb1.size
 replace hb1 := Below.after hb0 hb1
 have hs0 := size_alloc1 w (.cells #[.int .u64 (n : Int), .slice da dl dc, .slice pa pl pc] 27)
 clear cK1 hb0 hbv
 cases F with
 | none =>
  obtain rfl : e_ = .returned .nilIface := hG
  have hx := hln rfl
  have hq := neq_nils
  clear hln
  go_wp2_with (fail)
  have hS0 : (fun W : World => Bx W w.heap.size #[.int .u64 (n : Int), .slice da dl dc, .slice pa pl pc] ∧ Bx W g #[.slice xo ts.length xc, .int .i64 lo, .int .i64 hi]) w1 := ⟨⟨_, rV⟩, ⟨_, rg⟩⟩
  refine wp_region_held (S := fun W : World => Bx W w.heap.size #[.int .u64 (n : Int), .slice da dl dc, .slice pa pl pc] ∧ Bx W g #[.slice xo ts.length xc, .int .i64 lo, .int .i64 hi]) (by kernel_rfl) ?_
  change wpAnyH _ _ _ _ _ _ _ _ (World.drew _)
  have hbd : Below w1.heap.size w1 w1.drew := below_drN (Below.refl _ _) 1
  replace hS0 : (fun W : World => Bx W w.heap.size #[.int .u64 (n : Int), .slice da dl dc, .slice pa pl pc] ∧ Bx W g #[.slice xo ts.length xc, .int .i64 lo, .int .i64 hi]) w1.drew := hS0
  replace hb1 := Below.after hb1 hbd
  have cC2 := cE.out w1.drew hb1
  clear cE hbd rV rg
  generalize w1.drew = w2 at *
  refine wpAnyH_take (i := 0) (v := ?v1) rfl (by kernel_rfl) (by kernel_rfl) (by kernel_rfl) (fun _ _ _ h => h) (Or.inl ⟨by rfl, ?y1⟩) hS0 ?r1
  case y1 =>
   intro w_ hS_
   go_simp
   try with_reducible rfl
  simp only [Act.put, List.getElem_toArray, List.getElem_cons_zero, List.setIfInBounds_toArray, List.set_cons_succ, List.set_cons_zero]
  refine wpAnyH_take (i := 1) (v := ?v2) rfl (by kernel_rfl) (by kernel_rfl) (by kernel_rfl) (fun _ _ _ h => h) (Or.inl ⟨by rfl, ?y2⟩) hS0 ?r2
  case y2 =>
   intro w_ hS_
   go_simp
   try with_reducible rfl
  simp only [Act.put, List.getElem_toArray, List.getElem_cons_succ, List.getElem_cons_zero, List.setIfInBounds_toArray, List.set_cons_succ, List.set_cons_zero]
  refine wpAnyH_take (i := 2) (v := ?v3) rfl (by kernel_rfl) (by kernel_rfl) (by kernel_rfl) (fun _ _ _ h => h) (Or.inl ⟨by rfl, ?y3⟩) hS0 ?r3
  case y3 =>
   intro w_ hS_
   go_simp
   try with_reducible rfl
  simp only [Act.put, List.getElem_toArray, List.getElem_cons_succ, List.getElem_cons_zero, List.setIfInBounds_toArray, List.set_cons_succ, List.set_cons_zero]
  refine wpAnyH_take (i := 3) (v := .slice xo ts.length xc) rfl (by kernel_rfl) (by kernel_rfl) (by kernel_rfl) (fun _ _ _ h => h) (Or.inl ⟨by rfl, ?y4⟩) hS0 ?r4
  case y4 =>
   intro w_ hS_
   obtain ⟨_, h_⟩ := hS_.2
   have c_ := cell_of_row _ _ 0 _ _ _ h_
   go_simp
   try with_reducible rfl
  simp only [Act.put, List.getElem_toArray, List.getElem_cons_succ, List.getElem_cons_zero, List.setIfInBounds_toArray, List.set_cons_succ, List.set_cons_zero]
  refine wpAnyH_take (i := 4) (v := .agg #[.int .u64 (n : Int), .slice da dl dc, .slice pa pl pc]) rfl (by kernel_rfl) (by kernel_rfl) (by kernel_rfl) (fun _ _ _ h => h) (yieldsIf_load_mid (by rfl) 27 _ rfl w.heap.size 0 rfl [.int .u64 (n : Int), .slice da dl dc, .slice pa pl pc] _ (fun _ h => range_row h.1) Tryz.underlying27 rfl infoV) hS0 ?_
  simp only [Act.put, List.getElem_toArray, List.getElem_cons_succ, List.getElem_cons_zero, List.setIfInBounds_toArray, List.set_cons_succ, List.set_cons_zero]
  have cC3 := cC2 hx
  clear cC2 hx
  refine wpAnyH_one (k := 5) (fuel := 2) (by kernel_rfl) rfl (by kernel_rfl) (fun K_ hK => ?_)
  refine wp_call_ex (R := fun u w' => Own w' w2.heap.size u L ∧ Below w2.heap.size w2 w') (by kernel_rfl) cC3 (fun u w3 hX_ => ?_)
  obtain ⟨hU, hb3⟩ := hX_
  have hU2 := own_down hU hb1.size
  have hb4 := Below.after hb1 hb3
  have hS3 : _ ∧ _ := ⟨hS0.1.keep hb3, hS0.2.keep hb3⟩
  refine hK _ _ hS3 ?_
  simp only [Act.put, List.getElem_toArray, List.getElem_cons_succ, List.getElem_cons_zero, List.setIfInBounds_toArray, List.set_cons_succ, List.set_cons_zero]
  clear hK cC3 hS0 hU hb3
  obtain ⟨ua, uc, rfl⟩ := slen_own hU2
  refine wpAnyH_one (k := 6) (fuel := 1) (by kernel_rfl) rfl (by kernel_rfl) (fun K_ hK => ?_)
  refine wp_pure_op (.slice ua L.length uc) (by kernel_rfl) ?_
  refine hK _ _ hS3 ?_
  simp only [Act.put, List.getElem_toArray, List.getElem_cons_succ, List.getElem_cons_zero, List.setIfInBounds_toArray, List.set_cons_succ, List.set_cons_zero]
  clear hK
  refine wpAnyH_one (k := 7) (fuel := 0) (by kernel_rfl) rfl (by kernel_rfl) (fun K_ hK => ?_)
  refine wp_pure_op .nilIface (by kernel_rfl) ?_
  refine hK _ _ hS3 ?_
  simp only [Act.put, List.getElem_toArray, List.getElem_cons_succ, List.getElem_cons_zero, List.setIfInBounds_toArray, List.set_cons_succ, List.set_cons_zero]
  clear hK hS3
  refine wpAnyH_done (by kernel_rfl) ?_ _
  go_wp2_with (fail)
  go_ret2
  exact ⟨⟨_, rfl, hU2⟩, hb4⟩
 | some f =>
  obtain ⟨q, rfl, h1, h2⟩ := hG
  have hq := neq_fault (.pointer (some ⟨q, 0, none⟩))
  clear rV rg
  go_wp2_with (fail)
  go_ret2
  exact ⟨⟨q, rfl, by omega, h2⟩, hb1⟩
theorem VtM.but {W V : World} {n g : Nat} {x : VR} {X : VT} (h : VtM W (fun b => n ≤ b) x X) (hb : But g W V) (hg : g < n) : VtM V (fun b => n ≤ b) x X := h.keep ⟨hb.size, fun b hlt hS => ⟨hb.block b hlt (by omega), hS⟩⟩
end Go.Proofs.YtmmlkfkpblokiaaGreatDoor
namespace Go.Proofs.YtmmlkfkpblokiaaGreatDoor
set_option maxRecDepth 100000
open Go Go.RowKit Go.Sort
attribute [local go_sem] setCell_drewN alloc_drewN
/-! What is wrong with a float's bits. -/
theorem run_bits8 (x : Nat) (w : World) : (callFunc 138 #[.float .f64 x]).run Tryz.prog w = .ok (.value (.int .u64 x)) w := by
 rw [run_callFunc_extern Tryz.func138 (by kernel_rfl) (by kernel_rfl) (by kernel_rfl) (e := Extern.MathFloatBits.float64bits) (by kernel_rfl)]; rfl
theorem run_frombits8 (z : Int) (w : World) : (callFunc 117 #[.int .u64 z]).run Tryz.prog w = .ok (.value (.float .f64 z.toNat)) w := by
 rw [run_callFunc_extern Tryz.func117 (by kernel_rfl) (by kernel_rfl) (by kernel_rfl) (e := Extern.MathFloatBits.float64frombits) (by kernel_rfl)]; rfl
theorem abs_bits8 {b : Nat} (hb : b < 18446744073709551616) : (bits .andNot .u64 (b : Int) 9223372036854775808).toNat = b % 9223372036854775808 := by
 rw [show (9223372036854775808 : Int) = ((9223372036854775808 : Nat) : Int) from rfl, u64_andNot_nat b _ hb (by decide), Int.toNat_natCast]
 exact Nat.and_two_pow_sub_one_eq_mod b 63
theorem a_abs8 (b : Nat) (hb : b < 18446744073709551616) (w : World) : Calls Tryz.prog 121 #[.float .f64 b] w fun e w' => e = .returned (.float .f64 (b % 9223372036854775808)) ∧ Below w.heap.size w w' := by
 have r1 := run_bits8 b
 have r2 := run_frombits8 (bits .andNot .u64 (b : Int) 9223372036854775808)
 rw [abs_bits8 hb] at r2
 go_enter Tryz.func121, Tryz.ntmps121
 go_wp2_with (fail)
 go_ret
 exact ⟨rfl, .refl _ _⟩
theorem a_nan8 (b : Nat) (w : World) : Calls Tryz.prog 118 #[.float .f64 b] w fun e w' => e = .returned (.bool (FloatKind.f64.format.order b b != some .eq)) ∧ Below w.heap.size w w' := by
 go_enter Tryz.func118, Tryz.ntmps118
 go_wp2_with (fail)
 go_ret
 exact ⟨rfl, .refl _ _⟩
theorem a_inf8 (b : Nat) (hb : b < 18446744073709551616) (w : World) : Calls Tryz.prog 119 #[.float .f64 b, .int .i64 0] w fun e w' => e = .returned (.bool (FloatKind.f64.format.order (b % 9223372036854775808) 9218868437227405311 == some .gt)) ∧ Below w.heap.size w w' := by
 have cA := a_abs8 b hb w
 go_enter Tryz.func119, Tryz.ntmps119
 go_wp2_with (fail)
 refine cA.mono ?_
 rintro e_ w1 ⟨rfl, hb1⟩
 go_wp2_with (fail)
 go_ret
 exact ⟨rfl, hb1⟩
theorem a_sign8 (b : Nat) (hb : b < 18446744073709551616) (w : World) : Calls Tryz.prog 120 #[.float .f64 b] w fun e w' => e = .returned (.bool (decide (9223372036854775808 ≤ b))) ∧ Below w.heap.size w w' := by
 have r1 := run_bits8 b
 have q0 : decide (wrap64 (b : Int) < 0) = decide (9223372036854775808 ≤ b) := by
  rw [decide_eq_decide]
  unfold wrap64
  omega
 go_enter Tryz.func120, Tryz.ntmps120
 go_wp2_with (fail)
 go_ret
 exact ⟨by rw [← q0]; rfl, .refl _ _⟩
def flD (n m : Nat) : Int :=
 if (FloatKind.f64.format.order n n != some .eq) = true then 84
 else if (FloatKind.f64.format.order (n % 9223372036854775808) 9218868437227405311 == some .gt) = true then 84
 else if (FloatKind.f64.format.order n 0 == some .eq) = true ∧ 9223372036854775808 ≤ n then 84
 else if (FloatKind.f64.format.order (n % 9223372036854775808) (floatOfInt .f64 (m : Int)) == some .gt) = true then 83 else 0
set_option maxRecDepth 100000 in
set_option maxHeartbeats 8000000 in
theorem a_flt8 (w : World) (n m : Nat) (hn : n < 18446744073709551616) : Calls Tryz.prog 93 #[.agg #[.float .f64 (floatOfInt .f64 (m : Int))], .int .u64 (n : Int)] w fun e w' => e = .returned (.int .i64 (flD n m)) ∧ Below w.heap.size w w' := by
 have r0 := hp1_0 w (.cells #[.float .f64 (floatOfInt .f64 (m : Int))] 183)
 have hb : Below w.heap.size w (w.alloc (.cells #[.float .f64 (floatOfInt .f64 (m : Int))] 183)) := (Below.refl _ _).alloc (Nat.le_refl _) _
 have r2 := run_frombits8 (n : Int)
 rw [Int.toNat_natCast] at r2
 have cN := a_nan8 n
 have cI := a_inf8 n hn
 have cS := a_sign8 n hn
 have cA := a_abs8 n hn
 obtain ⟨R, hR⟩ : ∃ R, flD n m = R := ⟨_, rfl⟩
 rw [hR]
 unfold flD at hR
 generalize floatOfInt .f64 (m : Int) = M at *
 generalize hx1 : (FloatKind.f64.format.order n n != some .eq) = x1 at *
 generalize hx2 : (FloatKind.f64.format.order (n % 9223372036854775808) 9218868437227405311 == some .gt) = x2 at *
 generalize hx3 : (FloatKind.f64.format.order n 0 == some .eq) = x3 at *
 generalize hx4 : (FloatKind.f64.format.order (n % 9223372036854775808) M == some .gt) = x4 at *
 generalize hx5 : decide (9223372036854775808 ≤ n) = x5 at *
 generalize n % 9223372036854775808 = N at *
 clear hx1 hx2
 go_enter Tryz.func93, Tryz.ntmps93
 go_upto_region 1 with (fail)
 generalize w.alloc (.cells #[.float .f64 M] 183) = w0 at *
 go_wp2_with (fail)
 refine (cN w0).mono ?_
 rintro e_ w1 ⟨rfl, hb1⟩
 replace r0 := keep hb1 r0
 replace hb := Below.after hb hb1
 clear hb1 cN
 cases x1
 ·go_wp2_with (fail)
  refine (cI w1).mono ?_
  rintro e_ w2 ⟨rfl, hb1⟩
  replace r0 := keep hb1 r0
  replace hb := Below.after hb hb1
  clear hb1 cI
  cases x2
  ·cases x3
   ·go_upto_region 6 with (fail)
    have hbd : Below w2.heap.size w2 w2.drew := below_drN (Below.refl _ _) 1
    have hS0 : (fun W_ : World => Bx W_ w.heap.size #[.float .f64 M]) w2.drew := ⟨_, keep hbd r0⟩
    replace hb := Below.after hb hbd
    refine wp_region_noPanic ?_
    refine wp_region_held (S := fun W_ : World => Bx W_ w.heap.size #[.float .f64 M]) (by kernel_rfl) ?_
    change wpAnyH _ _ _ _ _ _ _ _ (World.drew _)
    clear r0 hbd
    generalize w2.drew = y1 at *
    refine wpAnyH_take (i := 0) (v := ?va) rfl (by kernel_rfl) (by kernel_rfl) (by kernel_rfl) (fun _ _ _ h => h) (Or.inl ⟨by rfl, ?y1⟩) hS0 ?r1
    case y1 =>
     intro w_ hS_
     skip
     go_simp
     try with_reducible rfl
    simp only [Act.put, List.getElem_toArray, List.getElem_cons_zero, List.setIfInBounds_toArray, List.set_cons_succ, List.set_cons_zero]
    refine wpAnyH_take (i := 2) (v := ?vb) rfl (by kernel_rfl) (by kernel_rfl) (by kernel_rfl) (fun _ _ _ h => h) (Or.inl ⟨by rfl, ?y2⟩) hS0 ?r2
    case y2 =>
     intro w_ hS_
     skip
     go_simp
     try with_reducible rfl
    simp only [Act.put, List.getElem_toArray, List.getElem_cons_succ, List.getElem_cons_zero, List.setIfInBounds_toArray, List.set_cons_succ, List.set_cons_zero]
    refine wpAnyH_take (i := 3) (v := .float .f64 M) rfl (by kernel_rfl) (by kernel_rfl) (by kernel_rfl) (fun _ _ _ h => h) (Or.inl ⟨by rfl, ?y3⟩) hS0 ?r3
    case y3 =>
     intro w_ hS_
     obtain ⟨_, h_⟩ := hS_
     have c_ := cell_of_row _ _ 0 _ _ _ h_
     go_simp
     try with_reducible rfl
    simp only [Act.put, List.getElem_toArray, List.getElem_cons_succ, List.getElem_cons_zero, List.setIfInBounds_toArray, List.set_cons_succ, List.set_cons_zero]
    refine wpAnyH_one (k := 1) (fuel := 2) (by kernel_rfl) rfl (by kernel_rfl) (fun K_ hK => ?_)
    refine wp_call_ex (R := fun u w' => u = .float .f64 N ∧ Below y1.heap.size y1 w') (by kernel_rfl) ((cA y1).mono fun e w' h => ⟨_, h.1, rfl, h.2⟩) (fun u y2 hX_ => ?_)
    obtain ⟨rfl, hb2⟩ := hX_
    replace hS0 := hS0.keep hb2
    replace hb := Below.after hb hb2
    refine hK _ _ hS0 ?_
    simp only [Act.put, List.getElem_toArray, List.getElem_cons_succ, List.getElem_cons_zero, List.setIfInBounds_toArray, List.set_cons_succ, List.set_cons_zero]
    clear hK hb2 cA
    refine wpAnyH_take (i := 4) (v := .bool x4) rfl (by kernel_rfl) (by kernel_rfl) (by kernel_rfl) (fun _ _ _ h => h) (Or.inl ⟨by rfl, ?y4⟩) hS0 ?r4
    case y4 =>
     intro w_ hS_
     skip
     go_simp
     try with_reducible rfl
    simp only [Act.put, List.getElem_toArray, List.getElem_cons_succ, List.getElem_cons_zero, List.setIfInBounds_toArray, List.set_cons_succ, List.set_cons_zero]
    refine wpAnyH_take (i := 5) (v := .bool x4) rfl (by kernel_rfl) (by kernel_rfl) (by kernel_rfl) (fun _ _ _ h => h) (Or.inl ⟨by rfl, ?y5⟩) hS0 ?r5
    case y5 =>
     intro w_ hS_
     skip
     go_simp
     try with_reducible rfl
    simp only [Act.put, List.getElem_toArray, List.getElem_cons_succ, List.getElem_cons_zero, List.setIfInBounds_toArray, List.set_cons_succ, List.set_cons_zero]
    refine wpAnyH_done (by kernel_rfl) ?_ _
    refine NoPanic.normal ?_
    cases x4
    ·go_wp2
     go_ret
     exact ⟨by rw [← hR]; simp, hb⟩
    ·go_wp2
     go_ret
     exact ⟨by rw [← hR]; simp, hb⟩
   ·go_wp2_with (fail)
    refine (cS w2).mono ?_
    rintro e_ w3 ⟨rfl, hb1⟩
    replace r0 := keep hb1 r0
    replace hb := Below.after hb hb1
    clear hb1 cS
    cases x5
    ·have hlt : ¬ 9223372036854775808 ≤ n := by simpa using hx5
     go_upto_region 6 with (fail)
     have hbd : Below w3.heap.size w3 w3.drew := below_drN (Below.refl _ _) 1
     have hS0 : (fun W_ : World => Bx W_ w.heap.size #[.float .f64 M]) w3.drew := ⟨_, keep hbd r0⟩
     replace hb := Below.after hb hbd
     refine wp_region_noPanic ?_
     refine wp_region_held (S := fun W_ : World => Bx W_ w.heap.size #[.float .f64 M]) (by kernel_rfl) ?_
     change wpAnyH _ _ _ _ _ _ _ _ (World.drew _)
     clear r0 hbd
     generalize w3.drew = y1 at *
     refine wpAnyH_take (i := 0) (v := ?va) rfl (by kernel_rfl) (by kernel_rfl) (by kernel_rfl) (fun _ _ _ h => h) (Or.inl ⟨by rfl, ?y6⟩) hS0 ?r6
     case y6 =>
      intro w_ hS_
      skip
      go_simp
      try with_reducible rfl
     simp only [Act.put, List.getElem_toArray, List.getElem_cons_zero, List.setIfInBounds_toArray, List.set_cons_succ, List.set_cons_zero]
     refine wpAnyH_take (i := 2) (v := ?vb) rfl (by kernel_rfl) (by kernel_rfl) (by kernel_rfl) (fun _ _ _ h => h) (Or.inl ⟨by rfl, ?y7⟩) hS0 ?r7
     case y7 =>
      intro w_ hS_
      skip
      go_simp
      try with_reducible rfl
     simp only [Act.put, List.getElem_toArray, List.getElem_cons_succ, List.getElem_cons_zero, List.setIfInBounds_toArray, List.set_cons_succ, List.set_cons_zero]
     refine wpAnyH_take (i := 3) (v := .float .f64 M) rfl (by kernel_rfl) (by kernel_rfl) (by kernel_rfl) (fun _ _ _ h => h) (Or.inl ⟨by rfl, ?y8⟩) hS0 ?r8
     case y8 =>
      intro w_ hS_
      obtain ⟨_, h_⟩ := hS_
      have c_ := cell_of_row _ _ 0 _ _ _ h_
      go_simp
      try with_reducible rfl
     simp only [Act.put, List.getElem_toArray, List.getElem_cons_succ, List.getElem_cons_zero, List.setIfInBounds_toArray, List.set_cons_succ, List.set_cons_zero]
     refine wpAnyH_one (k := 1) (fuel := 2) (by kernel_rfl) rfl (by kernel_rfl) (fun K_ hK => ?_)
     refine wp_call_ex (R := fun u w' => u = .float .f64 N ∧ Below y1.heap.size y1 w') (by kernel_rfl) ((cA y1).mono fun e w' h => ⟨_, h.1, rfl, h.2⟩) (fun u y2 hX_ => ?_)
     obtain ⟨rfl, hb2⟩ := hX_
     replace hS0 := hS0.keep hb2
     replace hb := Below.after hb hb2
     refine hK _ _ hS0 ?_
     simp only [Act.put, List.getElem_toArray, List.getElem_cons_succ, List.getElem_cons_zero, List.setIfInBounds_toArray, List.set_cons_succ, List.set_cons_zero]
     clear hK hb2 cA
     refine wpAnyH_take (i := 4) (v := .bool x4) rfl (by kernel_rfl) (by kernel_rfl) (by kernel_rfl) (fun _ _ _ h => h) (Or.inl ⟨by rfl, ?y9⟩) hS0 ?r9
     case y9 =>
      intro w_ hS_
      skip
      go_simp
      try with_reducible rfl
     simp only [Act.put, List.getElem_toArray, List.getElem_cons_succ, List.getElem_cons_zero, List.setIfInBounds_toArray, List.set_cons_succ, List.set_cons_zero]
     refine wpAnyH_take (i := 5) (v := .bool x4) rfl (by kernel_rfl) (by kernel_rfl) (by kernel_rfl) (fun _ _ _ h => h) (Or.inl ⟨by rfl, ?y10⟩) hS0 ?r10
     case y10 =>
      intro w_ hS_
      skip
      go_simp
      try with_reducible rfl
     simp only [Act.put, List.getElem_toArray, List.getElem_cons_succ, List.getElem_cons_zero, List.setIfInBounds_toArray, List.set_cons_succ, List.set_cons_zero]
     refine wpAnyH_done (by kernel_rfl) ?_ _
     refine NoPanic.normal ?_
     cases x4
     ·go_wp2
      go_ret
      exact ⟨by rw [← hR]; simp [hlt], hb⟩
     ·go_wp2
      go_ret
      exact ⟨by rw [← hR]; simp [hlt], hb⟩
    ·have hle : 9223372036854775808 ≤ n := by simpa using hx5
     go_wp2
     go_ret
     exact ⟨by rw [← hR]; simp [hle], hb⟩
  ·go_wp2
   go_ret
   exact ⟨by rw [← hR]; rfl, hb⟩
 ·go_wp2
  go_ret
  exact ⟨by rw [← hR]; rfl, hb⟩
end Go.Proofs.YtmmlkfkpblokiaaGreatDoor
namespace Go.Proofs.YtmmlkfkpblokiaaGreatDoor
set_option maxRecDepth 100000
open Go Go.RowKit Go.Sort
/-! What decode reads, encode writes again. -/
section
variable (utf : List B → Bool) (flE : Nat → Nat → Int)
end
end Go.Proofs.YtmmlkfkpblokiaaGreatDoor
namespace Go.Proofs.YtmmlkfkpblokiaaGreatDoor
set_option maxRecDepth 100000
open Go Go.RowKit Go.Sort
/-! What encode writes, decode reads again, within the schema's range. -/
inductive NmT : VT → Prop
 | mk (n : Nat) (d : List B) (ps : List VT) (hn : n < 18446744073709551616) (hd : d.length ≤ 140737488351232) (h : ∀ p ∈ ps, NmT p) : NmT (.mk n d ps)
theorem VtM.nm {W : World} {S : Nat → Prop} {x : VR} {X : VT} (h : VtM W S x X) : NmT X := by
 induction h with
 | mk x bs xs ps hn hdl hbl hd hdc hds hpl hxl hpc hpm hps hP hs ih =>
  refine .mk _ _ _ hn hbl (fun p hp => ?_)
  obtain ⟨i, hi, e⟩ := List.getElem_of_mem hp
  have := ih i hi
  rw [gvt, List.getD_eq_getElem?_getD, List.getElem?_eq_getElem hi] at this
  rw [← e]
  exact this
section
variable (utf : List B → Bool) (flE : Nat → Nat → Int)
end
end Go.Proofs.YtmmlkfkpblokiaaGreatDoor
namespace Go.Proofs.YtmmlkfkpblokiaaGreatDoor
set_option maxRecDepth 100000
open Go Go.RowKit Go.Sort
attribute [local go_sem] setCell_drewN alloc_drewN
def u8l (d : List B) : List UInt8 := d.map UInt8.ofBitVec
def utD (d : List B) : Bool := Lib.validD (u8l d)
theorem bys_cell {W : World} {a : Option Addr} {n c : Nat} {d : List B} (h : BysB W (.slice a n c) d) (h0 : 0 < d.length) : ∃ b off, a = some ⟨b, off, none⟩ ∧ n = d.length ∧ b < W.heap.size ∧ ∀ j, j < d.length → W.cell? ⟨b, off + j, none⟩ = some (.int .u8 (bv (gb d j))) := by
 obtain ⟨⟨ao, cap, e, hl, hc, hz⟩, _⟩ := h
 injection e with e1 e2 e3
 subst e1 e2 e3
 have hbl : (bl d).length = d.length := bl_len d
 obtain ⟨b, off, ea, hb, _⟩ := hc 0 (by omega)
 refine ⟨b, off, ea, hbl, hb, fun j hj => ?_⟩
 obtain ⟨b2, off2, ea2, hb2, h2⟩ := hc j (by omega)
 rw [ea] at ea2
 injection ea2 with ea2
 injection ea2 with q1 q2 _
 subst q1 q2
 rw [h2, bl_get]
 rfl
set_option maxRecDepth 100000 in
set_option maxHeartbeats 8000000 in
theorem a_word8 (x0 x1 x2 x3 x4 x5 x6 x7 : Nat) (hx : x0 < 256 ∧ x1 < 256 ∧ x2 < 256 ∧ x3 < 256 ∧ x4 < 256 ∧ x5 < 256 ∧ x6 < 256 ∧ x7 < 256) (b off n c : Nat) (w : World) (hn : 8 ≤ n) (hS : (fun W_ : World => W_.cell? ⟨b, off, none⟩ = some (.int .u8 (x0 : Int)) ∧ W_.cell? ⟨b, off + 1, none⟩ = some (.int .u8 (x1 : Int)) ∧ W_.cell? ⟨b, off + 2, none⟩ = some (.int .u8 (x2 : Int)) ∧ W_.cell? ⟨b, off + 3, none⟩ = some (.int .u8 (x3 : Int)) ∧ W_.cell? ⟨b, off + 4, none⟩ = some (.int .u8 (x4 : Int)) ∧ W_.cell? ⟨b, off + 5, none⟩ = some (.int .u8 (x5 : Int)) ∧ W_.cell? ⟨b, off + 6, none⟩ = some (.int .u8 (x6 : Int)) ∧ W_.cell? ⟨b, off + 7, none⟩ = some (.int .u8 (x7 : Int))) w) :
 Calls Tryz.prog 139 #[.slice (some ⟨b, off, none⟩) n c] w fun e w' => e = .returned (.int .u64 ((x0 + x1 * 256 + x2 * 65536 + x3 * 16777216 + x4 * 4294967296 + x5 * 1099511627776 + x6 * 281474976710656 + x7 * 72057594037927936 : Nat) : Int)) ∧ ∃ q, w' = w.drewN q := by
 obtain ⟨h0, h1, h2, h3, h4, h5, h6, h7⟩ := hx
 have q0 : (0 : Int) < (n : Int) := by omega
 have q1 : (1 : Int) < (n : Int) := by omega
 have q2 : (2 : Int) < (n : Int) := by omega
 have q3 : (3 : Int) < (n : Int) := by omega
 have q4 : (4 : Int) < (n : Int) := by omega
 have q5 : (5 : Int) < (n : Int) := by omega
 have q6 : (6 : Int) < (n : Int) := by omega
 have q7 : (7 : Int) < (n : Int) := by omega
 have p0 : 0 < n := by omega
 have p1 : 1 < n := by omega
 have p2 : 2 < n := by omega
 have p3 : 3 < n := by omega
 have p4 : 4 < n := by omega
 have p5 : 5 < n := by omega
 have p6 : 6 < n := by omega
 have p7 : 7 < n := by omega
 go_enter Tryz.func139, Tryz.ntmps139
 go_upto_region 2 with (fail)
 have hbd : ∃ q, w.drew = w.drewN q := ⟨1, rfl⟩
 have hS0 : (fun W_ : World => W_.cell? ⟨b, off, none⟩ = some (.int .u8 (x0 : Int)) ∧ W_.cell? ⟨b, off + 1, none⟩ = some (.int .u8 (x1 : Int)) ∧ W_.cell? ⟨b, off + 2, none⟩ = some (.int .u8 (x2 : Int)) ∧ W_.cell? ⟨b, off + 3, none⟩ = some (.int .u8 (x3 : Int)) ∧ W_.cell? ⟨b, off + 4, none⟩ = some (.int .u8 (x4 : Int)) ∧ W_.cell? ⟨b, off + 5, none⟩ = some (.int .u8 (x5 : Int)) ∧ W_.cell? ⟨b, off + 6, none⟩ = some (.int .u8 (x6 : Int)) ∧ W_.cell? ⟨b, off + 7, none⟩ = some (.int .u8 (x7 : Int))) w.drew := hS
 refine wp_region_noPanic ?_
 refine wp_region_held (S := fun W_ : World => W_.cell? ⟨b, off, none⟩ = some (.int .u8 (x0 : Int)) ∧ W_.cell? ⟨b, off + 1, none⟩ = some (.int .u8 (x1 : Int)) ∧ W_.cell? ⟨b, off + 2, none⟩ = some (.int .u8 (x2 : Int)) ∧ W_.cell? ⟨b, off + 3, none⟩ = some (.int .u8 (x3 : Int)) ∧ W_.cell? ⟨b, off + 4, none⟩ = some (.int .u8 (x4 : Int)) ∧ W_.cell? ⟨b, off + 5, none⟩ = some (.int .u8 (x5 : Int)) ∧ W_.cell? ⟨b, off + 6, none⟩ = some (.int .u8 (x6 : Int)) ∧ W_.cell? ⟨b, off + 7, none⟩ = some (.int .u8 (x7 : Int))) (by kernel_rfl) ?_
 change wpAnyH _ _ _ _ _ _ _ _ (World.drew _)
 generalize w.drew = w1 at *
 refine wpAnyH_take (i := 0) (v := ?v0) rfl (by kernel_rfl) (by kernel_rfl) (by kernel_rfl) (fun _ _ _ h => h) (Or.inl ⟨by rfl, ?y0⟩) hS0 ?r0
 case y0 =>
  intro w_ hS_
  skip
  go_simp
  try with_reducible rfl
 simp only [Act.put, List.getElem_toArray, List.getElem_cons_zero, List.setIfInBounds_toArray, List.set_cons_succ, List.set_cons_zero]
 refine wpAnyH_take (i := 1) (v := ?v1) rfl (by kernel_rfl) (by kernel_rfl) (by kernel_rfl) (fun _ _ _ h => h) (Or.inl ⟨by rfl, ?y1⟩) hS0 ?r1
 case y1 =>
  intro w_ hS_
  skip
  go_simp
  try with_reducible rfl
 simp only [Act.put, List.getElem_toArray, List.getElem_cons_succ, List.getElem_cons_zero, List.setIfInBounds_toArray, List.set_cons_succ, List.set_cons_zero]
 refine wpAnyH_take (i := 2) (v := .int .u8 (x0 : Int)) rfl (by kernel_rfl) (by kernel_rfl) (by kernel_rfl) (fun _ _ _ h => h) (Or.inl ⟨by rfl, ?y2⟩) hS0 ?r2
 case y2 =>
  intro w_ hS_
  have c_ := hS_.1
  go_simp
  try with_reducible rfl
 simp only [Act.put, List.getElem_toArray, List.getElem_cons_succ, List.getElem_cons_zero, List.setIfInBounds_toArray, List.set_cons_succ, List.set_cons_zero]
 refine wpAnyH_take (i := 3) (v := ?v3) rfl (by kernel_rfl) (by kernel_rfl) (by kernel_rfl) (fun _ _ _ h => h) (Or.inl ⟨by rfl, ?y3⟩) hS0 ?r3
 case y3 =>
  intro w_ hS_
  skip
  go_simp
  try with_reducible rfl
 simp only [Act.put, List.getElem_toArray, List.getElem_cons_succ, List.getElem_cons_zero, List.setIfInBounds_toArray, List.set_cons_succ, List.set_cons_zero]
 refine wpAnyH_take (i := 4) (v := ?v4) rfl (by kernel_rfl) (by kernel_rfl) (by kernel_rfl) (fun _ _ _ h => h) (Or.inl ⟨by rfl, ?y4⟩) hS0 ?r4
 case y4 =>
  intro w_ hS_
  skip
  go_simp
  try with_reducible rfl
 simp only [Act.put, List.getElem_toArray, List.getElem_cons_succ, List.getElem_cons_zero, List.setIfInBounds_toArray, List.set_cons_succ, List.set_cons_zero]
 refine wpAnyH_take (i := 5) (v := ?v5) rfl (by kernel_rfl) (by kernel_rfl) (by kernel_rfl) (fun _ _ _ h => h) (Or.inl ⟨by rfl, ?y5⟩) hS0 ?r5
 case y5 =>
  intro w_ hS_
  skip
  go_simp
  try with_reducible rfl
 simp only [Act.put, List.getElem_toArray, List.getElem_cons_succ, List.getElem_cons_zero, List.setIfInBounds_toArray, List.set_cons_succ, List.set_cons_zero]
 refine wpAnyH_take (i := 6) (v := .int .u8 (x1 : Int)) rfl (by kernel_rfl) (by kernel_rfl) (by kernel_rfl) (fun _ _ _ h => h) (Or.inl ⟨by rfl, ?y6⟩) hS0 ?r6
 case y6 =>
  intro w_ hS_
  have c_ := hS_.2.1
  go_simp
  try with_reducible rfl
 simp only [Act.put, List.getElem_toArray, List.getElem_cons_succ, List.getElem_cons_zero, List.setIfInBounds_toArray, List.set_cons_succ, List.set_cons_zero]
 refine wpAnyH_take (i := 7) (v := ?v7) rfl (by kernel_rfl) (by kernel_rfl) (by kernel_rfl) (fun _ _ _ h => h) (Or.inl ⟨by rfl, ?y7⟩) hS0 ?r7
 case y7 =>
  intro w_ hS_
  skip
  go_simp
  try with_reducible rfl
 simp only [Act.put, List.getElem_toArray, List.getElem_cons_succ, List.getElem_cons_zero, List.setIfInBounds_toArray, List.set_cons_succ, List.set_cons_zero]
 refine wpAnyH_take (i := 8) (v := ?v8) rfl (by kernel_rfl) (by kernel_rfl) (by kernel_rfl) (fun _ _ _ h => h) (Or.inl ⟨by rfl, ?y8⟩) hS0 ?r8
 case y8 =>
  intro w_ hS_
  skip
  go_simp
  try with_reducible rfl
 simp only [Act.put, List.getElem_toArray, List.getElem_cons_succ, List.getElem_cons_zero, List.setIfInBounds_toArray, List.set_cons_succ, List.set_cons_zero]
 refine wpAnyH_take (i := 9) (v := ?v9) rfl (by kernel_rfl) (by kernel_rfl) (by kernel_rfl) (fun _ _ _ h => h) (Or.inl ⟨by rfl, ?y9⟩) hS0 ?r9
 case y9 =>
  intro w_ hS_
  skip
  go_simp
  try with_reducible rfl
 simp only [Act.put, List.getElem_toArray, List.getElem_cons_succ, List.getElem_cons_zero, List.setIfInBounds_toArray, List.set_cons_succ, List.set_cons_zero]
 refine wpAnyH_take (i := 10) (v := ?v10) rfl (by kernel_rfl) (by kernel_rfl) (by kernel_rfl) (fun _ _ _ h => h) (Or.inl ⟨by rfl, ?y10⟩) hS0 ?r10
 case y10 =>
  intro w_ hS_
  skip
  go_simp
  try with_reducible rfl
 simp only [Act.put, List.getElem_toArray, List.getElem_cons_succ, List.getElem_cons_zero, List.setIfInBounds_toArray, List.set_cons_succ, List.set_cons_zero]
 refine wpAnyH_take (i := 11) (v := ?v11) rfl (by kernel_rfl) (by kernel_rfl) (by kernel_rfl) (fun _ _ _ h => h) (Or.inl ⟨by rfl, ?y11⟩) hS0 ?r11
 case y11 =>
  intro w_ hS_
  skip
  go_simp
  try with_reducible rfl
 simp only [Act.put, List.getElem_toArray, List.getElem_cons_succ, List.getElem_cons_zero, List.setIfInBounds_toArray, List.set_cons_succ, List.set_cons_zero]
 refine wpAnyH_take (i := 12) (v := .int .u8 (x2 : Int)) rfl (by kernel_rfl) (by kernel_rfl) (by kernel_rfl) (fun _ _ _ h => h) (Or.inl ⟨by rfl, ?y12⟩) hS0 ?r12
 case y12 =>
  intro w_ hS_
  have c_ := hS_.2.2.1
  go_simp
  try with_reducible rfl
 simp only [Act.put, List.getElem_toArray, List.getElem_cons_succ, List.getElem_cons_zero, List.setIfInBounds_toArray, List.set_cons_succ, List.set_cons_zero]
 refine wpAnyH_take (i := 13) (v := ?v13) rfl (by kernel_rfl) (by kernel_rfl) (by kernel_rfl) (fun _ _ _ h => h) (Or.inl ⟨by rfl, ?y13⟩) hS0 ?r13
 case y13 =>
  intro w_ hS_
  skip
  go_simp
  try with_reducible rfl
 simp only [Act.put, List.getElem_toArray, List.getElem_cons_succ, List.getElem_cons_zero, List.setIfInBounds_toArray, List.set_cons_succ, List.set_cons_zero]
 refine wpAnyH_take (i := 14) (v := ?v14) rfl (by kernel_rfl) (by kernel_rfl) (by kernel_rfl) (fun _ _ _ h => h) (Or.inl ⟨by rfl, ?y14⟩) hS0 ?r14
 case y14 =>
  intro w_ hS_
  skip
  go_simp
  try with_reducible rfl
 simp only [Act.put, List.getElem_toArray, List.getElem_cons_succ, List.getElem_cons_zero, List.setIfInBounds_toArray, List.set_cons_succ, List.set_cons_zero]
 refine wpAnyH_take (i := 15) (v := ?v15) rfl (by kernel_rfl) (by kernel_rfl) (by kernel_rfl) (fun _ _ _ h => h) (Or.inl ⟨by rfl, ?y15⟩) hS0 ?r15
 case y15 =>
  intro w_ hS_
  skip
  go_simp
  try with_reducible rfl
 simp only [Act.put, List.getElem_toArray, List.getElem_cons_succ, List.getElem_cons_zero, List.setIfInBounds_toArray, List.set_cons_succ, List.set_cons_zero]
 refine wpAnyH_take (i := 16) (v := ?v16) rfl (by kernel_rfl) (by kernel_rfl) (by kernel_rfl) (fun _ _ _ h => h) (Or.inl ⟨by rfl, ?y16⟩) hS0 ?r16
 case y16 =>
  intro w_ hS_
  skip
  go_simp
  try with_reducible rfl
 simp only [Act.put, List.getElem_toArray, List.getElem_cons_succ, List.getElem_cons_zero, List.setIfInBounds_toArray, List.set_cons_succ, List.set_cons_zero]
 refine wpAnyH_take (i := 17) (v := ?v17) rfl (by kernel_rfl) (by kernel_rfl) (by kernel_rfl) (fun _ _ _ h => h) (Or.inl ⟨by rfl, ?y17⟩) hS0 ?r17
 case y17 =>
  intro w_ hS_
  skip
  go_simp
  try with_reducible rfl
 simp only [Act.put, List.getElem_toArray, List.getElem_cons_succ, List.getElem_cons_zero, List.setIfInBounds_toArray, List.set_cons_succ, List.set_cons_zero]
 refine wpAnyH_take (i := 18) (v := .int .u8 (x3 : Int)) rfl (by kernel_rfl) (by kernel_rfl) (by kernel_rfl) (fun _ _ _ h => h) (Or.inl ⟨by rfl, ?y18⟩) hS0 ?r18
 case y18 =>
  intro w_ hS_
  have c_ := hS_.2.2.2.1
  go_simp
  try with_reducible rfl
 simp only [Act.put, List.getElem_toArray, List.getElem_cons_succ, List.getElem_cons_zero, List.setIfInBounds_toArray, List.set_cons_succ, List.set_cons_zero]
 refine wpAnyH_take (i := 19) (v := ?v19) rfl (by kernel_rfl) (by kernel_rfl) (by kernel_rfl) (fun _ _ _ h => h) (Or.inl ⟨by rfl, ?y19⟩) hS0 ?r19
 case y19 =>
  intro w_ hS_
  skip
  go_simp
  try with_reducible rfl
 simp only [Act.put, List.getElem_toArray, List.getElem_cons_succ, List.getElem_cons_zero, List.setIfInBounds_toArray, List.set_cons_succ, List.set_cons_zero]
 refine wpAnyH_take (i := 20) (v := ?v20) rfl (by kernel_rfl) (by kernel_rfl) (by kernel_rfl) (fun _ _ _ h => h) (Or.inl ⟨by rfl, ?y20⟩) hS0 ?r20
 case y20 =>
  intro w_ hS_
  skip
  go_simp
  try with_reducible rfl
 simp only [Act.put, List.getElem_toArray, List.getElem_cons_succ, List.getElem_cons_zero, List.setIfInBounds_toArray, List.set_cons_succ, List.set_cons_zero]
 refine wpAnyH_take (i := 21) (v := ?v21) rfl (by kernel_rfl) (by kernel_rfl) (by kernel_rfl) (fun _ _ _ h => h) (Or.inl ⟨by rfl, ?y21⟩) hS0 ?r21
 case y21 =>
  intro w_ hS_
  skip
  go_simp
  try with_reducible rfl
 simp only [Act.put, List.getElem_toArray, List.getElem_cons_succ, List.getElem_cons_zero, List.setIfInBounds_toArray, List.set_cons_succ, List.set_cons_zero]
 refine wpAnyH_take (i := 22) (v := ?v22) rfl (by kernel_rfl) (by kernel_rfl) (by kernel_rfl) (fun _ _ _ h => h) (Or.inl ⟨by rfl, ?y22⟩) hS0 ?r22
 case y22 =>
  intro w_ hS_
  skip
  go_simp
  try with_reducible rfl
 simp only [Act.put, List.getElem_toArray, List.getElem_cons_succ, List.getElem_cons_zero, List.setIfInBounds_toArray, List.set_cons_succ, List.set_cons_zero]
 refine wpAnyH_take (i := 23) (v := ?v23) rfl (by kernel_rfl) (by kernel_rfl) (by kernel_rfl) (fun _ _ _ h => h) (Or.inl ⟨by rfl, ?y23⟩) hS0 ?r23
 case y23 =>
  intro w_ hS_
  skip
  go_simp
  try with_reducible rfl
 simp only [Act.put, List.getElem_toArray, List.getElem_cons_succ, List.getElem_cons_zero, List.setIfInBounds_toArray, List.set_cons_succ, List.set_cons_zero]
 refine wpAnyH_take (i := 24) (v := .int .u8 (x4 : Int)) rfl (by kernel_rfl) (by kernel_rfl) (by kernel_rfl) (fun _ _ _ h => h) (Or.inl ⟨by rfl, ?y24⟩) hS0 ?r24
 case y24 =>
  intro w_ hS_
  have c_ := hS_.2.2.2.2.1
  go_simp
  try with_reducible rfl
 simp only [Act.put, List.getElem_toArray, List.getElem_cons_succ, List.getElem_cons_zero, List.setIfInBounds_toArray, List.set_cons_succ, List.set_cons_zero]
 refine wpAnyH_take (i := 25) (v := ?v25) rfl (by kernel_rfl) (by kernel_rfl) (by kernel_rfl) (fun _ _ _ h => h) (Or.inl ⟨by rfl, ?y25⟩) hS0 ?r25
 case y25 =>
  intro w_ hS_
  skip
  go_simp
  try with_reducible rfl
 simp only [Act.put, List.getElem_toArray, List.getElem_cons_succ, List.getElem_cons_zero, List.setIfInBounds_toArray, List.set_cons_succ, List.set_cons_zero]
 refine wpAnyH_take (i := 26) (v := ?v26) rfl (by kernel_rfl) (by kernel_rfl) (by kernel_rfl) (fun _ _ _ h => h) (Or.inl ⟨by rfl, ?y26⟩) hS0 ?r26
 case y26 =>
  intro w_ hS_
  skip
  go_simp
  try with_reducible rfl
 simp only [Act.put, List.getElem_toArray, List.getElem_cons_succ, List.getElem_cons_zero, List.setIfInBounds_toArray, List.set_cons_succ, List.set_cons_zero]
 refine wpAnyH_take (i := 27) (v := ?v27) rfl (by kernel_rfl) (by kernel_rfl) (by kernel_rfl) (fun _ _ _ h => h) (Or.inl ⟨by rfl, ?y27⟩) hS0 ?r27
 case y27 =>
  intro w_ hS_
  skip
  go_simp
  try with_reducible rfl
 simp only [Act.put, List.getElem_toArray, List.getElem_cons_succ, List.getElem_cons_zero, List.setIfInBounds_toArray, List.set_cons_succ, List.set_cons_zero]
 refine wpAnyH_take (i := 28) (v := ?v28) rfl (by kernel_rfl) (by kernel_rfl) (by kernel_rfl) (fun _ _ _ h => h) (Or.inl ⟨by rfl, ?y28⟩) hS0 ?r28
 case y28 =>
  intro w_ hS_
  skip
  go_simp
  try with_reducible rfl
 simp only [Act.put, List.getElem_toArray, List.getElem_cons_succ, List.getElem_cons_zero, List.setIfInBounds_toArray, List.set_cons_succ, List.set_cons_zero]
 refine wpAnyH_take (i := 29) (v := ?v29) rfl (by kernel_rfl) (by kernel_rfl) (by kernel_rfl) (fun _ _ _ h => h) (Or.inl ⟨by rfl, ?y29⟩) hS0 ?r29
 case y29 =>
  intro w_ hS_
  skip
  go_simp
  try with_reducible rfl
 simp only [Act.put, List.getElem_toArray, List.getElem_cons_succ, List.getElem_cons_zero, List.setIfInBounds_toArray, List.set_cons_succ, List.set_cons_zero]
 refine wpAnyH_take (i := 30) (v := .int .u8 (x5 : Int)) rfl (by kernel_rfl) (by kernel_rfl) (by kernel_rfl) (fun _ _ _ h => h) (Or.inl ⟨by rfl, ?y30⟩) hS0 ?r30
 case y30 =>
  intro w_ hS_
  have c_ := hS_.2.2.2.2.2.1
  go_simp
  try with_reducible rfl
 simp only [Act.put, List.getElem_toArray, List.getElem_cons_succ, List.getElem_cons_zero, List.setIfInBounds_toArray, List.set_cons_succ, List.set_cons_zero]
 refine wpAnyH_take (i := 31) (v := ?v31) rfl (by kernel_rfl) (by kernel_rfl) (by kernel_rfl) (fun _ _ _ h => h) (Or.inl ⟨by rfl, ?y31⟩) hS0 ?r31
 case y31 =>
  intro w_ hS_
  skip
  go_simp
  try with_reducible rfl
 simp only [Act.put, List.getElem_toArray, List.getElem_cons_succ, List.getElem_cons_zero, List.setIfInBounds_toArray, List.set_cons_succ, List.set_cons_zero]
 refine wpAnyH_take (i := 32) (v := ?v32) rfl (by kernel_rfl) (by kernel_rfl) (by kernel_rfl) (fun _ _ _ h => h) (Or.inl ⟨by rfl, ?y32⟩) hS0 ?r32
 case y32 =>
  intro w_ hS_
  skip
  go_simp
  try with_reducible rfl
 simp only [Act.put, List.getElem_toArray, List.getElem_cons_succ, List.getElem_cons_zero, List.setIfInBounds_toArray, List.set_cons_succ, List.set_cons_zero]
 refine wpAnyH_take (i := 33) (v := ?v33) rfl (by kernel_rfl) (by kernel_rfl) (by kernel_rfl) (fun _ _ _ h => h) (Or.inl ⟨by rfl, ?y33⟩) hS0 ?r33
 case y33 =>
  intro w_ hS_
  skip
  go_simp
  try with_reducible rfl
 simp only [Act.put, List.getElem_toArray, List.getElem_cons_succ, List.getElem_cons_zero, List.setIfInBounds_toArray, List.set_cons_succ, List.set_cons_zero]
 refine wpAnyH_take (i := 34) (v := ?v34) rfl (by kernel_rfl) (by kernel_rfl) (by kernel_rfl) (fun _ _ _ h => h) (Or.inl ⟨by rfl, ?y34⟩) hS0 ?r34
 case y34 =>
  intro w_ hS_
  skip
  go_simp
  try with_reducible rfl
 simp only [Act.put, List.getElem_toArray, List.getElem_cons_succ, List.getElem_cons_zero, List.setIfInBounds_toArray, List.set_cons_succ, List.set_cons_zero]
 refine wpAnyH_take (i := 35) (v := ?v35) rfl (by kernel_rfl) (by kernel_rfl) (by kernel_rfl) (fun _ _ _ h => h) (Or.inl ⟨by rfl, ?y35⟩) hS0 ?r35
 case y35 =>
  intro w_ hS_
  skip
  go_simp
  try with_reducible rfl
 simp only [Act.put, List.getElem_toArray, List.getElem_cons_succ, List.getElem_cons_zero, List.setIfInBounds_toArray, List.set_cons_succ, List.set_cons_zero]
 refine wpAnyH_take (i := 36) (v := .int .u8 (x6 : Int)) rfl (by kernel_rfl) (by kernel_rfl) (by kernel_rfl) (fun _ _ _ h => h) (Or.inl ⟨by rfl, ?y36⟩) hS0 ?r36
 case y36 =>
  intro w_ hS_
  have c_ := hS_.2.2.2.2.2.2.1
  go_simp
  try with_reducible rfl
 simp only [Act.put, List.getElem_toArray, List.getElem_cons_succ, List.getElem_cons_zero, List.setIfInBounds_toArray, List.set_cons_succ, List.set_cons_zero]
 refine wpAnyH_take (i := 37) (v := ?v37) rfl (by kernel_rfl) (by kernel_rfl) (by kernel_rfl) (fun _ _ _ h => h) (Or.inl ⟨by rfl, ?y37⟩) hS0 ?r37
 case y37 =>
  intro w_ hS_
  skip
  go_simp
  try with_reducible rfl
 simp only [Act.put, List.getElem_toArray, List.getElem_cons_succ, List.getElem_cons_zero, List.setIfInBounds_toArray, List.set_cons_succ, List.set_cons_zero]
 refine wpAnyH_take (i := 38) (v := ?v38) rfl (by kernel_rfl) (by kernel_rfl) (by kernel_rfl) (fun _ _ _ h => h) (Or.inl ⟨by rfl, ?y38⟩) hS0 ?r38
 case y38 =>
  intro w_ hS_
  skip
  go_simp
  try with_reducible rfl
 simp only [Act.put, List.getElem_toArray, List.getElem_cons_succ, List.getElem_cons_zero, List.setIfInBounds_toArray, List.set_cons_succ, List.set_cons_zero]
 refine wpAnyH_take (i := 39) (v := ?v39) rfl (by kernel_rfl) (by kernel_rfl) (by kernel_rfl) (fun _ _ _ h => h) (Or.inl ⟨by rfl, ?y39⟩) hS0 ?r39
 case y39 =>
  intro w_ hS_
  skip
  go_simp
  try with_reducible rfl
 simp only [Act.put, List.getElem_toArray, List.getElem_cons_succ, List.getElem_cons_zero, List.setIfInBounds_toArray, List.set_cons_succ, List.set_cons_zero]
 refine wpAnyH_take (i := 40) (v := ?v40) rfl (by kernel_rfl) (by kernel_rfl) (by kernel_rfl) (fun _ _ _ h => h) (Or.inl ⟨by rfl, ?y40⟩) hS0 ?r40
 case y40 =>
  intro w_ hS_
  skip
  go_simp
  try with_reducible rfl
 simp only [Act.put, List.getElem_toArray, List.getElem_cons_succ, List.getElem_cons_zero, List.setIfInBounds_toArray, List.set_cons_succ, List.set_cons_zero]
 refine wpAnyH_take (i := 41) (v := ?v41) rfl (by kernel_rfl) (by kernel_rfl) (by kernel_rfl) (fun _ _ _ h => h) (Or.inl ⟨by rfl, ?y41⟩) hS0 ?r41
 case y41 =>
  intro w_ hS_
  skip
  go_simp
  try with_reducible rfl
 simp only [Act.put, List.getElem_toArray, List.getElem_cons_succ, List.getElem_cons_zero, List.setIfInBounds_toArray, List.set_cons_succ, List.set_cons_zero]
 refine wpAnyH_take (i := 42) (v := .int .u8 (x7 : Int)) rfl (by kernel_rfl) (by kernel_rfl) (by kernel_rfl) (fun _ _ _ h => h) (Or.inl ⟨by rfl, ?y42⟩) hS0 ?r42
 case y42 =>
  intro w_ hS_
  have c_ := hS_.2.2.2.2.2.2.2
  go_simp
  try with_reducible rfl
 simp only [Act.put, List.getElem_toArray, List.getElem_cons_succ, List.getElem_cons_zero, List.setIfInBounds_toArray, List.set_cons_succ, List.set_cons_zero]
 refine wpAnyH_take (i := 43) (v := ?v43) rfl (by kernel_rfl) (by kernel_rfl) (by kernel_rfl) (fun _ _ _ h => h) (Or.inl ⟨by rfl, ?y43⟩) hS0 ?r43
 case y43 =>
  intro w_ hS_
  skip
  go_simp
  try with_reducible rfl
 simp only [Act.put, List.getElem_toArray, List.getElem_cons_succ, List.getElem_cons_zero, List.setIfInBounds_toArray, List.set_cons_succ, List.set_cons_zero]
 refine wpAnyH_take (i := 44) (v := ?v44) rfl (by kernel_rfl) (by kernel_rfl) (by kernel_rfl) (fun _ _ _ h => h) (Or.inl ⟨by rfl, ?y44⟩) hS0 ?r44
 case y44 =>
  intro w_ hS_
  skip
  go_simp
  try with_reducible rfl
 simp only [Act.put, List.getElem_toArray, List.getElem_cons_succ, List.getElem_cons_zero, List.setIfInBounds_toArray, List.set_cons_succ, List.set_cons_zero]
 refine wpAnyH_take (i := 45) (v := ?v45) rfl (by kernel_rfl) (by kernel_rfl) (by kernel_rfl) (fun _ _ _ h => h) (Or.inl ⟨by rfl, ?y45⟩) hS0 ?r45
 case y45 =>
  intro w_ hS_
  skip
  go_simp
  try with_reducible rfl
 simp only [Act.put, List.getElem_toArray, List.getElem_cons_succ, List.getElem_cons_zero, List.setIfInBounds_toArray, List.set_cons_succ, List.set_cons_zero]
 refine wpAnyH_take (i := 46) (v := ?v46) rfl (by kernel_rfl) (by kernel_rfl) (by kernel_rfl) (fun _ _ _ h => h) (Or.inl ⟨by rfl, ?y46⟩) hS0 ?r46
 case y46 =>
  intro w_ hS_
  skip
  go_simp
  try with_reducible rfl
 simp only [Act.put, List.getElem_toArray, List.getElem_cons_succ, List.getElem_cons_zero, List.setIfInBounds_toArray, List.set_cons_succ, List.set_cons_zero]
 refine wpAnyH_done (by kernel_rfl) ?_ _
 refine NoPanic.normal ?_
 go_wp2
 go_ret
 refine ⟨congrArg Ending.returned (congrArg (Value.int IntKind.u64) (?_ : (_ : Int) = _)), hbd⟩
 clear hS hS0 hbd
 rw [show IntKind.wrap .u64 (x0 : Int) = (x0 : Int) from u64_wrap_id _ (by omega) (by omega)]
 rw [show IntKind.wrap .u64 (x1 : Int) = (x1 : Int) from u64_wrap_id _ (by omega) (by omega)]
 rw [show IntKind.wrap .u64 (x2 : Int) = (x2 : Int) from u64_wrap_id _ (by omega) (by omega)]
 rw [show IntKind.wrap .u64 (x3 : Int) = (x3 : Int) from u64_wrap_id _ (by omega) (by omega)]
 rw [show IntKind.wrap .u64 (x4 : Int) = (x4 : Int) from u64_wrap_id _ (by omega) (by omega)]
 rw [show IntKind.wrap .u64 (x5 : Int) = (x5 : Int) from u64_wrap_id _ (by omega) (by omega)]
 rw [show IntKind.wrap .u64 (x6 : Int) = (x6 : Int) from u64_wrap_id _ (by omega) (by omega)]
 rw [show IntKind.wrap .u64 (x7 : Int) = (x7 : Int) from u64_wrap_id _ (by omega) (by omega)]
 rw [show IntKind.wrap .u64 ((x1 : Int) * 256) = (x1 : Int) * 256 from u64_wrap_id _ (by omega) (by omega)]
 rw [show IntKind.wrap .u64 ((x2 : Int) * 65536) = (x2 : Int) * 65536 from u64_wrap_id _ (by omega) (by omega)]
 rw [show IntKind.wrap .u64 ((x3 : Int) * 16777216) = (x3 : Int) * 16777216 from u64_wrap_id _ (by omega) (by omega)]
 rw [show IntKind.wrap .u64 ((x4 : Int) * 4294967296) = (x4 : Int) * 4294967296 from u64_wrap_id _ (by omega) (by omega)]
 rw [show IntKind.wrap .u64 ((x5 : Int) * 1099511627776) = (x5 : Int) * 1099511627776 from u64_wrap_id _ (by omega) (by omega)]
 rw [show IntKind.wrap .u64 ((x6 : Int) * 281474976710656) = (x6 : Int) * 281474976710656 from u64_wrap_id _ (by omega) (by omega)]
 rw [show IntKind.wrap .u64 ((x7 : Int) * 72057594037927936) = (x7 : Int) * 72057594037927936 from u64_wrap_id _ (by omega) (by omega)]
 rw [show bits .or .u64 ((x0 : Int)) ((x1 : Int) * 256) = (x0 : Int) + (x1 : Int) * 256 by apply u64_or8 <;> omega]
 rw [show bits .or .u64 ((x0 : Int) + (x1 : Int) * 256) ((x2 : Int) * 65536) = (x0 : Int) + (x1 : Int) * 256 + (x2 : Int) * 65536 by apply u64_or16 <;> omega]
 rw [show bits .or .u64 ((x0 : Int) + (x1 : Int) * 256 + (x2 : Int) * 65536) ((x3 : Int) * 16777216) = (x0 : Int) + (x1 : Int) * 256 + (x2 : Int) * 65536 + (x3 : Int) * 16777216 by apply u64_or24 <;> omega]
 rw [show bits .or .u64 ((x0 : Int) + (x1 : Int) * 256 + (x2 : Int) * 65536 + (x3 : Int) * 16777216) ((x4 : Int) * 4294967296) = (x0 : Int) + (x1 : Int) * 256 + (x2 : Int) * 65536 + (x3 : Int) * 16777216 + (x4 : Int) * 4294967296 by apply u64_or32 <;> omega]
 rw [show bits .or .u64 ((x0 : Int) + (x1 : Int) * 256 + (x2 : Int) * 65536 + (x3 : Int) * 16777216 + (x4 : Int) * 4294967296) ((x5 : Int) * 1099511627776) = (x0 : Int) + (x1 : Int) * 256 + (x2 : Int) * 65536 + (x3 : Int) * 16777216 + (x4 : Int) * 4294967296 + (x5 : Int) * 1099511627776 by apply u64_or40 <;> omega]
 rw [show bits .or .u64 ((x0 : Int) + (x1 : Int) * 256 + (x2 : Int) * 65536 + (x3 : Int) * 16777216 + (x4 : Int) * 4294967296 + (x5 : Int) * 1099511627776) ((x6 : Int) * 281474976710656) = (x0 : Int) + (x1 : Int) * 256 + (x2 : Int) * 65536 + (x3 : Int) * 16777216 + (x4 : Int) * 4294967296 + (x5 : Int) * 1099511627776 + (x6 : Int) * 281474976710656 by apply u64_or48 <;> omega]
 rw [show bits .or .u64 ((x0 : Int) + (x1 : Int) * 256 + (x2 : Int) * 65536 + (x3 : Int) * 16777216 + (x4 : Int) * 4294967296 + (x5 : Int) * 1099511627776 + (x6 : Int) * 281474976710656) ((x7 : Int) * 72057594037927936) = (x0 : Int) + (x1 : Int) * 256 + (x2 : Int) * 65536 + (x3 : Int) * 16777216 + (x4 : Int) * 4294967296 + (x5 : Int) * 1099511627776 + (x6 : Int) * 281474976710656 + (x7 : Int) * 72057594037927936 by apply u64_or56 <;> omega]
 clear q0 q1 q2 q3 q4 q5 q6 q7 p0 p1 p2 p3 p4 p5 p6 p7 h0 h1 h2 h3 h4 h5 h6 h7 hn
 omega
end Go.Proofs.YtmmlkfkpblokiaaGreatDoor

