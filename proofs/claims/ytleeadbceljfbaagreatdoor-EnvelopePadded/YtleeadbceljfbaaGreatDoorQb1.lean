import Derived.Test.YtleeadbceljfbaaGreatDoorQa8
import Derived.Test.YtleeadbceljfbaaGreatDoorQa3
import Derived.Test.YtleeadbceljfbaaGreatDoorQb0
namespace Go.Proofs.YtleeadbceljfbaaGreatDoor
set_option maxRecDepth 100000
open Go Go.RowKit Go.Sort
attribute [local go_sem] setCell_drewN alloc_drewN
/-- A codec. -/
def Cdc (W : World) (g : Nat) (ts : List Slt) : Prop := ∃ x, RdL W (fun _ => True) x ts ∧ W.heap[g]? = some (.cells #[x, .int .i64 ((prS ts).1 : Int), .int .i64 ((prS ts).2 : Int)] 105 (0, 0))
set_option maxRecDepth 100000 in
set_option maxHeartbeats 4000000 in
theorem a_Compile {W : World} {v : Value} {ts : List Slt} (h : Slo W v ts) (w : World) (hw : Below W.heap.size W w) : Calls Tryz.prog 64 #[v] w fun e w' => Below w.heap.size w w' ∧ ((vld ts = 0 ∧ ∃ g, e = .returned (.tuple #[.pointer (some ⟨g, 0, none⟩), .int .i64 0]) ∧ w.heap.size ≤ g ∧ Cdc w' g ts) ∨ (vld ts ≠ 0 ∧ e = .returned (.tuple #[.pointer none, .int .i64 (vld ts)]))) := by
  have cO := a_outline h w hw
  have hgd : vld ts = 0 → gd ts := fun h0 => by
    refine lft_gd ts 1 256 (by omega) ?_
    unfold vld at h0
    split at h0
    · cases h0
    · omega
  obtain ⟨ao, cap, rfl⟩ := h.form
  go_enter Tryz.func64, Tryz.ntmps64
  go_wp2_with (fail)
  refine cO.mono ?_
  rintro e_ w1 ⟨hb, hres⟩
  clear cO
  rcases hres with ⟨hv, m, rfl, hm⟩ | ⟨hv, rfl⟩
  · have hg := hgd hv
    have cS := a_mspan hm.msg hg w1 (Below.refl _ _)
    have cC := fun V hV => a_compile hm hg V hV
    have hle := spL_le ts 0 0 (by omega) (by omega)
    rw [← prS_spL] at hle
    obtain ⟨hl1, hl2⟩ := hle
    have hcd : ∀ (V : World) (g : Nat) (x : Value), RdL V (fun _ => True) x ts → V.heap[g]? = some (.cells #[x, .int .i64 ((prS ts).1 : Int), .int .i64 ((prS ts).2 : Int)] 105 (0, 0)) → Cdc V g ts := fun V g x hr hx => ⟨x, hr, hx⟩
    generalize (prS ts).1 = A at *
    generalize (prS ts).2 = Bm at *
    have A1 := hide hcd
    have A2 := hide hv
    obtain ⟨mo, mc, rfl⟩ := hm.form
    clear hcd hv hgd hg hm
    go_wp2_with (fail)
    refine cS.mono ?_
    rintro e_ w2 ⟨rfl, hb2⟩
    clear cS
    go_wp2_with (fail)
    refine (cC w2 hb2).mono ?_
    rintro e_ w3 ⟨x, rfl, ⟨xo, xn, xc, rfl⟩, hb3, hRd⟩
    clear cC
    have hB := Below.after (Below.after hb hb2) hb3
    have q1 := A1.out (w3.alloc (.cells #[.slice xo xn xc, .int .i64 (A : Int), .int .i64 (Bm : Int)] 105)) w3.heap.size _ (hRd.keep ⟨by rw [size_alloc1]; omega, fun b hb _ => ⟨((Below.refl _ _).alloc (Nat.le_refl _) _ : Below w3.heap.size w3 (w3.alloc (.cells #[.slice xo xn xc, .int .i64 (A : Int), .int .i64 (Bm : Int)] 105))).block b hb, trivial⟩⟩) (hp1_0 w3 _)
    have hba : Below w3.heap.size w3 (w3.alloc (.cells #[.slice xo xn xc, .int .i64 (A : Int), .int .i64 (Bm : Int)] 105)) := (Below.refl _ _).alloc (Nat.le_refl _) _
    have A3 := hide q1
    have A4 := hide (Below.after hB hba)
    have A5 := hide hB
    clear q1 hba hB hb hb2 hb3 A1 hRd
    go_wp2_with (fail)
    go_ret2
    exact ⟨A4.out, .inl ⟨A2.out, _, rfl, A5.out.size, A3.out⟩⟩
  · have hv' : (vld ts == 0) = false := beq_eq_false_iff_ne.2 hv
    generalize hx : vld ts = x at *
    replace hx := hide hx
    go_wp2_with (fail)
    go_ret2
    exact ⟨hb, .inr ⟨by rw [hx.out]; exact hv, by rw [hx.out]; rfl⟩⟩
theorem Cdc.keep {W V : World} {g : Nat} {ts : List Slt} (h : Cdc W g ts) (hb : Below W.heap.size W V) : Cdc V g ts := by
  obtain ⟨x, h1, h2⟩ := h
  exact ⟨x, h1.keep (Sty.below hb), (hb.block g (lt_of_row h2)).trans h2⟩
end Go.Proofs.YtleeadbceljfbaaGreatDoor

namespace Go.Proofs.YtleeadbceljfbaaGreatDoor
set_option maxRecDepth 100000
open Go Go.RowKit Go.Sort
attribute [local go_sem] setCell_drewN alloc_drewN
theorem range_row {W : World} {g : Nat} {c : Array Value} (h : Bx W g c) : W.rangeAt g 0 c.toList := fun j v hv => by
  obtain ⟨T, h⟩ := h
  rw [Nat.zero_add, cell_of_row _ _ _ _ _ _ h]
  simpa using hv
set_option maxRecDepth 100000 in
set_option maxHeartbeats 4000000 in
theorem a_check1 (F : Option Flt3) (bc bv g : Nat) (xo : Option Addr) (xn xc : Nat) (lo hi : Int) (n : Nat) (da : Option Addr) (dl dc : Nat) (pa : Option Addr) (pl pc : Nat) (w : World)
    (hc : Bx w bc #[.pointer (some ⟨g, 0, none⟩)]) (hv : Bx w bv #[.int .u64 (n : Int), .slice da dl dc, .slice pa pl pc]) (hg : Bx w g #[.slice xo xn xc, .int .i64 lo, .int .i64 hi])
    (cC : ∀ V, Below w.heap.size w V → Calls Tryz.prog 66 #[.slice xo xn xc, .agg #[.int .u64 (n : Int), .slice da dl dc, .slice pa pl pc], .int .i64 1] V fun e w' => Gup V.heap.size F e w' (fun v => v = .tuple #[]) ∧ Below V.heap.size V w') :
    Calls Tryz.prog 65 #[.pointer (some ⟨bc, 0, none⟩), .pointer (some ⟨bv, 0, none⟩)] w fun e w' => Gup w.heap.size F e w' (fun v => v = .tuple #[]) ∧ Below w.heap.size w w' := by
  go_enter Tryz.func65, Tryz.ntmps65
  have hS0 : (fun W : World => Bx W bc #[.pointer (some ⟨g, 0, none⟩)] ∧ Bx W bv #[.int .u64 (n : Int), .slice da dl dc, .slice pa pl pc] ∧ Bx W g #[.slice xo xn xc, .int .i64 lo, .int .i64 hi]) w := ⟨hc, hv, hg⟩
  refine wp_region_held (S := fun W : World => Bx W bc #[.pointer (some ⟨g, 0, none⟩)] ∧ Bx W bv #[.int .u64 (n : Int), .slice da dl dc, .slice pa pl pc] ∧ Bx W g #[.slice xo xn xc, .int .i64 lo, .int .i64 hi]) (by kernel_rfl) ?_
  change wpAnyH _ _ _ _ _ _ _ _ (World.drew _)
  have hbd : Below w.heap.size w w.drew := below_drN (Below.refl _ _) 1
  replace hS0 : (fun W : World => Bx W bc #[.pointer (some ⟨g, 0, none⟩)] ∧ Bx W bv #[.int .u64 (n : Int), .slice da dl dc, .slice pa pl pc] ∧ Bx W g #[.slice xo xn xc, .int .i64 lo, .int .i64 hi]) w.drew := hS0
  have cC2 : Calls Tryz.prog 66 #[.slice xo xn xc, .agg #[.int .u64 (n : Int), .slice da dl dc, .slice pa pl pc], .int .i64 1] w.drew fun e w' => Gup w.heap.size F e w' (fun v => v = .tuple #[]) ∧ Below w.heap.size w w' := (cC w.drew hbd).mono fun e w' h => ⟨h.1, Below.after hbd h.2⟩
  clear cC
  refine wpAnyH_take (i := 0) (v := .pointer (some ⟨g, 0, none⟩)) rfl (by kernel_rfl) (by kernel_rfl) (by kernel_rfl) (fun _ _ _ h => h) (Or.inl ⟨by rfl, ?y1⟩) hS0 ?r1
  case y1 =>
    intro w_ hS_
    obtain ⟨_, h_⟩ := hS_.1
    have c_ := cell_of_row _ _ 0 _ _ _ h_
    go_simp
    try with_reducible rfl
  simp only [Act.put, List.getElem_toArray, List.getElem_cons_zero, List.setIfInBounds_toArray, List.set_cons_succ, List.set_cons_zero]
  refine wpAnyH_take (i := 1) (v := ?v2) rfl (by kernel_rfl) (by kernel_rfl) (by kernel_rfl) (fun _ _ _ h => h) (Or.inl ⟨by rfl, ?y2⟩) hS0 ?r2
  case y2 =>
    intro w_ hS_
    go_simp
    try with_reducible rfl
  simp only [Act.put, List.getElem_toArray, List.getElem_cons_succ, List.getElem_cons_zero, List.setIfInBounds_toArray, List.set_cons_succ, List.set_cons_zero]
  refine wpAnyH_take (i := 2) (v := ?v3) rfl (by kernel_rfl) (by kernel_rfl) (by kernel_rfl) (fun _ _ _ h => h) (Or.inl ⟨by rfl, ?y3⟩) hS0 ?r3
  case y3 =>
    intro w_ hS_
    go_simp
    try with_reducible rfl
  simp only [Act.put, List.getElem_toArray, List.getElem_cons_succ, List.getElem_cons_zero, List.setIfInBounds_toArray, List.set_cons_succ, List.set_cons_zero]
  refine wpAnyH_take (i := 3) (v := .slice xo xn xc) rfl (by kernel_rfl) (by kernel_rfl) (by kernel_rfl) (fun _ _ _ h => h) (Or.inl ⟨by rfl, ?y4⟩) hS0 ?r4
  case y4 =>
    intro w_ hS_
    obtain ⟨_, h_⟩ := hS_.2.2
    have c_ := cell_of_row _ _ 0 _ _ _ h_
    go_simp
    try with_reducible rfl
  simp only [Act.put, List.getElem_toArray, List.getElem_cons_succ, List.getElem_cons_zero, List.setIfInBounds_toArray, List.set_cons_succ, List.set_cons_zero]
  refine wpAnyH_take (i := 4) (v := .agg #[.int .u64 (n : Int), .slice da dl dc, .slice pa pl pc]) rfl (by kernel_rfl) (by kernel_rfl) (by kernel_rfl) (fun _ _ _ h => h) (yieldsIf_load_mid (by rfl) 80 _ rfl bv 0 rfl [.int .u64 (n : Int), .slice da dl dc, .slice pa pl pc] _ (fun _ h => range_row h.2.1) Tryz.underlying80 rfl infoV) hS0 ?_
  simp only [Act.put, List.getElem_toArray, List.getElem_cons_succ, List.getElem_cons_zero, List.setIfInBounds_toArray, List.set_cons_succ, List.set_cons_zero]
  refine wpAnyH_one (k := 5) (fuel := 0) (by kernel_rfl) rfl (by kernel_rfl) (fun K_ hK => ?_)
  refine wp_call_up (base := w.heap.size) (F := F) (R := fun v => v = .tuple #[]) (B := fun w' => Below w.heap.size w w') ?hx cC2 ?_ ?_
  case hx => kernel_rfl
  · intro hF v_ w4 hv4 hb4
    subst hv4
    subst hF
    refine hK _ _ ⟨hc.keep hb4, hv.keep hb4, hg.keep hb4⟩ ?_
    simp only [Act.put, List.getElem_toArray, List.getElem_cons_succ, List.getElem_cons_zero, List.setIfInBounds_toArray, List.set_cons_succ, List.set_cons_zero]
    clear hK
    refine wpAnyH_done (by kernel_rfl) ?_ _
    go_wp2_with (fail)
    go_end0
    exact ⟨⟨_, rfl, rfl⟩, hb4⟩
  · intro x hF g4 w4 h1 h2 hb4
    subst hF
    go_wp2_with (fail)
    exact ⟨rfl, ⟨g4, rfl, h1, h2⟩, hb4⟩
theorem bVal (cs : Array Value) (W : World) : (Instr.box 80 (.agg cs)).run Tryz.prog W = .ok (.pointer (some ⟨W.heap.size, 0, none⟩)) (W.alloc (.cells cs 80)) := by kernel_rfl
set_option maxRecDepth 100000 in
set_option maxHeartbeats 4000000 in
/-- Check of a codec whose slots are flat. -/
theorem a_CheckF {g : Nat} {ts : List Slt} (hfl : ∀ i, i < ts.length → Fla (gs ts i)) (n : Nat) (hn : n < 18446744073709551616) (da : Option Addr) (dl dc : Nat) (pv : Value) (xs : List VR) (w : World) (hC : Cdc w g ts) (hP : Prt w pv xs) :
    Calls Tryz.prog 51 #[.pointer (some ⟨g, 0, none⟩), .agg (vrw n (.slice da dl dc) pv)] w fun e w' => Cgt w.heap.size (ckF ts n dl xs 1) e w' ∧ Below w.heap.size w w' := by
  obtain ⟨x, hR, hg⟩ := hC
  obtain ⟨xo, xc, rfl⟩ := hR.form
  obtain ⟨pa, pc, hpv⟩ : ∃ pa pc, pv = .slice pa xs.length pc := by obtain ⟨a, c, e, _⟩ := hP; exact ⟨a, c, e⟩
  subst hpv
  have hcf := fun V hV => a_checkF hR hfl n hn da dl dc (.slice pa xs.length pc) xs 1 V hV (hP.keep hV)
  unfold vrw at hcf ⊢
  generalize ckF ts n dl xs 1 = F at *
  have hb : Below w.heap.size w ((w.alloc (.cells #[.pointer (some ⟨g, 0, none⟩)] 75)).alloc (.cells #[.int .u64 (n : Int), .slice da dl dc, .slice pa xs.length pc] 80)) := ((Below.refl _ _).alloc (Nat.le_refl _) _).alloc (by simp) _
  have r0 := hp2_0 w (.cells #[.pointer (some ⟨g, 0, none⟩)] 75) (.cells #[.int .u64 (n : Int), .slice da dl dc, .slice pa xs.length pc] 80)
  have r1 := hp2_1 w (.cells #[.pointer (some ⟨g, 0, none⟩)] 75) (.cells #[.int .u64 (n : Int), .slice da dl dc, .slice pa xs.length pc] 80)
  have rg := keep hb hg
  have cK := a_caughtC F (.pointer (some ⟨w.heap.size, 0, none⟩)) (.pointer (some ⟨w.heap.size + 1, 0, none⟩)) ((w.alloc (.cells #[.pointer (some ⟨g, 0, none⟩)] 75)).alloc (.cells #[.int .u64 (n : Int), .slice da dl dc, .slice pa xs.length pc] 80)) (fun V hV => a_check1 F w.heap.size (w.heap.size + 1) g xo ts.length xc _ _ n da dl dc pa xs.length pc V ⟨_, keep hV r0⟩ ⟨_, keep hV r1⟩ ⟨_, keep hV rg⟩ (fun V' hV' => hcf V' (Below.after (Below.after hb hV) hV')))
  have h0 := hmf
  have A1 := hide hb
  clear hcf hb r0 r1 rg hg hR hP
  go_enter Tryz.func51, Tryz.ntmps51
  go_wp2_with (fail)
  refine cK.mono ?_
  rintro e_ w1 ⟨hG, hb1⟩
  replace hb1 := Below.after A1.out hb1
  have hsz := A1.out.size
  cases F with
  | none =>
    obtain rfl : e_ = .returned .nilIface := hG
    go_wp2_with (fail)
    go_ret
    exact ⟨rfl, hb1⟩
  | some f =>
    obtain ⟨q, rfl, h1, h2⟩ := hG
    go_wp2_with (fail)
    go_ret
    exact ⟨⟨q, rfl, Nat.le_trans hsz h1, h2⟩, hb1⟩
end Go.Proofs.YtleeadbceljfbaaGreatDoor
