import Derived.Test.YtjoohgkgkabbpaaGreatDoorXJrb
import Derived.OwnWalk
import Derived.Deep.Cut
import Derived.Deep.RegionHeld3
namespace Go.Proofs.YtjoohgkgkabbpaaGreatDoor
set_option maxRecDepth 100000
open Go Go.RowKit Go.Sort
attribute [local go_sem] setCell_drewN alloc_drewN
theorem But.setRow {g : Nat} (w : World) (cs : Array Value) : But g w (w.setRow g cs) := ⟨rfl, rfl, rfl, by simp, fun k _ hne => setRow_other w g k cs hne⟩
theorem But.keepBx {g : Nat} {w w' : World} (h : But g w w') {k : Nat} {c : Array Value} (hk : Bx w k c) (hne : k ≠ g) : Bx w' k c := by
 obtain ⟨T, hk⟩ := hk
 exact ⟨T, h.row hk hne⟩
theorem results_row_slot {P : Program} {fn : Func} {p q : Tmp} {ty : TypeId} (h : fn.results = #[.cell p ty, .tmp q]) (tmps : Array Value) (w : World) (g : Nat) (t : TypeId) (cs : Array Value) (fr : Nat × Nat) (d : TypeDesc) (v : Value)
 (hp : tmps.getD p undef = .pointer (some ⟨g, 0, none⟩)) (hg : w.heap[g]? = some (.cells cs t fr)) (hq : tmps.getD q undef = v)
 (hu : P.underlying ty = some d) (hd : (match d with | .struct _ | .array _ _ => true | _ => false) = true) (hi : (P.info? ty).map (·.size) = some cs.size) :
 (results fn tmps).run P w = .ok (.tuple #[.agg cs, v]) w := by
 have hp' : tmps[p]?.getD undef = .pointer (some ⟨g, 0, none⟩) := by simpa using hp
 have hq' : tmps[q]?.getD undef = v := by simpa using hq
 simp [results, h, hp', hq', asAddr, run_loadVar_row w g t ty cs fr d hg hu hd hi]
set_option maxRecDepth 100000 in
set_option maxHeartbeats 8000000 in
theorem a_decode1 (F : Option Flt3) (Rs : World → Value → Prop) (bc bb bv g : Nat) (b : Value) (xo : Option Addr) (xn xc : Nat) (lo hi : Int) (cur : Array Value) (hcur : cur.size = 3) (w : World)
 (hc : Bx w bc #[.pointer (some ⟨g, 0, none⟩)]) (hb : Bx w bb #[b]) (hg : Bx w g #[.slice xo xn xc, .int .i64 lo, .int .i64 hi]) (hv : w.heap[bv]? = some (.cells cur 78 (0, 0))) (hbs : ∃ ao l c, b = .slice ao l c)
 (cC : ∀ V, Below w.heap.size w V → Calls Tryz.prog 62 #[.slice xo xn xc, b, .int .i64 0] V fun e w' => Gup V.heap.size F e w' (fun u => ∃ pv, u = .agg #[.int .u64 0, .slice none 0 0, pv] ∧ pv.oneCell' = true ∧ Rs w' pv) ∧ Below V.heap.size V w')
 (hst : ∀ V V' pv, w.heap.size ≤ V.heap.size → Rs V pv → But bv V V' → Rs V' pv) (hne : bc ≠ bv ∧ bb ≠ bv ∧ g ≠ bv) :
 Calls Tryz.prog 61 #[.pointer (some ⟨bc, 0, none⟩), .pointer (some ⟨bb, 0, none⟩), .pointer (some ⟨bv, 0, none⟩)] w fun e w' => Gup w.heap.size F e w' (fun v => v = .tuple #[] ∧ ∃ pv, w'.heap[bv]? = some (.cells #[.int .u64 0, .slice none 0 0, pv] 78 (0, 0)) ∧ Rs w' pv) ∧ ((F ≠ none → Below w.heap.size w w') ∧ But bv w w') := by
 obtain ⟨bao, bl_, bcc, rfl⟩ := hbs
 go_enter Tryz.func61, Tryz.ntmps61
 have hbd : Below w.heap.size w w.drew := below_drN (Below.refl _ _) 1
 have hS0 : (fun W : World => Bx W bc #[.pointer (some ⟨g, 0, none⟩)] ∧ Bx W bb #[.slice bao bl_ bcc] ∧ Bx W g #[.slice xo xn xc, .int .i64 lo, .int .i64 hi]) w.drew := ⟨hc.keep hbd, hb.keep hbd, hg.keep hbd⟩
 have hv1 := keep hbd hv
 have cC2 := hide (cC w.drew hbd)
 have lbv := lt_of_row hv
 clear cC
 refine wp_region_held (S := fun W : World => Bx W bc #[.pointer (some ⟨g, 0, none⟩)] ∧ Bx W bb #[.slice bao bl_ bcc] ∧ Bx W g #[.slice xo xn xc, .int .i64 lo, .int .i64 hi]) (by kernel_rfl) ?_
 change wpAnyH _ _ _ _ _ _ _ _ (World.drew _)
 generalize w.drew = w1 at *
 refine wpAnyH_take (i := 0) (v := .pointer (some ⟨g, 0, none⟩)) rfl (by kernel_rfl) (by kernel_rfl) (by kernel_rfl) (fun _ _ _ h => h) (Or.inl ⟨by rfl, ?y8⟩) hS0 ?r8
 case y8 =>
  intro w_ hS_
  obtain ⟨_, h_⟩ := hS_.1
  have c_ := cell_of_row _ _ 0 _ _ _ h_
  go_simp
  try with_reducible rfl
 simp only [Act.put, List.getElem_toArray, List.getElem_cons_zero, List.setIfInBounds_toArray, List.set_cons_succ, List.set_cons_zero]
 refine wpAnyH_take (i := 1) (v := ?v9) rfl (by kernel_rfl) (by kernel_rfl) (by kernel_rfl) (fun _ _ _ h => h) (Or.inl ⟨by rfl, ?y9⟩) hS0 ?r9
 case y9 =>
  intro w_ hS_
  go_simp
  try with_reducible rfl
 simp only [Act.put, List.getElem_toArray, List.getElem_cons_succ, List.getElem_cons_zero, List.setIfInBounds_toArray, List.set_cons_succ, List.set_cons_zero]
 refine wpAnyH_take (i := 2) (v := ?v10) rfl (by kernel_rfl) (by kernel_rfl) (by kernel_rfl) (fun _ _ _ h => h) (Or.inl ⟨by rfl, ?y10⟩) hS0 ?r10
 case y10 =>
  intro w_ hS_
  go_simp
  try with_reducible rfl
 simp only [Act.put, List.getElem_toArray, List.getElem_cons_succ, List.getElem_cons_zero, List.setIfInBounds_toArray, List.set_cons_succ, List.set_cons_zero]
 refine wpAnyH_take (i := 3) (v := .slice xo xn xc) rfl (by kernel_rfl) (by kernel_rfl) (by kernel_rfl) (fun _ _ _ h => h) (Or.inl ⟨by rfl, ?y11⟩) hS0 ?r11
 case y11 =>
  intro w_ hS_
  obtain ⟨_, h_⟩ := hS_.2.2
  have c_ := cell_of_row _ _ 0 _ _ _ h_
  go_simp
  try with_reducible rfl
 simp only [Act.put, List.getElem_toArray, List.getElem_cons_succ, List.getElem_cons_zero, List.setIfInBounds_toArray, List.set_cons_succ, List.set_cons_zero]
 refine wpAnyH_take (i := 4) (v := .slice bao bl_ bcc) rfl (by kernel_rfl) (by kernel_rfl) (by kernel_rfl) (fun _ _ _ h => h) (Or.inl ⟨by rfl, ?y12⟩) hS0 ?r12
 case y12 =>
  intro w_ hS_
  obtain ⟨_, h_⟩ := hS_.2.1
  have c_ := cell_of_row _ _ 0 _ _ _ h_
  go_simp
  try with_reducible rfl
 simp only [Act.put, List.getElem_toArray, List.getElem_cons_succ, List.getElem_cons_zero, List.setIfInBounds_toArray, List.set_cons_succ, List.set_cons_zero]
 refine wpAnyH_one (k := 5) (fuel := 1) (by kernel_rfl) rfl (by kernel_rfl) (fun K_ hK => ?_)
 refine wp_call_upW w1.heap.size F (fun u w' => ∃ pv, u = .agg #[.int .u64 0, .slice none 0 0, pv] ∧ pv.oneCell' = true ∧ Rs w' pv) (fun w' => Below w1.heap.size w1 w') (by kernel_rfl) cC2.out ?_ ?_
 ·intro hF v_ w4 hX hb4
  obtain ⟨pv, rfl, hpo, hRs⟩ := hX
  subst hF
  have hS4 := (⟨hS0.1.keep hb4, hS0.2.1.keep hb4, hS0.2.2.keep hb4⟩ : (fun W : World => Bx W bc #[.pointer (some ⟨g, 0, none⟩)] ∧ Bx W bb #[.slice bao bl_ bcc] ∧ Bx W g #[.slice xo xn xc, .int .i64 lo, .int .i64 hi]) w4)
  have hv4 := keep hb4 hv1
  have hw4 := Below.after hbd hb4
  refine hK _ _ hS4 ?_
  simp only [Act.put, List.getElem_toArray, List.getElem_cons_succ, List.getElem_cons_zero, List.setIfInBounds_toArray, List.set_cons_succ, List.set_cons_zero]
  clear hK
  have hone : (#[Value.int .u64 0, .slice none 0 0, pv] : Array Value).all (·.oneCell') = true := by simp [Value.oneCell'] at hpo ⊢; exact hpo
  refine wpAnyH_one (k := 6) (fuel := 0) (by kernel_rfl) rfl (by kernel_rfl) (fun K_ hK => ?_)
  refine wp_store_row 78 _ _ rfl bv #[.int .u64 0, .slice none 0 0, pv] rfl rfl 78 _ hv4 infoV (by rw [hcur]; rfl) hone ?_
  have hB5 := But.setRow (g := bv) w4 #[.int .u64 0, .slice none 0 0, pv]
  have hv5 := setRow_heap w4 bv _ #[.int .u64 0, .slice none 0 0, pv] _ _ hv4
  have hRs5 := hst _ _ _ hw4.size hRs hB5
  have hbut := (But.of hw4).trans hB5
  refine hK _ _ ?_ ?_
  ·exact ⟨hB5.keepBx hS4.1 hne.1, hB5.keepBx hS4.2.1 hne.2.1, hB5.keepBx hS4.2.2 hne.2.2⟩
  simp only [Act.put]
  clear hK
  refine wpAnyH_done (by kernel_rfl) ?_ _
  have A1 := hide hv5
  have A2 := hide hRs5
  have A3 := hide hbut
  clear hv5 hRs5 hbut hB5 hS4 hv4 hw4 hRs hS0
  go_wp2_with (fail)
  go_end0
  exact ⟨⟨_, rfl, rfl, pv, A1.out, A2.out⟩, fun h => absurd rfl h, A3.out⟩
 ·intro x hF g4 w4 h1 h2 hb4
  subst hF
  have hw4 := Below.after hbd hb4
  have sz1 := hbd.size
  go_wp2_with (fail)
  exact ⟨rfl, ⟨g4, rfl, by omega, h2⟩, fun _ => hw4, But.of hw4⟩
def CgtQ (base : Nat) (f : Option Flt3) (Q : World → Prop) (e : Ending) (w' : World) : Prop :=
 match f with
 | none => e = .returned .nilIface ∧ Q w'
 | some x => ∃ g, e = .returned (.iface 87 (.pointer (some ⟨g, 0, none⟩))) ∧ base ≤ g ∧ w'.heap[g]? = some (.cells (frw x) 35 (0, 0))
set_option maxRecDepth 100000 in
set_option maxHeartbeats 8000000 in
theorem a_caughtD (F : Option Flt3) (Q : World → Prop) (ca cb cc : Value) (bv : Nat) (w : World) (hbv : bv < w.heap.size)
 (hQ : ∀ V V', Q V → But w.heap.size V V' → Q V')
 (hD : ∀ V, Below w.heap.size w V → w.heap.size < V.heap.size → Calls Tryz.prog 61 #[ca, cb, cc] V fun e w' => Gup V.heap.size F e w' (fun v => v = .tuple #[] ∧ Q w') ∧ ((F ≠ none → Below V.heap.size V w') ∧ But bv V w')) :
 Calls Tryz.prog 60 #[.func (.func 61) #[] #[ca, cb, cc]] w fun e w' => CgtQ w.heap.size F Q e w' ∧ ((F ≠ none → Below w.heap.size w w') ∧ But bv w w') := by
 have h0 := hmf
 have hb0 : Below w.heap.size w (w.alloc (.cells #[.nilIface] 30)) := (Below.refl _ _).alloc (Nat.le_refl _) _
 have r0 := hp1_0 w (.cells #[.nilIface] 30)
 have cD := hD _ hb0 (by simp)
 clear hD
 go_enter_defers Tryz.func60, Tryz.ntmps60
 go_wp2_with (fail)
 refine cD.mono ?_
 rintro e_ w1 ⟨hG, hbn, hB⟩
 have r1 := hB.row r0 (by omega)
 have c1 : w1.cell? ⟨w.heap.size, 0, none⟩ = some .nilIface := by rw [cell_of_row _ _ _ _ _ _ r1]; rfl
 have f1 := row_frozen r1 0
 have hBw : But bv w w1 := (But.of hb0).trans hB
 cases F with
 | none =>
  obtain ⟨v, rfl, rfl, hQ1⟩ := hG
  have r2 := heap_setCell_same w1 w.heap.size 0 _ _ .nilIface r1
  have hB2 := But.set (g := w.heap.size) w1 .nilIface
  have hQ2 := hQ _ _ hQ1 hB2
  have hBF : But bv w (w1.setCell ⟨w.heap.size, 0, none⟩ .nilIface) := ⟨hB2.os.trans hBw.os, hB2.tape.trans hBw.tape, hB2.output.trans hBw.output, Nat.le_trans hBw.size hB2.size, fun k hk hne => (hB2.block k (Nat.lt_of_lt_of_le hk hBw.size) (by omega)).trans (hBw.block k hk hne)⟩
  have c2 : (w1.setCell ⟨w.heap.size, 0, none⟩ .nilIface).cell? ⟨w.heap.size, 0, none⟩ = some .nilIface := by rw [cell_of_row _ _ _ _ _ _ r2]; rfl
  go_wp2
  refine leaves_cons (f := 85) (args := #[.pointer (some ⟨w.heap.size, 0, none⟩)]) (by simp) (by simp [go_sem]) ?_
  refine (catch_idle ⟨w.heap.size, 0, none⟩ _).mono ?_
  rintro e u' w'' ⟨rfl, rfl, rfl⟩
  simp [Leaves, settle, results, Tryz.results60, go_sem, c2]
  exact ⟨⟨rfl, hQ2⟩, hBF⟩
 | some f =>
  obtain ⟨g, rfl, hg1, hg2⟩ := hG
  have hb1 := hbn (by simp)
  have hw := Below.after hb0 hb1
  have r2 := heap_setCell_same w1 w.heap.size 0 _ _ (.iface 87 (.pointer (some ⟨g, 0, none⟩))) r1
  have hw2 := hw.setCell (show w.heap.size ≤ (⟨w.heap.size, 0, none⟩ : Addr).block from Nat.le_refl _) (.iface 87 (.pointer (some ⟨g, 0, none⟩)))
  have c2 : (w1.setCell ⟨w.heap.size, 0, none⟩ (.iface 87 (.pointer (some ⟨g, 0, none⟩)))).cell? ⟨w.heap.size, 0, none⟩ = some (.iface 87 (.pointer (some ⟨g, 0, none⟩))) := by rw [cell_of_row _ _ _ _ _ _ r2]; rfl
  go_wp2
  refine leaves_cons (f := 85) (args := #[.pointer (some ⟨w.heap.size, 0, none⟩)]) (by simp) (by simp [go_sem]) ?_
  refine (catch_panicking ⟨w.heap.size, 0, none⟩ .nilIface g [] _ c1 f1).mono ?_
  rintro e u' w'' ⟨rfl, rfl, rfl⟩
  simp [Leaves, settle, results, Tryz.results60, go_sem, c2]
  rw [size_alloc1] at hg1
  exact ⟨⟨g, rfl, by omega, (heap_setCell_other w1 ⟨w.heap.size, 0, none⟩ g _ (show g ≠ w.heap.size by omega)).trans hg2⟩, hw2, But.of hw2⟩
def Dcr (base : Nat) (ts : List Slt) (d : List B) (e : Ending) (w' : World) : Prop :=
 match dec8 ts d 0 with
 | none => ∃ pv fv us, e = .returned (.tuple #[.agg #[.int .u64 0, .slice none 0 0, pv], .nilIface]) ∧ w'.ownsRow base 78 3 pv (dfs (dwh d)).length (vrk (dfs (dwh d)) us (dfs (dwh d)).length) ∧ Fts w' base fv us (dfs (dwh d))
 | some x => ∃ g, e = .returned (.tuple #[.agg #[.int .u64 0, .slice none 0 0, .slice none 0 0], .iface 87 (.pointer (some ⟨g, 0, none⟩))]) ∧ base ≤ g ∧ w'.heap[g]? = some (.cells (frw x) 35 (0, 0))
set_option maxRecDepth 100000 in
set_option maxHeartbeats 8000000 in
theorem a_DecodeF {g : Nat} {ts : List Slt} (hfl : ∀ i, i < ts.length → Fla (gs ts i)) (d : List B) (b : Value) (w : World) (hC : Cdc w g ts) (hB : BysB w b d) (hcap : ∀ a l c, b = .slice a l c → l ≤ c) :
 Calls Tryz.prog 31 #[.pointer (some ⟨g, 0, none⟩), b] w fun e w' => Dcr w.heap.size ts d e w' ∧ Below w.heap.size w w' := by
 obtain ⟨bao, bcc, rfl⟩ := hB.form
 generalize hbl : d.length = bl_ at *
 obtain ⟨x, hx, hg⟩ := hC
 obtain ⟨xo, xc, rfl⟩ := hx.form
 have lg := lt_of_row hg
 have r0 := hp4_0 w (.cells #[.pointer (some ⟨g, 0, none⟩)] 80) (.cells #[.slice bao bl_ bcc] 22) (.cells #[.int .u64 0, .slice none 0 0, .slice none 0 0] 78) (.cells #[.int .u64 0, .slice none 0 0, .slice none 0 0] 78)
 have r1 := hp4_1 w (.cells #[.pointer (some ⟨g, 0, none⟩)] 80) (.cells #[.slice bao bl_ bcc] 22) (.cells #[.int .u64 0, .slice none 0 0, .slice none 0 0] 78) (.cells #[.int .u64 0, .slice none 0 0, .slice none 0 0] 78)
 have r2 := hp4_2 w (.cells #[.pointer (some ⟨g, 0, none⟩)] 80) (.cells #[.slice bao bl_ bcc] 22) (.cells #[.int .u64 0, .slice none 0 0, .slice none 0 0] 78) (.cells #[.int .u64 0, .slice none 0 0, .slice none 0 0] 78)
 have r3 := hp4_3 w (.cells #[.pointer (some ⟨g, 0, none⟩)] 80) (.cells #[.slice bao bl_ bcc] 22) (.cells #[.int .u64 0, .slice none 0 0, .slice none 0 0] 78) (.cells #[.int .u64 0, .slice none 0 0, .slice none 0 0] 78)
 have hb : Below w.heap.size w ((((w.alloc (.cells #[.pointer (some ⟨g, 0, none⟩)] 80)).alloc (.cells #[.slice bao bl_ bcc] 22)).alloc (.cells #[.int .u64 0, .slice none 0 0, .slice none 0 0] 78)).alloc (.cells #[.int .u64 0, .slice none 0 0, .slice none 0 0] 78)) := ((((Below.refl _ _).alloc (Nat.le_refl _) _).alloc (by simp) _).alloc (by simp; omega) _).alloc (by simp; omega) _
 have hsz : ((((w.alloc (.cells #[.pointer (some ⟨g, 0, none⟩)] 80)).alloc (.cells #[.slice bao bl_ bcc] 22)).alloc (.cells #[.int .u64 0, .slice none 0 0, .slice none 0 0] 78)).alloc (.cells #[.int .u64 0, .slice none 0 0, .slice none 0 0] 78)).heap.size = w.heap.size + 4 := by simp
 have hB4 := hB.keep hb
 have h0 := hmf
 have hrd : Bx ((((w.alloc (.cells #[.pointer (some ⟨g, 0, none⟩)] 80)).alloc (.cells #[.slice bao bl_ bcc] 22)).alloc (.cells #[.int .u64 0, .slice none 0 0, .slice none 0 0] 78)).alloc (.cells #[.int .u64 0, .slice none 0 0, .slice none 0 0] 78)) g #[.slice xo ts.length xc, .int .i64 ((prS ts).1 : Int), .int .i64 ((prS ts).2 : Int)] := ⟨_, (hb.block g lg).trans hg⟩
 have b0 : Bx ((((w.alloc (.cells #[.pointer (some ⟨g, 0, none⟩)] 80)).alloc (.cells #[.slice bao bl_ bcc] 22)).alloc (.cells #[.int .u64 0, .slice none 0 0, .slice none 0 0] 78)).alloc (.cells #[.int .u64 0, .slice none 0 0, .slice none 0 0] 78)) w.heap.size #[.pointer (some ⟨g, 0, none⟩)] := ⟨_, r0⟩
 have b1 : Bx ((((w.alloc (.cells #[.pointer (some ⟨g, 0, none⟩)] 80)).alloc (.cells #[.slice bao bl_ bcc] 22)).alloc (.cells #[.int .u64 0, .slice none 0 0, .slice none 0 0] 78)).alloc (.cells #[.int .u64 0, .slice none 0 0, .slice none 0 0] 78)) (w.heap.size + 1) #[.slice bao bl_ bcc] := ⟨_, r1⟩
 go_enter Tryz.func31, Tryz.ntmps31
 go_upto_region 2 with (fail)
 generalize ((((w.alloc (.cells #[.pointer (some ⟨g, 0, none⟩)] 80)).alloc (.cells #[.slice bao bl_ bcc] 22)).alloc (.cells #[.int .u64 0, .slice none 0 0, .slice none 0 0] 78)).alloc (.cells #[.int .u64 0, .slice none 0 0, .slice none 0 0] 78)) = w4 at *
 obtain ⟨Rs, hRs⟩ : ∃ Rs : World → Value → Prop, Rs = fun W_ pv_ => ∃ fv us, W_.ownsRow (w.heap.size + 5) 78 3 pv_ (dfs (dwh d)).length (vrk (dfs (dwh d)) us (dfs (dwh d)).length) ∧ Fts W_ (w.heap.size + 5) fv us (dfs (dwh d)) := ⟨_, rfl⟩
 have hst : ∀ V V' pv g', g' < w.heap.size + 5 → Rs V pv → But g' V V' → Rs V' pv := by
  intro V V' pv g' hg' hr hbut
  rw [hRs] at hr ⊢
  obtain ⟨fv, us, ho, hf⟩ := hr
  exact ⟨fv, us, own_move_row ho (fun z o hz hzo => hbut.row hzo (by omega)), Fts.move hf (fun z o hz hzo => hbut.row hzo (by omega))⟩
 have cS : ∀ V, Below w4.heap.size w4 V → w4.heap.size < V.heap.size → Calls Tryz.prog 62 #[.slice xo ts.length xc, .slice bao bl_ bcc, .int .i64 0] V fun e w' => Gup V.heap.size (dec8 ts d 0) e w' (fun u => ∃ pv, u = .agg #[.int .u64 0, .slice none 0 0, pv] ∧ pv.oneCell' = true ∧ Rs w' pv) ∧ Below V.heap.size V w' := by
  intro V hV hlt
  refine (a_decodeF hx hfl d (.slice bao bl_ bcc) 0 (by omega) V (Below.after hb hV) (hB4.keep hV) hcap).mono fun e w' hX => ⟨?_, hX.2⟩
  have hX1 := hX.1
  generalize dec8 ts d 0 = F at *
  cases F with
  | none =>
   obtain ⟨u, he, pv, fv, us, hu, ho, hf⟩ := hX1
   refine ⟨u, he, pv, hu, own_cell_row ho, ?_⟩
   rw [hRs]
   exact ⟨fv, us, own_down_row ho (by omega), Fts.down hf (by omega)⟩
  | some x => exact hX1
 have cA := a_caughtD (dec8 ts d 0) (fun V => ∃ pv, V.heap[w.heap.size + 1 + 1 + 1]? = some (.cells #[.int .u64 0, .slice none 0 0, pv] 78 (0, 0)) ∧ Rs V pv) (.pointer (some ⟨w.heap.size, 0, none⟩)) (.pointer (some ⟨w.heap.size + 1, 0, none⟩)) (.pointer (some ⟨w.heap.size + 1 + 1 + 1, 0, none⟩)) (w.heap.size + 1 + 1 + 1) w4 (by omega)
  (fun V V' hq hbut => by
   obtain ⟨pv, hq1, hq2⟩ := hq
   exact ⟨pv, hbut.row hq1 (by omega), hst V V' pv _ (by omega) hq2 hbut⟩)
  (fun V hV hlt => a_decode1 (dec8 ts d 0) Rs w.heap.size (w.heap.size + 1) (w.heap.size + 1 + 1 + 1) g (.slice bao bl_ bcc) xo ts.length xc _ _ #[.int .u64 0, .slice none 0 0, .slice none 0 0] rfl V (b0.keep hV) (b1.keep hV) (hrd.keep hV) (keep hV r3) ⟨_, _, _, rfl⟩ (fun V' hV' => cS V' (Below.after hV hV') (Nat.lt_of_lt_of_le hlt hV'.size)) (fun V1 V2 pv _ hr hbut => hst V1 V2 pv _ (by omega) hr hbut) ⟨by omega, by omega, by omega⟩)
 replace cA := hide cA
 clear cS b0 b1 hrd hB4 hx hB hcap
 go_wp2_with (fail)
 refine cA.out.mono ?_
 rintro e_ w5 ⟨hG, hbn, hBt⟩
 have r25 := hBt.row r2 (by omega)
 have hw5 := But.after hb (by omega) hBt
 clear cA
 obtain ⟨R, hR⟩ : ∃ R, dec8 ts d 0 = R := ⟨_, rfl⟩
 rw [hR] at hG hbn
 replace hR := hide hR
 cases R with
 | none =>
  obtain ⟨rfl, pv, r35, hr⟩ := hG
  have hr' := hst _ (w5.setRow (w.heap.size + 1 + 1) #[.int .u64 0, .slice none 0 0, pv]) _ _ (by omega) hr (But.setRow (g := w.heap.size + 1 + 1) w5 #[.int .u64 0, .slice none 0 0, pv])
  rw [hRs] at hr'
  obtain ⟨fv, us, ho, hf⟩ := hr'
  have hpo := own_cell_row ho
  have hone : (#[Value.int .u64 0, .slice none 0 0, pv] : Array Value).all (·.oneCell') = true := by simp [Value.oneCell'] at hpo ⊢; exact hpo
  have RF := hide (setRow_heap _ (w.heap.size + 1 + 1) _ #[.int .u64 0, .slice none 0 0, pv] _ _ r25)
  have hwF := hide (below_setRow (g := w.heap.size + 1 + 1) hw5 (by omega) #[.int .u64 0, .slice none 0 0, pv])
  replace ho := hide ho
  replace hf := hide hf
  clear hr hBt hbn hw5 hb hRs hst hpo
  go_wp2_with (first | (refine wpList_load_want rfl 78 _ rfl (w.heap.size + 1 + 1 + 1) rfl 78 #[.int .u64 0, .slice none 0 0, pv] (0, 0) _ r35 Tryz.underlying78 rfl infoV ?_) | (refine wpList_store_row rfl 78 _ _ rfl (w.heap.size + 1 + 1) #[.int .u64 0, .slice none 0 0, pv] rfl rfl 78 _ r25 infoV rfl hone ?_) | fail)
  refine bodyPost_ret (results_row_slot Tryz.results31 _ _ (w.heap.size + 1 + 1) _ _ _ _ _ rfl RF.out rfl Tryz.underlying78 rfl infoV) rfl ⟨?_, hwF.out⟩
  unfold Dcr
  rw [hR.out]
  exact ⟨pv, fv, us, rfl, own_down_row ho.out (by omega), Fts.down hf.out (by omega)⟩
 | some x =>
  obtain ⟨q, rfl, hq1, hq2⟩ := hG
  have r35 := keep (hbn (by simp)) r3
  have hone : (#[Value.int .u64 0, .slice none 0 0, .slice none 0 0] : Array Value).all (·.oneCell') = true := by simp [Value.oneCell']
  have RF := hide (setRow_heap _ (w.heap.size + 1 + 1) _ #[.int .u64 0, .slice none 0 0, .slice none 0 0] _ _ r25)
  have hwF := hide (below_setRow (g := w.heap.size + 1 + 1) hw5 (by omega) #[.int .u64 0, .slice none 0 0, .slice none 0 0])
  have hq3 := hide ((setRow_other w5 (w.heap.size + 1 + 1) q #[.int .u64 0, .slice none 0 0, .slice none 0 0] (by omega)).trans hq2)
  clear hq2 hBt hbn hw5 hb hRs hst
  go_wp2_with (first | (refine wpList_load_want rfl 78 _ rfl (w.heap.size + 1 + 1 + 1) rfl 78 #[.int .u64 0, .slice none 0 0, .slice none 0 0] (0, 0) _ r35 Tryz.underlying78 rfl infoV ?_) | (refine wpList_store_row rfl 78 _ _ rfl (w.heap.size + 1 + 1) #[.int .u64 0, .slice none 0 0, .slice none 0 0] rfl rfl 78 _ r25 infoV rfl hone ?_) | fail)
  refine bodyPost_ret (results_row_slot Tryz.results31 _ _ (w.heap.size + 1 + 1) _ _ _ _ _ rfl RF.out rfl Tryz.underlying78 rfl infoV) rfl ⟨?_, hwF.out⟩
  unfold Dcr
  rw [hR.out]
  exact ⟨q, rfl, by omega, hq3.out⟩
end Go.Proofs.YtjoohgkgkabbpaaGreatDoor

