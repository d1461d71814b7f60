import Derived.Test.YtlbcdjflcghkeaaDoorProg
import Derived.WalkKit
import Derived.WalkSpells
import Derived.WalkLawsBesides
import Derived.Lib.QuietBelow
import Derived.BigQuiet
import Derived.OrdersHeld
import Derived.OwnWalk
import Derived.Deep.RegionHeld3
import Derived.Deep.Cut
import Derived.Deep.CutRange
import Derived.Deep.CutBlock
import Derived.Test.YtlbcdjflcghkeaaDoorTui
namespace Go.Proofs.YtlbcdjflcghkeaaDoor
set_option maxRecDepth 100000
open Go Go.RowKit Go.Sort
attribute [local go_sem] setCell_drewN alloc_drewN
theorem run_storeVar_cell {P : Program} (w : World) (g off : Nat) (ty : TypeId) (v : Value) (ht : w.there g off 1) (hi : (P.info? ty).map (·.size) = some 1) (h1 : v.oneCell' = true) : (storeVar ty ⟨g, off, none⟩ v).run P w = .ok () (w.setCells g off [v]) := by
  have := run_storeCells_cells (P := P) g off [v] 0 w (fun j hj => by simpa using (ht j (by simpa using hj)).1) (fun j hj => by simpa using (ht j (by simpa using hj)).2) (fun u hu => by simp at hu; subst hu; exact h1)
  have hc : v.cells = #[v] := by cases v <;> first | rfl | cases h1
  cases hq : P.info? ty with
  | none => simp [hq] at hi
  | some i =>
    have hs : i.size = 1 := by simpa [hq] using hi
    simp only [Nat.add_zero] at this
    simp [storeVar, sizeOf, typeInfo, hq, hc, hs, this]
theorem wp_store_cellR {P : Program} {o : Oper} {a : Act} {w : World} {K : Act → World → Prop} {Q : Exit → Act → World → Prop} (ty : TypeId) (x y : Operand) (ho : o.op = .store ty x y)
    (g off : Nat) (v : Value) (hx : a.eval x = .pointer (some ⟨g, off, none⟩)) (hy : a.eval y = v) (t : TypeId) (old new : Array Value) (hg : w.heap[g]? = some (.cells old t (0, 0))) (hlt : off < old.size) (hnew : old.setIfInBounds off v = new)
    (hi : (P.info? ty).map (·.size) = some 1) (h1 : v.oneCell' = true)
    (h : K (a.put o.dst undef) (w.setRow g new)) : o.wp P a w K Q := by
  unfold Oper.wp execOp
  simp only [ho, hx, hy, Instr.storeAt, Instr.sureAddr, Sem.run_bind, Sem.run_pure, Result.andThen_ok, run_storeVar_cell w g off ty v (there_row hg hlt) hi h1]
  rw [setCells_eq [v] off w old hg]
  have e : ovw old off [v] = new := hnew
  rw [e]
  exact h
theorem wpList_store_cell {P : Program} {ops : Array Oper} {rest : List Oper} {o : Oper} {a : Act} {w : World} {Q : Exit → Act → World → Prop} (hgd : o.guard = none) (ty : TypeId) (x y : Operand) (ho : o.op = .store ty x y)
    (g off : Nat) (v : Value) (hx : a.eval x = .pointer (some ⟨g, off, none⟩)) (hy : a.eval y = v) (t : TypeId) (old new : Array Value) (hg : w.heap[g]? = some (.cells old t (0, 0))) (hlt : off < old.size) (hnew : old.setIfInBounds off v = new)
    (hi : (P.info? ty).map (·.size) = some 1) (h1 : v.oneCell' = true)
    (h : wpList P ops Q rest (a.put o.dst undef) (w.setRow g new)) : wpList P ops Q (o :: rest) a w := by
  refine wpList_plain hgd fun _ hK => ?_
  unfold Oper.wp execOp
  simp only [ho, hx, hy, Instr.storeAt, Instr.sureAddr, Sem.run_bind, Sem.run_pure, Result.andThen_ok, run_storeVar_cell w g off ty v (there_row hg hlt) hi h1]
  refine hK _ _ ?_
  rw [setCells_eq [v] off w old hg]
  have e : ovw old off [v] = new := hnew
  rw [e]
  exact h
theorem bk_put (y : List Int) (hy : y.length = 32) (ve vc u : Value) : (bkr y ve vc).setIfInBounds 33 u = bkr y ve u := by
  obtain ⟨x0, x1, x2, x3, x4, x5, x6, x7, x8, x9, x10, x11, x12, x13, x14, x15, x16, x17, x18, x19, x20, x21, x22, x23, x24, x25, x26, x27, x28, x29, x30, x31, rfl⟩ := len32 y hy
  rfl
theorem bk_pute (y : List Int) (hy : y.length = 32) (ve vc u : Value) : (bkr y ve vc).setIfInBounds 32 u = bkr y u vc := by
  obtain ⟨x0, x1, x2, x3, x4, x5, x6, x7, x8, x9, x10, x11, x12, x13, x14, x15, x16, x17, x18, x19, x20, x21, x22, x23, x24, x25, x26, x27, x28, x29, x30, x31, rfl⟩ := len32 y hy
  rfl
theorem run_bslC (c : Ct) (hc : c.ok) (W : World) : (Instr.buildSlice 42 1 #[(0, .agg (ctr c))]).run Tryd.prog W = .ok (.slice (some ⟨W.heap.size, 0, none⟩) 1 1) (W.alloc (.cells (ctr c) 45)) := by
  obtain ⟨n, k, x, s⟩ := c
  obtain ⟨x0, x1, x2, x3, x4, x5, x6, x7, x8, x9, x10, x11, x12, x13, x14, x15, x16, x17, x18, x19, x20, x21, x22, x23, x24, x25, x26, x27, x28, x29, x30, x31, rfl⟩ := len32 k hc.1.1
  obtain ⟨y0, y1, y2, y3, y4, y5, y6, y7, y8, y9, y10, y11, y12, y13, y14, y15, y16, y17, y18, y19, y20, y21, y22, y23, y24, y25, y26, y27, y28, y29, y30, y31, rfl⟩ := len32 x hc.2.1
  kernel_rfl
theorem run_bslE (e : Ev) (he : e.ok) (W : World) : (Instr.buildSlice 47 1 #[(0, .agg (evr e))]).run Tryd.prog W = .ok (.slice (some ⟨W.heap.size, 0, none⟩) 1 1) (W.alloc (.cells (evr e) 57)) := by
  obtain ⟨d, n, k⟩ := e
  obtain ⟨x0, x1, x2, x3, x4, x5, x6, x7, x8, x9, x10, x11, x12, x13, x14, x15, x16, x17, x18, x19, x20, x21, x22, x23, x24, x25, x26, x27, x28, x29, x30, x31, rfl⟩ := len32 k he.1
  kernel_rfl
theorem e_bslC {o : Oper} {a : Act} (c : Ct) (hc : c.ok) (w : World) (x : Operand) (ho : o.op = .buildSlice 42 1 #[(0, x)]) (hx : a.eval x = .agg (ctr c)) : (execOp a.eval o).run Tryd.prog w = .ok (.value (.slice (some ⟨w.heap.size, 0, none⟩) 1 1)) (w.alloc (.cells (ctr c) 45)) := by
  simp [execOp, ho, hx, run_bslC c hc, Result.andThen]
theorem e_bslE {o : Oper} {a : Act} (e : Ev) (he : e.ok) (w : World) (x : Operand) (ho : o.op = .buildSlice 47 1 #[(0, x)]) (hx : a.eval x = .agg (evr e)) : (execOp a.eval o).run Tryd.prog w = .ok (.value (.slice (some ⟨w.heap.size, 0, none⟩) 1 1)) (w.alloc (.cells (evr e) 57)) := by
  simp [execOp, ho, hx, run_bslE e he, Result.andThen]
theorem sl_one {ao : Option Addr} {n c : Nat} : (Value.slice ao n c).oneCell' = true := rfl
/-- What becomes of the contacts by a first key, and when one is forgotten. -/
def snC (cs : List Ct) (e : Ev) : Option (List Ct) := if th cs e.n = true ∨ 64 ≤ cs.length then none else some (insC cs ⟨e.n, e.k, zr 32, 1⟩)
def fgC (cs : List Ct) (e : Ev) : Option (List Ct) := if th cs e.n = true ∧ e.k = zr 32 then some (delC cs e.n) else none
/-- The contacts elsewhere: the book with another list of them. -/
theorem Bk.with {W V : World} {b g : Nat} {ve vc u : Value} {y : List Int} {es : List Ev} {cs ds : List Ct} (h : Bk W b g ve vc y es cs) (hf : Fr (fun k => vc.ownBlock = some k) W V) (hO : OwnC V b u ds) (hs : Srt ds) (ht : ∀ c ∈ ds, 1 ≤ c.s ∧ c.s ≤ 4) (hl : ds.length ≤ 64) : Bk (V.setRow g (bkr y ve u)) b g ve u y es ds := by
  have hT : ∀ k, ve.ownBlock = some k → vc.ownBlock ≠ some k := fun _ e q => by
    obtain ⟨_, ⟨rfl, _⟩ | ⟨g1, cap, cur, rfl, _, hg1, _⟩⟩ := h.evs.1
    · cases e
    · cases e
      exact own_type h.cts.1 hg1 (by decide) q
  have hr : V.heap[g]? = some (.cells (bkr y ve vc) 51 (0, 0)) := (hf.block g (lt_of_row h.row) (own_type h.cts.1 h.row (by decide))).trans h.row
  refine ⟨setRow_heap _ _ _ _ _ _ hr, h.evs.move (fun k e => ?_), hO.move (fun k e => ?_), h.key, h.bg, hs, ht, hl, h.elen⟩
  · rw [setRow_other V g k _ (fun q => own_type h.evs.1 h.row (by decide) (q ▸ e))]
    exact hf.block k (h.evs.lt k e).2 (hT k e)
  · exact setRow_other V g k _ (fun q => own_type hO.1 hr (by decide) (q ▸ e))
theorem Fr.bset {W V : World} {g : Nat} {ve vc : Value} (hf : Fr (ownB g ve vc) W V) (cs : Array Value) : Fr (ownB g ve vc) W (V.setRow g cs) := hf.setRow (.inl rfl) cs
set_option maxRecDepth 100000 in
set_option maxHeartbeats 8000000 in
theorem a_seen (e : Ev) (he : e.ok) (b g : Nat) (ve vc : Value) (y : List Int) (es : List Ev) (cs : List Ct) (w : World) (hB : Bk w b g ve vc y es cs) : Calls Tryd.prog 47 #[.pointer (some ⟨g, 33, none⟩), .agg (evr e)] w fun en w' => ∃ vc', en = .returned (.bool (snC cs e).isSome) ∧ Bk w' b g ve vc' y es ((snC cs e).getD cs) ∧ Nx w vc vc' ∧ Fr (ownB g ve vc) w w' := by
  have hB0 := hB
  have hkey := hB.key.1
  have hcl := hB.len
  have hbw : b ≤ w.heap.size := Nat.le_of_lt (Nat.lt_of_le_of_lt hB.bg (lt_of_row hB.row))
  obtain ⟨ao, cap, rfl, hc1, hc2, hz1, hz2⟩ := hB.cts.sl
  obtain ⟨ae, ca, rfl, hc3, hc4, hz3, hz4⟩ := hB.evs.sl
  have cP : ∀ W, Below w.heap.size w W → Calls Tryd.prog 28 #[.slice ao cs.length cap, .string e.n] W fun e_ w' => e_ = .returned (.tuple #[.int .i64 (ps cs e.n : Nat), .bool (th cs e.n)]) ∧ Below W.heap.size W w' := fun W hW => a_place cs e.n b _ W (hB.keep hW).cts hB.srt (by omega)
  have hgw := lt_of_row hB.row
  have hle1 : ∀ k, (Value.slice ae es.length ca).ownBlock = some k → k < w.heap.size := fun k e => (hB.evs.lt k e).2
  have hlc1 : ∀ k, (Value.slice ao cs.length cap).ownBlock = some k → k < w.heap.size := fun k e => (hB.cts.lt k e).2
  have rp0 := hp1_0 w (.cells (evr e) 57)
  have hw : Below w.heap.size w (w.alloc (.cells (evr e) 57)) := ((Below.refl _ _).alloc (Nat.le_refl _) _)
  replace hB := hB.keep hw
  go_enter Tryd.func47, Tryd.ntmps47
  go_upto_region 1 with (first | (refine wpList_box rfl 57 _ rfl _ rfl (ev_box _) ?_) | fail)
  try simp only [size_alloc1]
  generalize (w.alloc (.cells (evr e) 57)) = w0 at *
  have rB := hB.row
  have hgl := lt_of_row rB
  have hb : Below w0.heap.size w0 w0.drew := below_drN (Below.refl _ _) 1
  replace rp0 := keep hb rp0
  replace hB := hB.keep hb
  replace rB := keep hb rB
  replace hw := Below.after hw hb
  clear hb
  refine wp_region_noPanic ?_
  refine wp_region_held (S := fun W_ => W_.heap[w.heap.size]? = some (.cells (evr e) 57 (0, 0)) ∧ W_.heap[g]? = some (.cells (bkr y (.slice ae es.length ca) (.slice ao cs.length cap)) 51 (0, 0))) (by kernel_rfl) ?_
  change wpAnyH _ _ _ _ _ _ _ _ (World.drew _)
  generalize w0.drew = wd1 at *
  refine wpAnyH_take (i := 0) (v := ?v2) rfl (by kernel_rfl) (by kernel_rfl) (by kernel_rfl) (fun _ _ _ h => h) (Or.inl ⟨by rfl, ?y2⟩) (⟨rp0, rB⟩) ?r2
  case y2 =>
    intro w_ hS_
    go_simp
    try with_reducible rfl
  simp only [Act.put, List.getElem_toArray, List.getElem_cons_zero, List.setIfInBounds_toArray, List.set_cons_succ, List.set_cons_zero]
  refine wpAnyH_take (i := 1) (v := ?v3) rfl (by kernel_rfl) (by kernel_rfl) (by kernel_rfl) (fun _ _ _ h => h) (Or.inl ⟨by rfl, ?y3⟩) (⟨rp0, rB⟩) ?r3
  case y3 =>
    intro w_ hS_
    go_simp
    try with_reducible rfl
  simp only [Act.put, List.getElem_toArray, List.getElem_cons_succ, List.getElem_cons_zero, List.setIfInBounds_toArray, List.set_cons_succ, List.set_cons_zero]
  refine wpAnyH_take (i := 2) (v := .slice ao cs.length cap) rfl (by kernel_rfl) (by kernel_rfl) (by kernel_rfl) (fun _ _ _ h => h) (Or.inl ⟨by rfl, ?y4⟩) (⟨rp0, rB⟩) ?r4
  case y4 =>
    intro w_ hS_
    have c_ := bkc hkey (hS_.2)
    go_simp
    try with_reducible rfl
  simp only [Act.put, List.getElem_toArray, List.getElem_cons_succ, List.getElem_cons_zero, List.setIfInBounds_toArray, List.set_cons_succ, List.set_cons_zero]
  refine wpAnyH_take (i := 3) (v := ?v5) rfl (by kernel_rfl) (by kernel_rfl) (by kernel_rfl) (fun _ _ _ h => h) (Or.inl ⟨by rfl, ?y5⟩) (⟨rp0, rB⟩) ?r5
  case y5 =>
    intro w_ hS_
    go_simp
    try with_reducible rfl
  simp only [Act.put, List.getElem_toArray, List.getElem_cons_succ, List.getElem_cons_zero, List.setIfInBounds_toArray, List.set_cons_succ, List.set_cons_zero]
  refine wpAnyH_take (i := 4) (v := .string e.n) rfl (by kernel_rfl) (by kernel_rfl) (by kernel_rfl) (fun _ _ _ h => h) (Or.inl ⟨by rfl, ?y6⟩) (⟨rp0, rB⟩) ?r6
  case y6 =>
    intro w_ hS_
    have c_ := cell_at (hS_.1) (ev_n e)
    go_simp
    try with_reducible rfl
  simp only [Act.put, List.getElem_toArray, List.getElem_cons_succ, List.getElem_cons_zero, List.setIfInBounds_toArray, List.set_cons_succ, List.set_cons_zero]
  refine eH_one (k := 5) (fuel := 5) (by kernel_rfl) rfl (by kernel_rfl) (fun K_ hK_ => ?_)
  refine wp_call_ex (f := 28) (by kernel_rfl) (ex1e (cP _ hw)) (fun v_ wq7 hX_ => ?_)
  obtain ⟨rfl, hb⟩ := hX_
  replace rp0 := keep hb rp0
  replace hB := hB.keep hb
  replace rB := keep hb rB
  replace hw := Below.after hw hb
  clear hb
  refine hK_ _ _ (⟨rp0, rB⟩) ?_
  simp only [Act.put, List.getElem_toArray, List.getElem_cons_succ, List.getElem_cons_zero, List.setIfInBounds_toArray, List.set_cons_succ, List.set_cons_zero]
  clear hK_
  refine wpAnyH_take (i := 6) (v := ?v8) rfl (by kernel_rfl) (by kernel_rfl) (by kernel_rfl) (fun _ _ _ h => h) (Or.inl ⟨by rfl, ?y8⟩) (⟨rp0, rB⟩) ?r8
  case y8 =>
    intro w_ hS_
    go_simp
    try with_reducible rfl
  simp only [Act.put, List.getElem_toArray, List.getElem_cons_succ, List.getElem_cons_zero, List.setIfInBounds_toArray, List.set_cons_succ, List.set_cons_zero]
  refine wpAnyH_take (i := 7) (v := ?v9) rfl (by kernel_rfl) (by kernel_rfl) (by kernel_rfl) (fun _ _ _ h => h) (Or.inl ⟨by rfl, ?y9⟩) (⟨rp0, rB⟩) ?r9
  case y9 =>
    intro w_ hS_
    go_simp
    try with_reducible rfl
  simp only [Act.put, List.getElem_toArray, List.getElem_cons_succ, List.getElem_cons_zero, List.setIfInBounds_toArray, List.set_cons_succ, List.set_cons_zero]
  refine wpAnyH_take (i := 8) (v := ?v10) rfl (by kernel_rfl) (by kernel_rfl) (by kernel_rfl) (fun _ _ _ h => h) (Or.inl ⟨by rfl, ?y10⟩) (⟨rp0, rB⟩) ?r10
  case y10 =>
    intro w_ hS_
    go_simp
    try with_reducible rfl
  simp only [Act.put, List.getElem_toArray, List.getElem_cons_succ, List.getElem_cons_zero, List.setIfInBounds_toArray, List.set_cons_succ, List.set_cons_zero]
  refine wpAnyH_take (i := 9) (v := ?v11) rfl (by kernel_rfl) (by kernel_rfl) (by kernel_rfl) (fun _ _ _ h => h) (Or.inl ⟨by rfl, ?y11⟩) (⟨rp0, rB⟩) ?r11
  case y11 =>
    intro w_ hS_
    go_simp
    try with_reducible rfl
  simp only [Act.put, List.getElem_toArray, List.getElem_cons_succ, List.getElem_cons_zero, List.setIfInBounds_toArray, List.set_cons_succ, List.set_cons_zero]
  refine wpAnyH_take (i := 10) (v := ?v12) rfl (by kernel_rfl) (by kernel_rfl) (by kernel_rfl) (fun _ _ _ h => h) (Or.inl ⟨by rfl, ?y12⟩) (⟨rp0, rB⟩) ?r12
  case y12 =>
    intro w_ hS_
    go_simp
    try with_reducible rfl
  simp only [Act.put, List.getElem_toArray, List.getElem_cons_succ, List.getElem_cons_zero, List.setIfInBounds_toArray, List.set_cons_succ, List.set_cons_zero]
  refine wpAnyH_done (by kernel_rfl) ?_ _
  refine NoPanic.normal ?_
  have aF := fun W hW => a_full cs b _ W (hB0.keep (W := w) hW).cts
  generalize dT : th cs e.n = xT at *
  cases xT
  · skip
    have fc1 := cell_at rp0 (ev_d e)
    have fc2 := cell_at rp0 (ev_n e)
    have fc3 := hB.ce
    have fc4 := hB.cc
    go_wp2_with (first | (refine wpList_load_part rfl 57 _ rfl (w.heap.size) 0 rfl 57 (evr e) (0, 0) (evr e) _ rp0 (all_rowe _) Tryd.underlying57 rfl (ev_info _ he.1) ?_) | (refine wpList_load_part rfl 23 _ rfl (w.heap.size) 2 rfl 57 (evr e) (0, 0) (irow .u8 e.k) _ rp0 (ev_k e he.1) Tryd.underlying23 rfl (infoKy _ he.1) ?_) | fail)
    clear fc1 fc2 fc3 fc4
    refine (aF _ hw).mono ?_
    rintro e_ wm13 ⟨rfl, hb⟩
    replace rp0 := keep hb rp0
    replace hB := hB.keep hb
    replace rB := keep hb rB
    replace hw := Below.after hw hb
    clear hb
    by_cases h64 : 64 ≤ cs.length
    · have d64 : decide (64 ≤ cs.length) = true := by simpa using h64
      have hu : Hid (snC cs e = none) := hide (by unfold snC; exact if_pos (.inr h64))
      have fc5 := cell_at rp0 (ev_d e)
      have fc6 := cell_at rp0 (ev_n e)
      have fc7 := hB.ce
      have fc8 := hB.cc
      go_wp2_with (first | (refine wpList_load_part rfl 57 _ rfl (w.heap.size) 0 rfl 57 (evr e) (0, 0) (evr e) _ rp0 (all_rowe _) Tryd.underlying57 rfl (ev_info _ he.1) ?_) | (refine wpList_load_part rfl 23 _ rfl (w.heap.size) 2 rfl 57 (evr e) (0, 0) (irow .u8 e.k) _ rp0 (ev_k e he.1) Tryd.underlying23 rfl (infoKy _ he.1) ?_) | fail)
      clear fc5 fc6 fc7 fc8
      go_ret
      exact ⟨_, by rw [hu.out]; rfl, by rw [hu.out]; exact hB, Nx.refl _ _, Fr.of hw⟩
    · have d64 : decide (64 ≤ cs.length) = false := by simpa using h64
      have hu : Hid (snC cs e = some (insC cs ⟨e.n, e.k, zr 32, 1⟩)) := hide (by unfold snC; exact if_neg (fun h => h.elim (fun h => by rw [dT] at h; cases h) h64))
      have fc9 := cell_at rp0 (ev_d e)
      have fc10 := cell_at rp0 (ev_n e)
      have fc11 := hB.ce
      have fc12 := hB.cc
      go_wp2_with (first | (refine wpList_load_part rfl 57 _ rfl (w.heap.size) 0 rfl 57 (evr e) (0, 0) (evr e) _ rp0 (all_rowe _) Tryd.underlying57 rfl (ev_info _ he.1) ?_) | (refine wpList_load_part rfl 23 _ rfl (w.heap.size) 2 rfl 57 (evr e) (0, 0) (irow .u8 e.k) _ rp0 (ev_k e he.1) Tryd.underlying23 rfl (infoKy _ he.1) ?_) | fail)
      clear fc9 fc10 fc11 fc12
      have hb : Below wm13.heap.size wm13 wm13.drew := below_drN (Below.refl _ _) 1
      replace rp0 := keep hb rp0
      replace hB := hB.keep hb
      replace rB := keep hb rB
      replace hw := Below.after hw hb
      clear hb
      refine wp_region_noPanic ?_
      refine wp_region_held (S := fun W_ => W_.heap[w.heap.size]? = some (.cells (evr e) 57 (0, 0))) (by kernel_rfl) ?_
      change wpAnyH _ _ _ _ _ _ _ _ (World.drew _)
      generalize wm13.drew = wd14 at *
      have hnok : Ct.ok ⟨e.n, e.k, zr 32, 1⟩ := ⟨he, k32_zero⟩
      refine wpAnyH_take (i := 0) (v := ?v15) rfl (by kernel_rfl) (by kernel_rfl) (by kernel_rfl) (fun _ _ _ h => h) (Or.inl ⟨by rfl, ?y15⟩) (rp0) ?r15
      case y15 =>
        intro w_ hS_
        go_simp
        try with_reducible rfl
      simp only [Act.put, List.getElem_toArray, List.getElem_cons_zero, List.setIfInBounds_toArray, List.set_cons_succ, List.set_cons_zero]
      refine wpAnyH_take (i := 1) (v := ?v16) rfl (by kernel_rfl) (by kernel_rfl) (by kernel_rfl) (fun _ _ _ h => h) (Or.inl ⟨by rfl, ?y16⟩) (rp0) ?r16
      case y16 =>
        intro w_ hS_
        go_simp
        try with_reducible rfl
      simp only [Act.put, List.getElem_toArray, List.getElem_cons_succ, List.getElem_cons_zero, List.setIfInBounds_toArray, List.set_cons_succ, List.set_cons_zero]
      refine wpAnyH_take (i := 2) (v := ?v17) rfl (by kernel_rfl) (by kernel_rfl) (by kernel_rfl) (fun _ _ _ h => h) (Or.inl ⟨by rfl, ?y17⟩) (rp0) ?r17
      case y17 =>
        intro w_ hS_
        go_simp
        try with_reducible rfl
      simp only [Act.put, List.getElem_toArray, List.getElem_cons_succ, List.getElem_cons_zero, List.setIfInBounds_toArray, List.set_cons_succ, List.set_cons_zero]
      refine wpAnyH_take (i := 4) (v := ?v18) rfl (by kernel_rfl) (by kernel_rfl) (by kernel_rfl) (fun _ _ _ h => h) (Or.inl ⟨by rfl, ?y18⟩) (rp0) ?r18
      case y18 =>
        intro w_ hS_
        go_simp
        try with_reducible rfl
      simp only [Act.put, List.getElem_toArray, List.getElem_cons_succ, List.getElem_cons_zero, List.setIfInBounds_toArray, List.set_cons_succ, List.set_cons_zero]
      refine wpAnyH_take (i := 5) (v := ?v19) rfl (by kernel_rfl) (by kernel_rfl) (by kernel_rfl) (fun _ _ _ h => h) (Or.inl ⟨by rfl, ?y19⟩) (rp0) ?r19
      case y19 =>
        intro w_ hS_
        go_simp
        try with_reducible rfl
      simp only [Act.put, List.getElem_toArray, List.getElem_cons_succ, List.getElem_cons_zero, List.setIfInBounds_toArray, List.set_cons_succ, List.set_cons_zero]
      refine wpAnyH_take (i := 6) (v := .string e.n) rfl (by kernel_rfl) (by kernel_rfl) (by kernel_rfl) (fun _ _ _ h => h) (Or.inl ⟨by rfl, ?y20⟩) (rp0) ?r20
      case y20 =>
        intro w_ hS_
        have c_ := cell_at (hS_) (ev_n e)
        go_simp
        try with_reducible rfl
      simp only [Act.put, List.getElem_toArray, List.getElem_cons_succ, List.getElem_cons_zero, List.setIfInBounds_toArray, List.set_cons_succ, List.set_cons_zero]
      refine wpAnyH_take (i := 7) (v := ?v21) rfl (by kernel_rfl) (by kernel_rfl) (by kernel_rfl) (fun _ _ _ h => h) (Or.inl ⟨by rfl, ?y21⟩) (rp0) ?r21
      case y21 =>
        intro w_ hS_
        go_simp
        try with_reducible rfl
      simp only [Act.put, List.getElem_toArray, List.getElem_cons_succ, List.getElem_cons_zero, List.setIfInBounds_toArray, List.set_cons_succ, List.set_cons_zero]
      refine wpAnyH_take (i := 8) (v := .agg (irow .u8 e.k)) rfl (by kernel_rfl) (by kernel_rfl) (by kernel_rfl) (fun _ _ _ h => h) (Or.inl ⟨by rfl, ?y22⟩) (rp0) ?r22
      case y22 =>
        intro w_ hS_
        simp only [List.getElem_toArray, List.getElem_cons_succ, List.getElem_cons_zero]
        exact e_load_part 23 _ (by rfl) (w.heap.size) 2 (by rfl) 57 (evr e) (0, 0) (irow .u8 e.k) _ (hS_) (ev_k e he.1) Tryd.underlying23 rfl (infoKy _ he.1)
      simp only [Act.put, List.getElem_toArray, List.getElem_cons_succ, List.getElem_cons_zero, List.setIfInBounds_toArray, List.set_cons_succ, List.set_cons_zero]
      refine wpAnyH_take (i := 9) (v := .agg (ctr ⟨e.n, e.k, zr 32, 1⟩)) rfl (by kernel_rfl) (by kernel_rfl) (by kernel_rfl) (fun _ _ _ h => h) (Or.inl ⟨by rfl, ?y23⟩) (rp0) ?r23
      case y23 =>
        intro w_ hS_
        simp only [List.getElem_toArray, List.getElem_cons_succ, List.getElem_cons_zero]
        exact run_build_op 45 _ (by rfl) [(0, .string e.n), (1, .agg (irow .u8 e.k)), (3, .int .i64 1)] (by rfl) _ (bt_3 e.n e.k 1 he.1)
      simp only [Act.put, List.getElem_toArray, List.getElem_cons_succ, List.getElem_cons_zero, List.setIfInBounds_toArray, List.set_cons_succ, List.set_cons_zero]
      refine eH_two (j := 3) (k := 10) (fuel := 4) (by kernel_rfl) rfl rfl (by kernel_rfl) (by kernel_rfl) (fun K_ hK_ => ?_) (fun K_ hK_ => ?_)
      · skip
        refine e_world_op (.slice ao cs.length cap) _ (by have c_ := bkc hkey rB; go_simp; try with_reducible rfl) ?_
        refine hK_ _ _ (rp0) ?_
        simp only [Act.put, List.getElem_toArray, List.getElem_cons_succ, List.getElem_cons_zero, List.setIfInBounds_toArray, List.set_cons_succ, List.set_cons_zero]
        clear hK_
        refine eH_one (k := 10) (fuel := 3) (by kernel_rfl) rfl (by kernel_rfl) (fun K_ hK_ => ?_)
        refine e_world_op (.slice (some ⟨wd14.heap.size, 0, none⟩) 1 1) (wd14.alloc (.cells (ctr ⟨e.n, e.k, zr 32, 1⟩) 45)) (e_bslC ⟨e.n, e.k, zr 32, 1⟩ hnok wd14 _ rfl rfl) ?_
        have hb : Below wd14.heap.size wd14 (wd14.alloc (.cells (ctr ⟨e.n, e.k, zr 32, 1⟩) 45)) := (Below.refl _ _).alloc (Nat.le_refl _) _
        have rgx := hp1_0 wd14 (.cells (ctr ⟨e.n, e.k, zr 32, 1⟩) 45)
        have lt_gx_0 := lt_of_row rp0
        have sz_gx := hw.size
        replace rp0 := keep hb rp0
        replace hB := hB.keep hb
        replace rB := keep hb rB
        replace hw := Below.after hw hb
        clear hb
        refine hK_ _ _ (rp0) ?_
        simp only [Act.put, List.getElem_toArray, List.getElem_cons_succ, List.getElem_cons_zero, List.setIfInBounds_toArray, List.set_cons_succ, List.set_cons_zero]
        clear hK_
        generalize (wd14.alloc (.cells (ctr ⟨e.n, e.k, zr 32, 1⟩) 45)) = wq24 at *
        generalize wd14.heap.size = gx at *
        refine eH_one (k := 11) (fuel := 2) (by kernel_rfl) rfl (by kernel_rfl) (fun K_ hK_ => ?_)
        refine wp_call_ex (f := 63) (R := fun v_ w_ => (OwnC w_ b v_ (cs.take (ps cs e.n) ++ ⟨e.n, e.k, zr 32, 1⟩ :: cs.drop (ps cs e.n)) ∧ Nx wq24 (Value.slice ao cs.length cap) v_) ∧ Fr (fun k => (Value.slice ao cs.length cap).ownBlock = some k) wq24 w_) (by kernel_rfl) (a_Insert cs ⟨e.n, e.k, zr 32, 1⟩ hnok (ps cs e.n) b _ _ hB.cts (by omega) gx rgx (fun q => by have := hlc1 _ q; omega) (by have := hw.size; omega) (ps_le _ _)) (fun v_ wi hX_ => ?_)
        obtain ⟨⟨hO2, hN2⟩, hF2⟩ := hX_
        replace hO2 : OwnC wi b v_ (insC cs ⟨e.n, e.k, zr 32, 1⟩) := hO2
        have hBW := Bk.with hB hF2 hO2 (hB.srt.ins dT) (fun d hd => by rcases mem_ins.1 hd with rfl | q; exact ⟨by simp, by simp⟩; exact hB.sta d q) (by rw [ins_len]; omega)
        have hT : Fr (ownB g (Value.slice ae es.length ca) (Value.slice ao cs.length cap)) w wi := (Fr.of hw).step (hF2.book (ve := (Value.slice ae es.length ca)) (g := g)) (fun _ _ q => q)
        have hN3 : Nx w (Value.slice ao cs.length cap) v_ := by
          rcases hN2 with q | ⟨k, q, q2⟩
          · exact .inl q
          · exact .inr ⟨k, q, Nat.le_trans hw.size q2⟩
        replace rB := hF2.row rB (own_type hB.cts.1 rB (by decide))
        replace rp0 := hF2.row rp0 (own_type hB.cts.1 rp0 (by decide))
        obtain ⟨a2, n2, c2, rfl⟩ : ∃ a n c, v_ = .slice a n c := by obtain ⟨a_, c_, h_, _⟩ := hO2.sl; exact ⟨a_, _, c_, h_⟩
        clear hB hw hF2 hN2 hO2
        refine hK_ _ _ rp0 ?_
        simp only [Act.put, List.getElem_toArray, List.getElem_cons_succ, List.getElem_cons_zero, List.setIfInBounds_toArray, List.set_cons_succ, List.set_cons_zero]
        clear hK_
        refine wpAnyH_take (i := 12) (v := ?v25) rfl (by kernel_rfl) (by kernel_rfl) (by kernel_rfl) (fun _ _ _ h => h) (Or.inl ⟨by rfl, ?y25⟩) (rp0) ?r25
        case y25 =>
          intro w_ hS_
          go_simp
          try with_reducible rfl
        simp only [Act.put, List.getElem_toArray, List.getElem_cons_succ, List.getElem_cons_zero, List.setIfInBounds_toArray, List.set_cons_succ, List.set_cons_zero]
        refine eH_one (k := 13) (fuel := 0) (by kernel_rfl) rfl (by kernel_rfl) (fun K_ hK_ => ?_)
        refine wp_store_cellR 49 _ _ rfl g 33 (.slice a2 n2 c2) rfl rfl 51 _ (bkr y (Value.slice ae es.length ca) (.slice a2 n2 c2)) rB (by rw [bkr_size y _ _ hkey]; decide) (bk_put y hkey _ _ _) (by kernel_rfl) rfl ?_
        replace hT := hT.bset (bkr y (Value.slice ae es.length ca) (.slice a2 n2 c2))
        replace rp0 := (setRow_other wi g w.heap.size (bkr y (Value.slice ae es.length ca) (.slice a2 n2 c2)) (by omega)).trans rp0
        refine hK_ _ _ rp0 ?_
        simp only [Act.put]
        clear hK_
        generalize wi.setRow g (bkr y (Value.slice ae es.length ca) (.slice a2 n2 c2)) = wj at *
        refine wpAnyH_done (by kernel_rfl) ?_ _
        refine NoPanic.normal ?_
        go_wp2_with (fail)
        go_ret
        exact ⟨_, by rw [hu.out]; rfl, by rw [hu.out]; exact hBW, hN3, hT⟩
      · skip
        refine e_world_op (.slice (some ⟨wd14.heap.size, 0, none⟩) 1 1) (wd14.alloc (.cells (ctr ⟨e.n, e.k, zr 32, 1⟩) 45)) (e_bslC ⟨e.n, e.k, zr 32, 1⟩ hnok wd14 _ rfl rfl) ?_
        have hb : Below wd14.heap.size wd14 (wd14.alloc (.cells (ctr ⟨e.n, e.k, zr 32, 1⟩) 45)) := (Below.refl _ _).alloc (Nat.le_refl _) _
        have rgx := hp1_0 wd14 (.cells (ctr ⟨e.n, e.k, zr 32, 1⟩) 45)
        have lt_gx_0 := lt_of_row rp0
        have sz_gx := hw.size
        replace rp0 := keep hb rp0
        replace hB := hB.keep hb
        replace rB := keep hb rB
        replace hw := Below.after hw hb
        clear hb
        refine hK_ _ _ (rp0) ?_
        simp only [Act.put, List.getElem_toArray, List.getElem_cons_succ, List.getElem_cons_zero, List.setIfInBounds_toArray, List.set_cons_succ, List.set_cons_zero]
        clear hK_
        generalize (wd14.alloc (.cells (ctr ⟨e.n, e.k, zr 32, 1⟩) 45)) = wq26 at *
        generalize wd14.heap.size = gx at *
        refine eH_one (k := 3) (fuel := 3) (by kernel_rfl) rfl (by kernel_rfl) (fun K_ hK_ => ?_)
        refine e_world_op (.slice ao cs.length cap) _ (by have c_ := bkc hkey rB; go_simp; try with_reducible rfl) ?_
        refine hK_ _ _ (rp0) ?_
        simp only [Act.put, List.getElem_toArray, List.getElem_cons_succ, List.getElem_cons_zero, List.setIfInBounds_toArray, List.set_cons_succ, List.set_cons_zero]
        clear hK_
        refine eH_one (k := 11) (fuel := 2) (by kernel_rfl) rfl (by kernel_rfl) (fun K_ hK_ => ?_)
        refine wp_call_ex (f := 63) (R := fun v_ w_ => (OwnC w_ b v_ (cs.take (ps cs e.n) ++ ⟨e.n, e.k, zr 32, 1⟩ :: cs.drop (ps cs e.n)) ∧ Nx wq26 (Value.slice ao cs.length cap) v_) ∧ Fr (fun k => (Value.slice ao cs.length cap).ownBlock = some k) wq26 w_) (by kernel_rfl) (a_Insert cs ⟨e.n, e.k, zr 32, 1⟩ hnok (ps cs e.n) b _ _ hB.cts (by omega) gx rgx (fun q => by have := hlc1 _ q; omega) (by have := hw.size; omega) (ps_le _ _)) (fun v_ wi hX_ => ?_)
        obtain ⟨⟨hO2, hN2⟩, hF2⟩ := hX_
        replace hO2 : OwnC wi b v_ (insC cs ⟨e.n, e.k, zr 32, 1⟩) := hO2
        have hBW := Bk.with hB hF2 hO2 (hB.srt.ins dT) (fun d hd => by rcases mem_ins.1 hd with rfl | q; exact ⟨by simp, by simp⟩; exact hB.sta d q) (by rw [ins_len]; omega)
        have hT : Fr (ownB g (Value.slice ae es.length ca) (Value.slice ao cs.length cap)) w wi := (Fr.of hw).step (hF2.book (ve := (Value.slice ae es.length ca)) (g := g)) (fun _ _ q => q)
        have hN3 : Nx w (Value.slice ao cs.length cap) v_ := by
          rcases hN2 with q | ⟨k, q, q2⟩
          · exact .inl q
          · exact .inr ⟨k, q, Nat.le_trans hw.size q2⟩
        replace rB := hF2.row rB (own_type hB.cts.1 rB (by decide))
        replace rp0 := hF2.row rp0 (own_type hB.cts.1 rp0 (by decide))
        obtain ⟨a2, n2, c2, rfl⟩ : ∃ a n c, v_ = .slice a n c := by obtain ⟨a_, c_, h_, _⟩ := hO2.sl; exact ⟨a_, _, c_, h_⟩
        clear hB hw hF2 hN2 hO2
        refine hK_ _ _ rp0 ?_
        simp only [Act.put, List.getElem_toArray, List.getElem_cons_succ, List.getElem_cons_zero, List.setIfInBounds_toArray, List.set_cons_succ, List.set_cons_zero]
        clear hK_
        refine wpAnyH_take (i := 12) (v := ?v27) rfl (by kernel_rfl) (by kernel_rfl) (by kernel_rfl) (fun _ _ _ h => h) (Or.inl ⟨by rfl, ?y27⟩) (rp0) ?r27
        case y27 =>
          intro w_ hS_
          go_simp
          try with_reducible rfl
        simp only [Act.put, List.getElem_toArray, List.getElem_cons_succ, List.getElem_cons_zero, List.setIfInBounds_toArray, List.set_cons_succ, List.set_cons_zero]
        refine eH_one (k := 13) (fuel := 0) (by kernel_rfl) rfl (by kernel_rfl) (fun K_ hK_ => ?_)
        refine wp_store_cellR 49 _ _ rfl g 33 (.slice a2 n2 c2) rfl rfl 51 _ (bkr y (Value.slice ae es.length ca) (.slice a2 n2 c2)) rB (by rw [bkr_size y _ _ hkey]; decide) (bk_put y hkey _ _ _) (by kernel_rfl) rfl ?_
        replace hT := hT.bset (bkr y (Value.slice ae es.length ca) (.slice a2 n2 c2))
        replace rp0 := (setRow_other wi g w.heap.size (bkr y (Value.slice ae es.length ca) (.slice a2 n2 c2)) (by omega)).trans rp0
        refine hK_ _ _ rp0 ?_
        simp only [Act.put]
        clear hK_
        generalize wi.setRow g (bkr y (Value.slice ae es.length ca) (.slice a2 n2 c2)) = wj at *
        refine wpAnyH_done (by kernel_rfl) ?_ _
        refine NoPanic.normal ?_
        go_wp2_with (fail)
        go_ret
        exact ⟨_, by rw [hu.out]; rfl, by rw [hu.out]; exact hBW, hN3, hT⟩
  · have hu : Hid (snC cs e = none) := hide (by unfold snC; exact if_pos (.inl dT))
    have fc13 := cell_at rp0 (ev_d e)
    have fc14 := cell_at rp0 (ev_n e)
    have fc15 := hB.ce
    have fc16 := hB.cc
    go_wp2_with (first | (refine wpList_load_part rfl 57 _ rfl (w.heap.size) 0 rfl 57 (evr e) (0, 0) (evr e) _ rp0 (all_rowe _) Tryd.underlying57 rfl (ev_info _ he.1) ?_) | (refine wpList_load_part rfl 23 _ rfl (w.heap.size) 2 rfl 57 (evr e) (0, 0) (irow .u8 e.k) _ rp0 (ev_k e he.1) Tryd.underlying23 rfl (infoKy _ he.1) ?_) | fail)
    clear fc13 fc14 fc15 fc16
    go_ret
    exact ⟨_, by rw [hu.out]; rfl, by rw [hu.out]; exact hB, Nx.refl _ _, Fr.of hw⟩
set_option maxRecDepth 100000 in
set_option maxHeartbeats 8000000 in
theorem a_forgotten (e : Ev) (he : e.ok) (b g : Nat) (ve vc : Value) (y : List Int) (es : List Ev) (cs : List Ct) (w : World) (hB : Bk w b g ve vc y es cs) : Calls Tryd.prog 53 #[.pointer (some ⟨g, 33, none⟩), .agg (evr e)] w fun en w' => ∃ vc', en = .returned (.bool (fgC cs e).isSome) ∧ Bk w' b g ve vc' y es ((fgC cs e).getD cs) ∧ Nx w vc vc' ∧ Fr (ownB g ve vc) w w' := by
  have hkey := hB.key.1
  have hcl := hB.len
  obtain ⟨ao, cap, rfl, hc1, hc2, hz1, hz2⟩ := hB.cts.sl
  obtain ⟨ae, ca, rfl, hc3, hc4, hz3, hz4⟩ := hB.evs.sl
  have cP : ∀ W, Below w.heap.size w W → Calls Tryd.prog 28 #[.slice ao cs.length cap, .string e.n] W fun e_ w' => e_ = .returned (.tuple #[.int .i64 (ps cs e.n : Nat), .bool (th cs e.n)]) ∧ Below W.heap.size W w' := fun W hW => a_place cs e.n b _ W (hB.keep hW).cts hB.srt (by omega)
  have hgw := lt_of_row hB.row
  have hle1 : ∀ k, (Value.slice ae es.length ca).ownBlock = some k → k < w.heap.size := fun k e => (hB.evs.lt k e).2
  have hlc1 : ∀ k, (Value.slice ao cs.length cap).ownBlock = some k → k < w.heap.size := fun k e => (hB.cts.lt k e).2
  have rp0 := hp1_0 w (.cells (evr e) 57)
  have hw : Below w.heap.size w (w.alloc (.cells (evr e) 57)) := ((Below.refl _ _).alloc (Nat.le_refl _) _)
  replace hB := hB.keep hw
  go_enter Tryd.func53, Tryd.ntmps53
  go_upto_region 1 with (first | (refine wpList_box rfl 57 _ rfl _ rfl (ev_box _) ?_) | fail)
  try simp only [size_alloc1]
  generalize (w.alloc (.cells (evr e) 57)) = w0 at *
  have rB := hB.row
  have hgl := lt_of_row rB
  have hb : Below w0.heap.size w0 w0.drew := below_drN (Below.refl _ _) 1
  replace rp0 := keep hb rp0
  replace hB := hB.keep hb
  replace rB := keep hb rB
  replace hw := Below.after hw hb
  clear hb
  refine wp_region_noPanic ?_
  refine wp_region_held (S := fun W_ => W_.heap[w.heap.size]? = some (.cells (evr e) 57 (0, 0)) ∧ W_.heap[g]? = some (.cells (bkr y (.slice ae es.length ca) (.slice ao cs.length cap)) 51 (0, 0))) (by kernel_rfl) ?_
  change wpAnyH _ _ _ _ _ _ _ _ (World.drew _)
  generalize w0.drew = wd28 at *
  refine wpAnyH_take (i := 0) (v := ?v29) rfl (by kernel_rfl) (by kernel_rfl) (by kernel_rfl) (fun _ _ _ h => h) (Or.inl ⟨by rfl, ?y29⟩) (⟨rp0, rB⟩) ?r29
  case y29 =>
    intro w_ hS_
    go_simp
    try with_reducible rfl
  simp only [Act.put, List.getElem_toArray, List.getElem_cons_zero, List.setIfInBounds_toArray, List.set_cons_succ, List.set_cons_zero]
  refine wpAnyH_take (i := 1) (v := ?v30) rfl (by kernel_rfl) (by kernel_rfl) (by kernel_rfl) (fun _ _ _ h => h) (Or.inl ⟨by rfl, ?y30⟩) (⟨rp0, rB⟩) ?r30
  case y30 =>
    intro w_ hS_
    go_simp
    try with_reducible rfl
  simp only [Act.put, List.getElem_toArray, List.getElem_cons_succ, List.getElem_cons_zero, List.setIfInBounds_toArray, List.set_cons_succ, List.set_cons_zero]
  refine wpAnyH_take (i := 2) (v := .slice ao cs.length cap) rfl (by kernel_rfl) (by kernel_rfl) (by kernel_rfl) (fun _ _ _ h => h) (Or.inl ⟨by rfl, ?y31⟩) (⟨rp0, rB⟩) ?r31
  case y31 =>
    intro w_ hS_
    have c_ := bkc hkey (hS_.2)
    go_simp
    try with_reducible rfl
  simp only [Act.put, List.getElem_toArray, List.getElem_cons_succ, List.getElem_cons_zero, List.setIfInBounds_toArray, List.set_cons_succ, List.set_cons_zero]
  refine wpAnyH_take (i := 3) (v := ?v32) rfl (by kernel_rfl) (by kernel_rfl) (by kernel_rfl) (fun _ _ _ h => h) (Or.inl ⟨by rfl, ?y32⟩) (⟨rp0, rB⟩) ?r32
  case y32 =>
    intro w_ hS_
    go_simp
    try with_reducible rfl
  simp only [Act.put, List.getElem_toArray, List.getElem_cons_succ, List.getElem_cons_zero, List.setIfInBounds_toArray, List.set_cons_succ, List.set_cons_zero]
  refine wpAnyH_take (i := 4) (v := .string e.n) rfl (by kernel_rfl) (by kernel_rfl) (by kernel_rfl) (fun _ _ _ h => h) (Or.inl ⟨by rfl, ?y33⟩) (⟨rp0, rB⟩) ?r33
  case y33 =>
    intro w_ hS_
    have c_ := cell_at (hS_.1) (ev_n e)
    go_simp
    try with_reducible rfl
  simp only [Act.put, List.getElem_toArray, List.getElem_cons_succ, List.getElem_cons_zero, List.setIfInBounds_toArray, List.set_cons_succ, List.set_cons_zero]
  refine eH_one (k := 5) (fuel := 5) (by kernel_rfl) rfl (by kernel_rfl) (fun K_ hK_ => ?_)
  refine wp_call_ex (f := 28) (by kernel_rfl) (ex1e (cP _ hw)) (fun v_ wq34 hX_ => ?_)
  obtain ⟨rfl, hb⟩ := hX_
  replace rp0 := keep hb rp0
  replace hB := hB.keep hb
  replace rB := keep hb rB
  replace hw := Below.after hw hb
  clear hb
  refine hK_ _ _ (⟨rp0, rB⟩) ?_
  simp only [Act.put, List.getElem_toArray, List.getElem_cons_succ, List.getElem_cons_zero, List.setIfInBounds_toArray, List.set_cons_succ, List.set_cons_zero]
  clear hK_
  refine wpAnyH_take (i := 6) (v := ?v35) rfl (by kernel_rfl) (by kernel_rfl) (by kernel_rfl) (fun _ _ _ h => h) (Or.inl ⟨by rfl, ?y35⟩) (⟨rp0, rB⟩) ?r35
  case y35 =>
    intro w_ hS_
    go_simp
    try with_reducible rfl
  simp only [Act.put, List.getElem_toArray, List.getElem_cons_succ, List.getElem_cons_zero, List.setIfInBounds_toArray, List.set_cons_succ, List.set_cons_zero]
  refine wpAnyH_take (i := 7) (v := ?v36) rfl (by kernel_rfl) (by kernel_rfl) (by kernel_rfl) (fun _ _ _ h => h) (Or.inl ⟨by rfl, ?y36⟩) (⟨rp0, rB⟩) ?r36
  case y36 =>
    intro w_ hS_
    go_simp
    try with_reducible rfl
  simp only [Act.put, List.getElem_toArray, List.getElem_cons_succ, List.getElem_cons_zero, List.setIfInBounds_toArray, List.set_cons_succ, List.set_cons_zero]
  refine wpAnyH_take (i := 8) (v := ?v37) rfl (by kernel_rfl) (by kernel_rfl) (by kernel_rfl) (fun _ _ _ h => h) (Or.inl ⟨by rfl, ?y37⟩) (⟨rp0, rB⟩) ?r37
  case y37 =>
    intro w_ hS_
    go_simp
    try with_reducible rfl
  simp only [Act.put, List.getElem_toArray, List.getElem_cons_succ, List.getElem_cons_zero, List.setIfInBounds_toArray, List.set_cons_succ, List.set_cons_zero]
  refine wpAnyH_take (i := 9) (v := ?v38) rfl (by kernel_rfl) (by kernel_rfl) (by kernel_rfl) (fun _ _ _ h => h) (Or.inl ⟨by rfl, ?y38⟩) (⟨rp0, rB⟩) ?r38
  case y38 =>
    intro w_ hS_
    go_simp
    try with_reducible rfl
  simp only [Act.put, List.getElem_toArray, List.getElem_cons_succ, List.getElem_cons_zero, List.setIfInBounds_toArray, List.set_cons_succ, List.set_cons_zero]
  refine wpAnyH_take (i := 10) (v := ?v39) rfl (by kernel_rfl) (by kernel_rfl) (by kernel_rfl) (fun _ _ _ h => h) (Or.inl ⟨by rfl, ?y39⟩) (⟨rp0, rB⟩) ?r39
  case y39 =>
    intro w_ hS_
    go_simp
    try with_reducible rfl
  simp only [Act.put, List.getElem_toArray, List.getElem_cons_succ, List.getElem_cons_zero, List.setIfInBounds_toArray, List.set_cons_succ, List.set_cons_zero]
  refine wpAnyH_done (by kernel_rfl) ?_ _
  refine NoPanic.normal ?_
  have eQ := eq_k e.k (zr 32) he.1 (zr_len 32)
  have srt := hide hB.srt
  generalize dT : th cs e.n = xT at *
  generalize dQ : decide (e.k = zr 32) = xQ at *
  cases xT
  · have hu : Hid (fgC cs e = none) := hide (by unfold fgC; exact if_neg (fun h => by rw [dT] at h; cases h.1))
    have fc17 := cell_at rp0 (ev_d e)
    have fc18 := cell_at rp0 (ev_n e)
    have fc19 := hB.ce
    have fc20 := hB.cc
    go_wp2_with (first | (refine wpList_load_part rfl 57 _ rfl (w.heap.size) 0 rfl 57 (evr e) (0, 0) (evr e) _ rp0 (all_rowe _) Tryd.underlying57 rfl (ev_info _ he.1) ?_) | (refine wpList_load_part rfl 23 _ rfl (w.heap.size) 2 rfl 57 (evr e) (0, 0) (irow .u8 e.k) _ rp0 (ev_k e he.1) Tryd.underlying23 rfl (infoKy _ he.1) ?_) | (refine wpList_build_want rfl 23 _ rfl [] rfl (irow .u8 (zr 32)) builtZk ?_) | fail)
    clear fc17 fc18 fc19 fc20
    go_ret
    exact ⟨_, by rw [hu.out]; rfl, by rw [hu.out]; exact hB, Nx.refl _ _, Fr.of hw⟩
  · skip
    cases xQ
    · have hu : Hid (fgC cs e = none) := hide (by unfold fgC; exact if_neg (fun h => (by simpa using dQ : ¬ e.k = zr 32) h.2))
      have fc21 := cell_at rp0 (ev_d e)
      have fc22 := cell_at rp0 (ev_n e)
      have fc23 := hB.ce
      have fc24 := hB.cc
      go_wp2_with (first | (refine wpList_load_part rfl 57 _ rfl (w.heap.size) 0 rfl 57 (evr e) (0, 0) (evr e) _ rp0 (all_rowe _) Tryd.underlying57 rfl (ev_info _ he.1) ?_) | (refine wpList_load_part rfl 23 _ rfl (w.heap.size) 2 rfl 57 (evr e) (0, 0) (irow .u8 e.k) _ rp0 (ev_k e he.1) Tryd.underlying23 rfl (infoKy _ he.1) ?_) | (refine wpList_build_want rfl 23 _ rfl [] rfl (irow .u8 (zr 32)) builtZk ?_) | fail)
      clear fc21 fc22 fc23 fc24
      go_ret
      exact ⟨_, by rw [hu.out]; rfl, by rw [hu.out]; exact hB, Nx.refl _ _, Fr.of hw⟩
    · have hu : Hid (fgC cs e = some (delC cs e.n)) := hide (by unfold fgC; exact if_pos ⟨dT, by simpa using dQ⟩)
      have hps := hide ((th_iff srt.out e.n).1 dT).1
      have hp64 : ps cs e.n ≤ 64 := by have := ps_le cs e.n; omega
      have fc25 := cell_at rp0 (ev_d e)
      have fc26 := cell_at rp0 (ev_n e)
      have fc27 := hB.ce
      have fc28 := hB.cc
      go_wp2_with (first | (refine wpList_load_part rfl 57 _ rfl (w.heap.size) 0 rfl 57 (evr e) (0, 0) (evr e) _ rp0 (all_rowe _) Tryd.underlying57 rfl (ev_info _ he.1) ?_) | (refine wpList_load_part rfl 23 _ rfl (w.heap.size) 2 rfl 57 (evr e) (0, 0) (irow .u8 e.k) _ rp0 (ev_k e he.1) Tryd.underlying23 rfl (infoKy _ he.1) ?_) | (refine wpList_build_want rfl 23 _ rfl [] rfl (irow .u8 (zr 32)) builtZk ?_) | fail)
      obtain ⟨_, ⟨q_, q2_⟩ | ⟨gl, cap2, cur, q_, hb0, hgl2, hn_, hm_, hs_, ht_⟩⟩ := hB.cts.1
      · have := hps.out; omega
      cases q_
      have hsl := hide hs_
      have htl := hide ht_
      have hct := hB.cts.2
      clear hs_ ht_
      have hps2 := hps.out
      have cD := a_Delete b gl cap cur cs hct (by omega) (ps cs e.n) (ps cs e.n + 1) (cs.length - (ps cs e.n + 1)) (by omega) (by omega) rfl wq34 hgl2 hn_ hm_ hsl.out htl.out hb0
      simp only [Int.natCast_add, Int.natCast_one] at cD
      refine cD.mono ?_
      rintro e_ w5 ⟨rfl, hO2, hF2⟩
      have hO3 : OwnC w5 b (.slice (some ⟨gl, 0, none⟩) (ps cs e.n + (cs.length - (ps cs e.n + 1))) cap) (delC cs e.n) := ⟨hO2, (hct.take _).app (hct.drop _)⟩
      have hF3 : Fr (fun k => (Value.slice (some ⟨gl, 0, none⟩) cs.length cap).ownBlock = some k) wq34 w5 := hF2.mono (fun k _ q => by rw [q]; rfl)
      have hBW := Bk.with hB hF3 hO3 (srt.out.del hps.out) (fun d hd => hB.sta d (mem_del hd)) (by have := del_len hps.out; omega)
      have hT : Fr (ownB g (Value.slice ae es.length ca) (.slice (some ⟨gl, 0, none⟩) cs.length cap)) w w5 := (Fr.of hw).step (hF3.book (ve := (Value.slice ae es.length ca)) (g := g)) (fun _ _ q => q)
      replace rB := hF3.row rB (own_type hB.cts.1 rB (by decide))
      replace hT := hT.bset (bkr y (Value.slice ae es.length ca) (.slice (some ⟨gl, 0, none⟩) (ps cs e.n + (cs.length - (ps cs e.n + 1))) cap))
      clear hO2 hO3 hF2 hF3 cD hB hps2 hps
      go_wp2_with (first | (refine wpList_store_cell rfl 49 _ _ rfl g 33 _ rfl rfl 51 _ (bkr y (Value.slice ae es.length ca) (.slice (some ⟨gl, 0, none⟩) (ps cs e.n + (cs.length - (ps cs e.n + 1))) cap)) rB (by rw [bkr_size y _ _ hkey]; decide) (bk_put y hkey _ _ _) (by kernel_rfl) rfl ?_) | fail)
      go_ret
      exact ⟨.slice (some ⟨gl, 0, none⟩) (ps cs e.n + (cs.length - (ps cs e.n + 1))) cap, by rw [hu.out]; rfl, by rw [hu.out]; exact hBW, .inl rfl, hT⟩
end Go.Proofs.YtlbcdjflcghkeaaDoor
