import Derived.Test.YtlbcdjflcghkeaaDoorProg
import Derived.WalkKit
import Derived.WalkSpells
import Derived.WalkLawsBesides
import Derived.Lib.QuietBelow
import Derived.BigQuiet
import Derived.OrdersHeld
import Derived.OwnWalk
import Derived.Deep.RegionHeld3
import Derived.Deep.Cut
import Derived.Deep.CutRange
import Derived.Deep.CutBlock
import Derived.Maps.Own
import Derived.Maps.OwnSet
import Derived.Test.YtlbcdjflcghkeaaDoorTuj
import Derived.Test.YtlbcdjflcghkeaaDoorTuk
import Derived.Test.YtlbcdjflcghkeaaDoorTul
namespace Go.Proofs.YtlbcdjflcghkeaaDoor
set_option maxRecDepth 100000
open Go Go.RowKit Go.Sort
attribute [local go_sem] setCell_drewN alloc_drewN
/-- A call through a function value. -/
theorem run_call_val {P : Program} {o : Oper} {ρ : Operand → Value} {w : World} {f : FuncId} {caps : Array Value} (x : Operand) (ys : Array Operand) (ats : Array TypeId) (ho : o.op = .call { callee := .value x, args := ys, argTypes := ats }) (hx : ρ x = .func (.func f) #[] caps) (args : Array Value) (hys : ys.map ρ = args) (hent : ∀ args W, (callFunc f args).run P W = .ok (.enter f args) W) : (execOp ρ o).run P w = .ok (.enter f (args ++ caps)) w := by
  unfold execOp
  simp only [ho, resolve, hx, hys, Deferred.ofValue, invoke, Sem.run_bind, Sem.run_pure, Result.andThen_ok, hent, Array.empty_append]
theorem run_call_val0 {P : Program} {o : Oper} {a : Act} {w : World} (f : FuncId) (args : Array Value) (hent : ∀ args W, (callFunc f args).run P W = .ok (.enter f args) W) (x : Operand) (ys : Array Operand) (ats : Array TypeId) (ho : o.op = .call { callee := .value x, args := ys, argTypes := ats }) (hx : a.eval x = .func (.func f) #[] #[]) (hys : ys.map a.eval = args) : (execOp a.eval o).run P w = .ok (.enter f args) w := by
  have := run_call_val (P := P) (w := w) x ys ats ho hx args hys hent
  simpa using this
/-- The contacts behind an event; none: it can't be. -/
def hap (cs : List Ct) (e : Ev) : Option (List Ct) := if e.d = 1 then snC cs e else if e.d = 2 then puO cs (up2 (fnC cs e.n) e) else if e.d = 3 then puO cs (up3 (fnC cs e.n) e) else if e.d = 4 then puO cs (up4 (fnC cs e.n) e) else if e.d = 5 then puO cs (up5 (fnC cs e.n) e) else if e.d = 6 then puO cs (up6 (fnC cs e.n) e) else if e.d = 7 then fgC cs e else none
def hpn (cs : List Ct) (e : Ev) : Option (List Ct) := if nam e.n = true then hap cs e else none
theorem e_look {P : Program} {o : Oper} {a : Act} {w : World} (t : TypeId) (m x : Operand) (c : Bool) (ho : o.op = .lookup t m x c) (u y v : Value) (hm : a.eval m = u) (hx : a.eval x = y) (hr : (Instr.lookup t u y c).run P w = .ok v w) : (execOp a.eval o).run P w = .ok (.value v) w := by
  unfold execOp
  simp only [ho, hm, hx, Sem.run_bind, Sem.run_pure, Result.andThen_ok, hr]
theorem evr_cells {W : World} {g : Nat} {e : Ev} (h : W.heap[g]? = some (.cells (evr e) 57 (0, 0))) : ∀ j u, (evs [e])[j]? = some u → W.cell? ((⟨g, 0, none⟩ : Addr).add j) = some u := by
  intro j u hu
  rw [evs_one] at hu
  rw [addr_add, Nat.zero_add, cell_of_row _ _ _ _ _ _ h, evr, List.getElem?_toArray]
  exact hu
/-- The events elsewhere. -/
theorem Bk.withE {W V : World} {b g : Nat} {ve vc u : Value} {y : List Int} {es fs : List Ev} {cs : List Ct} (h : Bk W b g ve vc y es cs) (hG : W.grownBy V ve.ownBlock) (hO : OwnE V b u fs) (hl : fs.length ≤ 1024) : Bk (V.setRow g (bkr y u vc)) b g u vc y fs cs := by
  have hT : ∀ k, vc.ownBlock = some k → some k ≠ ve.ownBlock := fun _ e q => by
    obtain ⟨_, ⟨rfl, _⟩ | ⟨g1, cap, cur, rfl, _, hg1, _⟩⟩ := h.cts.1
    · cases e
    · cases e
      exact own_type h.evs.1 hg1 (by decide) q.symm
  have hr : V.heap[g]? = some (.cells (bkr y ve vc) 51 (0, 0)) := (hG.block g (lt_of_row h.row) (fun q => own_type h.evs.1 h.row (by decide) q.symm)).trans h.row
  refine ⟨setRow_heap _ _ _ _ _ _ hr, hO.move (fun k e => ?_), h.cts.move (fun k e => ?_), h.key, h.bg, h.srt, h.sta, h.len, hl⟩
  · exact setRow_other V g k _ (fun q => own_type hO.1 hr (by decide) (q ▸ e))
  · rw [setRow_other V g k _ (fun q => own_type h.cts.1 h.row (by decide) (q ▸ e))]
    exact hG.block k (h.cts.lt k e).2 (hT k e)
/-- What a rule answers. -/
def RuR (b g : Nat) (ve vc : Value) (y : List Int) (es : List Ev) (cs : List Ct) (r : Option (List Ct)) (w : World) (en : Ending) (w' : World) : Prop := ∃ vc', en = .returned (.bool r.isSome) ∧ Bk w' b g ve vc' y es (r.getD cs) ∧ Nx w vc vc' ∧ Fr (ownB g ve vc) w w'
/-- What happen answers. -/
def HpR (b g : Nat) (ve vc : Value) (y : List Int) (es : List Ev) (cs : List Ct) (e : Ev) (r : Option (List Ct)) (w : World) (en : Ending) (w' : World) : Prop := ∃ ve' vc', en = .returned (.bool r.isSome) ∧ Bk w' b g ve' vc' y (if r.isSome = true then es ++ [e] else es) (r.getD cs) ∧ Nx w ve ve' ∧ Nx w vc vc' ∧ Fr (ownB g ve vc) w w'
theorem Nx.of {w W : World} {v u : Value} (h : Nx W v u) (hs : w.heap.size ≤ W.heap.size) : Nx w v u := by
  rcases h with q | ⟨k, q, q2⟩
  · exact .inl q
  · exact .inr ⟨k, q, Nat.le_trans hs q2⟩
set_option maxRecDepth 100000 in
set_option maxHeartbeats 8000000 in
theorem hap_no (e : Ev) (_he : e.ok) (b g : Nat) (ve vc : Value) (y : List Int) (es : List Ev) (cs : List Ct) (w : World) (hB : Bk w b g ve vc y es cs) (hd : -9223372036854775808 ≤ e.d ∧ e.d ≤ 9223372036854775807) (hkn : ruK e.d = false) (hvn : ruV e.d = .nilFunc) : Calls Tryd.prog 29 #[.pointer (some ⟨g, 0, none⟩), .agg (evr e)] w (HpR b g ve vc y es cs e none w) := by
  have hkey := hB.key.1
  obtain ⟨ao, cap, rfl, hc1, hc2, hz1, hz2⟩ := hB.cts.sl
  obtain ⟨ae, ca, rfl, hc3, hc4, hz3, hz4⟩ := hB.evs.sl
  have hgw := lt_of_row hB.row
  have hle1 : ∀ k, (Value.slice ae es.length ca).ownBlock = some k → k < w.heap.size := fun k e => (hB.evs.lt k e).2
  have hlc1 : ∀ k, (Value.slice ao cs.length cap).ownBlock = some k → k < w.heap.size := fun k e => (hB.cts.lt k e).2
  have rp0 := hp1_0 w (.cells (evr e) 57)
  have hw : Below w.heap.size w (w.alloc (.cells (evr e) 57)) := ((Below.refl _ _).alloc (Nat.le_refl _) _)
  replace hB := hB.keep hw
  go_enter Tryd.func29, Tryd.ntmps29
  go_upto_region 1 with (first | (refine wpList_box rfl 57 _ rfl _ rfl (ev_box _) ?_) | fail)
  try simp only [size_alloc1]
  generalize (w.alloc (.cells (evr e) 57)) = w0 at *
  have hb : Below w0.heap.size w0 w0.drew := below_drN (Below.refl _ _) 1
  replace rp0 := keep hb rp0
  replace hB := hB.keep hb
  replace hw := Below.after hw hb
  clear hb
  refine wp_region_noPanic ?_
  refine wp_region_held (S := fun W_ => W_.heap[w.heap.size]? = some (.cells (evr e) 57 (0, 0))) (by kernel_rfl) ?_
  change wpAnyH _ _ _ _ _ _ _ _ (World.drew _)
  generalize w0.drew = wd1 at *
  refine wpAnyH_take (i := 1) (v := ?v2) rfl (by kernel_rfl) (by kernel_rfl) (by kernel_rfl) (fun _ _ _ h => h) (Or.inl ⟨by rfl, ?y2⟩) (rp0) ?r2
  case y2 =>
    intro w_ hS_
    go_simp
    try with_reducible rfl
  simp only [Act.put, List.getElem_toArray, List.getElem_cons_succ, List.getElem_cons_zero, List.setIfInBounds_toArray, List.set_cons_succ, List.set_cons_zero]
  refine wpAnyH_take (i := 2) (v := .int .i64 e.d) rfl (by kernel_rfl) (by kernel_rfl) (by kernel_rfl) (fun _ _ _ h => h) (Or.inl ⟨by rfl, ?y3⟩) (rp0) ?r3
  case y3 =>
    intro w_ hS_
    have c_ := cell_at (hS_) (ev_d e)
    go_simp
    try with_reducible rfl
  simp only [Act.put, List.getElem_toArray, List.getElem_cons_succ, List.getElem_cons_zero, List.setIfInBounds_toArray, List.set_cons_succ, List.set_cons_zero]
  refine eH_one (k := 0) (fuel := 6) (by kernel_rfl) rfl (by kernel_rfl) (fun K_ hK_ => ?_)
  refine wp_call_ex (f := 37) (R := fun v_ w_ => ∃ bm, v_ = .map (some bm) ∧ (w_.heap[bm]? = some (.map es7 7)) ∧ Below wd1.heap.size wd1 w_) (by kernel_rfl) ((a_rules _).mono (fun e_ w_ h_ => by obtain ⟨b_, h1_, h2_, h3_⟩ := h_; exact ⟨_, h1_, b_, rfl, h2_.1, h3_⟩)) (fun v_ wq4 hX_ => ?_)
  obtain ⟨bm, rfl, hm7, hb⟩ := hX_
  replace rp0 := keep hb rp0
  replace hB := hB.keep hb
  replace hw := Below.after hw hb
  clear hb
  refine hK_ _ _ (rp0) ?_
  simp only [Act.put, List.getElem_toArray, List.getElem_cons_zero, List.setIfInBounds_toArray, List.set_cons_succ, List.set_cons_zero]
  clear hK_
  refine eH_one (k := 3) (fuel := 5) (by kernel_rfl) rfl (by kernel_rfl) (fun K_ hK_ => ?_)
  refine e_world_op (.tuple #[ruV e.d, .bool (ruK e.d)]) _ (e_look 77 _ _ true rfl (.map (some bm)) (.int .i64 e.d) _ rfl rfl (run_rule e.d hd _ bm 7 hm7)) ?_
  refine hK_ _ _ (rp0) ?_
  simp only [Act.put, List.getElem_toArray, List.getElem_cons_succ, List.getElem_cons_zero, List.setIfInBounds_toArray, List.set_cons_succ, List.set_cons_zero]
  clear hK_ hm7
  refine wpAnyH_take (i := 4) (v := ?v5) rfl (by kernel_rfl) (by kernel_rfl) (by kernel_rfl) (fun _ _ _ h => h) (Or.inl ⟨by rfl, ?y5⟩) (rp0) ?r5
  case y5 =>
    intro w_ hS_
    go_simp
    try with_reducible rfl
  simp only [Act.put, List.getElem_toArray, List.getElem_cons_succ, List.getElem_cons_zero, List.setIfInBounds_toArray, List.set_cons_succ, List.set_cons_zero]
  refine wpAnyH_take (i := 5) (v := ?v6) rfl (by kernel_rfl) (by kernel_rfl) (by kernel_rfl) (fun _ _ _ h => h) (Or.inl ⟨by rfl, ?y6⟩) (rp0) ?r6
  case y6 =>
    intro w_ hS_
    go_simp
    try with_reducible rfl
  simp only [Act.put, List.getElem_toArray, List.getElem_cons_succ, List.getElem_cons_zero, List.setIfInBounds_toArray, List.set_cons_succ, List.set_cons_zero]
  refine wpAnyH_take (i := 6) (v := ?v7) rfl (by kernel_rfl) (by kernel_rfl) (by kernel_rfl) (fun _ _ _ h => h) (Or.inl ⟨by rfl, ?y7⟩) (rp0) ?r7
  case y7 =>
    intro w_ hS_
    go_simp
    try with_reducible rfl
  simp only [Act.put, List.getElem_toArray, List.getElem_cons_succ, List.getElem_cons_zero, List.setIfInBounds_toArray, List.set_cons_succ, List.set_cons_zero]
  refine wpAnyH_take (i := 7) (v := ?v8) rfl (by kernel_rfl) (by kernel_rfl) (by kernel_rfl) (fun _ _ _ h => h) (Or.inl ⟨by rfl, ?y8⟩) (rp0) ?r8
  case y8 =>
    intro w_ hS_
    go_simp
    try with_reducible rfl
  simp only [Act.put, List.getElem_toArray, List.getElem_cons_succ, List.getElem_cons_zero, List.setIfInBounds_toArray, List.set_cons_succ, List.set_cons_zero]
  refine wpAnyH_take (i := 8) (v := ?v9) rfl (by kernel_rfl) (by kernel_rfl) (by kernel_rfl) (fun _ _ _ h => h) (Or.inl ⟨by rfl, ?y9⟩) (rp0) ?r9
  case y9 =>
    intro w_ hS_
    go_simp
    try with_reducible rfl
  simp only [Act.put, List.getElem_toArray, List.getElem_cons_succ, List.getElem_cons_zero, List.setIfInBounds_toArray, List.set_cons_succ, List.set_cons_zero]
  refine wpAnyH_done (by kernel_rfl) ?_ _
  refine NoPanic.normal ?_
  rw [hkn, hvn]
  go_wp2_with (fail)
  have hb : Below wq4.heap.size wq4 wq4.drew := below_drN (Below.refl _ _) 1
  replace rp0 := keep hb rp0
  replace hB := hB.keep hb
  replace hw := Below.after hw hb
  clear hb
  refine wp_region_noPanic ?_
  refine wp_region_held (S := fun W_ => W_.heap[w.heap.size]? = some (.cells (evr e) 57 (0, 0))) (by kernel_rfl) ?_
  change wpAnyH _ _ _ _ _ _ _ _ (World.drew _)
  generalize wq4.drew = wd10 at *
  refine wpAnyH_take (i := 0) (v := ?v11) rfl (by kernel_rfl) (by kernel_rfl) (by kernel_rfl) (fun _ _ _ h => h) (Or.inl ⟨by rfl, ?y11⟩) (rp0) ?r11
  case y11 =>
    intro w_ hS_
    go_simp
    try with_reducible rfl
  simp only [Act.put, List.getElem_toArray, List.getElem_cons_zero, List.setIfInBounds_toArray, List.set_cons_succ, List.set_cons_zero]
  refine wpAnyH_take (i := 1) (v := ?v12) rfl (by kernel_rfl) (by kernel_rfl) (by kernel_rfl) (fun _ _ _ h => h) (Or.inl ⟨by rfl, ?y12⟩) (rp0) ?r12
  case y12 =>
    intro w_ hS_
    go_simp
    try with_reducible rfl
  simp only [Act.put, List.getElem_toArray, List.getElem_cons_succ, List.getElem_cons_zero, List.setIfInBounds_toArray, List.set_cons_succ, List.set_cons_zero]
  refine wpAnyH_take (i := 2) (v := ?v13) rfl (by kernel_rfl) (by kernel_rfl) (by kernel_rfl) (fun _ _ _ h => h) (Or.inl ⟨by rfl, ?y13⟩) (rp0) ?r13
  case y13 =>
    intro w_ hS_
    go_simp
    try with_reducible rfl
  simp only [Act.put, List.getElem_toArray, List.getElem_cons_succ, List.getElem_cons_zero, List.setIfInBounds_toArray, List.set_cons_succ, List.set_cons_zero]
  refine wpAnyH_take (i := 3) (v := undef) rfl (by kernel_rfl) (by kernel_rfl) (by kernel_rfl) (fun _ _ _ h => h) (Or.inr ⟨by rfl, rfl⟩) (rp0) ?_
  simp only [Act.put, List.getElem_toArray, List.getElem_cons_succ, List.getElem_cons_zero, List.setIfInBounds_toArray, List.set_cons_succ, List.set_cons_zero]
  refine wpAnyH_take (i := 4) (v := undef) rfl (by kernel_rfl) (by kernel_rfl) (by kernel_rfl) (fun _ _ _ h => h) (Or.inr ⟨by rfl, rfl⟩) (rp0) ?_
  simp only [Act.put, List.getElem_toArray, List.getElem_cons_succ, List.getElem_cons_zero, List.setIfInBounds_toArray, List.set_cons_succ, List.set_cons_zero]
  refine wpAnyH_skip (k := 5) (fuel := 11) (by kernel_rfl) rfl (by rfl) (rp0) ?_
  simp only [Act.put, List.getElem_toArray, List.getElem_cons_succ, List.getElem_cons_zero, List.setIfInBounds_toArray, List.set_cons_succ, List.set_cons_zero]
  refine wpAnyH_take (i := 6) (v := undef) rfl (by kernel_rfl) (by kernel_rfl) (by kernel_rfl) (fun _ _ _ h => h) (Or.inr ⟨by rfl, rfl⟩) (rp0) ?_
  simp only [Act.put, List.getElem_toArray, List.getElem_cons_succ, List.getElem_cons_zero, List.setIfInBounds_toArray, List.set_cons_succ, List.set_cons_zero]
  refine wpAnyH_take (i := 7) (v := ?v17) rfl (by kernel_rfl) (by kernel_rfl) (by kernel_rfl) (fun _ _ _ h => h) (Or.inl ⟨by rfl, ?y17⟩) (rp0) ?r17
  case y17 =>
    intro w_ hS_
    go_simp
    try with_reducible rfl
  simp only [Act.put, List.getElem_toArray, List.getElem_cons_succ, List.getElem_cons_zero, List.setIfInBounds_toArray, List.set_cons_succ, List.set_cons_zero]
  refine wpAnyH_take (i := 8) (v := ?v18) rfl (by kernel_rfl) (by kernel_rfl) (by kernel_rfl) (fun _ _ _ h => h) (Or.inl ⟨by rfl, ?y18⟩) (rp0) ?r18
  case y18 =>
    intro w_ hS_
    go_simp
    try with_reducible rfl
  simp only [Act.put, List.getElem_toArray, List.getElem_cons_succ, List.getElem_cons_zero, List.setIfInBounds_toArray, List.set_cons_succ, List.set_cons_zero]
  refine wpAnyH_take (i := 9) (v := undef) rfl (by kernel_rfl) (by kernel_rfl) (by kernel_rfl) (fun _ _ _ h => h) (Or.inr ⟨by rfl, rfl⟩) (rp0) ?_
  simp only [Act.put, List.getElem_toArray, List.getElem_cons_succ, List.getElem_cons_zero, List.setIfInBounds_toArray, List.set_cons_succ, List.set_cons_zero]
  refine wpAnyH_take (i := 10) (v := undef) rfl (by kernel_rfl) (by kernel_rfl) (by kernel_rfl) (fun _ _ _ h => h) (Or.inr ⟨by rfl, rfl⟩) (rp0) ?_
  simp only [Act.put, List.getElem_toArray, List.getElem_cons_succ, List.getElem_cons_zero, List.setIfInBounds_toArray, List.set_cons_succ, List.set_cons_zero]
  refine wpAnyH_take (i := 11) (v := undef) rfl (by kernel_rfl) (by kernel_rfl) (by kernel_rfl) (fun _ _ _ h => h) (Or.inr ⟨by rfl, rfl⟩) (rp0) ?_
  simp only [Act.put, List.getElem_toArray, List.getElem_cons_succ, List.getElem_cons_zero, List.setIfInBounds_toArray, List.set_cons_succ, List.set_cons_zero]
  refine wpAnyH_take (i := 12) (v := undef) rfl (by kernel_rfl) (by kernel_rfl) (by kernel_rfl) (fun _ _ _ h => h) (Or.inr ⟨by rfl, rfl⟩) (rp0) ?_
  simp only [Act.put, List.getElem_toArray, List.getElem_cons_succ, List.getElem_cons_zero, List.setIfInBounds_toArray, List.set_cons_succ, List.set_cons_zero]
  refine wpAnyH_take (i := 13) (v := undef) rfl (by kernel_rfl) (by kernel_rfl) (by kernel_rfl) (fun _ _ _ h => h) (Or.inr ⟨by rfl, rfl⟩) (rp0) ?_
  simp only [Act.put, List.getElem_toArray, List.getElem_cons_succ, List.getElem_cons_zero, List.setIfInBounds_toArray, List.set_cons_succ, List.set_cons_zero]
  refine wpAnyH_skip (k := 14) (fuel := 2) (by kernel_rfl) rfl (by rfl) (rp0) ?_
  simp only [Act.put, List.getElem_toArray, List.getElem_cons_succ, List.getElem_cons_zero, List.setIfInBounds_toArray, List.set_cons_succ, List.set_cons_zero]
  refine wpAnyH_take (i := 15) (v := undef) rfl (by kernel_rfl) (by kernel_rfl) (by kernel_rfl) (fun _ _ _ h => h) (Or.inr ⟨by rfl, rfl⟩) (rp0) ?_
  simp only [Act.put, List.getElem_toArray, List.getElem_cons_succ, List.getElem_cons_zero, List.setIfInBounds_toArray, List.set_cons_succ, List.set_cons_zero]
  refine wpAnyH_take (i := 16) (v := ?v25) rfl (by kernel_rfl) (by kernel_rfl) (by kernel_rfl) (fun _ _ _ h => h) (Or.inl ⟨by rfl, ?y25⟩) (rp0) ?r25
  case y25 =>
    intro w_ hS_
    go_simp
    try with_reducible rfl
  simp only [Act.put, List.getElem_toArray, List.getElem_cons_succ, List.getElem_cons_zero, List.setIfInBounds_toArray, List.set_cons_succ, List.set_cons_zero]
  refine wpAnyH_done (by kernel_rfl) ?_ _
  refine NoPanic.normal ?_
  go_wp2_with (fail)
  go_ret
  exact ⟨_, _, rfl, hB, Nx.refl _ _, Nx.refl _ _, Fr.of hw⟩
set_option maxRecDepth 100000 in
set_option maxHeartbeats 8000000 in
theorem hap_yes (e : Ev) (he : e.ok) (b g : Nat) (ve vc : Value) (y : List Int) (es : List Ev) (cs : List Ct) (w : World) (hB : Bk w b g ve vc y es cs) (hd : -9223372036854775808 ≤ e.d ∧ e.d ≤ 9223372036854775807) (hne : e.n.size ≤ 9223372036854775806) (f : FuncId) (hkn : ruK e.d = true) (hvn : ruV e.d = .func (.func f) #[] #[]) (hent : ∀ args W, (callFunc f args).run Tryd.prog W = .ok (.enter f args) W) (hes : es.length + 1 ≤ 1024) (r : Option (List Ct)) (cR : ∀ W, Bk W b g ve vc y es cs → Calls Tryd.prog f #[.pointer (some ⟨g, 33, none⟩), .agg (evr e)] W (RuR b g ve vc y es cs r W)) (r2 : Option (List Ct)) (hr2 : Hid (r2 = if nam e.n = true then r else none)) : Calls Tryd.prog 29 #[.pointer (some ⟨g, 0, none⟩), .agg (evr e)] w (HpR b g ve vc y es cs e r2 w) := by
  have hr3 : nam e.n = false → Hid (r2 = none) := fun q => hide (by rw [hr2.out, q]; rfl)
  have hr4 : nam e.n = true → Hid (r2 = r) := fun q => hide (by rw [hr2.out, q]; rfl)
  have hkey := hB.key.1
  obtain ⟨ao, cap, rfl, hc1, hc2, hz1, hz2⟩ := hB.cts.sl
  obtain ⟨ae, ca, rfl, hc3, hc4, hz3, hz4⟩ := hB.evs.sl
  have hgw := lt_of_row hB.row
  have hle1 : ∀ k, (Value.slice ae es.length ca).ownBlock = some k → k < w.heap.size := fun k e => (hB.evs.lt k e).2
  have hlc1 : ∀ k, (Value.slice ao cs.length cap).ownBlock = some k → k < w.heap.size := fun k e => (hB.cts.lt k e).2
  have rp0 := hp1_0 w (.cells (evr e) 57)
  have hw : Below w.heap.size w (w.alloc (.cells (evr e) 57)) := ((Below.refl _ _).alloc (Nat.le_refl _) _)
  replace hB := hB.keep hw
  go_enter Tryd.func29, Tryd.ntmps29
  go_upto_region 1 with (first | (refine wpList_box rfl 57 _ rfl _ rfl (ev_box _) ?_) | fail)
  try simp only [size_alloc1]
  generalize (w.alloc (.cells (evr e) 57)) = w0 at *
  have hb : Below w0.heap.size w0 w0.drew := below_drN (Below.refl _ _) 1
  replace rp0 := keep hb rp0
  replace hB := hB.keep hb
  replace hw := Below.after hw hb
  clear hb
  refine wp_region_noPanic ?_
  refine wp_region_held (S := fun W_ => W_.heap[w.heap.size]? = some (.cells (evr e) 57 (0, 0))) (by kernel_rfl) ?_
  change wpAnyH _ _ _ _ _ _ _ _ (World.drew _)
  generalize w0.drew = wd26 at *
  refine wpAnyH_take (i := 1) (v := ?v27) rfl (by kernel_rfl) (by kernel_rfl) (by kernel_rfl) (fun _ _ _ h => h) (Or.inl ⟨by rfl, ?y27⟩) (rp0) ?r27
  case y27 =>
    intro w_ hS_
    go_simp
    try with_reducible rfl
  simp only [Act.put, List.getElem_toArray, List.getElem_cons_succ, List.getElem_cons_zero, List.setIfInBounds_toArray, List.set_cons_succ, List.set_cons_zero]
  refine wpAnyH_take (i := 2) (v := .int .i64 e.d) rfl (by kernel_rfl) (by kernel_rfl) (by kernel_rfl) (fun _ _ _ h => h) (Or.inl ⟨by rfl, ?y28⟩) (rp0) ?r28
  case y28 =>
    intro w_ hS_
    have c_ := cell_at (hS_) (ev_d e)
    go_simp
    try with_reducible rfl
  simp only [Act.put, List.getElem_toArray, List.getElem_cons_succ, List.getElem_cons_zero, List.setIfInBounds_toArray, List.set_cons_succ, List.set_cons_zero]
  refine eH_one (k := 0) (fuel := 6) (by kernel_rfl) rfl (by kernel_rfl) (fun K_ hK_ => ?_)
  refine wp_call_ex (f := 37) (R := fun v_ w_ => ∃ bm, v_ = .map (some bm) ∧ (w_.heap[bm]? = some (.map es7 7)) ∧ Below wd26.heap.size wd26 w_) (by kernel_rfl) ((a_rules _).mono (fun e_ w_ h_ => by obtain ⟨b_, h1_, h2_, h3_⟩ := h_; exact ⟨_, h1_, b_, rfl, h2_.1, h3_⟩)) (fun v_ wq29 hX_ => ?_)
  obtain ⟨bm, rfl, hm7, hb⟩ := hX_
  replace rp0 := keep hb rp0
  replace hB := hB.keep hb
  replace hw := Below.after hw hb
  clear hb
  refine hK_ _ _ (rp0) ?_
  simp only [Act.put, List.getElem_toArray, List.getElem_cons_zero, List.setIfInBounds_toArray, List.set_cons_succ, List.set_cons_zero]
  clear hK_
  refine eH_one (k := 3) (fuel := 5) (by kernel_rfl) rfl (by kernel_rfl) (fun K_ hK_ => ?_)
  refine e_world_op (.tuple #[ruV e.d, .bool (ruK e.d)]) _ (e_look 77 _ _ true rfl (.map (some bm)) (.int .i64 e.d) _ rfl rfl (run_rule e.d hd _ bm 7 hm7)) ?_
  refine hK_ _ _ (rp0) ?_
  simp only [Act.put, List.getElem_toArray, List.getElem_cons_succ, List.getElem_cons_zero, List.setIfInBounds_toArray, List.set_cons_succ, List.set_cons_zero]
  clear hK_ hm7
  refine wpAnyH_take (i := 4) (v := ?v30) rfl (by kernel_rfl) (by kernel_rfl) (by kernel_rfl) (fun _ _ _ h => h) (Or.inl ⟨by rfl, ?y30⟩) (rp0) ?r30
  case y30 =>
    intro w_ hS_
    go_simp
    try with_reducible rfl
  simp only [Act.put, List.getElem_toArray, List.getElem_cons_succ, List.getElem_cons_zero, List.setIfInBounds_toArray, List.set_cons_succ, List.set_cons_zero]
  refine wpAnyH_take (i := 5) (v := ?v31) rfl (by kernel_rfl) (by kernel_rfl) (by kernel_rfl) (fun _ _ _ h => h) (Or.inl ⟨by rfl, ?y31⟩) (rp0) ?r31
  case y31 =>
    intro w_ hS_
    go_simp
    try with_reducible rfl
  simp only [Act.put, List.getElem_toArray, List.getElem_cons_succ, List.getElem_cons_zero, List.setIfInBounds_toArray, List.set_cons_succ, List.set_cons_zero]
  refine wpAnyH_take (i := 6) (v := ?v32) rfl (by kernel_rfl) (by kernel_rfl) (by kernel_rfl) (fun _ _ _ h => h) (Or.inl ⟨by rfl, ?y32⟩) (rp0) ?r32
  case y32 =>
    intro w_ hS_
    go_simp
    try with_reducible rfl
  simp only [Act.put, List.getElem_toArray, List.getElem_cons_succ, List.getElem_cons_zero, List.setIfInBounds_toArray, List.set_cons_succ, List.set_cons_zero]
  refine wpAnyH_take (i := 7) (v := ?v33) rfl (by kernel_rfl) (by kernel_rfl) (by kernel_rfl) (fun _ _ _ h => h) (Or.inl ⟨by rfl, ?y33⟩) (rp0) ?r33
  case y33 =>
    intro w_ hS_
    go_simp
    try with_reducible rfl
  simp only [Act.put, List.getElem_toArray, List.getElem_cons_succ, List.getElem_cons_zero, List.setIfInBounds_toArray, List.set_cons_succ, List.set_cons_zero]
  refine wpAnyH_take (i := 8) (v := ?v34) rfl (by kernel_rfl) (by kernel_rfl) (by kernel_rfl) (fun _ _ _ h => h) (Or.inl ⟨by rfl, ?y34⟩) (rp0) ?r34
  case y34 =>
    intro w_ hS_
    go_simp
    try with_reducible rfl
  simp only [Act.put, List.getElem_toArray, List.getElem_cons_succ, List.getElem_cons_zero, List.setIfInBounds_toArray, List.set_cons_succ, List.set_cons_zero]
  refine wpAnyH_done (by kernel_rfl) ?_ _
  refine NoPanic.normal ?_
  rw [hkn, hvn]
  go_wp2_with (fail)
  generalize dn : nam e.n = xn at *
  cases xn
  · have hu := hr3 rfl
    clear hr3 hr4 hr2
    have hb : Below wq29.heap.size wq29 wq29.drew := below_drN (Below.refl _ _) 1
    replace rp0 := keep hb rp0
    replace hB := hB.keep hb
    replace hw := Below.after hw hb
    clear hb
    refine wp_region_noPanic ?_
    refine wp_region_held (S := fun W_ => W_.heap[w.heap.size]? = some (.cells (evr e) 57 (0, 0))) (by kernel_rfl) ?_
    change wpAnyH _ _ _ _ _ _ _ _ (World.drew _)
    generalize wq29.drew = wd35 at *
    refine wpAnyH_take (i := 0) (v := ?v36) rfl (by kernel_rfl) (by kernel_rfl) (by kernel_rfl) (fun _ _ _ h => h) (Or.inl ⟨by rfl, ?y36⟩) (rp0) ?r36
    case y36 =>
      intro w_ hS_
      go_simp
      try with_reducible rfl
    simp only [Act.put, List.getElem_toArray, List.getElem_cons_zero, List.setIfInBounds_toArray, List.set_cons_succ, List.set_cons_zero]
    refine wpAnyH_take (i := 1) (v := .bool false) rfl (by kernel_rfl) (by kernel_rfl) (by kernel_rfl) (fun _ _ _ h => h) (Or.inl ⟨by rfl, ?y37⟩) (rp0) ?r37
    case y37 =>
      intro w_ hS_
      go_simp
      try with_reducible rfl
    simp only [Act.put, List.getElem_toArray, List.getElem_cons_succ, List.getElem_cons_zero, List.setIfInBounds_toArray, List.set_cons_succ, List.set_cons_zero]
    refine wpAnyH_take (i := 2) (v := .bool false) rfl (by kernel_rfl) (by kernel_rfl) (by kernel_rfl) (fun _ _ _ h => h) (Or.inl ⟨by rfl, ?y38⟩) (rp0) ?r38
    case y38 =>
      intro w_ hS_
      go_simp
      try with_reducible rfl
    simp only [Act.put, List.getElem_toArray, List.getElem_cons_succ, List.getElem_cons_zero, List.setIfInBounds_toArray, List.set_cons_succ, List.set_cons_zero]
    refine wpAnyH_take (i := 3) (v := ?v39) rfl (by kernel_rfl) (by kernel_rfl) (by kernel_rfl) (fun _ _ _ h => h) (Or.inl ⟨by rfl, ?y39⟩) (rp0) ?r39
    case y39 =>
      intro w_ hS_
      go_simp
      try with_reducible rfl
    simp only [Act.put, List.getElem_toArray, List.getElem_cons_succ, List.getElem_cons_zero, List.setIfInBounds_toArray, List.set_cons_succ, List.set_cons_zero]
    refine wpAnyH_take (i := 4) (v := .string e.n) rfl (by kernel_rfl) (by kernel_rfl) (by kernel_rfl) (fun _ _ _ h => h) (Or.inl ⟨by rfl, ?y40⟩) (rp0) ?r40
    case y40 =>
      intro w_ hS_
      have c_ := cell_at (hS_) (ev_n e)
      go_simp
      try with_reducible rfl
    simp only [Act.put, List.getElem_toArray, List.getElem_cons_succ, List.getElem_cons_zero, List.setIfInBounds_toArray, List.set_cons_succ, List.set_cons_zero]
    refine eH_one (k := 5) (fuel := 11) (by kernel_rfl) rfl (by kernel_rfl) (fun K_ hK_ => ?_)
    refine wp_call_ex (f := 17) (by kernel_rfl) (ex1e (a_isName e.n _ hne)) (fun v_ wq41 hX_ => ?_)
    obtain ⟨rfl, hb⟩ := hX_
    replace rp0 := keep hb rp0
    replace hB := hB.keep hb
    replace hw := Below.after hw hb
    clear hb
    refine hK_ _ _ (rp0) ?_
    simp only [Act.put, List.getElem_toArray, List.getElem_cons_succ, List.getElem_cons_zero, List.setIfInBounds_toArray, List.set_cons_succ, List.set_cons_zero]
    clear hK_
    refine wpAnyH_take (i := 6) (v := .bool true) rfl (by kernel_rfl) (by kernel_rfl) (by kernel_rfl) (fun _ _ _ h => h) (Or.inl ⟨by rfl, ?y42⟩) (rp0) ?r42
    case y42 =>
      intro w_ hS_
      go_simp
      try with_reducible rfl
    simp only [Act.put, List.getElem_toArray, List.getElem_cons_succ, List.getElem_cons_zero, List.setIfInBounds_toArray, List.set_cons_succ, List.set_cons_zero]
    refine wpAnyH_take (i := 7) (v := .bool true) rfl (by kernel_rfl) (by kernel_rfl) (by kernel_rfl) (fun _ _ _ h => h) (Or.inl ⟨by rfl, ?y43⟩) (rp0) ?r43
    case y43 =>
      intro w_ hS_
      go_simp
      try with_reducible rfl
    simp only [Act.put, List.getElem_toArray, List.getElem_cons_succ, List.getElem_cons_zero, List.setIfInBounds_toArray, List.set_cons_succ, List.set_cons_zero]
    refine wpAnyH_take (i := 8) (v := .bool true) rfl (by kernel_rfl) (by kernel_rfl) (by kernel_rfl) (fun _ _ _ h => h) (Or.inl ⟨by rfl, ?y44⟩) (rp0) ?r44
    case y44 =>
      intro w_ hS_
      go_simp
      try with_reducible rfl
    simp only [Act.put, List.getElem_toArray, List.getElem_cons_succ, List.getElem_cons_zero, List.setIfInBounds_toArray, List.set_cons_succ, List.set_cons_zero]
    refine wpAnyH_take (i := 9) (v := undef) rfl (by kernel_rfl) (by kernel_rfl) (by kernel_rfl) (fun _ _ _ h => h) (Or.inr ⟨by rfl, rfl⟩) (rp0) ?_
    simp only [Act.put, List.getElem_toArray, List.getElem_cons_succ, List.getElem_cons_zero, List.setIfInBounds_toArray, List.set_cons_succ, List.set_cons_zero]
    refine wpAnyH_take (i := 10) (v := undef) rfl (by kernel_rfl) (by kernel_rfl) (by kernel_rfl) (fun _ _ _ h => h) (Or.inr ⟨by rfl, rfl⟩) (rp0) ?_
    simp only [Act.put, List.getElem_toArray, List.getElem_cons_succ, List.getElem_cons_zero, List.setIfInBounds_toArray, List.set_cons_succ, List.set_cons_zero]
    refine wpAnyH_take (i := 11) (v := undef) rfl (by kernel_rfl) (by kernel_rfl) (by kernel_rfl) (fun _ _ _ h => h) (Or.inr ⟨by rfl, rfl⟩) (rp0) ?_
    simp only [Act.put, List.getElem_toArray, List.getElem_cons_succ, List.getElem_cons_zero, List.setIfInBounds_toArray, List.set_cons_succ, List.set_cons_zero]
    refine wpAnyH_take (i := 12) (v := undef) rfl (by kernel_rfl) (by kernel_rfl) (by kernel_rfl) (fun _ _ _ h => h) (Or.inr ⟨by rfl, rfl⟩) (rp0) ?_
    simp only [Act.put, List.getElem_toArray, List.getElem_cons_succ, List.getElem_cons_zero, List.setIfInBounds_toArray, List.set_cons_succ, List.set_cons_zero]
    refine wpAnyH_take (i := 13) (v := undef) rfl (by kernel_rfl) (by kernel_rfl) (by kernel_rfl) (fun _ _ _ h => h) (Or.inr ⟨by rfl, rfl⟩) (rp0) ?_
    simp only [Act.put, List.getElem_toArray, List.getElem_cons_succ, List.getElem_cons_zero, List.setIfInBounds_toArray, List.set_cons_succ, List.set_cons_zero]
    refine wpAnyH_skip (k := 14) (fuel := 2) (by kernel_rfl) rfl (by rfl) (rp0) ?_
    simp only [Act.put, List.getElem_toArray, List.getElem_cons_succ, List.getElem_cons_zero, List.setIfInBounds_toArray, List.set_cons_succ, List.set_cons_zero]
    refine wpAnyH_take (i := 15) (v := undef) rfl (by kernel_rfl) (by kernel_rfl) (by kernel_rfl) (fun _ _ _ h => h) (Or.inr ⟨by rfl, rfl⟩) (rp0) ?_
    simp only [Act.put, List.getElem_toArray, List.getElem_cons_succ, List.getElem_cons_zero, List.setIfInBounds_toArray, List.set_cons_succ, List.set_cons_zero]
    refine wpAnyH_take (i := 16) (v := .bool true) rfl (by kernel_rfl) (by kernel_rfl) (by kernel_rfl) (fun _ _ _ h => h) (Or.inl ⟨by rfl, ?y51⟩) (rp0) ?r51
    case y51 =>
      intro w_ hS_
      go_simp
      try with_reducible rfl
    simp only [Act.put, List.getElem_toArray, List.getElem_cons_succ, List.getElem_cons_zero, List.setIfInBounds_toArray, List.set_cons_succ, List.set_cons_zero]
    refine wpAnyH_done (by kernel_rfl) ?_ _
    refine NoPanic.normal ?_
    go_wp2_with (fail)
    go_ret
    exact ⟨_, _, by rw [hu.out]; rfl, by rw [hu.out]; exact hB, Nx.refl _ _, Nx.refl _ _, Fr.of hw⟩
  · have hu := hr4 rfl
    clear hr3 hr4 hr2
    have hb : Below wq29.heap.size wq29 wq29.drew := below_drN (Below.refl _ _) 1
    replace rp0 := keep hb rp0
    replace hB := hB.keep hb
    replace hw := Below.after hw hb
    clear hb
    refine wp_region_noPanic ?_
    refine wp_region_held (S := fun W_ => W_.heap[w.heap.size]? = some (.cells (evr e) 57 (0, 0))) (by kernel_rfl) ?_
    change wpAnyH _ _ _ _ _ _ _ _ (World.drew _)
    generalize wq29.drew = wd52 at *
    refine wpAnyH_take (i := 0) (v := ?v53) rfl (by kernel_rfl) (by kernel_rfl) (by kernel_rfl) (fun _ _ _ h => h) (Or.inl ⟨by rfl, ?y53⟩) (rp0) ?r53
    case y53 =>
      intro w_ hS_
      go_simp
      try with_reducible rfl
    simp only [Act.put, List.getElem_toArray, List.getElem_cons_zero, List.setIfInBounds_toArray, List.set_cons_succ, List.set_cons_zero]
    refine wpAnyH_take (i := 1) (v := .bool false) rfl (by kernel_rfl) (by kernel_rfl) (by kernel_rfl) (fun _ _ _ h => h) (Or.inl ⟨by rfl, ?y54⟩) (rp0) ?r54
    case y54 =>
      intro w_ hS_
      go_simp
      try with_reducible rfl
    simp only [Act.put, List.getElem_toArray, List.getElem_cons_succ, List.getElem_cons_zero, List.setIfInBounds_toArray, List.set_cons_succ, List.set_cons_zero]
    refine wpAnyH_take (i := 2) (v := .bool false) rfl (by kernel_rfl) (by kernel_rfl) (by kernel_rfl) (fun _ _ _ h => h) (Or.inl ⟨by rfl, ?y55⟩) (rp0) ?r55
    case y55 =>
      intro w_ hS_
      go_simp
      try with_reducible rfl
    simp only [Act.put, List.getElem_toArray, List.getElem_cons_succ, List.getElem_cons_zero, List.setIfInBounds_toArray, List.set_cons_succ, List.set_cons_zero]
    refine wpAnyH_take (i := 3) (v := ?v56) rfl (by kernel_rfl) (by kernel_rfl) (by kernel_rfl) (fun _ _ _ h => h) (Or.inl ⟨by rfl, ?y56⟩) (rp0) ?r56
    case y56 =>
      intro w_ hS_
      go_simp
      try with_reducible rfl
    simp only [Act.put, List.getElem_toArray, List.getElem_cons_succ, List.getElem_cons_zero, List.setIfInBounds_toArray, List.set_cons_succ, List.set_cons_zero]
    refine wpAnyH_take (i := 4) (v := .string e.n) rfl (by kernel_rfl) (by kernel_rfl) (by kernel_rfl) (fun _ _ _ h => h) (Or.inl ⟨by rfl, ?y57⟩) (rp0) ?r57
    case y57 =>
      intro w_ hS_
      have c_ := cell_at (hS_) (ev_n e)
      go_simp
      try with_reducible rfl
    simp only [Act.put, List.getElem_toArray, List.getElem_cons_succ, List.getElem_cons_zero, List.setIfInBounds_toArray, List.set_cons_succ, List.set_cons_zero]
    refine eH_one (k := 5) (fuel := 11) (by kernel_rfl) rfl (by kernel_rfl) (fun K_ hK_ => ?_)
    refine wp_call_ex (f := 17) (by kernel_rfl) (ex1e (a_isName e.n _ hne)) (fun v_ wq58 hX_ => ?_)
    obtain ⟨rfl, hb⟩ := hX_
    replace rp0 := keep hb rp0
    replace hB := hB.keep hb
    replace hw := Below.after hw hb
    clear hb
    refine hK_ _ _ (rp0) ?_
    simp only [Act.put, List.getElem_toArray, List.getElem_cons_succ, List.getElem_cons_zero, List.setIfInBounds_toArray, List.set_cons_succ, List.set_cons_zero]
    clear hK_
    refine wpAnyH_take (i := 6) (v := .bool false) rfl (by kernel_rfl) (by kernel_rfl) (by kernel_rfl) (fun _ _ _ h => h) (Or.inl ⟨by rfl, ?y59⟩) (rp0) ?r59
    case y59 =>
      intro w_ hS_
      go_simp
      try with_reducible rfl
    simp only [Act.put, List.getElem_toArray, List.getElem_cons_succ, List.getElem_cons_zero, List.setIfInBounds_toArray, List.set_cons_succ, List.set_cons_zero]
    refine wpAnyH_take (i := 7) (v := .bool false) rfl (by kernel_rfl) (by kernel_rfl) (by kernel_rfl) (fun _ _ _ h => h) (Or.inl ⟨by rfl, ?y60⟩) (rp0) ?r60
    case y60 =>
      intro w_ hS_
      go_simp
      try with_reducible rfl
    simp only [Act.put, List.getElem_toArray, List.getElem_cons_succ, List.getElem_cons_zero, List.setIfInBounds_toArray, List.set_cons_succ, List.set_cons_zero]
    refine wpAnyH_take (i := 8) (v := .bool false) rfl (by kernel_rfl) (by kernel_rfl) (by kernel_rfl) (fun _ _ _ h => h) (Or.inl ⟨by rfl, ?y61⟩) (rp0) ?r61
    case y61 =>
      intro w_ hS_
      go_simp
      try with_reducible rfl
    simp only [Act.put, List.getElem_toArray, List.getElem_cons_succ, List.getElem_cons_zero, List.setIfInBounds_toArray, List.set_cons_succ, List.set_cons_zero]
    refine wpAnyH_take (i := 9) (v := ?v62) rfl (by kernel_rfl) (by kernel_rfl) (by kernel_rfl) (fun _ _ _ h => h) (Or.inl ⟨by rfl, ?y62⟩) (rp0) ?r62
    case y62 =>
      intro w_ hS_
      go_simp
      try with_reducible rfl
    simp only [Act.put, List.getElem_toArray, List.getElem_cons_succ, List.getElem_cons_zero, List.setIfInBounds_toArray, List.set_cons_succ, List.set_cons_zero]
    refine wpAnyH_take (i := 10) (v := ?v63) rfl (by kernel_rfl) (by kernel_rfl) (by kernel_rfl) (fun _ _ _ h => h) (Or.inl ⟨by rfl, ?y63⟩) (rp0) ?r63
    case y63 =>
      intro w_ hS_
      go_simp
      try with_reducible rfl
    simp only [Act.put, List.getElem_toArray, List.getElem_cons_succ, List.getElem_cons_zero, List.setIfInBounds_toArray, List.set_cons_succ, List.set_cons_zero]
    refine wpAnyH_take (i := 11) (v := ?v64) rfl (by kernel_rfl) (by kernel_rfl) (by kernel_rfl) (fun _ _ _ h => h) (Or.inl ⟨by rfl, ?y64⟩) (rp0) ?r64
    case y64 =>
      intro w_ hS_
      go_simp
      try with_reducible rfl
    simp only [Act.put, List.getElem_toArray, List.getElem_cons_succ, List.getElem_cons_zero, List.setIfInBounds_toArray, List.set_cons_succ, List.set_cons_zero]
    refine wpAnyH_take (i := 12) (v := ?v65) rfl (by kernel_rfl) (by kernel_rfl) (by kernel_rfl) (fun _ _ _ h => h) (Or.inl ⟨by rfl, ?y65⟩) (rp0) ?r65
    case y65 =>
      intro w_ hS_
      go_simp
      try with_reducible rfl
    simp only [Act.put, List.getElem_toArray, List.getElem_cons_succ, List.getElem_cons_zero, List.setIfInBounds_toArray, List.set_cons_succ, List.set_cons_zero]
    refine wpAnyH_take (i := 13) (v := .agg (evr e)) rfl (by kernel_rfl) (by kernel_rfl) (by kernel_rfl) (fun _ _ _ h => h) (Or.inl ⟨by rfl, ?y66⟩) (rp0) ?r66
    case y66 =>
      intro w_ hS_
      simp only [List.getElem_toArray, List.getElem_cons_succ, List.getElem_cons_zero]
      exact e_load_part 57 _ (by rfl) (w.heap.size) 0 (by rfl) 57 (evr e) (0, 0) (evr e) _ (hS_) (all_rowe _) Tryd.underlying57 rfl (ev_info _ he.1)
    simp only [Act.put, List.getElem_toArray, List.getElem_cons_succ, List.getElem_cons_zero, List.setIfInBounds_toArray, List.set_cons_succ, List.set_cons_zero]
    refine eH_one (k := 14) (fuel := 2) (by kernel_rfl) rfl (by kernel_rfl) (fun K_ hK_ => ?_)
    refine wp_call_ex (f := f) (R := fun v_ w_ => v_ = .bool r.isSome ∧ ∃ vc', Bk w_ b g (Value.slice ae es.length ca) vc' y es (r.getD cs) ∧ Nx wq58 (Value.slice ao cs.length cap) vc' ∧ Fr (ownB g (Value.slice ae es.length ca) (Value.slice ao cs.length cap)) wq58 w_) (run_call_val0 f #[.pointer (some ⟨g, 33, none⟩), .agg (evr e)] hent (.tmp 23) _ _ rfl rfl (by simp only [List.map_toArray, List.map_cons, List.map_nil]; rfl)) ((cR _ hB).mono (fun e_ w_ h_ => by obtain ⟨vc', h1_, h2_⟩ := h_; exact ⟨_, h1_, rfl, vc', h2_⟩)) (fun v_ wr hX_ => ?_)
    obtain ⟨rfl, vc', hB2, hN2, hF2⟩ := hX_
    have hrp : wr.heap[w.heap.size]? = some (.cells (evr e) 57 (0, 0)) := hF2.row rp0 (fun q => by rcases q with q | q | q; omega; have := hle1 _ q; omega; have := hlc1 _ q; omega)
    have hT : Fr (ownB g (Value.slice ae es.length ca) (Value.slice ao cs.length cap)) w wr := (Fr.of hw).step hF2 (fun _ _ q => q)
    replace hN2 := hN2.of hw.size
    have hsz := Nat.le_trans hw.size hF2.size
    have hlt0 := lt_of_row rp0
    clear hB hF2 hw rp0
    have rp0 := hrp
    clear hrp
    refine hK_ _ _ rp0 ?_
    simp only [Act.put, List.getElem_toArray, List.getElem_cons_succ, List.getElem_cons_zero, List.setIfInBounds_toArray, List.set_cons_succ, List.set_cons_zero]
    clear hK_
    refine wpAnyH_take (i := 15) (v := .bool (!r.isSome)) rfl (by kernel_rfl) (by kernel_rfl) (by kernel_rfl) (fun _ _ _ h => h) (Or.inl ⟨by rfl, ?y67⟩) (rp0) ?r67
    case y67 =>
      intro w_ hS_
      go_simp
      try with_reducible rfl
    simp only [Act.put, List.getElem_toArray, List.getElem_cons_succ, List.getElem_cons_zero, List.setIfInBounds_toArray, List.set_cons_succ, List.set_cons_zero]
    refine wpAnyH_take (i := 16) (v := .bool (!r.isSome)) rfl (by kernel_rfl) (by kernel_rfl) (by kernel_rfl) (fun _ _ _ h => h) (Or.inl ⟨by rfl, ?y68⟩) (rp0) ?r68
    case y68 =>
      intro w_ hS_
      go_simp
      try with_reducible rfl
    simp only [Act.put, List.getElem_toArray, List.getElem_cons_succ, List.getElem_cons_zero, List.setIfInBounds_toArray, List.set_cons_succ, List.set_cons_zero]
    refine wpAnyH_done (by kernel_rfl) ?_ _
    refine NoPanic.normal ?_
    obtain ⟨ao2, cap2, rfl, _, _, _, _⟩ := hB2.cts.sl
    cases r with
    | none =>
      go_wp2_with (fail)
      go_ret
      exact ⟨_, _, by rw [hu.out]; rfl, by rw [hu.out]; exact hB2, Nx.refl _ _, hN2, hT⟩
    | some ds =>
      have hB3 := hB2
      change Bk wr b g (Value.slice ae es.length ca) _ y es ds at hB3
      clear hB2
      go_wp2_with (fail)
      have rB := hB3.row
      have hgl3 := lt_of_row rB
      have hlt3 := lt_of_row rp0
      have hw3 : Below wr.heap.size wr wr := Below.refl _ _
      have hw := hw3
      clear hw3
      have hb : Below wr.heap.size wr wr.drew := below_drN (Below.refl _ _) 1
      replace rp0 := keep hb rp0
      replace hB3 := hB3.keep hb
      replace rB := keep hb rB
      replace hw := Below.after hw hb
      clear hb
      refine wp_region_noPanic ?_
      refine wp_region_held (S := fun W_ => W_.heap[w.heap.size]? = some (.cells (evr e) 57 (0, 0))) (by kernel_rfl) ?_
      change wpAnyH _ _ _ _ _ _ _ _ (World.drew _)
      generalize wr.drew = wd69 at *
      refine wpAnyH_take (i := 0) (v := ?v70) rfl (by kernel_rfl) (by kernel_rfl) (by kernel_rfl) (fun _ _ _ h => h) (Or.inl ⟨by rfl, ?y70⟩) (rp0) ?r70
      case y70 =>
        intro w_ hS_
        go_simp
        try with_reducible rfl
      simp only [Act.put, List.getElem_toArray, List.getElem_cons_zero, List.setIfInBounds_toArray, List.set_cons_succ, List.set_cons_zero]
      refine wpAnyH_take (i := 1) (v := ?v71) rfl (by kernel_rfl) (by kernel_rfl) (by kernel_rfl) (fun _ _ _ h => h) (Or.inl ⟨by rfl, ?y71⟩) (rp0) ?r71
      case y71 =>
        intro w_ hS_
        go_simp
        try with_reducible rfl
      simp only [Act.put, List.getElem_toArray, List.getElem_cons_succ, List.getElem_cons_zero, List.setIfInBounds_toArray, List.set_cons_succ, List.set_cons_zero]
      refine wpAnyH_take (i := 2) (v := ?v72) rfl (by kernel_rfl) (by kernel_rfl) (by kernel_rfl) (fun _ _ _ h => h) (Or.inl ⟨by rfl, ?y72⟩) (rp0) ?r72
      case y72 =>
        intro w_ hS_
        go_simp
        try with_reducible rfl
      simp only [Act.put, List.getElem_toArray, List.getElem_cons_succ, List.getElem_cons_zero, List.setIfInBounds_toArray, List.set_cons_succ, List.set_cons_zero]
      refine wpAnyH_take (i := 3) (v := ?v73) rfl (by kernel_rfl) (by kernel_rfl) (by kernel_rfl) (fun _ _ _ h => h) (Or.inl ⟨by rfl, ?y73⟩) (rp0) ?r73
      case y73 =>
        intro w_ hS_
        go_simp
        try with_reducible rfl
      simp only [Act.put, List.getElem_toArray, List.getElem_cons_succ, List.getElem_cons_zero, List.setIfInBounds_toArray, List.set_cons_succ, List.set_cons_zero]
      refine wpAnyH_take (i := 5) (v := .agg (evr e)) rfl (by kernel_rfl) (by kernel_rfl) (by kernel_rfl) (fun _ _ _ h => h) (Or.inl ⟨by rfl, ?y74⟩) (rp0) ?r74
      case y74 =>
        intro w_ hS_
        simp only [List.getElem_toArray, List.getElem_cons_succ, List.getElem_cons_zero]
        exact e_load_part 57 _ (by rfl) (w.heap.size) 0 (by rfl) 57 (evr e) (0, 0) (evr e) _ (hS_) (all_rowe _) Tryd.underlying57 rfl (ev_info _ he.1)
      simp only [Act.put, List.getElem_toArray, List.getElem_cons_succ, List.getElem_cons_zero, List.setIfInBounds_toArray, List.set_cons_succ, List.set_cons_zero]
      refine eH_two (j := 4) (k := 6) (fuel := 5) (by kernel_rfl) rfl rfl (by kernel_rfl) (by kernel_rfl) (fun K_ hK_ => ?_) (fun K_ hK_ => ?_)
      · skip
        refine e_world_op (Value.slice ae es.length ca) _ (by have c_ := bke hkey rB; go_simp; try with_reducible rfl) ?_
        refine hK_ _ _ (rp0) ?_
        simp only [Act.put, List.getElem_toArray, List.getElem_cons_succ, List.getElem_cons_zero, List.setIfInBounds_toArray, List.set_cons_succ, List.set_cons_zero]
        clear hK_
        refine eH_one (k := 6) (fuel := 4) (by kernel_rfl) rfl (by kernel_rfl) (fun K_ hK_ => ?_)
        refine e_world_op (.slice (some ⟨wd69.heap.size, 0, none⟩) 1 1) (wd69.alloc (.cells (evr e) 57)) (e_bslE e he wd69 _ rfl rfl) ?_
        have hb : Below wd69.heap.size wd69 (wd69.alloc (.cells (evr e) 57)) := (Below.refl _ _).alloc (Nat.le_refl _) _
        have rgx := hp1_0 wd69 (.cells (evr e) 57)
        have hgx := hw.size
        replace rp0 := keep hb rp0
        replace hB3 := hB3.keep hb
        replace rB := keep hb rB
        replace hw := Below.after hw hb
        clear hb
        refine hK_ _ _ (rp0) ?_
        simp only [Act.put, List.getElem_toArray, List.getElem_cons_succ, List.getElem_cons_zero, List.setIfInBounds_toArray, List.set_cons_succ, List.set_cons_zero]
        clear hK_
        generalize (wd69.alloc (.cells (evr e) 57)) = wq75 at *
        generalize wd69.heap.size = gx at *
        refine eH_one (k := 7) (fuel := 3) (by kernel_rfl) rfl (by kernel_rfl) (fun K_ hK_ => ?_)
        refine wp_append_E (.tmp 35) (.tmp 37) 47 Tryd.underlying47 rfl b _ es rfl hB3.evs ⟨gx, 0, none⟩ [e] 1 (AllE.one he) rfl (evr_cells rgx) (by simp only [List.length_singleton]; omega) (by have := hB3.bg; have := lt_of_row hB3.row; omega) (fun va wa hA_ hG_ hN_ => ?_)
        have hBW := hB3.withE hG_ hA_ (by rw [List.length_append]; exact hes)
        have hrp := (hG_.block _ (lt_of_row rp0) (fun q => by have := hle1 _ q.symm; omega)).trans rp0
        have hrb := (hG_.block _ (lt_of_row rB) (fun q => own_type hB3.evs.1 rB (by decide) q.symm)).trans rB
        replace hN_ := hN_.of (Nat.le_trans hsz hw.size)
        have hT2 : Fr (ownB g (Value.slice ae es.length ca) (Value.slice ao cs.length cap)) w wa := hT.step ((Fr.of (X := fun k => (Value.slice ae es.length ca).ownBlock = some k) hw).step ⟨hG_.os, hG_.tape, hG_.output, hG_.size, fun k hk hx => hG_.block k hk (fun e => hx e.symm)⟩ (fun _ _ q => q)) (fun _ _ q => .inr (.inl q))
        obtain ⟨a2, n2, c2, rfl⟩ : ∃ a n c, va = .slice a n c := by obtain ⟨a_, c_, h_, _⟩ := hA_.sl; exact ⟨a_, _, c_, h_⟩
        clear hA_ hG_ hB3 hw rB rp0 hT
        have rp0 := hrp
        have rB := hrb
        clear hrp hrb
        refine hK_ _ _ rp0 ?_
        simp only [Act.put, List.getElem_toArray, List.getElem_cons_succ, List.getElem_cons_zero, List.setIfInBounds_toArray, List.set_cons_succ, List.set_cons_zero]
        clear hK_
        refine wpAnyH_take (i := 8) (v := ?v76) rfl (by kernel_rfl) (by kernel_rfl) (by kernel_rfl) (fun _ _ _ h => h) (Or.inl ⟨by rfl, ?y76⟩) (rp0) ?r76
        case y76 =>
          intro w_ hS_
          go_simp
          try with_reducible rfl
        simp only [Act.put, List.getElem_toArray, List.getElem_cons_succ, List.getElem_cons_zero, List.setIfInBounds_toArray, List.set_cons_succ, List.set_cons_zero]
        refine wpAnyH_take (i := 9) (v := ?v77) rfl (by kernel_rfl) (by kernel_rfl) (by kernel_rfl) (fun _ _ _ h => h) (Or.inl ⟨by rfl, ?y77⟩) (rp0) ?r77
        case y77 =>
          intro w_ hS_
          go_simp
          try with_reducible rfl
        simp only [Act.put, List.getElem_toArray, List.getElem_cons_succ, List.getElem_cons_zero, List.setIfInBounds_toArray, List.set_cons_succ, List.set_cons_zero]
        refine eH_one (k := 10) (fuel := 0) (by kernel_rfl) rfl (by kernel_rfl) (fun K_ hK_ => ?_)
        refine wp_store_cellR 47 _ _ rfl g 32 (.slice a2 n2 c2) rfl rfl 51 _ (bkr y (.slice a2 n2 c2) (.slice ao2 (some ds |>.getD cs).length cap2)) rB (by rw [bkr_size y _ _ hkey]; decide) (bk_pute y hkey _ _ _) (by kernel_rfl) rfl ?_
        have hT3 := hT2.bset (bkr y (.slice a2 n2 c2) (.slice ao2 (some ds |>.getD cs).length cap2))
        replace rp0 := (setRow_other wa g w.heap.size (bkr y (.slice a2 n2 c2) (.slice ao2 (some ds |>.getD cs).length cap2)) (by omega)).trans rp0
        refine hK_ _ _ rp0 ?_
        simp only [Act.put]
        clear hK_ hT2
        generalize wa.setRow g (bkr y (.slice a2 n2 c2) (.slice ao2 (some ds |>.getD cs).length cap2)) = wj at *
        refine wpAnyH_done (by kernel_rfl) ?_ _
        refine NoPanic.normal ?_
        go_wp2_with (fail)
        go_ret
        exact ⟨_, _, by rw [hu.out]; rfl, by rw [hu.out]; exact hBW, hN_, hN2, hT3⟩
      · skip
        refine e_world_op (.slice (some ⟨wd69.heap.size, 0, none⟩) 1 1) (wd69.alloc (.cells (evr e) 57)) (e_bslE e he wd69 _ rfl rfl) ?_
        have hb : Below wd69.heap.size wd69 (wd69.alloc (.cells (evr e) 57)) := (Below.refl _ _).alloc (Nat.le_refl _) _
        have rgx := hp1_0 wd69 (.cells (evr e) 57)
        have hgx := hw.size
        replace rp0 := keep hb rp0
        replace hB3 := hB3.keep hb
        replace rB := keep hb rB
        replace hw := Below.after hw hb
        clear hb
        refine hK_ _ _ (rp0) ?_
        simp only [Act.put, List.getElem_toArray, List.getElem_cons_succ, List.getElem_cons_zero, List.setIfInBounds_toArray, List.set_cons_succ, List.set_cons_zero]
        clear hK_
        generalize (wd69.alloc (.cells (evr e) 57)) = wq78 at *
        generalize wd69.heap.size = gx at *
        refine eH_one (k := 4) (fuel := 4) (by kernel_rfl) rfl (by kernel_rfl) (fun K_ hK_ => ?_)
        refine e_world_op (Value.slice ae es.length ca) _ (by have c_ := bke hkey rB; go_simp; try with_reducible rfl) ?_
        refine hK_ _ _ (rp0) ?_
        simp only [Act.put, List.getElem_toArray, List.getElem_cons_succ, List.getElem_cons_zero, List.setIfInBounds_toArray, List.set_cons_succ, List.set_cons_zero]
        clear hK_
        refine eH_one (k := 7) (fuel := 3) (by kernel_rfl) rfl (by kernel_rfl) (fun K_ hK_ => ?_)
        refine wp_append_E (.tmp 35) (.tmp 37) 47 Tryd.underlying47 rfl b _ es rfl hB3.evs ⟨gx, 0, none⟩ [e] 1 (AllE.one he) rfl (evr_cells rgx) (by simp only [List.length_singleton]; omega) (by have := hB3.bg; have := lt_of_row hB3.row; omega) (fun va wa hA_ hG_ hN_ => ?_)
        have hBW := hB3.withE hG_ hA_ (by rw [List.length_append]; exact hes)
        have hrp := (hG_.block _ (lt_of_row rp0) (fun q => by have := hle1 _ q.symm; omega)).trans rp0
        have hrb := (hG_.block _ (lt_of_row rB) (fun q => own_type hB3.evs.1 rB (by decide) q.symm)).trans rB
        replace hN_ := hN_.of (Nat.le_trans hsz hw.size)
        have hT2 : Fr (ownB g (Value.slice ae es.length ca) (Value.slice ao cs.length cap)) w wa := hT.step ((Fr.of (X := fun k => (Value.slice ae es.length ca).ownBlock = some k) hw).step ⟨hG_.os, hG_.tape, hG_.output, hG_.size, fun k hk hx => hG_.block k hk (fun e => hx e.symm)⟩ (fun _ _ q => q)) (fun _ _ q => .inr (.inl q))
        obtain ⟨a2, n2, c2, rfl⟩ : ∃ a n c, va = .slice a n c := by obtain ⟨a_, c_, h_, _⟩ := hA_.sl; exact ⟨a_, _, c_, h_⟩
        clear hA_ hG_ hB3 hw rB rp0 hT
        have rp0 := hrp
        have rB := hrb
        clear hrp hrb
        refine hK_ _ _ rp0 ?_
        simp only [Act.put, List.getElem_toArray, List.getElem_cons_succ, List.getElem_cons_zero, List.setIfInBounds_toArray, List.set_cons_succ, List.set_cons_zero]
        clear hK_
        refine wpAnyH_take (i := 8) (v := ?v79) rfl (by kernel_rfl) (by kernel_rfl) (by kernel_rfl) (fun _ _ _ h => h) (Or.inl ⟨by rfl, ?y79⟩) (rp0) ?r79
        case y79 =>
          intro w_ hS_
          go_simp
          try with_reducible rfl
        simp only [Act.put, List.getElem_toArray, List.getElem_cons_succ, List.getElem_cons_zero, List.setIfInBounds_toArray, List.set_cons_succ, List.set_cons_zero]
        refine wpAnyH_take (i := 9) (v := ?v80) rfl (by kernel_rfl) (by kernel_rfl) (by kernel_rfl) (fun _ _ _ h => h) (Or.inl ⟨by rfl, ?y80⟩) (rp0) ?r80
        case y80 =>
          intro w_ hS_
          go_simp
          try with_reducible rfl
        simp only [Act.put, List.getElem_toArray, List.getElem_cons_succ, List.getElem_cons_zero, List.setIfInBounds_toArray, List.set_cons_succ, List.set_cons_zero]
        refine eH_one (k := 10) (fuel := 0) (by kernel_rfl) rfl (by kernel_rfl) (fun K_ hK_ => ?_)
        refine wp_store_cellR 47 _ _ rfl g 32 (.slice a2 n2 c2) rfl rfl 51 _ (bkr y (.slice a2 n2 c2) (.slice ao2 (some ds |>.getD cs).length cap2)) rB (by rw [bkr_size y _ _ hkey]; decide) (bk_pute y hkey _ _ _) (by kernel_rfl) rfl ?_
        have hT3 := hT2.bset (bkr y (.slice a2 n2 c2) (.slice ao2 (some ds |>.getD cs).length cap2))
        replace rp0 := (setRow_other wa g w.heap.size (bkr y (.slice a2 n2 c2) (.slice ao2 (some ds |>.getD cs).length cap2)) (by omega)).trans rp0
        refine hK_ _ _ rp0 ?_
        simp only [Act.put]
        clear hK_ hT2
        generalize wa.setRow g (bkr y (.slice a2 n2 c2) (.slice ao2 (some ds |>.getD cs).length cap2)) = wj at *
        refine wpAnyH_done (by kernel_rfl) ?_ _
        refine NoPanic.normal ?_
        go_wp2_with (fail)
        go_ret
        exact ⟨_, _, by rw [hu.out]; rfl, by rw [hu.out]; exact hBW, hN_, hN2, hT3⟩
theorem a_happen (e : Ev) (he : e.ok) (b g : Nat) (ve vc : Value) (y : List Int) (es : List Ev) (cs : List Ct) (w : World) (hB : Bk w b g ve vc y es cs) (hd : -9223372036854775808 ≤ e.d ∧ e.d ≤ 9223372036854775807) (hne : e.n.size ≤ 9223372036854775806) (hes : es.length + 1 ≤ 1024) : Calls Tryd.prog 29 #[.pointer (some ⟨g, 0, none⟩), .agg (evr e)] w (HpR b g ve vc y es cs e (hpn cs e) w) := by
  by_cases h : 1 ≤ e.d ∧ e.d ≤ 7
  · have h7 : e.d = 1 ∨ e.d = 2 ∨ e.d = 3 ∨ e.d = 4 ∨ e.d = 5 ∨ e.d = 6 ∨ e.d = 7 := by omega
    rcases h7 with h1 | h2 | h3 | h4 | h5 | h6 | h7
    · have hr : hap cs e = snC cs e := by unfold hap; rw [if_pos h1]
      exact hap_yes e he b g ve vc y es cs w hB hd hne 47 (by rw [h1]; rfl) (by rw [h1]; rfl) (fun args W => by kernel_rfl) hes (snC cs e) (fun W hW => a_seen e he b g ve vc y es cs W hW) _ (hide (by unfold hpn; rw [hr]))
    · have hr : hap cs e = puO cs (up2 (fnC cs e.n) e) := by unfold hap; rw [if_neg (by omega)]; rw [if_pos h2]
      refine hap_yes e he b g ve vc y es cs w hB hd hne 48 (by rw [h2]; rfl) (by rw [h2]; rfl) (fun args W => by kernel_rfl) hes (puO cs (up2 (fnC cs e.n) e)) (fun W hW => ?_) _ (hide (by unfold hpn; rw [hr]))
      refine (a_up2 e he b g ve vc y es cs W hW).mono ?_
      rintro e_ w_ ⟨q1, q2, q3⟩
      exact ⟨vc, by rw [q1, puO, Option.isSome_map], q2, Nx.refl _ _, q3⟩
    · have hr : hap cs e = puO cs (up3 (fnC cs e.n) e) := by unfold hap; rw [if_neg (by omega)]; rw [if_neg (by omega)]; rw [if_pos h3]
      refine hap_yes e he b g ve vc y es cs w hB hd hne 49 (by rw [h3]; rfl) (by rw [h3]; rfl) (fun args W => by kernel_rfl) hes (puO cs (up3 (fnC cs e.n) e)) (fun W hW => ?_) _ (hide (by unfold hpn; rw [hr]))
      refine (a_up3 e he b g ve vc y es cs W hW).mono ?_
      rintro e_ w_ ⟨q1, q2, q3⟩
      exact ⟨vc, by rw [q1, puO, Option.isSome_map], q2, Nx.refl _ _, q3⟩
    · have hr : hap cs e = puO cs (up4 (fnC cs e.n) e) := by unfold hap; rw [if_neg (by omega)]; rw [if_neg (by omega)]; rw [if_neg (by omega)]; rw [if_pos h4]
      refine hap_yes e he b g ve vc y es cs w hB hd hne 50 (by rw [h4]; rfl) (by rw [h4]; rfl) (fun args W => by kernel_rfl) hes (puO cs (up4 (fnC cs e.n) e)) (fun W hW => ?_) _ (hide (by unfold hpn; rw [hr]))
      refine (a_up4 e he b g ve vc y es cs W hW).mono ?_
      rintro e_ w_ ⟨q1, q2, q3⟩
      exact ⟨vc, by rw [q1, puO, Option.isSome_map], q2, Nx.refl _ _, q3⟩
    · have hr : hap cs e = puO cs (up5 (fnC cs e.n) e) := by unfold hap; rw [if_neg (by omega)]; rw [if_neg (by omega)]; rw [if_neg (by omega)]; rw [if_neg (by omega)]; rw [if_pos h5]
      refine hap_yes e he b g ve vc y es cs w hB hd hne 51 (by rw [h5]; rfl) (by rw [h5]; rfl) (fun args W => by kernel_rfl) hes (puO cs (up5 (fnC cs e.n) e)) (fun W hW => ?_) _ (hide (by unfold hpn; rw [hr]))
      refine (a_up5 e he b g ve vc y es cs W hW).mono ?_
      rintro e_ w_ ⟨q1, q2, q3⟩
      exact ⟨vc, by rw [q1, puO, Option.isSome_map], q2, Nx.refl _ _, q3⟩
    · have hr : hap cs e = puO cs (up6 (fnC cs e.n) e) := by unfold hap; rw [if_neg (by omega)]; rw [if_neg (by omega)]; rw [if_neg (by omega)]; rw [if_neg (by omega)]; rw [if_neg (by omega)]; rw [if_pos h6]
      refine hap_yes e he b g ve vc y es cs w hB hd hne 52 (by rw [h6]; rfl) (by rw [h6]; rfl) (fun args W => by kernel_rfl) hes (puO cs (up6 (fnC cs e.n) e)) (fun W hW => ?_) _ (hide (by unfold hpn; rw [hr]))
      refine (a_up6 e he b g ve vc y es cs W hW).mono ?_
      rintro e_ w_ ⟨q1, q2, q3⟩
      exact ⟨vc, by rw [q1, puO, Option.isSome_map], q2, Nx.refl _ _, q3⟩
    · have hr : hap cs e = fgC cs e := by unfold hap; rw [if_neg (by omega)]; rw [if_neg (by omega)]; rw [if_neg (by omega)]; rw [if_neg (by omega)]; rw [if_neg (by omega)]; rw [if_neg (by omega)]; rw [if_pos h7]
      exact hap_yes e he b g ve vc y es cs w hB hd hne 53 (by rw [h7]; rfl) (by rw [h7]; rfl) (fun args W => by kernel_rfl) hes (fgC cs e) (fun W hW => a_forgotten e he b g ve vc y es cs W hW) _ (hide (by unfold hpn; rw [hr]))
  · have hk : ruK e.d = false := by unfold ruK; exact decide_eq_false h
    have hv : ruV e.d = .nilFunc := by unfold ruV; rw [if_neg (by omega)]; rw [if_neg (by omega)]; rw [if_neg (by omega)]; rw [if_neg (by omega)]; rw [if_neg (by omega)]; rw [if_neg (by omega)]; rw [if_neg (by omega)]
    have hr : hpn cs e = none := by unfold hpn hap; split; (rw [if_neg (by omega)]; rw [if_neg (by omega)]; rw [if_neg (by omega)]; rw [if_neg (by omega)]; rw [if_neg (by omega)]; rw [if_neg (by omega)]; rw [if_neg (by omega)]); rfl
    rw [hr]
    exact hap_no e he b g ve vc y es cs w hB hd hk hv
set_option maxRecDepth 100000 in
set_option maxHeartbeats 8000000 in
theorem add_no (d : Int) (_hd : 1 ≤ d ∧ d ≤ 7) (m : ByteArray) (_hm : m.size ≤ 9223372036854775806) (k : List Int) (_hk : K32 k) (b g : Nat) (ve vc : Value) (y : List Int) (es : List Ev) (cs : List Ct) (w : World) (hB : Bk w b g ve vc y es cs) (hes : 1024 ≤ es.length) : Calls Tryd.prog 20 #[.pointer (some ⟨g, 0, none⟩), .int .i64 d, .string m, .agg (irow .u8 k)] w fun en w' => en = .returned (.int .i64 224) ∧ Bk w' b g ve vc y es cs ∧ Below w.heap.size w w' := by
  obtain ⟨ao, cap, rfl, hc1, hc2, hz1, hz2⟩ := hB.cts.sl
  obtain ⟨ae, ca, rfl, hc3, hc4, hz3, hz4⟩ := hB.evs.sl
  have rp0 := hp1_0 w (.cells (irow .u8 k) 23)
  have hw : Below w.heap.size w (w.alloc (.cells (irow .u8 k) 23)) := ((Below.refl _ _).alloc (Nat.le_refl _) _)
  replace hB := hB.keep hw
  go_enter Tryd.func20, Tryd.ntmps20
  go_upto_region 1 with (first | (refine wpList_box rfl 23 _ rfl _ rfl (bKy _) ?_) | fail)
  try simp only [size_alloc1]
  generalize (w.alloc (.cells (irow .u8 k) 23)) = w0 at *
  have d1 : decide ((es.length : Int) ≥ 1024) = true := by simp; omega
  have fc1 := hB.ce
  have fc2 := hB.cc
  go_wp2_with (first | (refine wpList_load_part rfl 23 _ rfl (w.heap.size) 0 rfl 23 (irow .u8 k) (0, 0) (irow .u8 k) _ rp0 (all_rowe _) Tryd.underlying23 rfl (infoKy _ hk.1) ?_) | fail)
  go_ret
  exact ⟨rfl, hB, hw⟩
/-- What add answers, where there is room. -/
def AdR (b g : Nat) (ve vc : Value) (y : List Int) (es : List Ev) (cs : List Ct) (e : Ev) (r : Option (List Ct)) (w : World) (en : Ending) (w' : World) : Prop := ∃ ve' vc', en = .returned (.int .i64 0) ∧ Bk w' b g ve' vc' y (if r.isSome = true then es ++ [e] else es) (r.getD cs) ∧ Nx w ve ve' ∧ Nx w vc vc' ∧ Fr (ownB g ve vc) w w'
set_option maxRecDepth 100000 in
set_option maxHeartbeats 8000000 in
theorem add_go (d : Int) (hd : 1 ≤ d ∧ d ≤ 7) (m : ByteArray) (hm : m.size ≤ 9223372036854775806) (k : List Int) (hk : K32 k) (b g : Nat) (ve vc : Value) (y : List Int) (es : List Ev) (cs : List Ct) (w : World) (hB : Bk w b g ve vc y es cs) (hes : es.length + 1 ≤ 1024) : Calls Tryd.prog 20 #[.pointer (some ⟨g, 0, none⟩), .int .i64 d, .string m, .agg (irow .u8 k)] w (AdR b g ve vc y es cs ⟨d, m, k⟩ (hpn cs ⟨d, m, k⟩) w) := by
  obtain ⟨ao, cap, rfl, hc1, hc2, hz1, hz2⟩ := hB.cts.sl
  obtain ⟨ae, ca, rfl, hc3, hc4, hz3, hz4⟩ := hB.evs.sl
  have rp0 := hp1_0 w (.cells (irow .u8 k) 23)
  have hw : Below w.heap.size w (w.alloc (.cells (irow .u8 k) 23)) := ((Below.refl _ _).alloc (Nat.le_refl _) _)
  replace hB := hB.keep hw
  go_enter Tryd.func20, Tryd.ntmps20
  go_upto_region 1 with (first | (refine wpList_box rfl 23 _ rfl _ rfl (bKy _) ?_) | fail)
  try simp only [size_alloc1]
  generalize (w.alloc (.cells (irow .u8 k) 23)) = w0 at *
  have d1 : decide ((es.length : Int) ≥ 1024) = false := by simp; omega
  have fc3 := hB.ce
  have fc4 := hB.cc
  go_wp2_with (first | (refine wpList_load_part rfl 23 _ rfl (w.heap.size) 0 rfl 23 (irow .u8 k) (0, 0) (irow .u8 k) _ rp0 (all_rowe _) Tryd.underlying23 rfl (infoKy _ hk.1) ?_) | (refine wpList_build_as rfl 57 _ rfl [(0, .int .i64 d), (1, .string m), (2, .agg (irow .u8 k))] rfl (evr ⟨d, m, k⟩) (bt_e d m k hk.1) ?_) | fail)
  clear fc3 fc4
  refine (a_happen ⟨d, m, k⟩ hk b g _ _ y es cs _ hB (by constructor <;> simp <;> omega) hm (by omega)).mono ?_
  rintro e_ w2 ⟨ve', vc', rfl, hB2, hN1, hN2, hF⟩
  replace hN1 := hN1.of hw.size
  replace hN2 := hN2.of hw.size
  replace hF := (Fr.of hw).step hF (fun _ _ q => q)
  go_wp2_with (fail)
  go_ret
  exact ⟨ve', vc', rfl, hB2, hN1, hN2, hF⟩
end Go.Proofs.YtlbcdjflcghkeaaDoor
