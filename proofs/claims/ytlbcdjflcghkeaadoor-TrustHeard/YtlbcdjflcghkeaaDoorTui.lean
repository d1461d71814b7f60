import Derived.Test.YtlbcdjflcghkeaaDoorProg
import Derived.WalkKit
import Derived.WalkSpells
import Derived.WalkLawsBesides
import Derived.Lib.QuietBelow
import Derived.BigQuiet
import Derived.OrdersHeld
import Derived.OwnWalk
import Derived.Deep.RegionHeld3
import Derived.Deep.Cut
import Derived.Deep.CutRange
import Derived.Deep.CutBlock
import Derived.Deep.QuietTactic
import Derived.Test.YtlbcdjflcghkeaaDoorTuh
namespace Go.Proofs.YtlbcdjflcghkeaaDoor
set_option maxRecDepth 100000
open Go Go.RowKit Go.Sort
attribute [local go_sem] setCell_drewN alloc_drewN
/-- What becomes of a contact by an event, where it can be. -/
def up2 (c : Ct) (e : Ev) : Option Ct := if (clm c = true ∧ e.k ≠ c.k) ∨ (c.s = 3 ∧ e.k ≠ c.k ∧ e.k ≠ c.x) then some ⟨c.n, c.k, e.k, 3⟩ else none
def up3 (c : Ct) (e : Ev) : Option Ct := if c.s = 3 ∧ e.k = c.x then some ⟨c.n, e.k, zr 32, 1⟩ else none
def up4 (c : Ct) (e : Ev) : Option Ct := if c.s ≠ 0 ∧ c.s ≠ 4 ∧ e.k = lat c then some ⟨c.n, e.k, zr 32, 2⟩ else none
def up5 (c : Ct) (e : Ev) : Option Ct := if c.s ≠ 0 ∧ c.s ≠ 4 ∧ e.k = zr 32 then some ⟨c.n, c.k, zr 32, 4⟩ else none
def up6 (c : Ct) (e : Ev) : Option Ct := if c.s = 4 ∧ e.k = zr 32 then some ⟨c.n, c.k, zr 32, 1⟩ else none
/-- The contacts behind an event's rule. -/
def puO (cs : List Ct) (r : Option Ct) : Option (List Ct) := r.map (putC cs)
theorem fnC_name {cs : List Ct} {m : ByteArray} (h : (fnC cs m).s ≠ 0) : th cs m = true ∧ (fnC cs m).n = m := by
  unfold fnC at h ⊢
  unfold th
  cases q : fd cs m with
  | none => rw [q] at h; exact absurd rfl h
  | some c => exact ⟨rfl, (fd_some q).2⟩
theorem Bk.put {W V : World} {b g : Nat} {ve vc : Value} {y : List Int} {es : List Ev} {cs : List Ct} (h : Bk W b g ve vc y es cs) {c : Ct} (ht : th cs c.n = true) (hs : 1 ≤ c.s ∧ c.s ≤ 4) (hO : OwnC V b vc (putC cs c)) (hf : Fr (fun k => vc.ownBlock = some k) W V) : Bk V b g ve vc y es (putC cs c) := by
  have hT : ∀ k, ve.ownBlock = some k → vc.ownBlock ≠ some k := fun _ e q => by
    obtain ⟨_, ⟨rfl, _⟩ | ⟨g1, cap, cur, rfl, _, hg1, _⟩⟩ := h.evs.1
    · cases e
    · cases e
      exact own_type h.cts.1 hg1 (by decide) q
  refine ⟨(hf.block g (lt_of_row h.row) (own_type h.cts.1 h.row (by decide))).trans h.row, h.evs.move (fun k e => hf.block k (h.evs.lt k e).2 (hT k e)), hO, h.key, h.bg, h.srt.put ht, fun d hd => ?_, by unfold putC; rw [List.length_set]; exact h.len, h.elen⟩
  rcases mem_put hd with rfl | q
  · exact hs
  · exact h.sta d q
theorem Fr.book {W V : World} {g : Nat} {ve vc : Value} (hf : Fr (fun k => vc.ownBlock = some k) W V) : Fr (ownB g ve vc) W V := hf.mono (fun _ _ e => .inr (.inr e))
theorem bkc {y : List Int} {ve vc : Value} (h : y.length = 32) {W : World} {g : Nat} (hg : W.heap[g]? = some (.cells (bkr y ve vc) 51 (0, 0))) : W.cell? ⟨g, 33, none⟩ = some vc := cell_at hg (bk_c y ve vc h)
theorem bke {y : List Int} {ve vc : Value} (h : y.length = 32) {W : World} {g : Nat} (hg : W.heap[g]? = some (.cells (bkr y ve vc) 51 (0, 0))) : W.cell? ⟨g, 32, none⟩ = some ve := cell_at hg (bk_e y ve vc h)
theorem run_build_op {P : Program} {o : Oper} {a : Act} {w : World} (t : TypeId) (parts : Array (Nat × Operand)) (ho : o.op = .build t parts) (vals : List (Nat × Value)) (hv : parts.toList.map (fun (i, x) => (i, a.eval x)) = vals) (cells : Array Value) (hb : P.built t vals = some cells) : (execOp a.eval o).run P w = .ok (.value (.agg cells)) w := by
  rw [← Array.toList_map] at hv
  subst hv
  unfold execOp
  simp only [ho, Sem.run_bind, Sem.run_pure, run_build w t _ cells hb, Result.andThen_ok]
theorem wpAnyH_skip {P : Program} {ops : Array Oper} {Q : Exit → Act → World → Prop} {md : Region.Mode} {S : World → Prop} {k : Nat} {o : Oper} {fuel : Nat} {listed : Array Bool} {a : Act} {w : World} (hr : Region.ready md ops listed = [k]) (hi : ops[k]? = some o) (hw : Region.wanted o (yielded ops a.tmps) = false) (hS : S w)
    (h : wpAnyH P md ops Q S fuel (listed.setIfInBounds k true) (a.put o.dst undef) w) : wpAnyH P md ops Q S (fuel + 1) listed a w := by
  refine wpAnyH_all hr (by simp) (fun i hi' => ?_)
  obtain rfl : i = k := by simpa using hi'
  unfold wpOp
  simp only [hi, hw, Bool.false_eq_true, if_false]
  exact ⟨hS, h⟩
set_option maxRecDepth 100000 in
set_option maxHeartbeats 8000000 in
theorem a_up3 (e : Ev) (he : e.ok) (b g : Nat) (ve vc : Value) (y : List Int) (es : List Ev) (cs : List Ct) (w : World) (hB : Bk w b g ve vc y es cs) : Calls Tryd.prog 49 #[.pointer (some ⟨g, 33, none⟩), .agg (evr e)] w fun en w' => en = .returned (.bool (up3 (fnC cs e.n) e).isSome) ∧ Bk w' b g ve vc y es ((puO cs (up3 (fnC cs e.n) e)).getD cs) ∧ Fr (ownB g ve vc) w w' := by
  have hkey := hB.key.1
  have hcl := hB.len
  have hcok := fnC_ok hB.cts.2 e.n
  have hst : (fnC cs e.n).s ≠ 0 → 1 ≤ (fnC cs e.n).s ∧ (fnC cs e.n).s ≤ 4 := fun q => by
    unfold fnC at q ⊢
    cases qq : fd cs e.n with
    | none => rw [qq] at q; exact absurd rfl q
    | some d => exact hB.sta d (fd_some qq).1
  obtain ⟨ao, cap, rfl, hc1, hc2, hz1, hz2⟩ := hB.cts.sl
  obtain ⟨ae, ca, rfl, hc3, hc4, hz3, hz4⟩ := hB.evs.sl
  have cF : ∀ W, Below w.heap.size w W → Calls Tryd.prog 18 #[.slice ao cs.length cap, .string e.n] W fun e_ w' => e_ = .returned (.agg (ctr (fnC cs e.n))) ∧ Below W.heap.size W w' := fun W hW => a_find cs e.n b _ W (hB.keep hW).cts hB.srt (by omega)
  have hnm : (fnC cs e.n).s ≠ 0 → th cs e.n = true ∧ (fnC cs e.n).n = e.n := fnC_name
  generalize hce : fnC cs e.n = c at *
  have hgw := lt_of_row hB.row
  have hle1 : ∀ k, (Value.slice ae es.length ca).ownBlock = some k → k < w.heap.size := fun k e => (hB.evs.lt k e).2
  have hlc1 : ∀ k, (Value.slice ao cs.length cap).ownBlock = some k → k < w.heap.size := fun k e => (hB.cts.lt k e).2
  have rp0 := hp1_0 w (.cells (evr e) 57)
  have hw : Below w.heap.size w (w.alloc (.cells (evr e) 57)) := ((Below.refl _ _).alloc (Nat.le_refl _) _)
  replace hB := hB.keep hw
  go_enter Tryd.func49, Tryd.ntmps49
  go_upto_region 1 with (first | (refine wpList_box rfl 57 _ rfl _ rfl (ev_box _) ?_) | fail)
  try simp only [size_alloc1]
  generalize (w.alloc (.cells (evr e) 57)) = w0 at *
  have rB := hB.row
  have hgl := lt_of_row rB
  have hlo : ∀ k, ownB g (.slice ae es.length ca) (.slice ao cs.length cap) k → k < w.heap.size := fun k hk => by rcases hk with rfl | q | q; exact hgw; exact hle1 k q; exact hlc1 k q
  go_cut [5] from 6 to 31 (fun u_ wx => ∃ gx, u_ = .pointer (some ⟨gx, 0, none⟩) ∧ w.heap.size < gx ∧ w.heap.size ≤ gx ∧ wx.heap[w.heap.size]? = some (.cells (evr e) 57 (0, 0)) ∧ wx.heap[gx]? = some (.cells (ctr c) 45 (0, 0)) ∧ Bk wx b g (.slice ae es.length ca) (.slice ao cs.length cap) y es cs ∧ (wx).heap[g]? = some (.cells (bkr y (.slice ae es.length ca) (.slice ao cs.length cap)) 51 (0, 0)) ∧ Below w.heap.size w wx)
  case first =>
    have hb : Below w0.heap.size w0 w0.drew := below_drN (Below.refl _ _) 1
    replace rp0 := keep hb rp0
    replace hB := hB.keep hb
    replace rB := keep hb rB
    replace hw := Below.after hw hb
    clear hb
    refine wp_region_noPanic ?_
    refine wp_region_held (S := fun W_ => W_.heap[w.heap.size]? = some (.cells (evr e) 57 (0, 0)) ∧ W_.heap[g]? = some (.cells (bkr y (.slice ae es.length ca) (.slice ao cs.length cap)) 51 (0, 0))) (by kernel_rfl) ?_
    change wpAnyH _ _ _ _ _ _ _ _ (World.drew _)
    generalize w0.drew = wd2 at *
    refine wpAnyH_take (i := 0) (v := ?v3) rfl (by kernel_rfl) (by kernel_rfl) (by kernel_rfl) (fun _ _ _ h => h) (Or.inl ⟨by rfl, ?y3⟩) (⟨rp0, rB⟩) ?r3
    case y3 =>
      intro w_ hS_
      go_simp
      try with_reducible rfl
    simp only [Act.put, List.getElem_toArray, List.getElem_cons_zero, List.setIfInBounds_toArray, List.set_cons_succ, List.set_cons_zero]
    refine wpAnyH_take (i := 1) (v := ?v4) rfl (by kernel_rfl) (by kernel_rfl) (by kernel_rfl) (fun _ _ _ h => h) (Or.inl ⟨by rfl, ?y4⟩) (⟨rp0, rB⟩) ?r4
    case y4 =>
      intro w_ hS_
      go_simp
      try with_reducible rfl
    simp only [Act.put, List.getElem_toArray, List.getElem_cons_succ, List.getElem_cons_zero, List.setIfInBounds_toArray, List.set_cons_succ, List.set_cons_zero]
    refine wpAnyH_take (i := 2) (v := .slice ao cs.length cap) rfl (by kernel_rfl) (by kernel_rfl) (by kernel_rfl) (fun _ _ _ h => h) (Or.inl ⟨by rfl, ?y5⟩) (⟨rp0, rB⟩) ?r5
    case y5 =>
      intro w_ hS_
      have c_ := bkc hkey (hS_.2)
      go_simp
      try with_reducible rfl
    simp only [Act.put, List.getElem_toArray, List.getElem_cons_succ, List.getElem_cons_zero, List.setIfInBounds_toArray, List.set_cons_succ, List.set_cons_zero]
    refine wpAnyH_take (i := 3) (v := ?v6) rfl (by kernel_rfl) (by kernel_rfl) (by kernel_rfl) (fun _ _ _ h => h) (Or.inl ⟨by rfl, ?y6⟩) (⟨rp0, rB⟩) ?r6
    case y6 =>
      intro w_ hS_
      go_simp
      try with_reducible rfl
    simp only [Act.put, List.getElem_toArray, List.getElem_cons_succ, List.getElem_cons_zero, List.setIfInBounds_toArray, List.set_cons_succ, List.set_cons_zero]
    refine wpAnyH_take (i := 4) (v := .string e.n) rfl (by kernel_rfl) (by kernel_rfl) (by kernel_rfl) (fun _ _ _ h => h) (Or.inl ⟨by rfl, ?y7⟩) (⟨rp0, rB⟩) ?r7
    case y7 =>
      intro w_ hS_
      have c_ := cell_at (hS_.1) (ev_n e)
      go_simp
      try with_reducible rfl
    simp only [Act.put, List.getElem_toArray, List.getElem_cons_succ, List.getElem_cons_zero, List.setIfInBounds_toArray, List.set_cons_succ, List.set_cons_zero]
    refine eH_two (j := 5) (k := 6) (fuel := 2) (by kernel_rfl) rfl rfl (by kernel_rfl) (by kernel_rfl) (fun K_ hK_ => ?_) (fun K_ hK_ => ?_)
    · skip
      refine wp_call_ex (f := 18) (by kernel_rfl) (ex1e (cF _ hw)) (fun v_ wq8 hX_ => ?_)
      obtain ⟨rfl, hb⟩ := hX_
      replace rp0 := keep hb rp0
      replace hB := hB.keep hb
      replace rB := keep hb rB
      replace hw := Below.after hw hb
      clear hb
      refine hK_ _ _ (⟨rp0, rB⟩) ?_
      simp only [Act.put, List.getElem_toArray, List.getElem_cons_succ, List.getElem_cons_zero, List.setIfInBounds_toArray, List.set_cons_succ, List.set_cons_zero]
      clear hK_
      refine eH_one (k := 6) (fuel := 1) (by kernel_rfl) rfl (by kernel_rfl) (fun K_ hK_ => ?_)
      refine e_world_op (.pointer (some ⟨wq8.heap.size, 0, none⟩)) (wq8.alloc (.cells (ctr zct) 45)) (by kernel_rfl) ?_
      have hb : Below wq8.heap.size wq8 (wq8.alloc (.cells (ctr zct) 45)) := (Below.refl _ _).alloc (Nat.le_refl _) _
      have rg9 := hp1_0 wq8 (.cells (ctr zct) 45)
      have lt_g9_0 := lt_of_row rp0
      have sz_g9 := hw.size
      replace rp0 := keep hb rp0
      replace hB := hB.keep hb
      replace rB := keep hb rB
      replace hw := Below.after hw hb
      clear hb
      refine hK_ _ _ (⟨rp0, rB⟩) ?_
      simp only [Act.put, List.getElem_toArray, List.getElem_cons_succ, List.getElem_cons_zero, List.setIfInBounds_toArray, List.set_cons_succ, List.set_cons_zero]
      clear hK_
      generalize (wq8.alloc (.cells (ctr zct) 45)) = wq9 at *
      generalize wq8.heap.size = g9 at *
      refine eH_one (k := 7) (fuel := 0) (by kernel_rfl) rfl (by kernel_rfl) (fun K_ hK_ => ?_)
      refine wp_store_row 45 _ _ rfl (g9) (ctr c) rfl rfl 45 _ rg9 (ct_info _ hcok.1.1 hcok.2.1) ((ctr_size _ zct_ok.1.1 zct_ok.2.1).trans (ctr_size _ hcok.1.1 hcok.2.1).symm) (ctr_one _) ?_
      have hN_ := setRow_heap wq9 (g9) _ (ctr c) _ _ rg9
      replace rp0 := (setRow_other wq9 (g9) (w.heap.size) (ctr c) (by omega)).trans rp0
      replace hw := below_setRow hw (show w.heap.size ≤ g9 by omega) (ctr c)
      replace hB := hB.move (fun k_ hk_ => setRow_other wq9 (g9) k_ (ctr c) (by have := (hB.low k_ hk_).2; have := hlo k_ hk_; omega))
      replace rB := (setRow_other wq9 (g9) g (ctr c) (by omega)).trans rB
      generalize (wq9.setRow (g9) (ctr c)) = wq10 at *
      clear rg9
      have rg9 := hN_
      clear hN_
      refine hK_ _ _ (⟨rp0, rB⟩) ?_
      simp only [Act.put]
      clear hK_
      refine wpAnyH_done (by kernel_rfl) ?_ _
      refine NoPanic.normal ?_
      go_wp2_with (fail)
      go_meet
      case rel => exact ⟨g9, rfl, by omega, by omega, rp0, rg9, hB, rB, hw⟩
    · skip
      refine e_world_op (.pointer (some ⟨wd2.heap.size, 0, none⟩)) (wd2.alloc (.cells (ctr zct) 45)) (by kernel_rfl) ?_
      have hb : Below wd2.heap.size wd2 (wd2.alloc (.cells (ctr zct) 45)) := (Below.refl _ _).alloc (Nat.le_refl _) _
      have rg11 := hp1_0 wd2 (.cells (ctr zct) 45)
      have lt_g11_0 := lt_of_row rp0
      have sz_g11 := hw.size
      replace rp0 := keep hb rp0
      replace hB := hB.keep hb
      replace rB := keep hb rB
      replace hw := Below.after hw hb
      clear hb
      refine hK_ _ _ (⟨rp0, rB⟩) ?_
      simp only [Act.put, List.getElem_toArray, List.getElem_cons_succ, List.getElem_cons_zero, List.setIfInBounds_toArray, List.set_cons_succ, List.set_cons_zero]
      clear hK_
      generalize (wd2.alloc (.cells (ctr zct) 45)) = wq11 at *
      generalize wd2.heap.size = g11 at *
      refine eH_one (k := 5) (fuel := 1) (by kernel_rfl) rfl (by kernel_rfl) (fun K_ hK_ => ?_)
      refine wp_call_ex (f := 18) (by kernel_rfl) (ex1e (cF _ hw)) (fun v_ wq12 hX_ => ?_)
      obtain ⟨rfl, hb⟩ := hX_
      replace rp0 := keep hb rp0
      replace rg11 := keep hb rg11
      replace hB := hB.keep hb
      replace rB := keep hb rB
      replace hw := Below.after hw hb
      clear hb
      refine hK_ _ _ (⟨rp0, rB⟩) ?_
      simp only [Act.put, List.getElem_toArray, List.getElem_cons_succ, List.getElem_cons_zero, List.setIfInBounds_toArray, List.set_cons_succ, List.set_cons_zero]
      clear hK_
      refine eH_one (k := 7) (fuel := 0) (by kernel_rfl) rfl (by kernel_rfl) (fun K_ hK_ => ?_)
      refine wp_store_row 45 _ _ rfl (g11) (ctr c) rfl rfl 45 _ rg11 (ct_info _ hcok.1.1 hcok.2.1) ((ctr_size _ zct_ok.1.1 zct_ok.2.1).trans (ctr_size _ hcok.1.1 hcok.2.1).symm) (ctr_one _) ?_
      have hN_ := setRow_heap wq12 (g11) _ (ctr c) _ _ rg11
      replace rp0 := (setRow_other wq12 (g11) (w.heap.size) (ctr c) (by omega)).trans rp0
      replace hw := below_setRow hw (show w.heap.size ≤ g11 by omega) (ctr c)
      replace hB := hB.move (fun k_ hk_ => setRow_other wq12 (g11) k_ (ctr c) (by have := (hB.low k_ hk_).2; have := hlo k_ hk_; omega))
      replace rB := (setRow_other wq12 (g11) g (ctr c) (by omega)).trans rB
      generalize (wq12.setRow (g11) (ctr c)) = wq13 at *
      clear rg11
      have rg11 := hN_
      clear hN_
      refine hK_ _ _ (⟨rp0, rB⟩) ?_
      simp only [Act.put]
      clear hK_
      refine wpAnyH_done (by kernel_rfl) ?_ _
      refine NoPanic.normal ?_
      go_wp2_with (fail)
      go_meet
      case rel => exact ⟨g11, rfl, by omega, by omega, rp0, rg11, hB, rB, hw⟩
  case rest =>
    obtain ⟨gc1, rfl, ltc1_0, szc1, rp0, rc1, hB, rB, hw⟩ := hcut
    have hceH := hide hce
    clear hce cF
    have eQ2 := eq_k e.k c.x he.1 hcok.2.1
    generalize dS3 : (c.s == 3) = xS3 at *
    generalize dQ2 : decide (e.k = c.x) = xQ2 at *
    cases xS3
    · skip
      have pS3 : ¬ c.s = 3 := by simpa using dS3
      have hu : Hid (up3 c e = none) := hide (by unfold up3; exact if_neg (fun h => pS3 h.1))
      clear  hst hnm
      have fc1 := cell_at rp0 (ev_d e)
      have fc2 := cell_at rp0 (ev_n e)
      have fc3 := cell_at rc1 (ct_n c)
      have fc4 := cell_at rc1 (ct_s c hcok.1.1 hcok.2.1)
      go_wp2_with (first | (refine wpList_load_part rfl 57 _ rfl (w.heap.size) 0 rfl 57 (evr e) (0, 0) (evr e) _ rp0 (all_rowe _) Tryd.underlying57 rfl (ev_info _ he.1) ?_) | (refine wpList_load_part rfl 23 _ rfl (w.heap.size) 2 rfl 57 (evr e) (0, 0) (irow .u8 e.k) _ rp0 (ev_k e he.1) Tryd.underlying23 rfl (infoKy _ he.1) ?_) | (refine wpList_load_part rfl 45 _ rfl (gc1) 0 rfl 45 (ctr c) (0, 0) (ctr c) _ rc1 (all_rowe _) Tryd.underlying45 rfl (ct_info _ hcok.1.1 hcok.2.1) ?_) | (refine wpList_load_part rfl 23 _ rfl (gc1) 1 rfl 45 (ctr c) (0, 0) (irow .u8 c.k) _ rc1 (ct_k c hcok.1.1) Tryd.underlying23 rfl (infoKy _ hcok.1.1) ?_) | (refine wpList_load_part rfl 23 _ rfl (gc1) 33 rfl 45 (ctr c) (0, 0) (irow .u8 c.x) _ rc1 (ct_x c hcok.1.1 hcok.2.1) Tryd.underlying23 rfl (infoKy _ hcok.2.1) ?_) | (refine wpList_build_want rfl 23 _ rfl [] rfl (irow .u8 (zr 32)) builtZk ?_) | fail)
      clear fc1 fc2 fc3 fc4
      go_ret
      exact ⟨by rw [hu.out]; rfl, by rw [hu.out]; exact hB, Fr.of hw⟩
    · skip
      cases xQ2
      · skip
        have pS3 : c.s = 3 := by simpa using dS3
        have pQ2 : ¬ e.k = c.x := by simpa using dQ2
        have hu : Hid (up3 c e = none) := hide (by unfold up3; exact if_neg (fun h => pQ2 h.2))
        clear pQ2 hst hnm
        have fc5 := cell_at rp0 (ev_d e)
        have fc6 := cell_at rp0 (ev_n e)
        have fc7 := cell_at rc1 (ct_n c)
        have fc8 := cell_at rc1 (ct_s c hcok.1.1 hcok.2.1)
        go_wp2_with (first | (refine wpList_load_part rfl 57 _ rfl (w.heap.size) 0 rfl 57 (evr e) (0, 0) (evr e) _ rp0 (all_rowe _) Tryd.underlying57 rfl (ev_info _ he.1) ?_) | (refine wpList_load_part rfl 23 _ rfl (w.heap.size) 2 rfl 57 (evr e) (0, 0) (irow .u8 e.k) _ rp0 (ev_k e he.1) Tryd.underlying23 rfl (infoKy _ he.1) ?_) | (refine wpList_load_part rfl 45 _ rfl (gc1) 0 rfl 45 (ctr c) (0, 0) (ctr c) _ rc1 (all_rowe _) Tryd.underlying45 rfl (ct_info _ hcok.1.1 hcok.2.1) ?_) | (refine wpList_load_part rfl 23 _ rfl (gc1) 1 rfl 45 (ctr c) (0, 0) (irow .u8 c.k) _ rc1 (ct_k c hcok.1.1) Tryd.underlying23 rfl (infoKy _ hcok.1.1) ?_) | (refine wpList_load_part rfl 23 _ rfl (gc1) 33 rfl 45 (ctr c) (0, 0) (irow .u8 c.x) _ rc1 (ct_x c hcok.1.1 hcok.2.1) Tryd.underlying23 rfl (infoKy _ hcok.2.1) ?_) | (refine wpList_build_want rfl 23 _ rfl [] rfl (irow .u8 (zr 32)) builtZk ?_) | fail)
        clear fc5 fc6 fc7 fc8
        go_ret
        exact ⟨by rw [hu.out]; rfl, by rw [hu.out]; exact hB, Fr.of hw⟩
      · skip
        have pS3 : c.s = 3 := by simpa using dS3
        have pQ2 : e.k = c.x := by simpa using dQ2
        have hu : Hid (up3 c e = some ⟨c.n, e.k, zr 32, 1⟩) := hide (by unfold up3; exact if_pos ⟨pS3, pQ2⟩)
        have hs0 : c.s ≠ 0 := by first | omega | (unfold clm at pCL; simp only [Bool.or_eq_true, beq_iff_eq] at pCL; omega)
        have hth : th cs c.n = true := by rw [(hnm hs0).2]; exact (hnm hs0).1
        clear pQ2 hst hnm hs0
        have fc9 := cell_at rp0 (ev_d e)
        have fc10 := cell_at rp0 (ev_n e)
        have fc11 := cell_at rc1 (ct_n c)
        have fc12 := cell_at rc1 (ct_s c hcok.1.1 hcok.2.1)
        go_wp2_with (first | (refine wpList_load_part rfl 57 _ rfl (w.heap.size) 0 rfl 57 (evr e) (0, 0) (evr e) _ rp0 (all_rowe _) Tryd.underlying57 rfl (ev_info _ he.1) ?_) | (refine wpList_load_part rfl 23 _ rfl (w.heap.size) 2 rfl 57 (evr e) (0, 0) (irow .u8 e.k) _ rp0 (ev_k e he.1) Tryd.underlying23 rfl (infoKy _ he.1) ?_) | (refine wpList_load_part rfl 45 _ rfl (gc1) 0 rfl 45 (ctr c) (0, 0) (ctr c) _ rc1 (all_rowe _) Tryd.underlying45 rfl (ct_info _ hcok.1.1 hcok.2.1) ?_) | (refine wpList_load_part rfl 23 _ rfl (gc1) 1 rfl 45 (ctr c) (0, 0) (irow .u8 c.k) _ rc1 (ct_k c hcok.1.1) Tryd.underlying23 rfl (infoKy _ hcok.1.1) ?_) | (refine wpList_load_part rfl 23 _ rfl (gc1) 33 rfl 45 (ctr c) (0, 0) (irow .u8 c.x) _ rc1 (ct_x c hcok.1.1 hcok.2.1) Tryd.underlying23 rfl (infoKy _ hcok.2.1) ?_) | (refine wpList_build_want rfl 23 _ rfl [] rfl (irow .u8 (zr 32)) builtZk ?_) | fail)
        clear fc9 fc10 fc11 fc12
        have hb : Below wc.heap.size wc wc.drew := below_drN (Below.refl _ _) 1
        replace rp0 := keep hb rp0
        replace rc1 := keep hb rc1
        replace hB := hB.keep hb
        replace rB := keep hb rB
        replace hw := Below.after hw hb
        clear hb
        refine wp_region_noPanic ?_
        refine wp_region_held (S := fun W_ => W_.heap[w.heap.size]? = some (.cells (evr e) 57 (0, 0)) ∧ W_.heap[gc1]? = some (.cells (ctr c) 45 (0, 0)) ∧ W_.heap[g]? = some (.cells (bkr y (.slice ae es.length ca) (.slice ao cs.length cap)) 51 (0, 0))) (by kernel_rfl) ?_
        change wpAnyH _ _ _ _ _ _ _ _ (World.drew _)
        generalize wc.drew = wd14 at *
        refine wpAnyH_take (i := 0) (v := ?v15) rfl (by kernel_rfl) (by kernel_rfl) (by kernel_rfl) (fun _ _ _ h => h) (Or.inl ⟨by rfl, ?y15⟩) (⟨rp0, rc1, rB⟩) ?r15
        case y15 =>
          intro w_ hS_
          go_simp
          try with_reducible rfl
        simp only [Act.put, List.getElem_toArray, List.getElem_cons_zero, List.setIfInBounds_toArray, List.set_cons_succ, List.set_cons_zero]
        refine wpAnyH_take (i := 1) (v := ?v16) rfl (by kernel_rfl) (by kernel_rfl) (by kernel_rfl) (fun _ _ _ h => h) (Or.inl ⟨by rfl, ?y16⟩) (⟨rp0, rc1, rB⟩) ?r16
        case y16 =>
          intro w_ hS_
          go_simp
          try with_reducible rfl
        simp only [Act.put, List.getElem_toArray, List.getElem_cons_succ, List.getElem_cons_zero, List.setIfInBounds_toArray, List.set_cons_succ, List.set_cons_zero]
        refine wpAnyH_take (i := 2) (v := .slice ao cs.length cap) rfl (by kernel_rfl) (by kernel_rfl) (by kernel_rfl) (fun _ _ _ h => h) (Or.inl ⟨by rfl, ?y17⟩) (⟨rp0, rc1, rB⟩) ?r17
        case y17 =>
          intro w_ hS_
          have c_ := bkc hkey (hS_.2.2)
          go_simp
          try with_reducible rfl
        simp only [Act.put, List.getElem_toArray, List.getElem_cons_succ, List.getElem_cons_zero, List.setIfInBounds_toArray, List.set_cons_succ, List.set_cons_zero]
        refine wpAnyH_take (i := 3) (v := ?v18) rfl (by kernel_rfl) (by kernel_rfl) (by kernel_rfl) (fun _ _ _ h => h) (Or.inl ⟨by rfl, ?y18⟩) (⟨rp0, rc1, rB⟩) ?r18
        case y18 =>
          intro w_ hS_
          go_simp
          try with_reducible rfl
        simp only [Act.put, List.getElem_toArray, List.getElem_cons_succ, List.getElem_cons_zero, List.setIfInBounds_toArray, List.set_cons_succ, List.set_cons_zero]
        refine wpAnyH_take (i := 4) (v := .string c.n) rfl (by kernel_rfl) (by kernel_rfl) (by kernel_rfl) (fun _ _ _ h => h) (Or.inl ⟨by rfl, ?y19⟩) (⟨rp0, rc1, rB⟩) ?r19
        case y19 =>
          intro w_ hS_
          have c_ := cell_at (hS_.2.1) (ct_n c)
          go_simp
          try with_reducible rfl
        simp only [Act.put, List.getElem_toArray, List.getElem_cons_succ, List.getElem_cons_zero, List.setIfInBounds_toArray, List.set_cons_succ, List.set_cons_zero]
        refine wpAnyH_take (i := 5) (v := ?v20) rfl (by kernel_rfl) (by kernel_rfl) (by kernel_rfl) (fun _ _ _ h => h) (Or.inl ⟨by rfl, ?y20⟩) (⟨rp0, rc1, rB⟩) ?r20
        case y20 =>
          intro w_ hS_
          go_simp
          try with_reducible rfl
        simp only [Act.put, List.getElem_toArray, List.getElem_cons_succ, List.getElem_cons_zero, List.setIfInBounds_toArray, List.set_cons_succ, List.set_cons_zero]
        refine wpAnyH_take (i := 6) (v := .agg (irow .u8 e.k)) rfl (by kernel_rfl) (by kernel_rfl) (by kernel_rfl) (fun _ _ _ h => h) (Or.inl ⟨by rfl, ?y21⟩) (⟨rp0, rc1, rB⟩) ?r21
        case y21 =>
          intro w_ hS_
          simp only [List.getElem_toArray, List.getElem_cons_succ, List.getElem_cons_zero]
          exact e_load_part 23 _ (by rfl) (w.heap.size) 2 (by rfl) 57 (evr e) (0, 0) (irow .u8 e.k) _ (hS_.1) (ev_k e he.1) Tryd.underlying23 rfl (infoKy _ he.1)
        simp only [Act.put, List.getElem_toArray, List.getElem_cons_succ, List.getElem_cons_zero, List.setIfInBounds_toArray, List.set_cons_succ, List.set_cons_zero]
        refine wpAnyH_take (i := 7) (v := .agg (ctr ⟨c.n, e.k, zr 32, 1⟩)) rfl (by kernel_rfl) (by kernel_rfl) (by kernel_rfl) (fun _ _ _ h => h) (Or.inl ⟨by rfl, ?y22⟩) (⟨rp0, rc1, rB⟩) ?r22
        case y22 =>
          intro w_ hS_
          simp only [List.getElem_toArray, List.getElem_cons_succ, List.getElem_cons_zero]
          exact run_build_op 45 _ (by rfl) [(0, .string c.n), (1, .agg (irow .u8 e.k)), (3, .int .i64 1)] (by rfl) _ (bt_3 c.n e.k 1 he.1)
        simp only [Act.put, List.getElem_toArray, List.getElem_cons_succ, List.getElem_cons_zero, List.setIfInBounds_toArray, List.set_cons_succ, List.set_cons_zero]
        refine eH_one (k := 8) (fuel := 0) (by kernel_rfl) rfl (by kernel_rfl) (fun K_ hK_ => ?_)
        refine wp_call_ex (f := 64) (R := fun v_ w_ => v_ = .tuple #[] ∧ OwnC w_ b (Value.slice ao cs.length cap) (putC cs ⟨c.n, e.k, zr 32, 1⟩) ∧ Fr (fun k => (Value.slice ao cs.length cap).ownBlock = some k) wd14 w_) (by kernel_rfl) ((a_put cs ⟨c.n, e.k, zr 32, 1⟩ ⟨he, k32_zero⟩ b _ _ hB.cts hB.srt (by omega) hth).mono (fun e_ w_ h_ => ⟨_, h_.1, rfl, h_.2⟩)) (fun v_ wq23 hX_ => ?_)
        obtain ⟨rfl, hO2, hF2⟩ := hX_
        have hB2 := hB.put (c := ⟨c.n, e.k, zr 32, 1⟩) hth (by simp) hO2 hF2
        have hT : Fr (ownB g (Value.slice ae es.length ca) (Value.slice ao cs.length cap)) w wq23 := (Fr.of hw).step (hF2.book (ve := (Value.slice ae es.length ca)) (g := g)) (fun _ _ q => q)
        have hS2 : wq23.heap[w.heap.size]? = some (.cells (evr e) 57 (0, 0)) ∧ wq23.heap[gc1]? = some (.cells (ctr c) 45 (0, 0)) ∧ wq23.heap[g]? = some (.cells (bkr y (.slice ae es.length ca) (.slice ao cs.length cap)) 51 (0, 0)) := ⟨hF2.row rp0 (own_type hB.cts.1 rp0 (by decide)), (hF2.row rc1 (fun q => by have := hlc1 _ q; omega)), hB2.row⟩
        refine hK_ _ _ hS2 ?_
        simp only [Act.put, List.getElem_toArray, List.getElem_cons_succ, List.getElem_cons_zero, List.setIfInBounds_toArray, List.set_cons_succ, List.set_cons_zero]
        clear hK_
        refine wpAnyH_done (by kernel_rfl) ?_ _
        refine NoPanic.normal ?_
        go_wp2_with (fail)
        go_ret
        exact ⟨by rw [hu.out]; rfl, by rw [hu.out]; exact hB2, hT⟩
set_option maxRecDepth 100000 in
set_option maxHeartbeats 8000000 in
theorem a_up5 (e : Ev) (he : e.ok) (b g : Nat) (ve vc : Value) (y : List Int) (es : List Ev) (cs : List Ct) (w : World) (hB : Bk w b g ve vc y es cs) : Calls Tryd.prog 51 #[.pointer (some ⟨g, 33, none⟩), .agg (evr e)] w fun en w' => en = .returned (.bool (up5 (fnC cs e.n) e).isSome) ∧ Bk w' b g ve vc y es ((puO cs (up5 (fnC cs e.n) e)).getD cs) ∧ Fr (ownB g ve vc) w w' := by
  have hkey := hB.key.1
  have hcl := hB.len
  have hcok := fnC_ok hB.cts.2 e.n
  have hst : (fnC cs e.n).s ≠ 0 → 1 ≤ (fnC cs e.n).s ∧ (fnC cs e.n).s ≤ 4 := fun q => by
    unfold fnC at q ⊢
    cases qq : fd cs e.n with
    | none => rw [qq] at q; exact absurd rfl q
    | some d => exact hB.sta d (fd_some qq).1
  obtain ⟨ao, cap, rfl, hc1, hc2, hz1, hz2⟩ := hB.cts.sl
  obtain ⟨ae, ca, rfl, hc3, hc4, hz3, hz4⟩ := hB.evs.sl
  have cF : ∀ W, Below w.heap.size w W → Calls Tryd.prog 18 #[.slice ao cs.length cap, .string e.n] W fun e_ w' => e_ = .returned (.agg (ctr (fnC cs e.n))) ∧ Below W.heap.size W w' := fun W hW => a_find cs e.n b _ W (hB.keep hW).cts hB.srt (by omega)
  have hnm : (fnC cs e.n).s ≠ 0 → th cs e.n = true ∧ (fnC cs e.n).n = e.n := fnC_name
  generalize hce : fnC cs e.n = c at *
  have hgw := lt_of_row hB.row
  have hle1 : ∀ k, (Value.slice ae es.length ca).ownBlock = some k → k < w.heap.size := fun k e => (hB.evs.lt k e).2
  have hlc1 : ∀ k, (Value.slice ao cs.length cap).ownBlock = some k → k < w.heap.size := fun k e => (hB.cts.lt k e).2
  have rp0 := hp1_0 w (.cells (evr e) 57)
  have hw : Below w.heap.size w (w.alloc (.cells (evr e) 57)) := ((Below.refl _ _).alloc (Nat.le_refl _) _)
  replace hB := hB.keep hw
  go_enter Tryd.func51, Tryd.ntmps51
  go_upto_region 1 with (first | (refine wpList_box rfl 57 _ rfl _ rfl (ev_box _) ?_) | fail)
  try simp only [size_alloc1]
  generalize (w.alloc (.cells (evr e) 57)) = w0 at *
  have rB := hB.row
  have hgl := lt_of_row rB
  have hlo : ∀ k, ownB g (.slice ae es.length ca) (.slice ao cs.length cap) k → k < w.heap.size := fun k hk => by rcases hk with rfl | q | q; exact hgw; exact hle1 k q; exact hlc1 k q
  go_cut [5] from 6 to 35 (fun u_ wx => ∃ gx, u_ = .pointer (some ⟨gx, 0, none⟩) ∧ w.heap.size < gx ∧ w.heap.size ≤ gx ∧ wx.heap[w.heap.size]? = some (.cells (evr e) 57 (0, 0)) ∧ wx.heap[gx]? = some (.cells (ctr c) 45 (0, 0)) ∧ Bk wx b g (.slice ae es.length ca) (.slice ao cs.length cap) y es cs ∧ (wx).heap[g]? = some (.cells (bkr y (.slice ae es.length ca) (.slice ao cs.length cap)) 51 (0, 0)) ∧ Below w.heap.size w wx)
  case first =>
    have hb : Below w0.heap.size w0 w0.drew := below_drN (Below.refl _ _) 1
    replace rp0 := keep hb rp0
    replace hB := hB.keep hb
    replace rB := keep hb rB
    replace hw := Below.after hw hb
    clear hb
    refine wp_region_noPanic ?_
    refine wp_region_held (S := fun W_ => W_.heap[w.heap.size]? = some (.cells (evr e) 57 (0, 0)) ∧ W_.heap[g]? = some (.cells (bkr y (.slice ae es.length ca) (.slice ao cs.length cap)) 51 (0, 0))) (by kernel_rfl) ?_
    change wpAnyH _ _ _ _ _ _ _ _ (World.drew _)
    generalize w0.drew = wd25 at *
    refine wpAnyH_take (i := 0) (v := ?v26) rfl (by kernel_rfl) (by kernel_rfl) (by kernel_rfl) (fun _ _ _ h => h) (Or.inl ⟨by rfl, ?y26⟩) (⟨rp0, rB⟩) ?r26
    case y26 =>
      intro w_ hS_
      go_simp
      try with_reducible rfl
    simp only [Act.put, List.getElem_toArray, List.getElem_cons_zero, List.setIfInBounds_toArray, List.set_cons_succ, List.set_cons_zero]
    refine wpAnyH_take (i := 1) (v := ?v27) rfl (by kernel_rfl) (by kernel_rfl) (by kernel_rfl) (fun _ _ _ h => h) (Or.inl ⟨by rfl, ?y27⟩) (⟨rp0, rB⟩) ?r27
    case y27 =>
      intro w_ hS_
      go_simp
      try with_reducible rfl
    simp only [Act.put, List.getElem_toArray, List.getElem_cons_succ, List.getElem_cons_zero, List.setIfInBounds_toArray, List.set_cons_succ, List.set_cons_zero]
    refine wpAnyH_take (i := 2) (v := .slice ao cs.length cap) rfl (by kernel_rfl) (by kernel_rfl) (by kernel_rfl) (fun _ _ _ h => h) (Or.inl ⟨by rfl, ?y28⟩) (⟨rp0, rB⟩) ?r28
    case y28 =>
      intro w_ hS_
      have c_ := bkc hkey (hS_.2)
      go_simp
      try with_reducible rfl
    simp only [Act.put, List.getElem_toArray, List.getElem_cons_succ, List.getElem_cons_zero, List.setIfInBounds_toArray, List.set_cons_succ, List.set_cons_zero]
    refine wpAnyH_take (i := 3) (v := ?v29) rfl (by kernel_rfl) (by kernel_rfl) (by kernel_rfl) (fun _ _ _ h => h) (Or.inl ⟨by rfl, ?y29⟩) (⟨rp0, rB⟩) ?r29
    case y29 =>
      intro w_ hS_
      go_simp
      try with_reducible rfl
    simp only [Act.put, List.getElem_toArray, List.getElem_cons_succ, List.getElem_cons_zero, List.setIfInBounds_toArray, List.set_cons_succ, List.set_cons_zero]
    refine wpAnyH_take (i := 4) (v := .string e.n) rfl (by kernel_rfl) (by kernel_rfl) (by kernel_rfl) (fun _ _ _ h => h) (Or.inl ⟨by rfl, ?y30⟩) (⟨rp0, rB⟩) ?r30
    case y30 =>
      intro w_ hS_
      have c_ := cell_at (hS_.1) (ev_n e)
      go_simp
      try with_reducible rfl
    simp only [Act.put, List.getElem_toArray, List.getElem_cons_succ, List.getElem_cons_zero, List.setIfInBounds_toArray, List.set_cons_succ, List.set_cons_zero]
    refine eH_two (j := 5) (k := 6) (fuel := 2) (by kernel_rfl) rfl rfl (by kernel_rfl) (by kernel_rfl) (fun K_ hK_ => ?_) (fun K_ hK_ => ?_)
    · skip
      refine wp_call_ex (f := 18) (by kernel_rfl) (ex1e (cF _ hw)) (fun v_ wq31 hX_ => ?_)
      obtain ⟨rfl, hb⟩ := hX_
      replace rp0 := keep hb rp0
      replace hB := hB.keep hb
      replace rB := keep hb rB
      replace hw := Below.after hw hb
      clear hb
      refine hK_ _ _ (⟨rp0, rB⟩) ?_
      simp only [Act.put, List.getElem_toArray, List.getElem_cons_succ, List.getElem_cons_zero, List.setIfInBounds_toArray, List.set_cons_succ, List.set_cons_zero]
      clear hK_
      refine eH_one (k := 6) (fuel := 1) (by kernel_rfl) rfl (by kernel_rfl) (fun K_ hK_ => ?_)
      refine e_world_op (.pointer (some ⟨wq31.heap.size, 0, none⟩)) (wq31.alloc (.cells (ctr zct) 45)) (by kernel_rfl) ?_
      have hb : Below wq31.heap.size wq31 (wq31.alloc (.cells (ctr zct) 45)) := (Below.refl _ _).alloc (Nat.le_refl _) _
      have rg32 := hp1_0 wq31 (.cells (ctr zct) 45)
      have lt_g32_0 := lt_of_row rp0
      have sz_g32 := hw.size
      replace rp0 := keep hb rp0
      replace hB := hB.keep hb
      replace rB := keep hb rB
      replace hw := Below.after hw hb
      clear hb
      refine hK_ _ _ (⟨rp0, rB⟩) ?_
      simp only [Act.put, List.getElem_toArray, List.getElem_cons_succ, List.getElem_cons_zero, List.setIfInBounds_toArray, List.set_cons_succ, List.set_cons_zero]
      clear hK_
      generalize (wq31.alloc (.cells (ctr zct) 45)) = wq32 at *
      generalize wq31.heap.size = g32 at *
      refine eH_one (k := 7) (fuel := 0) (by kernel_rfl) rfl (by kernel_rfl) (fun K_ hK_ => ?_)
      refine wp_store_row 45 _ _ rfl (g32) (ctr c) rfl rfl 45 _ rg32 (ct_info _ hcok.1.1 hcok.2.1) ((ctr_size _ zct_ok.1.1 zct_ok.2.1).trans (ctr_size _ hcok.1.1 hcok.2.1).symm) (ctr_one _) ?_
      have hN_ := setRow_heap wq32 (g32) _ (ctr c) _ _ rg32
      replace rp0 := (setRow_other wq32 (g32) (w.heap.size) (ctr c) (by omega)).trans rp0
      replace hw := below_setRow hw (show w.heap.size ≤ g32 by omega) (ctr c)
      replace hB := hB.move (fun k_ hk_ => setRow_other wq32 (g32) k_ (ctr c) (by have := (hB.low k_ hk_).2; have := hlo k_ hk_; omega))
      replace rB := (setRow_other wq32 (g32) g (ctr c) (by omega)).trans rB
      generalize (wq32.setRow (g32) (ctr c)) = wq33 at *
      clear rg32
      have rg32 := hN_
      clear hN_
      refine hK_ _ _ (⟨rp0, rB⟩) ?_
      simp only [Act.put]
      clear hK_
      refine wpAnyH_done (by kernel_rfl) ?_ _
      refine NoPanic.normal ?_
      go_wp2_with (fail)
      go_meet
      case rel => exact ⟨g32, rfl, by omega, by omega, rp0, rg32, hB, rB, hw⟩
    · skip
      refine e_world_op (.pointer (some ⟨wd25.heap.size, 0, none⟩)) (wd25.alloc (.cells (ctr zct) 45)) (by kernel_rfl) ?_
      have hb : Below wd25.heap.size wd25 (wd25.alloc (.cells (ctr zct) 45)) := (Below.refl _ _).alloc (Nat.le_refl _) _
      have rg34 := hp1_0 wd25 (.cells (ctr zct) 45)
      have lt_g34_0 := lt_of_row rp0
      have sz_g34 := hw.size
      replace rp0 := keep hb rp0
      replace hB := hB.keep hb
      replace rB := keep hb rB
      replace hw := Below.after hw hb
      clear hb
      refine hK_ _ _ (⟨rp0, rB⟩) ?_
      simp only [Act.put, List.getElem_toArray, List.getElem_cons_succ, List.getElem_cons_zero, List.setIfInBounds_toArray, List.set_cons_succ, List.set_cons_zero]
      clear hK_
      generalize (wd25.alloc (.cells (ctr zct) 45)) = wq34 at *
      generalize wd25.heap.size = g34 at *
      refine eH_one (k := 5) (fuel := 1) (by kernel_rfl) rfl (by kernel_rfl) (fun K_ hK_ => ?_)
      refine wp_call_ex (f := 18) (by kernel_rfl) (ex1e (cF _ hw)) (fun v_ wq35 hX_ => ?_)
      obtain ⟨rfl, hb⟩ := hX_
      replace rp0 := keep hb rp0
      replace rg34 := keep hb rg34
      replace hB := hB.keep hb
      replace rB := keep hb rB
      replace hw := Below.after hw hb
      clear hb
      refine hK_ _ _ (⟨rp0, rB⟩) ?_
      simp only [Act.put, List.getElem_toArray, List.getElem_cons_succ, List.getElem_cons_zero, List.setIfInBounds_toArray, List.set_cons_succ, List.set_cons_zero]
      clear hK_
      refine eH_one (k := 7) (fuel := 0) (by kernel_rfl) rfl (by kernel_rfl) (fun K_ hK_ => ?_)
      refine wp_store_row 45 _ _ rfl (g34) (ctr c) rfl rfl 45 _ rg34 (ct_info _ hcok.1.1 hcok.2.1) ((ctr_size _ zct_ok.1.1 zct_ok.2.1).trans (ctr_size _ hcok.1.1 hcok.2.1).symm) (ctr_one _) ?_
      have hN_ := setRow_heap wq35 (g34) _ (ctr c) _ _ rg34
      replace rp0 := (setRow_other wq35 (g34) (w.heap.size) (ctr c) (by omega)).trans rp0
      replace hw := below_setRow hw (show w.heap.size ≤ g34 by omega) (ctr c)
      replace hB := hB.move (fun k_ hk_ => setRow_other wq35 (g34) k_ (ctr c) (by have := (hB.low k_ hk_).2; have := hlo k_ hk_; omega))
      replace rB := (setRow_other wq35 (g34) g (ctr c) (by omega)).trans rB
      generalize (wq35.setRow (g34) (ctr c)) = wq36 at *
      clear rg34
      have rg34 := hN_
      clear hN_
      refine hK_ _ _ (⟨rp0, rB⟩) ?_
      simp only [Act.put]
      clear hK_
      refine wpAnyH_done (by kernel_rfl) ?_ _
      refine NoPanic.normal ?_
      go_wp2_with (fail)
      go_meet
      case rel => exact ⟨g34, rfl, by omega, by omega, rp0, rg34, hB, rB, hw⟩
  case rest =>
    obtain ⟨gc24, rfl, ltc24_0, szc24, rp0, rc24, hB, rB, hw⟩ := hcut
    have hceH := hide hce
    clear hce cF
    have eQZ := eq_k e.k (zr 32) he.1 (zr_len 32)
    generalize dS0 : (c.s == 0) = xS0 at *
    generalize dS4 : (c.s == 4) = xS4 at *
    generalize dQZ : decide (e.k = zr 32) = xQZ at *
    cases xS0
    · skip
      cases xS4
      · skip
        cases xQZ
        · skip
          have pS0 : ¬ c.s = 0 := by simpa using dS0
          have pS4 : ¬ c.s = 4 := by simpa using dS4
          have pQZ : ¬ e.k = zr 32 := by simpa using dQZ
          have hu : Hid (up5 c e = none) := hide (by unfold up5; exact if_neg (fun h => pQZ h.2.2))
          clear pQZ hst hnm
          have fc13 := cell_at rp0 (ev_d e)
          have fc14 := cell_at rp0 (ev_n e)
          have fc15 := cell_at rc24 (ct_n c)
          have fc16 := cell_at rc24 (ct_s c hcok.1.1 hcok.2.1)
          go_wp2_with (first | (refine wpList_load_part rfl 57 _ rfl (w.heap.size) 0 rfl 57 (evr e) (0, 0) (evr e) _ rp0 (all_rowe _) Tryd.underlying57 rfl (ev_info _ he.1) ?_) | (refine wpList_load_part rfl 23 _ rfl (w.heap.size) 2 rfl 57 (evr e) (0, 0) (irow .u8 e.k) _ rp0 (ev_k e he.1) Tryd.underlying23 rfl (infoKy _ he.1) ?_) | (refine wpList_load_part rfl 45 _ rfl (gc24) 0 rfl 45 (ctr c) (0, 0) (ctr c) _ rc24 (all_rowe _) Tryd.underlying45 rfl (ct_info _ hcok.1.1 hcok.2.1) ?_) | (refine wpList_load_part rfl 23 _ rfl (gc24) 1 rfl 45 (ctr c) (0, 0) (irow .u8 c.k) _ rc24 (ct_k c hcok.1.1) Tryd.underlying23 rfl (infoKy _ hcok.1.1) ?_) | (refine wpList_load_part rfl 23 _ rfl (gc24) 33 rfl 45 (ctr c) (0, 0) (irow .u8 c.x) _ rc24 (ct_x c hcok.1.1 hcok.2.1) Tryd.underlying23 rfl (infoKy _ hcok.2.1) ?_) | (refine wpList_build_want rfl 23 _ rfl [] rfl (irow .u8 (zr 32)) builtZk ?_) | fail)
          clear fc13 fc14 fc15 fc16
          go_ret
          exact ⟨by rw [hu.out]; rfl, by rw [hu.out]; exact hB, Fr.of hw⟩
        · skip
          have pS0 : ¬ c.s = 0 := by simpa using dS0
          have pS4 : ¬ c.s = 4 := by simpa using dS4
          have pQZ : e.k = zr 32 := by simpa using dQZ
          have hu : Hid (up5 c e = some ⟨c.n, c.k, zr 32, 4⟩) := hide (by unfold up5; exact if_pos ⟨pS0, pS4, pQZ⟩)
          have hs0 : c.s ≠ 0 := by first | omega | (unfold clm at pCL; simp only [Bool.or_eq_true, beq_iff_eq] at pCL; omega)
          have hth : th cs c.n = true := by rw [(hnm hs0).2]; exact (hnm hs0).1
          clear pQZ hst hnm hs0
          have fc17 := cell_at rp0 (ev_d e)
          have fc18 := cell_at rp0 (ev_n e)
          have fc19 := cell_at rc24 (ct_n c)
          have fc20 := cell_at rc24 (ct_s c hcok.1.1 hcok.2.1)
          go_wp2_with (first | (refine wpList_load_part rfl 57 _ rfl (w.heap.size) 0 rfl 57 (evr e) (0, 0) (evr e) _ rp0 (all_rowe _) Tryd.underlying57 rfl (ev_info _ he.1) ?_) | (refine wpList_load_part rfl 23 _ rfl (w.heap.size) 2 rfl 57 (evr e) (0, 0) (irow .u8 e.k) _ rp0 (ev_k e he.1) Tryd.underlying23 rfl (infoKy _ he.1) ?_) | (refine wpList_load_part rfl 45 _ rfl (gc24) 0 rfl 45 (ctr c) (0, 0) (ctr c) _ rc24 (all_rowe _) Tryd.underlying45 rfl (ct_info _ hcok.1.1 hcok.2.1) ?_) | (refine wpList_load_part rfl 23 _ rfl (gc24) 1 rfl 45 (ctr c) (0, 0) (irow .u8 c.k) _ rc24 (ct_k c hcok.1.1) Tryd.underlying23 rfl (infoKy _ hcok.1.1) ?_) | (refine wpList_load_part rfl 23 _ rfl (gc24) 33 rfl 45 (ctr c) (0, 0) (irow .u8 c.x) _ rc24 (ct_x c hcok.1.1 hcok.2.1) Tryd.underlying23 rfl (infoKy _ hcok.2.1) ?_) | (refine wpList_build_want rfl 23 _ rfl [] rfl (irow .u8 (zr 32)) builtZk ?_) | fail)
          clear fc17 fc18 fc19 fc20
          have hb : Below wc.heap.size wc wc.drew := below_drN (Below.refl _ _) 1
          replace rp0 := keep hb rp0
          replace rc24 := keep hb rc24
          replace hB := hB.keep hb
          replace rB := keep hb rB
          replace hw := Below.after hw hb
          clear hb
          refine wp_region_noPanic ?_
          refine wp_region_held (S := fun W_ => W_.heap[w.heap.size]? = some (.cells (evr e) 57 (0, 0)) ∧ W_.heap[gc24]? = some (.cells (ctr c) 45 (0, 0)) ∧ W_.heap[g]? = some (.cells (bkr y (.slice ae es.length ca) (.slice ao cs.length cap)) 51 (0, 0))) (by kernel_rfl) ?_
          change wpAnyH _ _ _ _ _ _ _ _ (World.drew _)
          generalize wc.drew = wd37 at *
          refine wpAnyH_take (i := 0) (v := ?v38) rfl (by kernel_rfl) (by kernel_rfl) (by kernel_rfl) (fun _ _ _ h => h) (Or.inl ⟨by rfl, ?y38⟩) (⟨rp0, rc24, rB⟩) ?r38
          case y38 =>
            intro w_ hS_
            go_simp
            try with_reducible rfl
          simp only [Act.put, List.getElem_toArray, List.getElem_cons_zero, List.setIfInBounds_toArray, List.set_cons_succ, List.set_cons_zero]
          refine wpAnyH_take (i := 1) (v := ?v39) rfl (by kernel_rfl) (by kernel_rfl) (by kernel_rfl) (fun _ _ _ h => h) (Or.inl ⟨by rfl, ?y39⟩) (⟨rp0, rc24, rB⟩) ?r39
          case y39 =>
            intro w_ hS_
            go_simp
            try with_reducible rfl
          simp only [Act.put, List.getElem_toArray, List.getElem_cons_succ, List.getElem_cons_zero, List.setIfInBounds_toArray, List.set_cons_succ, List.set_cons_zero]
          refine wpAnyH_take (i := 2) (v := .slice ao cs.length cap) rfl (by kernel_rfl) (by kernel_rfl) (by kernel_rfl) (fun _ _ _ h => h) (Or.inl ⟨by rfl, ?y40⟩) (⟨rp0, rc24, rB⟩) ?r40
          case y40 =>
            intro w_ hS_
            have c_ := bkc hkey (hS_.2.2)
            go_simp
            try with_reducible rfl
          simp only [Act.put, List.getElem_toArray, List.getElem_cons_succ, List.getElem_cons_zero, List.setIfInBounds_toArray, List.set_cons_succ, List.set_cons_zero]
          refine wpAnyH_take (i := 3) (v := ?v41) rfl (by kernel_rfl) (by kernel_rfl) (by kernel_rfl) (fun _ _ _ h => h) (Or.inl ⟨by rfl, ?y41⟩) (⟨rp0, rc24, rB⟩) ?r41
          case y41 =>
            intro w_ hS_
            go_simp
            try with_reducible rfl
          simp only [Act.put, List.getElem_toArray, List.getElem_cons_succ, List.getElem_cons_zero, List.setIfInBounds_toArray, List.set_cons_succ, List.set_cons_zero]
          refine wpAnyH_take (i := 4) (v := .string c.n) rfl (by kernel_rfl) (by kernel_rfl) (by kernel_rfl) (fun _ _ _ h => h) (Or.inl ⟨by rfl, ?y42⟩) (⟨rp0, rc24, rB⟩) ?r42
          case y42 =>
            intro w_ hS_
            have c_ := cell_at (hS_.2.1) (ct_n c)
            go_simp
            try with_reducible rfl
          simp only [Act.put, List.getElem_toArray, List.getElem_cons_succ, List.getElem_cons_zero, List.setIfInBounds_toArray, List.set_cons_succ, List.set_cons_zero]
          refine wpAnyH_take (i := 5) (v := ?v43) rfl (by kernel_rfl) (by kernel_rfl) (by kernel_rfl) (fun _ _ _ h => h) (Or.inl ⟨by rfl, ?y43⟩) (⟨rp0, rc24, rB⟩) ?r43
          case y43 =>
            intro w_ hS_
            go_simp
            try with_reducible rfl
          simp only [Act.put, List.getElem_toArray, List.getElem_cons_succ, List.getElem_cons_zero, List.setIfInBounds_toArray, List.set_cons_succ, List.set_cons_zero]
          refine wpAnyH_take (i := 6) (v := .agg (irow .u8 c.k)) rfl (by kernel_rfl) (by kernel_rfl) (by kernel_rfl) (fun _ _ _ h => h) (Or.inl ⟨by rfl, ?y44⟩) (⟨rp0, rc24, rB⟩) ?r44
          case y44 =>
            intro w_ hS_
            simp only [List.getElem_toArray, List.getElem_cons_succ, List.getElem_cons_zero]
            exact e_load_part 23 _ (by rfl) (gc24) 1 (by rfl) 45 (ctr c) (0, 0) (irow .u8 c.k) _ (hS_.2.1) (ct_k c hcok.1.1) Tryd.underlying23 rfl (infoKy _ hcok.1.1)
          simp only [Act.put, List.getElem_toArray, List.getElem_cons_succ, List.getElem_cons_zero, List.setIfInBounds_toArray, List.set_cons_succ, List.set_cons_zero]
          refine wpAnyH_take (i := 7) (v := .agg (ctr ⟨c.n, c.k, zr 32, 4⟩)) rfl (by kernel_rfl) (by kernel_rfl) (by kernel_rfl) (fun _ _ _ h => h) (Or.inl ⟨by rfl, ?y45⟩) (⟨rp0, rc24, rB⟩) ?r45
          case y45 =>
            intro w_ hS_
            simp only [List.getElem_toArray, List.getElem_cons_succ, List.getElem_cons_zero]
            exact run_build_op 45 _ (by rfl) [(0, .string c.n), (1, .agg (irow .u8 c.k)), (3, .int .i64 4)] (by rfl) _ (bt_3 c.n c.k 4 hcok.1.1)
          simp only [Act.put, List.getElem_toArray, List.getElem_cons_succ, List.getElem_cons_zero, List.setIfInBounds_toArray, List.set_cons_succ, List.set_cons_zero]
          refine eH_one (k := 8) (fuel := 0) (by kernel_rfl) rfl (by kernel_rfl) (fun K_ hK_ => ?_)
          refine wp_call_ex (f := 64) (R := fun v_ w_ => v_ = .tuple #[] ∧ OwnC w_ b (Value.slice ao cs.length cap) (putC cs ⟨c.n, c.k, zr 32, 4⟩) ∧ Fr (fun k => (Value.slice ao cs.length cap).ownBlock = some k) wd37 w_) (by kernel_rfl) ((a_put cs ⟨c.n, c.k, zr 32, 4⟩ ⟨hcok.1, k32_zero⟩ b _ _ hB.cts hB.srt (by omega) hth).mono (fun e_ w_ h_ => ⟨_, h_.1, rfl, h_.2⟩)) (fun v_ wq46 hX_ => ?_)
          obtain ⟨rfl, hO2, hF2⟩ := hX_
          have hB2 := hB.put (c := ⟨c.n, c.k, zr 32, 4⟩) hth (by simp) hO2 hF2
          have hT : Fr (ownB g (Value.slice ae es.length ca) (Value.slice ao cs.length cap)) w wq46 := (Fr.of hw).step (hF2.book (ve := (Value.slice ae es.length ca)) (g := g)) (fun _ _ q => q)
          have hS2 : wq46.heap[w.heap.size]? = some (.cells (evr e) 57 (0, 0)) ∧ wq46.heap[gc24]? = some (.cells (ctr c) 45 (0, 0)) ∧ wq46.heap[g]? = some (.cells (bkr y (.slice ae es.length ca) (.slice ao cs.length cap)) 51 (0, 0)) := ⟨hF2.row rp0 (own_type hB.cts.1 rp0 (by decide)), (hF2.row rc24 (fun q => by have := hlc1 _ q; omega)), hB2.row⟩
          refine hK_ _ _ hS2 ?_
          simp only [Act.put, List.getElem_toArray, List.getElem_cons_succ, List.getElem_cons_zero, List.setIfInBounds_toArray, List.set_cons_succ, List.set_cons_zero]
          clear hK_
          refine wpAnyH_done (by kernel_rfl) ?_ _
          refine NoPanic.normal ?_
          go_wp2_with (fail)
          go_ret
          exact ⟨by rw [hu.out]; rfl, by rw [hu.out]; exact hB2, hT⟩
      · skip
        have pS0 : ¬ c.s = 0 := by simpa using dS0
        have pS4 : c.s = 4 := by simpa using dS4
        have hu : Hid (up5 c e = none) := hide (by unfold up5; exact if_neg (fun h => h.2.1 pS4))
        clear  hst hnm
        have fc21 := cell_at rp0 (ev_d e)
        have fc22 := cell_at rp0 (ev_n e)
        have fc23 := cell_at rc24 (ct_n c)
        have fc24 := cell_at rc24 (ct_s c hcok.1.1 hcok.2.1)
        go_wp2_with (first | (refine wpList_load_part rfl 57 _ rfl (w.heap.size) 0 rfl 57 (evr e) (0, 0) (evr e) _ rp0 (all_rowe _) Tryd.underlying57 rfl (ev_info _ he.1) ?_) | (refine wpList_load_part rfl 23 _ rfl (w.heap.size) 2 rfl 57 (evr e) (0, 0) (irow .u8 e.k) _ rp0 (ev_k e he.1) Tryd.underlying23 rfl (infoKy _ he.1) ?_) | (refine wpList_load_part rfl 45 _ rfl (gc24) 0 rfl 45 (ctr c) (0, 0) (ctr c) _ rc24 (all_rowe _) Tryd.underlying45 rfl (ct_info _ hcok.1.1 hcok.2.1) ?_) | (refine wpList_load_part rfl 23 _ rfl (gc24) 1 rfl 45 (ctr c) (0, 0) (irow .u8 c.k) _ rc24 (ct_k c hcok.1.1) Tryd.underlying23 rfl (infoKy _ hcok.1.1) ?_) | (refine wpList_load_part rfl 23 _ rfl (gc24) 33 rfl 45 (ctr c) (0, 0) (irow .u8 c.x) _ rc24 (ct_x c hcok.1.1 hcok.2.1) Tryd.underlying23 rfl (infoKy _ hcok.2.1) ?_) | (refine wpList_build_want rfl 23 _ rfl [] rfl (irow .u8 (zr 32)) builtZk ?_) | fail)
        clear fc21 fc22 fc23 fc24
        go_ret
        exact ⟨by rw [hu.out]; rfl, by rw [hu.out]; exact hB, Fr.of hw⟩
    · skip
      have pS0 : c.s = 0 := by simpa using dS0
      have hu : Hid (up5 c e = none) := hide (by unfold up5; exact if_neg (fun h => h.1 pS0))
      clear  hst hnm
      have fc25 := cell_at rp0 (ev_d e)
      have fc26 := cell_at rp0 (ev_n e)
      have fc27 := cell_at rc24 (ct_n c)
      have fc28 := cell_at rc24 (ct_s c hcok.1.1 hcok.2.1)
      go_wp2_with (first | (refine wpList_load_part rfl 57 _ rfl (w.heap.size) 0 rfl 57 (evr e) (0, 0) (evr e) _ rp0 (all_rowe _) Tryd.underlying57 rfl (ev_info _ he.1) ?_) | (refine wpList_load_part rfl 23 _ rfl (w.heap.size) 2 rfl 57 (evr e) (0, 0) (irow .u8 e.k) _ rp0 (ev_k e he.1) Tryd.underlying23 rfl (infoKy _ he.1) ?_) | (refine wpList_load_part rfl 45 _ rfl (gc24) 0 rfl 45 (ctr c) (0, 0) (ctr c) _ rc24 (all_rowe _) Tryd.underlying45 rfl (ct_info _ hcok.1.1 hcok.2.1) ?_) | (refine wpList_load_part rfl 23 _ rfl (gc24) 1 rfl 45 (ctr c) (0, 0) (irow .u8 c.k) _ rc24 (ct_k c hcok.1.1) Tryd.underlying23 rfl (infoKy _ hcok.1.1) ?_) | (refine wpList_load_part rfl 23 _ rfl (gc24) 33 rfl 45 (ctr c) (0, 0) (irow .u8 c.x) _ rc24 (ct_x c hcok.1.1 hcok.2.1) Tryd.underlying23 rfl (infoKy _ hcok.2.1) ?_) | (refine wpList_build_want rfl 23 _ rfl [] rfl (irow .u8 (zr 32)) builtZk ?_) | fail)
      clear fc25 fc26 fc27 fc28
      go_ret
      exact ⟨by rw [hu.out]; rfl, by rw [hu.out]; exact hB, Fr.of hw⟩
set_option maxRecDepth 100000 in
set_option maxHeartbeats 8000000 in
theorem a_up6 (e : Ev) (he : e.ok) (b g : Nat) (ve vc : Value) (y : List Int) (es : List Ev) (cs : List Ct) (w : World) (hB : Bk w b g ve vc y es cs) : Calls Tryd.prog 52 #[.pointer (some ⟨g, 33, none⟩), .agg (evr e)] w fun en w' => en = .returned (.bool (up6 (fnC cs e.n) e).isSome) ∧ Bk w' b g ve vc y es ((puO cs (up6 (fnC cs e.n) e)).getD cs) ∧ Fr (ownB g ve vc) w w' := by
  have hkey := hB.key.1
  have hcl := hB.len
  have hcok := fnC_ok hB.cts.2 e.n
  have hst : (fnC cs e.n).s ≠ 0 → 1 ≤ (fnC cs e.n).s ∧ (fnC cs e.n).s ≤ 4 := fun q => by
    unfold fnC at q ⊢
    cases qq : fd cs e.n with
    | none => rw [qq] at q; exact absurd rfl q
    | some d => exact hB.sta d (fd_some qq).1
  obtain ⟨ao, cap, rfl, hc1, hc2, hz1, hz2⟩ := hB.cts.sl
  obtain ⟨ae, ca, rfl, hc3, hc4, hz3, hz4⟩ := hB.evs.sl
  have cF : ∀ W, Below w.heap.size w W → Calls Tryd.prog 18 #[.slice ao cs.length cap, .string e.n] W fun e_ w' => e_ = .returned (.agg (ctr (fnC cs e.n))) ∧ Below W.heap.size W w' := fun W hW => a_find cs e.n b _ W (hB.keep hW).cts hB.srt (by omega)
  have hnm : (fnC cs e.n).s ≠ 0 → th cs e.n = true ∧ (fnC cs e.n).n = e.n := fnC_name
  generalize hce : fnC cs e.n = c at *
  have hgw := lt_of_row hB.row
  have hle1 : ∀ k, (Value.slice ae es.length ca).ownBlock = some k → k < w.heap.size := fun k e => (hB.evs.lt k e).2
  have hlc1 : ∀ k, (Value.slice ao cs.length cap).ownBlock = some k → k < w.heap.size := fun k e => (hB.cts.lt k e).2
  have rp0 := hp1_0 w (.cells (evr e) 57)
  have hw : Below w.heap.size w (w.alloc (.cells (evr e) 57)) := ((Below.refl _ _).alloc (Nat.le_refl _) _)
  replace hB := hB.keep hw
  go_enter Tryd.func52, Tryd.ntmps52
  go_upto_region 1 with (first | (refine wpList_box rfl 57 _ rfl _ rfl (ev_box _) ?_) | fail)
  try simp only [size_alloc1]
  generalize (w.alloc (.cells (evr e) 57)) = w0 at *
  have rB := hB.row
  have hgl := lt_of_row rB
  have hlo : ∀ k, ownB g (.slice ae es.length ca) (.slice ao cs.length cap) k → k < w.heap.size := fun k hk => by rcases hk with rfl | q | q; exact hgw; exact hle1 k q; exact hlc1 k q
  go_cut [5] from 6 to 30 (fun u_ wx => ∃ gx, u_ = .pointer (some ⟨gx, 0, none⟩) ∧ w.heap.size < gx ∧ w.heap.size ≤ gx ∧ wx.heap[w.heap.size]? = some (.cells (evr e) 57 (0, 0)) ∧ wx.heap[gx]? = some (.cells (ctr c) 45 (0, 0)) ∧ Bk wx b g (.slice ae es.length ca) (.slice ao cs.length cap) y es cs ∧ (wx).heap[g]? = some (.cells (bkr y (.slice ae es.length ca) (.slice ao cs.length cap)) 51 (0, 0)) ∧ Below w.heap.size w wx)
  case first =>
    have hb : Below w0.heap.size w0 w0.drew := below_drN (Below.refl _ _) 1
    replace rp0 := keep hb rp0
    replace hB := hB.keep hb
    replace rB := keep hb rB
    replace hw := Below.after hw hb
    clear hb
    refine wp_region_noPanic ?_
    refine wp_region_held (S := fun W_ => W_.heap[w.heap.size]? = some (.cells (evr e) 57 (0, 0)) ∧ W_.heap[g]? = some (.cells (bkr y (.slice ae es.length ca) (.slice ao cs.length cap)) 51 (0, 0))) (by kernel_rfl) ?_
    change wpAnyH _ _ _ _ _ _ _ _ (World.drew _)
    generalize w0.drew = wd48 at *
    refine wpAnyH_take (i := 0) (v := ?v49) rfl (by kernel_rfl) (by kernel_rfl) (by kernel_rfl) (fun _ _ _ h => h) (Or.inl ⟨by rfl, ?y49⟩) (⟨rp0, rB⟩) ?r49
    case y49 =>
      intro w_ hS_
      go_simp
      try with_reducible rfl
    simp only [Act.put, List.getElem_toArray, List.getElem_cons_zero, List.setIfInBounds_toArray, List.set_cons_succ, List.set_cons_zero]
    refine wpAnyH_take (i := 1) (v := ?v50) rfl (by kernel_rfl) (by kernel_rfl) (by kernel_rfl) (fun _ _ _ h => h) (Or.inl ⟨by rfl, ?y50⟩) (⟨rp0, rB⟩) ?r50
    case y50 =>
      intro w_ hS_
      go_simp
      try with_reducible rfl
    simp only [Act.put, List.getElem_toArray, List.getElem_cons_succ, List.getElem_cons_zero, List.setIfInBounds_toArray, List.set_cons_succ, List.set_cons_zero]
    refine wpAnyH_take (i := 2) (v := .slice ao cs.length cap) rfl (by kernel_rfl) (by kernel_rfl) (by kernel_rfl) (fun _ _ _ h => h) (Or.inl ⟨by rfl, ?y51⟩) (⟨rp0, rB⟩) ?r51
    case y51 =>
      intro w_ hS_
      have c_ := bkc hkey (hS_.2)
      go_simp
      try with_reducible rfl
    simp only [Act.put, List.getElem_toArray, List.getElem_cons_succ, List.getElem_cons_zero, List.setIfInBounds_toArray, List.set_cons_succ, List.set_cons_zero]
    refine wpAnyH_take (i := 3) (v := ?v52) rfl (by kernel_rfl) (by kernel_rfl) (by kernel_rfl) (fun _ _ _ h => h) (Or.inl ⟨by rfl, ?y52⟩) (⟨rp0, rB⟩) ?r52
    case y52 =>
      intro w_ hS_
      go_simp
      try with_reducible rfl
    simp only [Act.put, List.getElem_toArray, List.getElem_cons_succ, List.getElem_cons_zero, List.setIfInBounds_toArray, List.set_cons_succ, List.set_cons_zero]
    refine wpAnyH_take (i := 4) (v := .string e.n) rfl (by kernel_rfl) (by kernel_rfl) (by kernel_rfl) (fun _ _ _ h => h) (Or.inl ⟨by rfl, ?y53⟩) (⟨rp0, rB⟩) ?r53
    case y53 =>
      intro w_ hS_
      have c_ := cell_at (hS_.1) (ev_n e)
      go_simp
      try with_reducible rfl
    simp only [Act.put, List.getElem_toArray, List.getElem_cons_succ, List.getElem_cons_zero, List.setIfInBounds_toArray, List.set_cons_succ, List.set_cons_zero]
    refine eH_two (j := 5) (k := 6) (fuel := 2) (by kernel_rfl) rfl rfl (by kernel_rfl) (by kernel_rfl) (fun K_ hK_ => ?_) (fun K_ hK_ => ?_)
    · skip
      refine wp_call_ex (f := 18) (by kernel_rfl) (ex1e (cF _ hw)) (fun v_ wq54 hX_ => ?_)
      obtain ⟨rfl, hb⟩ := hX_
      replace rp0 := keep hb rp0
      replace hB := hB.keep hb
      replace rB := keep hb rB
      replace hw := Below.after hw hb
      clear hb
      refine hK_ _ _ (⟨rp0, rB⟩) ?_
      simp only [Act.put, List.getElem_toArray, List.getElem_cons_succ, List.getElem_cons_zero, List.setIfInBounds_toArray, List.set_cons_succ, List.set_cons_zero]
      clear hK_
      refine eH_one (k := 6) (fuel := 1) (by kernel_rfl) rfl (by kernel_rfl) (fun K_ hK_ => ?_)
      refine e_world_op (.pointer (some ⟨wq54.heap.size, 0, none⟩)) (wq54.alloc (.cells (ctr zct) 45)) (by kernel_rfl) ?_
      have hb : Below wq54.heap.size wq54 (wq54.alloc (.cells (ctr zct) 45)) := (Below.refl _ _).alloc (Nat.le_refl _) _
      have rg55 := hp1_0 wq54 (.cells (ctr zct) 45)
      have lt_g55_0 := lt_of_row rp0
      have sz_g55 := hw.size
      replace rp0 := keep hb rp0
      replace hB := hB.keep hb
      replace rB := keep hb rB
      replace hw := Below.after hw hb
      clear hb
      refine hK_ _ _ (⟨rp0, rB⟩) ?_
      simp only [Act.put, List.getElem_toArray, List.getElem_cons_succ, List.getElem_cons_zero, List.setIfInBounds_toArray, List.set_cons_succ, List.set_cons_zero]
      clear hK_
      generalize (wq54.alloc (.cells (ctr zct) 45)) = wq55 at *
      generalize wq54.heap.size = g55 at *
      refine eH_one (k := 7) (fuel := 0) (by kernel_rfl) rfl (by kernel_rfl) (fun K_ hK_ => ?_)
      refine wp_store_row 45 _ _ rfl (g55) (ctr c) rfl rfl 45 _ rg55 (ct_info _ hcok.1.1 hcok.2.1) ((ctr_size _ zct_ok.1.1 zct_ok.2.1).trans (ctr_size _ hcok.1.1 hcok.2.1).symm) (ctr_one _) ?_
      have hN_ := setRow_heap wq55 (g55) _ (ctr c) _ _ rg55
      replace rp0 := (setRow_other wq55 (g55) (w.heap.size) (ctr c) (by omega)).trans rp0
      replace hw := below_setRow hw (show w.heap.size ≤ g55 by omega) (ctr c)
      replace hB := hB.move (fun k_ hk_ => setRow_other wq55 (g55) k_ (ctr c) (by have := (hB.low k_ hk_).2; have := hlo k_ hk_; omega))
      replace rB := (setRow_other wq55 (g55) g (ctr c) (by omega)).trans rB
      generalize (wq55.setRow (g55) (ctr c)) = wq56 at *
      clear rg55
      have rg55 := hN_
      clear hN_
      refine hK_ _ _ (⟨rp0, rB⟩) ?_
      simp only [Act.put]
      clear hK_
      refine wpAnyH_done (by kernel_rfl) ?_ _
      refine NoPanic.normal ?_
      go_wp2_with (fail)
      go_meet
      case rel => exact ⟨g55, rfl, by omega, by omega, rp0, rg55, hB, rB, hw⟩
    · skip
      refine e_world_op (.pointer (some ⟨wd48.heap.size, 0, none⟩)) (wd48.alloc (.cells (ctr zct) 45)) (by kernel_rfl) ?_
      have hb : Below wd48.heap.size wd48 (wd48.alloc (.cells (ctr zct) 45)) := (Below.refl _ _).alloc (Nat.le_refl _) _
      have rg57 := hp1_0 wd48 (.cells (ctr zct) 45)
      have lt_g57_0 := lt_of_row rp0
      have sz_g57 := hw.size
      replace rp0 := keep hb rp0
      replace hB := hB.keep hb
      replace rB := keep hb rB
      replace hw := Below.after hw hb
      clear hb
      refine hK_ _ _ (⟨rp0, rB⟩) ?_
      simp only [Act.put, List.getElem_toArray, List.getElem_cons_succ, List.getElem_cons_zero, List.setIfInBounds_toArray, List.set_cons_succ, List.set_cons_zero]
      clear hK_
      generalize (wd48.alloc (.cells (ctr zct) 45)) = wq57 at *
      generalize wd48.heap.size = g57 at *
      refine eH_one (k := 5) (fuel := 1) (by kernel_rfl) rfl (by kernel_rfl) (fun K_ hK_ => ?_)
      refine wp_call_ex (f := 18) (by kernel_rfl) (ex1e (cF _ hw)) (fun v_ wq58 hX_ => ?_)
      obtain ⟨rfl, hb⟩ := hX_
      replace rp0 := keep hb rp0
      replace rg57 := keep hb rg57
      replace hB := hB.keep hb
      replace rB := keep hb rB
      replace hw := Below.after hw hb
      clear hb
      refine hK_ _ _ (⟨rp0, rB⟩) ?_
      simp only [Act.put, List.getElem_toArray, List.getElem_cons_succ, List.getElem_cons_zero, List.setIfInBounds_toArray, List.set_cons_succ, List.set_cons_zero]
      clear hK_
      refine eH_one (k := 7) (fuel := 0) (by kernel_rfl) rfl (by kernel_rfl) (fun K_ hK_ => ?_)
      refine wp_store_row 45 _ _ rfl (g57) (ctr c) rfl rfl 45 _ rg57 (ct_info _ hcok.1.1 hcok.2.1) ((ctr_size _ zct_ok.1.1 zct_ok.2.1).trans (ctr_size _ hcok.1.1 hcok.2.1).symm) (ctr_one _) ?_
      have hN_ := setRow_heap wq58 (g57) _ (ctr c) _ _ rg57
      replace rp0 := (setRow_other wq58 (g57) (w.heap.size) (ctr c) (by omega)).trans rp0
      replace hw := below_setRow hw (show w.heap.size ≤ g57 by omega) (ctr c)
      replace hB := hB.move (fun k_ hk_ => setRow_other wq58 (g57) k_ (ctr c) (by have := (hB.low k_ hk_).2; have := hlo k_ hk_; omega))
      replace rB := (setRow_other wq58 (g57) g (ctr c) (by omega)).trans rB
      generalize (wq58.setRow (g57) (ctr c)) = wq59 at *
      clear rg57
      have rg57 := hN_
      clear hN_
      refine hK_ _ _ (⟨rp0, rB⟩) ?_
      simp only [Act.put]
      clear hK_
      refine wpAnyH_done (by kernel_rfl) ?_ _
      refine NoPanic.normal ?_
      go_wp2_with (fail)
      go_meet
      case rel => exact ⟨g57, rfl, by omega, by omega, rp0, rg57, hB, rB, hw⟩
  case rest =>
    obtain ⟨gc47, rfl, ltc47_0, szc47, rp0, rc47, hB, rB, hw⟩ := hcut
    have hceH := hide hce
    clear hce cF
    have eQZ := eq_k e.k (zr 32) he.1 (zr_len 32)
    generalize dS4 : (c.s == 4) = xS4 at *
    generalize dQZ : decide (e.k = zr 32) = xQZ at *
    cases xS4
    · skip
      have pS4 : ¬ c.s = 4 := by simpa using dS4
      have hu : Hid (up6 c e = none) := hide (by unfold up6; exact if_neg (fun h => pS4 h.1))
      clear  hst hnm
      have fc29 := cell_at rp0 (ev_d e)
      have fc30 := cell_at rp0 (ev_n e)
      have fc31 := cell_at rc47 (ct_n c)
      have fc32 := cell_at rc47 (ct_s c hcok.1.1 hcok.2.1)
      go_wp2_with (first | (refine wpList_load_part rfl 57 _ rfl (w.heap.size) 0 rfl 57 (evr e) (0, 0) (evr e) _ rp0 (all_rowe _) Tryd.underlying57 rfl (ev_info _ he.1) ?_) | (refine wpList_load_part rfl 23 _ rfl (w.heap.size) 2 rfl 57 (evr e) (0, 0) (irow .u8 e.k) _ rp0 (ev_k e he.1) Tryd.underlying23 rfl (infoKy _ he.1) ?_) | (refine wpList_load_part rfl 45 _ rfl (gc47) 0 rfl 45 (ctr c) (0, 0) (ctr c) _ rc47 (all_rowe _) Tryd.underlying45 rfl (ct_info _ hcok.1.1 hcok.2.1) ?_) | (refine wpList_load_part rfl 23 _ rfl (gc47) 1 rfl 45 (ctr c) (0, 0) (irow .u8 c.k) _ rc47 (ct_k c hcok.1.1) Tryd.underlying23 rfl (infoKy _ hcok.1.1) ?_) | (refine wpList_load_part rfl 23 _ rfl (gc47) 33 rfl 45 (ctr c) (0, 0) (irow .u8 c.x) _ rc47 (ct_x c hcok.1.1 hcok.2.1) Tryd.underlying23 rfl (infoKy _ hcok.2.1) ?_) | (refine wpList_build_want rfl 23 _ rfl [] rfl (irow .u8 (zr 32)) builtZk ?_) | fail)
      clear fc29 fc30 fc31 fc32
      go_ret
      exact ⟨by rw [hu.out]; rfl, by rw [hu.out]; exact hB, Fr.of hw⟩
    · skip
      cases xQZ
      · skip
        have pS4 : c.s = 4 := by simpa using dS4
        have pQZ : ¬ e.k = zr 32 := by simpa using dQZ
        have hu : Hid (up6 c e = none) := hide (by unfold up6; exact if_neg (fun h => pQZ h.2))
        clear pQZ hst hnm
        have fc33 := cell_at rp0 (ev_d e)
        have fc34 := cell_at rp0 (ev_n e)
        have fc35 := cell_at rc47 (ct_n c)
        have fc36 := cell_at rc47 (ct_s c hcok.1.1 hcok.2.1)
        go_wp2_with (first | (refine wpList_load_part rfl 57 _ rfl (w.heap.size) 0 rfl 57 (evr e) (0, 0) (evr e) _ rp0 (all_rowe _) Tryd.underlying57 rfl (ev_info _ he.1) ?_) | (refine wpList_load_part rfl 23 _ rfl (w.heap.size) 2 rfl 57 (evr e) (0, 0) (irow .u8 e.k) _ rp0 (ev_k e he.1) Tryd.underlying23 rfl (infoKy _ he.1) ?_) | (refine wpList_load_part rfl 45 _ rfl (gc47) 0 rfl 45 (ctr c) (0, 0) (ctr c) _ rc47 (all_rowe _) Tryd.underlying45 rfl (ct_info _ hcok.1.1 hcok.2.1) ?_) | (refine wpList_load_part rfl 23 _ rfl (gc47) 1 rfl 45 (ctr c) (0, 0) (irow .u8 c.k) _ rc47 (ct_k c hcok.1.1) Tryd.underlying23 rfl (infoKy _ hcok.1.1) ?_) | (refine wpList_load_part rfl 23 _ rfl (gc47) 33 rfl 45 (ctr c) (0, 0) (irow .u8 c.x) _ rc47 (ct_x c hcok.1.1 hcok.2.1) Tryd.underlying23 rfl (infoKy _ hcok.2.1) ?_) | (refine wpList_build_want rfl 23 _ rfl [] rfl (irow .u8 (zr 32)) builtZk ?_) | fail)
        clear fc33 fc34 fc35 fc36
        go_ret
        exact ⟨by rw [hu.out]; rfl, by rw [hu.out]; exact hB, Fr.of hw⟩
      · skip
        have pS4 : c.s = 4 := by simpa using dS4
        have pQZ : e.k = zr 32 := by simpa using dQZ
        have hu : Hid (up6 c e = some ⟨c.n, c.k, zr 32, 1⟩) := hide (by unfold up6; exact if_pos ⟨pS4, pQZ⟩)
        have hs0 : c.s ≠ 0 := by first | omega | (unfold clm at pCL; simp only [Bool.or_eq_true, beq_iff_eq] at pCL; omega)
        have hth : th cs c.n = true := by rw [(hnm hs0).2]; exact (hnm hs0).1
        clear pQZ hst hnm hs0
        have fc37 := cell_at rp0 (ev_d e)
        have fc38 := cell_at rp0 (ev_n e)
        have fc39 := cell_at rc47 (ct_n c)
        have fc40 := cell_at rc47 (ct_s c hcok.1.1 hcok.2.1)
        go_wp2_with (first | (refine wpList_load_part rfl 57 _ rfl (w.heap.size) 0 rfl 57 (evr e) (0, 0) (evr e) _ rp0 (all_rowe _) Tryd.underlying57 rfl (ev_info _ he.1) ?_) | (refine wpList_load_part rfl 23 _ rfl (w.heap.size) 2 rfl 57 (evr e) (0, 0) (irow .u8 e.k) _ rp0 (ev_k e he.1) Tryd.underlying23 rfl (infoKy _ he.1) ?_) | (refine wpList_load_part rfl 45 _ rfl (gc47) 0 rfl 45 (ctr c) (0, 0) (ctr c) _ rc47 (all_rowe _) Tryd.underlying45 rfl (ct_info _ hcok.1.1 hcok.2.1) ?_) | (refine wpList_load_part rfl 23 _ rfl (gc47) 1 rfl 45 (ctr c) (0, 0) (irow .u8 c.k) _ rc47 (ct_k c hcok.1.1) Tryd.underlying23 rfl (infoKy _ hcok.1.1) ?_) | (refine wpList_load_part rfl 23 _ rfl (gc47) 33 rfl 45 (ctr c) (0, 0) (irow .u8 c.x) _ rc47 (ct_x c hcok.1.1 hcok.2.1) Tryd.underlying23 rfl (infoKy _ hcok.2.1) ?_) | (refine wpList_build_want rfl 23 _ rfl [] rfl (irow .u8 (zr 32)) builtZk ?_) | fail)
        clear fc37 fc38 fc39 fc40
        have hb : Below wc.heap.size wc wc.drew := below_drN (Below.refl _ _) 1
        replace rp0 := keep hb rp0
        replace rc47 := keep hb rc47
        replace hB := hB.keep hb
        replace rB := keep hb rB
        replace hw := Below.after hw hb
        clear hb
        refine wp_region_noPanic ?_
        refine wp_region_held (S := fun W_ => W_.heap[w.heap.size]? = some (.cells (evr e) 57 (0, 0)) ∧ W_.heap[gc47]? = some (.cells (ctr c) 45 (0, 0)) ∧ W_.heap[g]? = some (.cells (bkr y (.slice ae es.length ca) (.slice ao cs.length cap)) 51 (0, 0))) (by kernel_rfl) ?_
        change wpAnyH _ _ _ _ _ _ _ _ (World.drew _)
        generalize wc.drew = wd60 at *
        refine wpAnyH_take (i := 0) (v := ?v61) rfl (by kernel_rfl) (by kernel_rfl) (by kernel_rfl) (fun _ _ _ h => h) (Or.inl ⟨by rfl, ?y61⟩) (⟨rp0, rc47, rB⟩) ?r61
        case y61 =>
          intro w_ hS_
          go_simp
          try with_reducible rfl
        simp only [Act.put, List.getElem_toArray, List.getElem_cons_zero, List.setIfInBounds_toArray, List.set_cons_succ, List.set_cons_zero]
        refine wpAnyH_take (i := 1) (v := ?v62) rfl (by kernel_rfl) (by kernel_rfl) (by kernel_rfl) (fun _ _ _ h => h) (Or.inl ⟨by rfl, ?y62⟩) (⟨rp0, rc47, rB⟩) ?r62
        case y62 =>
          intro w_ hS_
          go_simp
          try with_reducible rfl
        simp only [Act.put, List.getElem_toArray, List.getElem_cons_succ, List.getElem_cons_zero, List.setIfInBounds_toArray, List.set_cons_succ, List.set_cons_zero]
        refine wpAnyH_take (i := 2) (v := .slice ao cs.length cap) rfl (by kernel_rfl) (by kernel_rfl) (by kernel_rfl) (fun _ _ _ h => h) (Or.inl ⟨by rfl, ?y63⟩) (⟨rp0, rc47, rB⟩) ?r63
        case y63 =>
          intro w_ hS_
          have c_ := bkc hkey (hS_.2.2)
          go_simp
          try with_reducible rfl
        simp only [Act.put, List.getElem_toArray, List.getElem_cons_succ, List.getElem_cons_zero, List.setIfInBounds_toArray, List.set_cons_succ, List.set_cons_zero]
        refine wpAnyH_take (i := 3) (v := ?v64) rfl (by kernel_rfl) (by kernel_rfl) (by kernel_rfl) (fun _ _ _ h => h) (Or.inl ⟨by rfl, ?y64⟩) (⟨rp0, rc47, rB⟩) ?r64
        case y64 =>
          intro w_ hS_
          go_simp
          try with_reducible rfl
        simp only [Act.put, List.getElem_toArray, List.getElem_cons_succ, List.getElem_cons_zero, List.setIfInBounds_toArray, List.set_cons_succ, List.set_cons_zero]
        refine wpAnyH_take (i := 4) (v := .string c.n) rfl (by kernel_rfl) (by kernel_rfl) (by kernel_rfl) (fun _ _ _ h => h) (Or.inl ⟨by rfl, ?y65⟩) (⟨rp0, rc47, rB⟩) ?r65
        case y65 =>
          intro w_ hS_
          have c_ := cell_at (hS_.2.1) (ct_n c)
          go_simp
          try with_reducible rfl
        simp only [Act.put, List.getElem_toArray, List.getElem_cons_succ, List.getElem_cons_zero, List.setIfInBounds_toArray, List.set_cons_succ, List.set_cons_zero]
        refine wpAnyH_take (i := 5) (v := ?v66) rfl (by kernel_rfl) (by kernel_rfl) (by kernel_rfl) (fun _ _ _ h => h) (Or.inl ⟨by rfl, ?y66⟩) (⟨rp0, rc47, rB⟩) ?r66
        case y66 =>
          intro w_ hS_
          go_simp
          try with_reducible rfl
        simp only [Act.put, List.getElem_toArray, List.getElem_cons_succ, List.getElem_cons_zero, List.setIfInBounds_toArray, List.set_cons_succ, List.set_cons_zero]
        refine wpAnyH_take (i := 6) (v := .agg (irow .u8 c.k)) rfl (by kernel_rfl) (by kernel_rfl) (by kernel_rfl) (fun _ _ _ h => h) (Or.inl ⟨by rfl, ?y67⟩) (⟨rp0, rc47, rB⟩) ?r67
        case y67 =>
          intro w_ hS_
          simp only [List.getElem_toArray, List.getElem_cons_succ, List.getElem_cons_zero]
          exact e_load_part 23 _ (by rfl) (gc47) 1 (by rfl) 45 (ctr c) (0, 0) (irow .u8 c.k) _ (hS_.2.1) (ct_k c hcok.1.1) Tryd.underlying23 rfl (infoKy _ hcok.1.1)
        simp only [Act.put, List.getElem_toArray, List.getElem_cons_succ, List.getElem_cons_zero, List.setIfInBounds_toArray, List.set_cons_succ, List.set_cons_zero]
        refine wpAnyH_take (i := 7) (v := .agg (ctr ⟨c.n, c.k, zr 32, 1⟩)) rfl (by kernel_rfl) (by kernel_rfl) (by kernel_rfl) (fun _ _ _ h => h) (Or.inl ⟨by rfl, ?y68⟩) (⟨rp0, rc47, rB⟩) ?r68
        case y68 =>
          intro w_ hS_
          simp only [List.getElem_toArray, List.getElem_cons_succ, List.getElem_cons_zero]
          exact run_build_op 45 _ (by rfl) [(0, .string c.n), (1, .agg (irow .u8 c.k)), (3, .int .i64 1)] (by rfl) _ (bt_3 c.n c.k 1 hcok.1.1)
        simp only [Act.put, List.getElem_toArray, List.getElem_cons_succ, List.getElem_cons_zero, List.setIfInBounds_toArray, List.set_cons_succ, List.set_cons_zero]
        refine eH_one (k := 8) (fuel := 0) (by kernel_rfl) rfl (by kernel_rfl) (fun K_ hK_ => ?_)
        refine wp_call_ex (f := 64) (R := fun v_ w_ => v_ = .tuple #[] ∧ OwnC w_ b (Value.slice ao cs.length cap) (putC cs ⟨c.n, c.k, zr 32, 1⟩) ∧ Fr (fun k => (Value.slice ao cs.length cap).ownBlock = some k) wd60 w_) (by kernel_rfl) ((a_put cs ⟨c.n, c.k, zr 32, 1⟩ ⟨hcok.1, k32_zero⟩ b _ _ hB.cts hB.srt (by omega) hth).mono (fun e_ w_ h_ => ⟨_, h_.1, rfl, h_.2⟩)) (fun v_ wq69 hX_ => ?_)
        obtain ⟨rfl, hO2, hF2⟩ := hX_
        have hB2 := hB.put (c := ⟨c.n, c.k, zr 32, 1⟩) hth (by simp) hO2 hF2
        have hT : Fr (ownB g (Value.slice ae es.length ca) (Value.slice ao cs.length cap)) w wq69 := (Fr.of hw).step (hF2.book (ve := (Value.slice ae es.length ca)) (g := g)) (fun _ _ q => q)
        have hS2 : wq69.heap[w.heap.size]? = some (.cells (evr e) 57 (0, 0)) ∧ wq69.heap[gc47]? = some (.cells (ctr c) 45 (0, 0)) ∧ wq69.heap[g]? = some (.cells (bkr y (.slice ae es.length ca) (.slice ao cs.length cap)) 51 (0, 0)) := ⟨hF2.row rp0 (own_type hB.cts.1 rp0 (by decide)), (hF2.row rc47 (fun q => by have := hlc1 _ q; omega)), hB2.row⟩
        refine hK_ _ _ hS2 ?_
        simp only [Act.put, List.getElem_toArray, List.getElem_cons_succ, List.getElem_cons_zero, List.setIfInBounds_toArray, List.set_cons_succ, List.set_cons_zero]
        clear hK_
        refine wpAnyH_done (by kernel_rfl) ?_ _
        refine NoPanic.normal ?_
        go_wp2_with (fail)
        go_ret
        exact ⟨by rw [hu.out]; rfl, by rw [hu.out]; exact hB2, hT⟩
end Go.Proofs.YtlbcdjflcghkeaaDoor
