import Derived.Test.YtmflfdedhbnfnaaDoorProg
import Derived.WalkKit
import Derived.WalkSpells
import Derived.WalkLawsBesides
import Derived.Lib.QuietBelow
import Derived.BigQuiet
import Derived.OrdersHeld
import Derived.Laws.MakeOwn
import Derived.RangeFuncBox
import Derived.RangeFuncNested
import Derived.RangeFuncBound
import Derived.RangeFuncCalls
import Derived.RangeFuncLeaves
import Derived.Shelf.Abstract
import Derived.Shelf.RegionOpen
import Derived.OwnWalkIn
import Derived.TacticsInMore
import Derived.LoopNIn
import Derived.LoopIn
import Derived.OwnWalk
import Derived.Deep.RegionHeld3
import Derived.Test.YtmflfdedhbnfnaaDoorS0
import Derived.Test.YtmflfdedhbnfnaaDoorS6
namespace Go.Proofs.YtmflfdedhbnfnaaDoor
set_option maxRecDepth 100000
open Go Go.RowKit Go.Sort
attribute [local go_sem] setCell_drewN alloc_drewN

attribute [local go_sem] Oper.semAt_some
theorem wp_append_Ks {w : World} {o : Oper} {a : Act} {K : Act → World → Prop} {Q : Exit → Act → World → Prop} (s x : Operand) (ho : o.op = .call { callee := .builtin .append, args := #[s, x], argTypes := #[57, 57] })
    (base : Nat) (v : Value) (ks : List (List Int)) (hs : a.eval s = v) (hI : OwnK w base v ks) (b2 : Nat) (y : Value) (es : List (List Int)) (hx : a.eval x = y) (hE : OwnK w b2 y es) (hlen : ks.length + es.length ≤ 1000000) (hbase : base ≤ w.heap.size)
    (h : ∀ v' w', OwnK w' base v' (ks ++ es) → w.grownBy w' v.ownBlock → Nx w v v' → K (a.put o.dst v') w') : o.wp Tryd.prog a w K Q := by
  obtain ⟨i0, hi, hz0, hz1, hz2⟩ := infoKy
  rcases hE.2 with ⟨rfl, h0⟩ | ⟨g, cap, cur, rfl, _⟩
  · obtain rfl : es = [] := List.length_eq_zero_iff.1 h0
    have hrun := run_append_owned_none (P := Tryd.prog) w base 57 o.type 23 i0 32 Tryd.underlying57 hi _ ks.length _ hI
    unfold Oper.wp
    simp [execOp, ho, resolve, invoke, builtin, hs, hx, hrun, Result.andThen]
    exact h v w (by simpa using hI) (World.grownBy.refl _ _) (Nx.refl _ _)
  · refine wp_append_nx s x 57 ho base 23 i0 (.agg (irow .u8 (zr 32))) 32 32 Tryd.underlying57 hi hz0 hz1 hz2 rfl (by decide) v ks.length (kcs ks) hs hI ⟨g, 0, none⟩ es.length cap (kcs es) hx hE.1 (World.ownsRow.cells hE rfl) ?_ (by unfold maxLen; omega) (by omega) hbase (fun v' w' h1 h2 h3 => h v' w' ?_ h2 h3)
    · intro u hu
      simp only [kcs, List.mem_flatMap, List.mem_map] at hu
      obtain ⟨k, _, z, _, rfl⟩ := hu
      rfl
    · unfold OwnK
      rw [kcs_app, List.length_append]
      exact h1
theorem msgs_all (key : List Int) (m : Nat) : ∀ k ∈ msgs key m, k.length = 32 := by
  intro k hk
  simp only [msgs, List.mem_map] at hk
  obtain ⟨i, _, rfl⟩ := hk
  exact mat_len key i
theorem msgs_get (key : List Int) (m : Nat) : ∀ i, i < m → (msgs key m).getD i [] = mat key i := by
  intro i hi
  simp [msgs, List.getD_eq_getElem?_getD, hi]
theorem ecut4 {G : Prop} {A : Nat → Nat → Value → Value → World → Prop} (T : Nat → Nat → Value → Value → World → Prop) (h1 : (∀ a b c d W, T a b c d W → A a b c d W) → G) (h2 : ∀ a b c d W, T a b c d W → A a b c d W) : G := h1 h2
theorem lt_of_heap {W : World} {g : Nat} {o : Obj} (h : W.heap[g]? = some o) : g < W.heap.size := (Array.getElem?_eq_some_iff.1 h).1
theorem ownK_empty {W : World} {g : Nat} (r : W.heap[g]? = some (.cells #[] 23 (0, 0))) : OwnK W g (.slice (some ⟨g, 0, none⟩) 0 0) [] := ⟨rfl, .inr ⟨g, 0, #[], rfl, Nat.le_refl _, r, Nat.le_refl _, by decide, rfl, rfl⟩⟩
theorem nilfn (lb : Array Value) (W : World) : (binOp .eql 59 (.func (.func 37) #[] lb) .nilFunc).run Tryd.prog W = .ok (.bool false) W := by kernel_rfl
/-- What holds between two rounds. -/
def FwJ (w w4 : World) (e : Nat) (key : List Int) (r : Loop) (i : Nat) (A : World) : Prop :=
  A.heap[e + 5]? = some (.loop r) ∧ A.heap[e + 4]? = some (.deferred (some [])) ∧ (∃ v, A.heap[e + 1]? = some (.cells #[v] 57 (0, 0)) ∧ OwnK A e v (msgs key i) ∧ ∀ k, v.ownBlock = some k → k = e ∨ e + 9 ≤ k) ∧ (∀ g, g < e → A.heap[g]? = w4.heap[g]?) ∧ Below w.heap.size w A
theorem results_cell_bool {P : Program} {fn : Func} {p : Tmp} {ty : TypeId} (h : fn.results = #[.cell p ty]) (tmps : Array Value) (w : World) (g : Nat) (v : Value) (hp : tmps.getD p undef = .pointer (some ⟨g, 0, none⟩)) (hg : (loadVar ty ⟨g, 0, none⟩).run P w = .ok v w) : (results fn tmps).run P w = .ok v w := by
  have hp' : tmps[p]?.getD undef = .pointer (some ⟨g, 0, none⟩) := by simpa using hp
  simp [results, h, hp', asAddr, hg]
theorem row_cell_set {w : World} {g : Nat} {u : Value} {t : TypeId} (h : w.heap[g]? = some (.cells #[u] t (0, 0))) (b : Value) : (loadVar 4 ⟨g, 0, none⟩).run Tryd.prog (w.setCell ⟨g, 0, none⟩ b) = .ok b (w.setCell ⟨g, 0, none⟩ b) := by
  have r := row_set h 0 b
  have c : (w.setCell ⟨g, 0, none⟩ b).cell? ⟨g, 0, none⟩ = some b := by rw [cell_of_row _ g 0 _ _ _ r]; rfl
  simp [loadVar, c, go_sem]
theorem row_load {w : World} {g : Nat} {b : Value} {t : TypeId} (h : w.heap[g]? = some (.cells #[b] t (0, 0))) : (loadVar 4 ⟨g, 0, none⟩).run Tryd.prog w = .ok b w := by
  have c : w.cell? ⟨g, 0, none⟩ = some b := by rw [cell_of_row _ g 0 _ _ _ h]; rfl
  simp [loadVar, c, go_sem]
theorem new_k (key : List Int) (hkl : key.length = 32) (n : Int) (w : World) : Calls Tryd.prog 14 #[.agg (irow .u8 key), .int .u32 n] w fun e w' => ∃ v, e = .returned v ∧ ((∃ g, v = .pointer (some ⟨g, 0, none⟩) ∧ w.heap.size ≤ g ∧ w'.heap[g]? = some (.cells (chc key n) 75 (0, 0))) ∧ Below w.heap.size w w') :=
  (a_New key hkl n w).mono fun _ _ ⟨g, h1, h2, h3, h4⟩ => ⟨_, h1, ⟨g, rfl, h2, h3⟩, h4⟩
set_option maxRecDepth 100000 in
set_option maxHeartbeats 4000000 in
theorem forward_aux (key : List Int) (hkl : key.length = 32) (hkz : ∀ z ∈ key, 0 ≤ z ∧ z < 256) (n : Int) (hn0 : 0 ≤ n) (hn1 : n ≤ 4294967295) (st : Int) (q : Nat) (hq : q ≤ 39) (hst : st.tmod 40 = (q : Int) ∨ (st.tmod 40 = -(q : Int) ∧ 0 < q)) (w : World) (hS : Sta w) (hK : Kon w) : Calls Tryd.prog 5 #[.agg (irow .u8 key), .int .u32 n, .int .i64 st] w fun e w' => e = .returned (.bool true) ∧ Below w.heap.size w w' := by
  have R0 := hp3_0 w (.cells (irow .u8 key) 23) (.cells #[.int .u32 n] 36) (.cells #[.bool false] 4)
  have R1 := hp3_1 w (.cells (irow .u8 key) 23) (.cells #[.int .u32 n] 36) (.cells #[.bool false] 4)
  have R2 := hp3_2 w (.cells (irow .u8 key) 23) (.cells #[.int .u32 n] 36) (.cells #[.bool false] 4)
  have hw : Below w.heap.size w (((w.alloc (.cells (irow .u8 key) 23)).alloc (.cells #[.int .u32 n] 36)).alloc (.cells #[.bool false] 4)) := ((((Below.refl _ _).alloc (Nat.le_refl _) _).alloc (by simp) _).alloc (by simp; omega) _)
  have f0 := hS.below hw
  have f4 := hK.below hw
  refine (callsIn_wide (n := 4)).1 (callsIn_of_wp_marks Tryd.func5 rfl trivial ?_)
  refine wpIn_wide.2 ?_
  simp only [Tryd.ntmps5, List.size_toArray, List.length_cons, List.length_nil, Nat.reduceAdd, Nat.reduceSub, Array.replicate_succ, Array.replicate_zero, List.push_toArray, List.append_toArray, List.nil_append, List.cons_append]
  have eK := eqKs key hkl
  rcases hst with hst | ⟨hst, hq0⟩
  · have hd : decide ((q : Int) < 0) = false := by simp
    go_wp2_with (first | (refine wpList_box rfl 23 _ rfl _ rfl (bK _) ?_) | fail)
    try simp only [size_alloc1, Act.put, List.setIfInBounds_toArray, List.set_cons_succ, List.set_cons_zero]
    clear hd hst
    generalize (((w.alloc (.cells (irow .u8 key) 23)).alloc (.cells #[.int .u32 n] 36)).alloc (.cells #[.bool false] 4)) = w0 at *
    have hbd : Below w0.heap.size w0 w0.drew := below_drN (Below.refl _ _) 1
    replace R0 := keep hbd R0
    replace R1 := keep hbd R1
    replace R2 := keep hbd R2
    replace f0 := f0.below hbd
    replace f4 := f4.below hbd
    replace hw := Below.after hw hbd
    clear hbd
    refine wp_region_noPanic ?_
    refine wp_region_held (S := fun W => W.heap[w.heap.size]? = some (.cells (irow .u8 key) 23 (0, 0)) ∧ W.heap[w.heap.size + 1]? = some (.cells #[.int .u32 n] 36 (0, 0))) (by kernel_rfl) ?_
    change wpAnyH _ _ _ _ _ _ _ _ (World.drew _)
    generalize w0.drew = w1 at *
    refine wpAnyH_take (i := 0) (v := .agg (irow .u8 key)) rfl (by kernel_rfl) (by kernel_rfl) (by kernel_rfl) (fun _ _ _ h => h) (Or.inl ⟨by rfl, ?y3⟩) (⟨R0, R1⟩) ?r3
    case y3 =>
      intro w_ hS_
      simp only [List.getElem_toArray, List.getElem_cons_zero]
      exact run_load_part 23 _ (by rfl) (w.heap.size) 0 (by rfl) 23 (irow .u8 key) (0, 0) (irow .u8 key) _ (hS_.1) (all_row _) Tryd.underlying23 rfl (infok8 _ hkl)
    simp only [Act.put, List.getElem_toArray, List.getElem_cons_zero, List.setIfInBounds_toArray, List.set_cons_succ, List.set_cons_zero]
    refine wpAnyH_take (i := 1) (v := .int .u32 n) rfl (by kernel_rfl) (by kernel_rfl) (by kernel_rfl) (fun _ _ _ h => h) (Or.inl ⟨by rfl, ?y4⟩) (⟨R0, R1⟩) ?r4
    case y4 =>
      intro w_ hS_
      have c_ : w_.cell? ⟨w.heap.size + 1, 0, none⟩ = some (.int .u32 n) := by rw [cell_of_row _ _ 0 _ _ _ hS_.2]; rfl
      go_simp
      try with_reducible rfl
    simp only [Act.put, List.getElem_toArray, List.getElem_cons_succ, List.getElem_cons_zero, List.setIfInBounds_toArray, List.set_cons_succ, List.set_cons_zero]
    refine wpAnyH_take (i := 3) (v := .agg (irow .u8 key)) rfl (by kernel_rfl) (by kernel_rfl) (by kernel_rfl) (fun _ _ _ h => h) (Or.inl ⟨by rfl, ?y5⟩) (⟨R0, R1⟩) ?r5
    case y5 =>
      intro w_ hS_
      simp only [List.getElem_toArray, List.getElem_cons_succ, List.getElem_cons_zero]
      exact run_load_part 23 _ (by rfl) (w.heap.size) 0 (by rfl) 23 (irow .u8 key) (0, 0) (irow .u8 key) _ (hS_.1) (all_row _) Tryd.underlying23 rfl (infok8 _ hkl)
    simp only [Act.put, List.getElem_toArray, List.getElem_cons_succ, List.getElem_cons_zero, List.setIfInBounds_toArray, List.set_cons_succ, List.set_cons_zero]
    refine wpAnyH_take (i := 4) (v := .int .u32 n) rfl (by kernel_rfl) (by kernel_rfl) (by kernel_rfl) (fun _ _ _ h => h) (Or.inl ⟨by rfl, ?y6⟩) (⟨R0, R1⟩) ?r6
    case y6 =>
      intro w_ hS_
      have c_ : w_.cell? ⟨w.heap.size + 1, 0, none⟩ = some (.int .u32 n) := by rw [cell_of_row _ _ 0 _ _ _ hS_.2]; rfl
      go_simp
      try with_reducible rfl
    simp only [Act.put, List.getElem_toArray, List.getElem_cons_succ, List.getElem_cons_zero, List.setIfInBounds_toArray, List.set_cons_succ, List.set_cons_zero]
    refine wpAnyH_one (k := 2) (fuel := 3) (by kernel_rfl) rfl (by kernel_rfl) (fun K_ hK_ => ?_)
    refine wp_call_ex (f := 14) (by kernel_rfl) (new_k key hkl n w1) (fun v_ q1 hX_ => ?_)
    obtain ⟨⟨ga, rfl, lga, ra⟩, hb_⟩ := hX_
    have hzga := hw.size
    have ltR2_ := lt_of_row R2
    replace R0 := keep hb_ R0
    replace R1 := keep hb_ R1
    replace R2 := keep hb_ R2
    replace f0 := f0.below hb_
    replace f4 := f4.below hb_
    replace hw := Below.after hw hb_
    clear hb_
    refine hK_ _ _ (⟨R0, R1⟩) ?_
    simp only [Act.put, List.getElem_toArray, List.getElem_cons_succ, List.getElem_cons_zero, List.setIfInBounds_toArray, List.set_cons_succ, List.set_cons_zero]
    clear hK_
    refine wpAnyH_one (k := 5) (fuel := 2) (by kernel_rfl) rfl (by kernel_rfl) (fun K_ hK_ => ?_)
    refine wp_call_ex (f := 14) (by kernel_rfl) (new_k key hkl n q1) (fun v_ q2 hX_ => ?_)
    obtain ⟨⟨gb, rfl, lgb, rb⟩, hb_⟩ := hX_
    have hzgb := hw.size
    have lta := lt_of_row ra
    replace R0 := keep hb_ R0
    replace R1 := keep hb_ R1
    replace R2 := keep hb_ R2
    replace ra := keep hb_ ra
    replace f0 := f0.below hb_
    replace f4 := f4.below hb_
    replace hw := Below.after hw hb_
    clear hb_
    refine hK_ _ _ (⟨R0, R1⟩) ?_
    simp only [Act.put, List.getElem_toArray, List.getElem_cons_succ, List.getElem_cons_zero, List.setIfInBounds_toArray, List.set_cons_succ, List.set_cons_zero]
    clear hK_
    refine wpAnyH_take (i := 6) (v := ?v7) rfl (by kernel_rfl) (by kernel_rfl) (by kernel_rfl) (fun _ _ _ h => h) (Or.inl ⟨by rfl, ?y7⟩) (⟨R0, R1⟩) ?r7
    case y7 =>
      intro w_ hS_
      go_simp
      try with_reducible rfl
    simp only [Act.put, List.getElem_toArray, List.getElem_cons_succ, List.getElem_cons_zero, List.setIfInBounds_toArray, List.set_cons_succ, List.set_cons_zero]
    refine wpAnyH_take (i := 7) (v := ?v8) rfl (by kernel_rfl) (by kernel_rfl) (by kernel_rfl) (fun _ _ _ h => h) (Or.inl ⟨by rfl, ?y8⟩) (⟨R0, R1⟩) ?r8
    case y8 =>
      intro w_ hS_
      go_simp
      try with_reducible rfl
    simp only [Act.put, List.getElem_toArray, List.getElem_cons_succ, List.getElem_cons_zero, List.setIfInBounds_toArray, List.set_cons_succ, List.set_cons_zero]
    refine wpAnyH_done (by kernel_rfl) ?_ _
    refine NoPanic.normal ?_
    have hne : ga ≠ gb := by omega
    have hgw2_ : w.heap.size + 2 < ga := by omega
    have hgw3_ : w.heap.size + 2 < gb := by omega
    have hlow : w.heap.size ≤ gb := by omega
    clear hzgb lta lgb
    go_wp2_with (fail)
    have cN : GivesB q2 16 #[.pointer (some ⟨ga, 0, none⟩)] (.int .u32 n) := fun V h => a_N key hkl n V ga (keep h ra)
    have cK : GivesB q2 15 #[.pointer (some ⟨ga, 0, none⟩)] (.agg (irow .u8 key)) := fun V h => a_Key key hkl n V ga (keep h ra)
    have q1 : ∀ p : Regrown, (grow (redrawn q2 p.d) p.os).cell? ⟨w.heap.size + 1, 0, none⟩ = some (.int .u32 n) := fun p => cell_regrown (by rw [cell_of_row _ _ 0 _ _ _ R1]; rfl) p.d p.os
    have HR0 := keepr R0
    have HR1 := keepr R1
    have HR2 := keepr R2
    have Hra := keepr ra
    have Hrb := keepr rb
    refine wp_region_quiet_below (by kernel_rfl) (by kernel_rfl) ?_
    go_big_quiet_step (fail)
    go_big_quiet_step (fail)
    go_big_quiet_step (fail)
    go_big_quiet_step (fail)
    go_big_quiet_step (fail)
    go_big_quiet_step (fail)
    go_big_quiet_step (fail)
    go_big_quiet_step (fail)
    go_big_quiet_step (exact cN.re)
    go_big_quiet_step (fail)
    go_big_quiet_step (fail)
    go_big_quiet_step (fail)
    go_big_quiet_step (fail)
    go_big_quiet_step (fail)
    go_big_quiet_step (exact cK.re)
    refine wpQuiet_load_part rfl 23 _ rfl (w.heap.size) 0 rfl 23 (irow .u8 key) (0, 0) (irow .u8 key) _ HR0.out (all_row _) Tryd.underlying23 rfl (infok8 _ hkl) ?_
    simp only [Act.put, List.setIfInBounds_toArray, List.set_cons_succ, List.set_cons_zero]
    go_big_quiet_step (fail)
    go_big_quiet_step (fail)
    refine wpQuiet_nil ?_
    rintro _ ⟨p, rfl⟩
    have hb := below_regrown q2 p.d p.os
    generalize grow (redrawn q2 p.d) p.os = w3 at *
    clear HR0 HR1 HR2 Hra Hrb
    replace R0 := keep hb R0
    replace R1 := keep hb R1
    replace R2 := keep hb R2
    replace ra := keep hb ra
    replace rb := keep hb rb
    replace f0 := f0.below hb
    replace f4 := f4.below hb
    replace hw := Below.after hw hb
    clear hb
    clear cN cK q1
    have cn : w3.cell? ⟨w.heap.size + 1, 0, none⟩ = some (.int .u32 n) := by rw [cell_of_row _ _ 0 _ _ _ R1]; rfl
    by_cases hE : 4294967295 < n + (q : Int) + 1
    · have hd : decide (n + (q : Int) + 1 > 4294967295) = true := by simp; omega
      go_wp2_with (first | (refine wpList_load_want rfl 23 _ rfl (w.heap.size) rfl 23 (irow .u8 key) (0, 0) _ R0 Tryd.underlying23 rfl (infok8 _ hkl) ?_) | fail)
      refine (a_New key hkl 4294967295 w3).mono ?_
      rintro e_ w4 ⟨gc, rfl, lgc, rc, hb⟩
      replace R2 := keep hb R2
      replace hw := Below.after hw hb
      clear hb
      go_wp2_with (fail)
      refine (a_Next_end key hkl w4 gc rc).mono ?_
      rintro e_ w5 ⟨rfl, hb⟩
      replace R2 := keep hb R2
      replace hw := Below.after hw hb
      clear hb cn hd
      have ze0 := hp1_0 w5 (.cells (irow .u8 (zr 32)) 23)
      have ye00 := setRow_heap (w5.alloc (.cells (irow .u8 (zr 32)) 23)) (w5.heap.size) _ (irow .u8 (zr 32)) _ _ ze0
      have hbF : Below w5.heap.size w5 ((w5.alloc (.cells (irow .u8 (zr 32)) 23)).setRow (w5.heap.size) (irow .u8 (zr 32))) := (below_setRow ((Below.refl _ _).alloc (Nat.le_refl _) _) (show w5.heap.size ≤ w5.heap.size by omega) (irow .u8 (zr 32)))
      go_wp2_with (first | (refine wpList_alloc rfl 23 rfl (irow .u8 (zr 32)) zkey ?_) | (refine wpList_store_row rfl 23 _ _ rfl (w5.heap.size) (irow .u8 (zr 32)) rfl rfl 23 _ ze0 (infok8 _ (zr_len 32)) rfl (irow_one _ _) ?_; refine wpList_stay ?_) | fail)
      unfold WpStay
      replace R2 := keep hbF R2
      replace hw := Below.after hw hbF
      clear hbF ze0
      generalize ((w5.alloc (.cells (irow .u8 (zr 32)) 23)).setRow (w5.heap.size) (irow .u8 (zr 32))) = w6 at *
      have c6 : w6.cell? ⟨w.heap.size + 1 + 1, 0, none⟩ = some (.bool false) := by rw [cell_of_row _ _ 0 _ _ _ R2]; rfl
      have f6 : w6.frozen? ⟨w.heap.size + 1 + 1, 0, none⟩ = false := by simp [World.frozen?, R2]
      go_wp2_with (fail)
      refine ⟨_, results_cell_bool Tryd.results5 _ _ (w.heap.size + 1 + 1) _ rfl (row_cell_set R2 (.bool true)), rfl, hw.setCell (p := ⟨w.heap.size + 1 + 1, 0, none⟩) (show w.heap.size ≤ w.heap.size + 1 + 1 by omega) (.bool true)⟩
    · have hd : decide (n + (q : Int) + 1 > 4294967295) = false := by simp; omega
      go_wp2_with (fail)
      refine (a_Ahead ga ((q : Int) + 1) _).mono ?_
      rintro e_ w4 ⟨rfl, hw4⟩
      have O1 := hp4_1 w3 (.cells #[] 23) (.cells #[.slice (some ⟨w3.heap.size, 0, none⟩) 0 0] 57) (.cells #[.pointer (some ⟨ga, 0, none⟩)] 34) (.cells #[.int .i64 ((q : Int) + 1)] 3)
      have O2 := hp4_2 w3 (.cells #[] 23) (.cells #[.slice (some ⟨w3.heap.size, 0, none⟩) 0 0] 57) (.cells #[.pointer (some ⟨ga, 0, none⟩)] 34) (.cells #[.int .i64 ((q : Int) + 1)] 3)
      have O3 := hp4_3 w3 (.cells #[] 23) (.cells #[.slice (some ⟨w3.heap.size, 0, none⟩) 0 0] 57) (.cells #[.pointer (some ⟨ga, 0, none⟩)] 34) (.cells #[.int .i64 ((q : Int) + 1)] 3)
      have hs4 : w4.heap.size = w3.heap.size + 4 := by rw [hw4]; simp
      have hb4 : Below w3.heap.size w3 w4 := by rw [hw4]; exact ((((Below.refl _ _).alloc (Nat.le_refl _) _).alloc (by simp) _).alloc (by simp; omega) _).alloc (by simp; omega) _
      have hown4 : OwnK w4 w3.heap.size (.slice (some ⟨w3.heap.size, 0, none⟩) 0 0) [] := by
        have h : OwnK (w3.alloc (.cells #[] 23)) w3.heap.size (.slice (some ⟨w3.heap.size, 0, none⟩) 0 0) [] := World.ownsRow_made w3 #[] 0 (Nat.le_refl _) (by decide) (by rfl)
        rw [hw4]
        exact (h.keep ((Below.refl _ _).alloc (Nat.le_refl _) _)).keep (((Below.refl _ _).alloc (Nat.le_refl _) _).alloc (by simp) _)
      rw [← hw4] at O1 O2 O3
      have hsx : ((w3.alloc (.cells #[] 23)).alloc (.cells #[.slice (some ⟨w3.heap.size, 0, none⟩) 0 0] 57)).heap.size = w3.heap.size + 2 := by simp
      rw [hsx]
      have lta := lt_of_row ra
      have ltb := lt_of_row rb
      have ltR := lt_of_row R2
      replace R0 := keep hb4 R0
      replace R1 := keep hb4 R1
      replace R2 := keep hb4 R2
      replace ra := keep hb4 ra
      replace rb := keep hb4 rb
      replace hw := Below.after hw hb4
      clear hw4 hsx cn hd
      generalize w3.heap.size = e at *
      have hnf := nilfn #[.pointer (some ⟨e + 2, 0, none⟩), .pointer (some ⟨e + 2 + 1, 0, none⟩)]
      go_wp2_with (fail)
      refine wp_range_clo (gf := 37) (lb := #[.pointer (some ⟨e + 2, 0, none⟩), .pointer (some ⟨e + 2 + 1, 0, none⟩)]) rfl (enters_of Tryd.func37 (by kernel_rfl) rfl) ?_
      intro fn rec hrec
      rw [hs4] at hrec ⊢
      have y0 := hp2_0 w4 (.deferred (some [])) (.loop (rec .ready none))
      have y1 := hp2_1 w4 (.deferred (some [])) (.loop (rec .ready none))
      have hb0 : Below w4.heap.size w4 ((w4.alloc (.deferred (some []))).alloc (.loop (rec .ready none))) := ((Below.refl _ _).alloc (Nat.le_refl _) _).alloc (by simp) _
      have hs6 : ((w4.alloc (.deferred (some []))).alloc (.loop (rec .ready none))).heap.size = e + 6 := by simp [hs4]
      rw [hs4] at y0 y1
      have z1 := keep hb0 O1
      have z2 := keep hb0 O2
      have z3 := keep hb0 O3
      have za := keep hb0 ra
      have zo := hown4.keep hb0
      have zw := Below.after hw hb0
      have zf : ∀ g, g < e → ((w4.alloc (.deferred (some []))).alloc (.loop (rec .ready none))).heap[g]? = w4.heap[g]? := fun g hg => hb0.block g (by omega)
      generalize (w4.alloc (.deferred (some []))).alloc (.loop (rec .ready none)) = W1 at *
      have hah : ahm n ((q : Int) + 1) = q + 1 := by unfold ahm; omega
      have hwe : w.heap.size + 2 < e := by omega
      have hy_ : ∀ (i : Nat) A, i < ahm n ((q : Int) + 1) → FwJ w w4 e key (rec .ready none) i A → W1.heap.size + 3 ≤ A.heap.size → YieldAt Fence.wide 2 Tryd.prog (e + 4 + 1) #[.int .u32 (n + (i : Int)), .agg (irow .u8 (mat key i))] A fun e_ A' => (e_ = .returned (.bool true) ∧ FwJ w w4 e key (rec .ready none) (i + 1) A' ∧ A.heap.size ≤ A'.heap.size ∧ ∀ g, W1.heap.size ≤ g → g < W1.heap.size + 3 → A'.heap[g]? = A.heap[g]?) ∨ (e_ = .returned (.bool false) ∧ False) := by
        rw [hs6, hah]
        rintro i A hi ⟨g1, g2, ⟨v, g5, g5o, g5b⟩, g6, g7⟩ hAs
        have hsA := g7.size
        have hvlt := g5o.lt
        have hy := run_yield (P := Tryd.prog) (args := #[.int .u32 (n + (i : Int)), .agg (irow .u8 (mat key i))]) g1 (by rw [hrec]; rfl)
        rw [hrec] at hy
        refine ⟨fn, _, _, _, hy, roundIn_of_wpIn trivial ?_⟩
        have hml := mat_len key i
        have hmsg : Hid (msgs key (i + 1) = msgs key i ++ [mat key i]) := hide (msgs_succ key i)
        obtain ⟨so, sc, hv⟩ := slen_own g5o
        rw [msgs_len] at hv
        have hmln : (msgs key i).length = i := msgs_len key i
        generalize mat key i = X at *
        generalize msgs key i = L at *
        subst hv
        have r0 := hp1_0 A (.cells (irow .u8 (zr 32)) 23)
        have hbx : Below A.heap.size A ((A.alloc (.cells (irow .u8 (zr 32)) 23)).setRow A.heap.size (irow .u8 X)) := below_setRow ((Below.refl _ _).alloc (Nat.le_refl _) _) (Nat.le_refl _) _
        have rB := setRow_heap _ A.heap.size _ (irow .u8 X) _ _ r0
        clear hy
        gi_wp2_with (first | (refine wpListIn_alloc rfl 23 rfl (irow .u8 (zr 32)) zkey ?_) | (refine wpListIn_store_row rfl 23 _ _ rfl A.heap.size (irow .u8 X) rfl rfl 23 _ r0 (infok8 _ hml) (fit32 _ _ (zr_len 32) hml) (irow_one _ _) ?_) | fail)
        have hsC : A.heap.size < ((A.alloc (.cells (irow .u8 (zr 32)) 23)).setRow A.heap.size (irow .u8 X)).heap.size := lt_of_row rB
        generalize (A.alloc (.cells (irow .u8 (zr 32)) 23)).setRow A.heap.size (irow .u8 X) = C1 at *
        clear r0
        have e1 := keep hbx g1
        refine ⟨_, run_beginRound e1 (by rw [hrec]), ?_⟩
        have hoth : ∀ g, g ≠ e + 4 + 1 → (C1.putObj (e + 4 + 1) (.loop { rec .ready none with state := .busy })).heap[g]? = C1.heap[g]? := fun g hg => World.putObj_heap_other hg
        have e1' : (C1.putObj (e + 4 + 1) (.loop { rec .ready none with state := .busy })).heap[e + 4 + 1]? = some (.loop { rec .ready none with state := .busy }) := World.putObj_heap_same (lt_of_row e1)
        have e2 := (hoth (e + 4) (by omega)).trans (keep hbx g2)
        have e5 := (hoth (e + 1) (by omega)).trans (keep hbx g5)
        have e5o : OwnK (C1.putObj (e + 4 + 1) (.loop { rec .ready none with state := .busy })) e (.slice so i sc) L := (g5o.keep hbx).move (fun k o e h => (hoth k (by have := g5b k e; omega)).trans h)
        have e6 : ∀ g, g < e → (C1.putObj (e + 4 + 1) (.loop { rec .ready none with state := .busy })).heap[g]? = w4.heap[g]? := fun g hg => (hoth g (by omega)).trans ((hbx.block g (by omega)).trans (g6 g hg))
        have e7 : Below w.heap.size w (C1.putObj (e + 4 + 1) (.loop { rec .ready none with state := .busy })) := (Below.after g7 hbx).grown (grownBy_putObj' _ _ _) (by have := hbx.size; omega) (fun k e => by cases e; omega)
        have e8 : Hid (∀ g, e + 6 ≤ g → g < A.heap.size → (C1.putObj (e + 4 + 1) (.loop { rec .ready none with state := .busy })).heap[g]? = A.heap[g]?) := hide (fun g hg hl => (hoth g (by omega)).trans (hbx.block g hl))
        have rB2 := (hoth A.heap.size (by omega)).trans rB
        have hszC : (C1.putObj (e + 4 + 1) (.loop { rec .ready none with state := .busy })).heap.size = C1.heap.size := World.putObj_size
        generalize C1.putObj (e + 4 + 1) (.loop { rec .ready none with state := .busy }) = C2 at *
        clear hoth rB hbx e1 g1 g2 g5 g5o g7 g6
        rw [← hszC] at hsC
        clear hszC
        have c5 : C2.cell? ⟨e + 1, 0, none⟩ = some (.slice so i sc) := by rw [cell_of_row _ _ 0 _ _ _ e5]; rfl
        have cn : C2.cell? ⟨w.heap.size + 1, 0, none⟩ = some (.int .u32 n) := by rw [cell_of_row _ _ 0 _ _ _ ((e6 _ (by omega)).trans R1)]; rfl
        have hbn : Below C2.heap.size C2 (C2.alloc (.cells (irow .u8 X) 23)) := (Below.refl _ _).alloc (Nat.le_refl _) _
        have rN := hp1_0 C2 (.cells (irow .u8 X) 23)
        gi_wp2_with (first | (refine wpListIn_load_want rfl 23 _ rfl A.heap.size rfl 23 _ (0, 0) _ rB2 Tryd.underlying23 rfl (infok8 _ hml) ?_) | (refine wpListIn_bslK rfl _ rfl X hml rfl ?_) | (gi_at_builtin; suffices h9 : True ∧ _ from h9.2) | fail)
        refine ⟨trivial, ?_⟩
        refine wpListIn_append_K rfl (.tmp 84) (.tmp 86) rfl e _ L rfl (e5o.keep hbn) C2.heap.size X hml rfl rN (by omega) (by rw [size_alloc1]; omega) ?_
        intro v4 w5 hI4 hgr hnx
        have hgk : ∀ k, (Value.slice so i sc).ownBlock = some k → e ≤ k ∧ k < A.heap.size ∧ (k = e ∨ e + 9 ≤ k) := fun k e => ⟨(hvlt k e).1, (hvlt k e).2, g5b k e⟩
        have hoth : ∀ g, g < C2.heap.size → (g < e ∨ (e < g ∧ g < e + 9)) → w5.heap[g]? = C2.heap[g]? := fun g hg hh => (hgr.block g (by rw [size_alloc1]; omega) (fun e => by have := hgk g e.symm; omega)).trans (hbn.block g hg)
        have q1 := (hoth (e + 4 + 1) (by omega) (by omega)).trans e1'
        have q2 := (hoth (e + 4) (by omega) (by omega)).trans e2
        have q5 := (hoth (e + 1) (by omega) (by omega)).trans e5
        have q6 : ∀ g, g < e → w5.heap[g]? = w4.heap[g]? := fun g hg => (hoth g (by omega) (.inl hg)).trans (e6 g hg)
        have q7 : Below w.heap.size w w5 := (Below.after e7 hbn).grown hgr (by rw [size_alloc1]; have := e7.size; omega) (fun k e => by have := hgk k e; omega)
        have q8 : Hid (∀ g, e + 6 ≤ g → g < e + 9 → w5.heap[g]? = A.heap[g]?) := hide (fun g hg hl => (hoth g (by omega) (.inr (by omega))).trans (e8.out g hg (by omega)))
        have q9 : A.heap.size ≤ w5.heap.size := by have := hgr.size; rw [size_alloc1] at this; omega
        have q5b : ∀ k, v4.ownBlock = some k → k = e ∨ e + 9 ≤ k := fun k e => by
          rcases hnx with h | ⟨k', h, hk⟩
          · exact (hgk k (h ▸ e)).2.2
          · rw [h] at e; cases e; rw [size_alloc1] at hk; omega
        clear hoth e1' e2 e5 e5o e6 e7 e8 hbn rB2 c5 hgr hnx hgk rN cn hvlt
        obtain ⟨ao4, ac4, hv4⟩ := slen_own hI4
        have c6 : w5.cell? ⟨e + 1, 0, none⟩ = some (.slice so i sc) := by rw [cell_of_row _ _ 0 _ _ _ q5]; rfl
        have f6 : w5.frozen? ⟨e + 1, 0, none⟩ = false := by simp [World.frozen?, q5]
        generalize (L ++ [X]).length = fl at hv4
        subst hv4
        gi_wp2_with (fail)
        have p1 := heap_other (g := e + 1) (j := 0) (v := .slice ao4 fl ac4) q1 (by omega)
        have p2 := heap_other (g := e + 1) (j := 0) (v := .slice ao4 fl ac4) q2 (by omega)
        have p5 := row_set q5 0 (.slice ao4 fl ac4)
        have p5o : OwnK (w5.setCell ⟨e + 1, 0, none⟩ (.slice ao4 fl ac4)) e (.slice ao4 fl ac4) (L ++ [X]) := hI4.move (fun k o e h => heap_other h (by have := q5b k e; omega))
        have p6 : ∀ g, g < e → (w5.setCell ⟨e + 1, 0, none⟩ (.slice ao4 fl ac4)).heap[g]? = w4.heap[g]? := fun g hg => (heap_setCell_other w5 ⟨e + 1, 0, none⟩ g _ (by show g ≠ e + 1; omega)).trans (q6 g hg)
        have p7 := q7.setCell (p := ⟨e + 1, 0, none⟩) (show w.heap.size ≤ e + 1 by omega) (.slice ao4 fl ac4)
        have p8 : Hid (∀ g, e + 6 ≤ g → g < e + 9 → (w5.setCell ⟨e + 1, 0, none⟩ (.slice ao4 fl ac4)).heap[g]? = A.heap[g]?) := hide (fun g hg hl => (heap_setCell_other w5 ⟨e + 1, 0, none⟩ g _ (by show g ≠ e + 1; omega)).trans (q8.out g hg hl))
        have p9 : A.heap.size ≤ (w5.setCell ⟨e + 1, 0, none⟩ (.slice ao4 fl ac4)).heap.size := Nat.le_trans q9 (grownBy_setCell' w5 (e + 1) _).size
        generalize w5.setCell ⟨e + 1, 0, none⟩ (.slice ao4 fl ac4) = w6 at *
        refine ⟨_, _, run_endRound none p1, .inl ⟨rfl, ⟨?_, ?_, ⟨.slice ao4 fl ac4, ?_, ?_, q5b⟩, ?_, ?_⟩, ?_, ?_⟩⟩
        · rw [World.putObj_heap_same (lt_of_row p1)]; simp [hrec]
        · exact (World.putObj_heap_other (by omega)).trans p2
        · exact (World.putObj_heap_other (by omega)).trans p5
        · rw [hmsg.out]; exact p5o.move (fun k o e h => (World.putObj_heap_other (by have := q5b k e; omega)).trans h)
        · exact fun g hg => (World.putObj_heap_other (by omega)).trans (p6 g hg)
        · exact p7.grown (grownBy_putObj' _ _ _) p7.size (fun k e => by cases e; omega)
        · rw [World.putObj_size]; exact p9
        · exact fun g hg hl => (World.putObj_heap_other (by omega)).trans (p8.out g hg (by omega))
      refine (a_ahead1 key hkl hkz n hn0 hn1 ((q : Int) + 1) ga (e + 2) (e + 2 + 1) (e + 4 + 1) (FwJ w w4 e key (rec .ready none)) (fun _ _ => False) W1 z2 z3 za (fun i A h => ⟨hS.below h.2.2.2.2, hK.below h.2.2.2.2⟩) ?_ ?_ hy_).mono ?_
      · clear hy_
        rw [hs6]
        rintro i A C ⟨g1, g2, ⟨v, g5, g5o, g5b⟩, g6, g7⟩ hB hAs
        refine ⟨hB.row g1 (by omega), hB.row g2 (by omega), ⟨v, hB.row g5 (by omega), g5o.move (fun k o e h => hB.row h (by have := g5b k e; omega)), g5b⟩, fun g hg => (hB.block g (by omega) (by omega)).trans (g6 g hg), But.after g7 (by omega) hB⟩
      · clear hy_
        intro C hb hC
        refine ⟨keep hb y1, keep hb y0, ⟨_, keep hb z1, zo.keep hb, fun k e => by cases e; exact .inl rfl⟩, fun g hg => (hb.block g (by omega)).trans (zf g hg), Below.after zw hb⟩
      clear hy_ y0 y1 z1 z2 z3 za zo zw zf
      rw [hah]
      rintro e_ w5 ⟨⟨r, rfl⟩, (hJ | ⟨_, _, hF⟩)⟩
      rotate_left
      · exact hF.elim
      obtain ⟨j1, j2, ⟨u, j5, j5o, j5b⟩, j6, j7⟩ := hJ
      refine ⟨⟨_, rfl⟩, .inl ⟨j1, ?_⟩⟩
      have hj5 : e + 5 < w5.heap.size := lt_of_row j1
      have hoth : ∀ g, g ≠ e + 4 + 1 → (w5.putObj (e + 4 + 1) (.loop (rec .exhausted none))).heap[g]? = w5.heap[g]? := fun g hg => World.putObj_heap_other hg
      have hsz5 : (w5.putObj (e + 4 + 1) (.loop (rec .exhausted none))).heap.size = w5.heap.size := World.putObj_size
      have kd := (hoth (e + 4) (by omega)).trans j2
      have kt := (hoth (e + 1) (by omega)).trans j5
      have ko : OwnK (w5.putObj (e + 4 + 1) (.loop (rec .exhausted none))) e u (msgs key (q + 1)) := j5o.move (fun k o e h => (hoth k (by have := j5b k e; omega)).trans h)
      replace R0 := ((hoth _ (by omega)).trans (j6 _ (by omega))).trans R0
      replace R1 := ((hoth _ (by omega)).trans (j6 _ (by omega))).trans R1
      replace R2 := ((hoth _ (by omega)).trans (j6 _ (by omega))).trans R2
      replace ra := ((hoth _ (by omega)).trans (j6 _ (by omega))).trans ra
      replace rb := ((hoth _ (by omega)).trans (j6 _ (by omega))).trans rb
      replace hw := j7.grown (grownBy_putObj' w5 (e + 4 + 1) (.loop (rec .exhausted none))) j7.size (fun k e => by cases e; omega)
      replace f0 := hS.below hw
      replace f4 := hK.below hw
      rw [← hsz5] at hj5
      clear hoth hsz5 j1 j2 j5 j5o j6 j7
      generalize w5.putObj (e + 4 + 1) (.loop (rec .exhausted none)) = w6 at *
      clear O1 O2 O3 hs4 hs6 hown4 hah hrec
      have cn : w6.cell? ⟨w.heap.size + 1, 0, none⟩ = some (.int .u32 n) := by rw [cell_of_row _ _ 0 _ _ _ R1]; rfl
      go_wp2_with (fail)
      have hg1 : 1 < ga := by have := hK.sz; omega
      have hgw : w.heap.size ≤ ga := by omega
      have hgw2 : w.heap.size + 2 < ga := hgw2_
      refine (a_Skip key hkl hkz n hn0 q (by omega) (by omega) (q : Int) (Int.le_refl _) w6 f0 f4 ga hg1 ra).mono ?_
      rintro e_ w7 ⟨vl, rfl, hl, ra7, hb⟩
      have hs67 := hb.size
      replace R0 := hb.row R0 (by omega)
      replace R1 := hb.row R1 (by omega)
      replace R2 := hb.row R2 (by omega)
      replace rb := hb.row rb (by omega)
      replace kd := hb.row kd (by omega)
      replace kt := hb.row kt (by omega)
      replace ko := ko.move (fun k o e h => hb.row h (by have := j5b k e; omega))
      replace hw := But.after hw (by omega) hb
      replace f0 := hS.below hw
      replace f4 := hK.below hw
      clear hb ra cn
      have hX1 : hm (kat key q) [1] = mat key q := rfl
      have hX2 : hm (kat key q) [2] = kat key (q + 1) := rfl
      have cX := a_Next (kat key q) (kat_len hkl q) (kat_bd hkz q) (n + (q : Int)) (by omega) (by omega) w7 f0 f4 ga ra7
      rw [hX1, hX2] at cX
      clear hX1 hX2 ra7
      go_wp2_with (fail)
      refine cX.mono ?_
      clear cX
      rintro e_ w8 ⟨rfl, ra, hb⟩
      have hs78 := hb.size
      replace R0 := hb.row R0 (by omega)
      replace R1 := hb.row R1 (by omega)
      replace R2 := hb.row R2 (by omega)
      replace rb := hb.row rb (by omega)
      replace kd := hb.row kd (by omega)
      replace kt := hb.row kt (by omega)
      replace ko := ko.move (fun k o e h => hb.row h (by have := j5b k e; omega))
      replace hw := But.after hw (by omega) hb
      replace f0 := hS.below hw
      replace f4 := hK.below hw
      replace hl := hl.move (fun k o e h => hb.row h (by have := (hl.lt k e).1; omega))
      clear hb
      have hXl := mat_len key q
      have hmsg : Hid (msgs key (q + 1) = msgs key q ++ [mat key q]) := hide (msgs_succ key q)
      generalize hX : mat key q = X at *
      replace hX := hide hX
      have zx0 := hp1_0 w8 (.cells (irow .u8 (zr 32)) 23)
      have yx00 := setRow_heap (w8.alloc (.cells (irow .u8 (zr 32)) 23)) (w8.heap.size) _ (irow .u8 X) _ _ zx0
      have hbF : Below w8.heap.size w8 ((w8.alloc (.cells (irow .u8 (zr 32)) 23)).setRow (w8.heap.size) (irow .u8 X)) := (below_setRow ((Below.refl _ _).alloc (Nat.le_refl _) _) (show w8.heap.size ≤ w8.heap.size by omega) (irow .u8 X))
      go_wp2_with (first | (refine wpList_alloc rfl 23 rfl (irow .u8 (zr 32)) zkey ?_) | (refine wpList_store_row rfl 23 _ _ rfl (w8.heap.size) (irow .u8 X) rfl rfl 23 _ zx0 (infok8 _ hXl) (fit32 _ _ (zr_len 32) hXl) (irow_one _ _) ?_; refine wpList_stay ?_) | fail)
      unfold WpStay
      replace R0 := keep hbF R0
      replace R1 := keep hbF R1
      replace R2 := keep hbF R2
      replace rb := keep hbF rb
      replace kd := keep hbF kd
      replace kt := keep hbF kt
      replace ra := keep hbF ra
      replace ko := ko.keep hbF
      replace hl := hl.keep hbF
      replace hw := Below.after hw hbF
      have hs89 := hbF.size
      have l8 := lt_of_row yx00
      clear hbF zx0
      replace f0 := hS.below hw
      replace f4 := hK.below hw
      generalize ((w8.alloc (.cells (irow .u8 (zr 32)) 23)).setRow (w8.heap.size) (irow .u8 X)) = w9 at *
      generalize w8.heap.size = g8 at *
      obtain ⟨uo, uc, hu⟩ := slen_own ko
      obtain ⟨lo, lc, hu2⟩ := slen_own hl
      rw [msgs_len] at hu hu2
      subst hu hu2
      have hlq : Hid ((msgs key q).length = q) := hide (msgs_len key q)
      have hlq1 : Hid ((msgs key (q + 1)).length = q + 1) := hide (msgs_len key (q + 1))
      have hall : Hid (∀ k ∈ msgs key (q + 1), k.length = 32) := hide (msgs_all key (q + 1))
      have hgi : Hid (∀ i, i < q + 1 → (msgs key (q + 1)).getD i [] = mat key i) := hide (msgs_get key (q + 1))
      generalize msgs key (q + 1) = MQ at *
      generalize msgs key q = ML at *
      go_wp2_with (fail)
      apply ecut4 (fun (gE gX : Nat) (vO vP : Value) (W : World) => W.heap[w.heap.size]? = some (.cells (irow .u8 key) 23 (0, 0)) ∧ W.heap[w.heap.size + 1]? = some (.cells #[.int .u32 n] 36 (0, 0)) ∧ W.heap[w.heap.size + 1 + 1]? = some (.cells #[.bool false] 4 (0, 0)) ∧ W.heap[gb]? = some (.cells (chc key n) 75 (0, 0)) ∧ W.heap[e + 4]? = some (.deferred (some [])) ∧ W.heap[e + 1]? = some (.cells #[.slice uo (q + 1) uc] 57 (0, 0)) ∧ W.heap[ga]? = some (.cells (chc (kat key (q + 1)) (n + (q : Int) + 1)) 75 (0, 0)) ∧ OwnK W e (.slice uo (q + 1) uc) MQ ∧ Below w.heap.size w W)
      · intro key_
        have hbd : Below w9.heap.size w9 w9.drew := below_drN (Below.refl _ _) 1
        replace R0 := keep hbd R0
        replace R1 := keep hbd R1
        replace R2 := keep hbd R2
        replace rb := keep hbd rb
        replace kd := keep hbd kd
        replace kt := keep hbd kt
        replace ra := keep hbd ra
        replace yx00 := keep hbd yx00
        replace ko := ko.keep hbd
        replace hl := hl.keep hbd
        replace hw := Below.after hw hbd
        clear hbd
        refine wp_region_noPanic ?_
        refine wp_region_held (S := fun W => W.heap[e + 1]? = some (.cells #[.slice uo (q + 1) uc] 57 (0, 0)) ∧ W.heap[g8]? = some (.cells (irow .u8 X) 23 (0, 0))) (by kernel_rfl) ?_
        change wpAnyH _ _ _ _ _ _ _ _ (World.drew _)
        generalize w9.drew = w10 at *
        refine wpAnyH_take (i := 0) (v := ?v9) rfl (by kernel_rfl) (by kernel_rfl) (by kernel_rfl) (fun _ _ _ h => h) (Or.inl ⟨by rfl, ?y9⟩) (⟨kt, yx00⟩) ?r9
        case y9 =>
          intro w_ hS_
          go_simp
          try with_reducible rfl
        simp only [Act.put, List.getElem_toArray, List.getElem_cons_zero, List.setIfInBounds_toArray, List.set_cons_succ, List.set_cons_zero]
        refine wpAnyH_take (i := 1) (v := ?v10) rfl (by kernel_rfl) (by kernel_rfl) (by kernel_rfl) (fun _ _ _ h => h) (Or.inl ⟨by rfl, ?y10⟩) (⟨kt, yx00⟩) ?r10
        case y10 =>
          intro w_ hS_
          go_simp
          try with_reducible rfl
        simp only [Act.put, List.getElem_toArray, List.getElem_cons_succ, List.getElem_cons_zero, List.setIfInBounds_toArray, List.set_cons_succ, List.set_cons_zero]
        refine wpAnyH_take (i := 2) (v := ?v11) rfl (by kernel_rfl) (by kernel_rfl) (by kernel_rfl) (fun _ _ _ h => h) (Or.inl ⟨by rfl, ?y11⟩) (⟨kt, yx00⟩) ?r11
        case y11 =>
          intro w_ hS_
          go_simp
          try with_reducible rfl
        simp only [Act.put, List.getElem_toArray, List.getElem_cons_succ, List.getElem_cons_zero, List.setIfInBounds_toArray, List.set_cons_succ, List.set_cons_zero]
        refine wpAnyH_take (i := 3) (v := ?v12) rfl (by kernel_rfl) (by kernel_rfl) (by kernel_rfl) (fun _ _ _ h => h) (Or.inl ⟨by rfl, ?y12⟩) (⟨kt, yx00⟩) ?r12
        case y12 =>
          intro w_ hS_
          go_simp
          try with_reducible rfl
        simp only [Act.put, List.getElem_toArray, List.getElem_cons_succ, List.getElem_cons_zero, List.setIfInBounds_toArray, List.set_cons_succ, List.set_cons_zero]
        refine wpAnyH_take (i := 4) (v := ?v13) rfl (by kernel_rfl) (by kernel_rfl) (by kernel_rfl) (fun _ _ _ h => h) (Or.inl ⟨by rfl, ?y13⟩) (⟨kt, yx00⟩) ?r13
        case y13 =>
          intro w_ hS_
          go_simp
          try with_reducible rfl
        simp only [Act.put, List.getElem_toArray, List.getElem_cons_succ, List.getElem_cons_zero, List.setIfInBounds_toArray, List.set_cons_succ, List.set_cons_zero]
        refine wpAnyH_take (i := 5) (v := ?v14) rfl (by kernel_rfl) (by kernel_rfl) (by kernel_rfl) (fun _ _ _ h => h) (Or.inl ⟨by rfl, ?y14⟩) (⟨kt, yx00⟩) ?r14
        case y14 =>
          intro w_ hS_
          go_simp
          try with_reducible rfl
        simp only [Act.put, List.getElem_toArray, List.getElem_cons_succ, List.getElem_cons_zero, List.setIfInBounds_toArray, List.set_cons_succ, List.set_cons_zero]
        refine wpAnyH_take (i := 6) (v := ?v15) rfl (by kernel_rfl) (by kernel_rfl) (by kernel_rfl) (fun _ _ _ h => h) (Or.inl ⟨by rfl, ?y15⟩) (⟨kt, yx00⟩) ?r15
        case y15 =>
          intro w_ hS_
          go_simp
          try with_reducible rfl
        simp only [Act.put, List.getElem_toArray, List.getElem_cons_succ, List.getElem_cons_zero, List.setIfInBounds_toArray, List.set_cons_succ, List.set_cons_zero]
        refine wpAnyH_take (i := 7) (v := .slice uo (q + 1) uc) rfl (by kernel_rfl) (by kernel_rfl) (by kernel_rfl) (fun _ _ _ h => h) (Or.inl ⟨by rfl, ?y16⟩) (⟨kt, yx00⟩) ?r16
        case y16 =>
          intro w_ hS_
          have c_ : w_.cell? ⟨e + 1, 0, none⟩ = some (.slice uo (q + 1) uc) := by rw [cell_of_row _ _ 0 _ _ _ hS_.1]; rfl
          go_simp
          try with_reducible rfl
        simp only [Act.put, List.getElem_toArray, List.getElem_cons_succ, List.getElem_cons_zero, List.setIfInBounds_toArray, List.set_cons_succ, List.set_cons_zero]
        refine wpAnyH_take (i := 9) (v := ?v17) rfl (by kernel_rfl) (by kernel_rfl) (by kernel_rfl) (fun _ _ _ h => h) (Or.inl ⟨by rfl, ?y17⟩) (⟨kt, yx00⟩) ?r17
        case y17 =>
          intro w_ hS_
          go_simp
          try with_reducible rfl
        simp only [Act.put, List.getElem_toArray, List.getElem_cons_succ, List.getElem_cons_zero, List.setIfInBounds_toArray, List.set_cons_succ, List.set_cons_zero]
        refine wpAnyH_take (i := 11) (v := .agg (irow .u8 X)) rfl (by kernel_rfl) (by kernel_rfl) (by kernel_rfl) (fun _ _ _ h => h) (Or.inl ⟨by rfl, ?y18⟩) (⟨kt, yx00⟩) ?r18
        case y18 =>
          intro w_ hS_
          simp only [List.getElem_toArray, List.getElem_cons_succ, List.getElem_cons_zero]
          exact run_load_part 23 _ (by rfl) (g8) 0 (by rfl) 23 (irow .u8 X) (0, 0) (irow .u8 X) _ (hS_.2) (all_row _) Tryd.underlying23 rfl (infok8 _ hXl)
        simp only [Act.put, List.getElem_toArray, List.getElem_cons_succ, List.getElem_cons_zero, List.setIfInBounds_toArray, List.set_cons_succ, List.set_cons_zero]
        refine wpAnyH_two (j := 8) (k := 12) (fuel := 6) (by kernel_rfl) rfl rfl (by kernel_rfl) (by kernel_rfl) (fun K_ hK_ => ?_) (fun K_ hK_ => ?_)
        · have ltko := ko.lt
          refine wp_world_op (.slice (some ⟨w10.heap.size, 0, none⟩) 0 0) (w10.alloc (.cells #[] 23)) (by kernel_rfl) ?_
          have hb_ : Below w10.heap.size w10 (w10.alloc (.cells #[] 23)) := (Below.refl _ _).alloc (Nat.le_refl _) _
          have sz_g4 : w.heap.size ≤ w10.heap.size := hw.size
          have lt_R0_g4 := lt_of_row R0
          have lt_R1_g4 := lt_of_row R1
          have lt_R2_g4 := lt_of_row R2
          have lt_rb_g4 := lt_of_row rb
          have lt_kd_g4 := lt_of_row kd
          have lt_kt_g4 := lt_of_row kt
          have lt_ra_g4 := lt_of_row ra
          have lt_yx00_g4 := lt_of_row yx00
          have rE := hp1_0 w10 (.cells #[] 23)
          replace R0 := keep hb_ R0
          replace R1 := keep hb_ R1
          replace R2 := keep hb_ R2
          replace rb := keep hb_ rb
          replace kd := keep hb_ kd
          replace kt := keep hb_ kt
          replace ra := keep hb_ ra
          replace yx00 := keep hb_ yx00
          replace ko := ko.keep hb_
          replace hl := hl.keep hb_
          replace hw := Below.after hw hb_
          clear hb_
          refine hK_ _ _ (⟨kt, yx00⟩) ?_
          simp only [Act.put, List.getElem_toArray, List.getElem_cons_succ, List.getElem_cons_zero, List.setIfInBounds_toArray, List.set_cons_succ, List.set_cons_zero]
          clear hK_
          generalize w10.alloc (.cells #[] 23) = q3 at *
          generalize w10.heap.size = g4 at *
          refine wpAnyH_two (j := 10) (k := 12) (fuel := 5) (by kernel_rfl) rfl rfl (by kernel_rfl) (by kernel_rfl) (fun K_ hK_ => ?_) (fun K_ hK_ => ?_)
          · have hO := ownK_empty rE
            have hOk : ∀ k, (Value.slice (some ⟨g4, 0, none⟩) 0 0).ownBlock = some k → k = g4 := fun k e => by cases e; rfl
            have ltE := lt_of_row rE
            refine wp_append_Ks _ _ rfl g4 _ [] rfl hO _ _ ML rfl hl (by rw [hlq.out]; simp; omega) (by omega) (fun vO q5 hO2 hgr hnx => ?_)
            clear rE
            have lt10_R0 := lt_of_row R0
            have lt10_R1 := lt_of_row R1
            have lt10_R2 := lt_of_row R2
            have lt10_rb := lt_of_row rb
            have lt10_kd := lt_of_row kd
            have lt10_kt := lt_of_row kt
            have lt10_ra := lt_of_row ra
            have lt10_yx00 := lt_of_row yx00
            have ltko2 := ko.lt
            have hOb : ∀ k, vO.ownBlock = some k → k = g4 ∨ q3.heap.size ≤ k := fun k e => by
              rcases hnx with h | ⟨k', h, hk⟩
              · rw [h] at e; exact .inl (hOk k e)
              · rw [h] at e; cases e; exact .inr hk
            replace R0 := (hgr.block (w.heap.size) (lt_of_row R0) (fun e_ => by have := hOk _ e_.symm; omega)).trans R0
            replace R1 := (hgr.block (w.heap.size + 1) (lt_of_row R1) (fun e_ => by have := hOk _ e_.symm; omega)).trans R1
            replace R2 := (hgr.block (w.heap.size + 1 + 1) (lt_of_row R2) (fun e_ => by have := hOk _ e_.symm; omega)).trans R2
            replace rb := (hgr.block (gb) (lt_of_row rb) (fun e_ => by have := hOk _ e_.symm; omega)).trans rb
            replace kd := (hgr.block (e + 4) (lt_of_row kd) (fun e_ => by have := hOk _ e_.symm; omega)).trans kd
            replace kt := (hgr.block (e + 1) (lt_of_row kt) (fun e_ => by have := hOk _ e_.symm; omega)).trans kt
            replace ra := (hgr.block (ga) (lt_of_row ra) (fun e_ => by have := hOk _ e_.symm; omega)).trans ra
            replace yx00 := (hgr.block (g8) (lt_of_row yx00) (fun e_ => by have := hOk _ e_.symm; omega)).trans yx00
            replace ko := ko.move (fun k o e h => (hgr.block k (lt_of_heap h) (fun e_ => by have := hOk _ e_.symm; have := ltko k e; omega)).trans h)
            replace hw := hw.grown hgr hw.size (fun k e => by have := hOk k e; omega)
            have szg_q5 := hgr.size
            clear hgr hnx hOk hl
            replace hO := hO2
            clear hO2
            rw [List.nil_append] at hO
            refine hK_ _ _ (⟨kt, yx00⟩) ?_
            simp only [Act.put, List.getElem_toArray, List.getElem_cons_succ, List.getElem_cons_zero, List.setIfInBounds_toArray, List.set_cons_succ, List.set_cons_zero]
            clear hK_
            refine wpAnyH_one (k := 12) (fuel := 4) (by kernel_rfl) rfl (by kernel_rfl) (fun K_ hK_ => ?_)
            refine wp_world_op (.slice (some ⟨q5.heap.size, 0, none⟩) 1 1) (q5.alloc (.cells (irow .u8 X) 23)) (by have h_ := run_bslK X hXl q5; simp [execOp, h_, Act.eval, Result.andThen]) ?_
            have hb_ : Below q5.heap.size q5 (q5.alloc (.cells (irow .u8 X) 23)) := (Below.refl _ _).alloc (Nat.le_refl _) _
            have sz_g7 : w.heap.size ≤ q5.heap.size := hw.size
            have lt_R0_g7 := lt_of_row R0
            have lt_R1_g7 := lt_of_row R1
            have lt_R2_g7 := lt_of_row R2
            have lt_rb_g7 := lt_of_row rb
            have lt_kd_g7 := lt_of_row kd
            have lt_kt_g7 := lt_of_row kt
            have lt_ra_g7 := lt_of_row ra
            have lt_yx00_g7 := lt_of_row yx00
            have lO_g7 := hO.lt
            have rX := hp1_0 q5 (.cells (irow .u8 X) 23)
            replace R0 := keep hb_ R0
            replace R1 := keep hb_ R1
            replace R2 := keep hb_ R2
            replace rb := keep hb_ rb
            replace kd := keep hb_ kd
            replace kt := keep hb_ kt
            replace ra := keep hb_ ra
            replace yx00 := keep hb_ yx00
            replace ko := ko.keep hb_
            replace hO := hO.keep hb_
            replace hw := Below.after hw hb_
            clear hb_
            refine hK_ _ _ (⟨kt, yx00⟩) ?_
            simp only [Act.put, List.getElem_toArray, List.getElem_cons_succ, List.getElem_cons_zero, List.setIfInBounds_toArray, List.set_cons_succ, List.set_cons_zero]
            clear hK_
            generalize q5.alloc (.cells (irow .u8 X) 23) = q6 at *
            generalize q5.heap.size = g7 at *
            refine wpAnyH_one (k := 13) (fuel := 3) (by kernel_rfl) rfl (by kernel_rfl) (fun K_ hK_ => ?_)
            have hOk : ∀ k, vO.ownBlock = some k → k = g4 ∨ q3.heap.size ≤ k := hOb
            have lO := hO.lt
            have ltX_ := lt_of_row rX
            refine wp_append_K _ _ rfl g4 _ ML rfl hO g7 X hXl rfl rX (by rw [hlq.out]; omega) (by omega) (fun vP q8 hO2 hgr hnx => ?_)
            clear rX
            replace R0 := (hgr.block (w.heap.size) (lt_of_row R0) (fun e_ => by have := hOk _ e_.symm; omega)).trans R0
            replace R1 := (hgr.block (w.heap.size + 1) (lt_of_row R1) (fun e_ => by have := hOk _ e_.symm; omega)).trans R1
            replace R2 := (hgr.block (w.heap.size + 1 + 1) (lt_of_row R2) (fun e_ => by have := hOk _ e_.symm; omega)).trans R2
            replace rb := (hgr.block (gb) (lt_of_row rb) (fun e_ => by have := hOk _ e_.symm; omega)).trans rb
            replace kd := (hgr.block (e + 4) (lt_of_row kd) (fun e_ => by have := hOk _ e_.symm; omega)).trans kd
            replace kt := (hgr.block (e + 1) (lt_of_row kt) (fun e_ => by have := hOk _ e_.symm; omega)).trans kt
            replace ra := (hgr.block (ga) (lt_of_row ra) (fun e_ => by have := hOk _ e_.symm; omega)).trans ra
            replace yx00 := (hgr.block (g8) (lt_of_row yx00) (fun e_ => by have := hOk _ e_.symm; omega)).trans yx00
            replace ko := ko.move (fun k o e h => (hgr.block k (lt_of_heap h) (fun e_ => by have := hOk _ e_.symm; have := ltko k e; have := ltko2 k e; omega)).trans h)
            replace hw := hw.grown hgr hw.size (fun k e => by have := hOk k e; omega)
            have szg_q8 := hgr.size
            clear hgr hnx hOk hO hOb lO
            refine hK_ _ _ (⟨kt, yx00⟩) ?_
            simp only [Act.put, List.getElem_toArray, List.getElem_cons_succ, List.getElem_cons_zero, List.setIfInBounds_toArray, List.set_cons_succ, List.set_cons_zero]
            clear hK_
            refine wpAnyH_one (k := 14) (fuel := 2) (by kernel_rfl) rfl (by kernel_rfl) (fun K_ hK_ => ?_)
            have hP2 := hO2
            rw [← hmsg.out] at hP2
            refine wp_call_ex (f := 25) (by kernel_rfl) (ex1 (l_alike MQ hall.out (by rw [hlq1.out]; omega) q8 _ _ _ _ ko hP2)) (fun v_ q9 hX_ => ?_)
            obtain ⟨rfl, hb_⟩ := hX_
            replace R0 := keep hb_ R0
            replace R1 := keep hb_ R1
            replace R2 := keep hb_ R2
            replace rb := keep hb_ rb
            replace kd := keep hb_ kd
            replace kt := keep hb_ kt
            replace ra := keep hb_ ra
            replace yx00 := keep hb_ yx00
            replace ko := ko.keep hb_
            replace hO2 := hO2.keep hb_
            replace hw := Below.after hw hb_
            clear hb_
            clear hP2 hO2
            refine hK_ _ _ (⟨kt, yx00⟩) ?_
            simp only [Act.put, List.getElem_toArray, List.getElem_cons_succ, List.getElem_cons_zero, List.setIfInBounds_toArray, List.set_cons_succ, List.set_cons_zero]
            clear hK_
            refine wpAnyH_take (i := 15) (v := ?v19) rfl (by kernel_rfl) (by kernel_rfl) (by kernel_rfl) (fun _ _ _ h => h) (Or.inl ⟨by rfl, ?y19⟩) (⟨kt, yx00⟩) ?r19
            case y19 =>
              intro w_ hS_
              go_simp
              try with_reducible rfl
            simp only [Act.put, List.getElem_toArray, List.getElem_cons_succ, List.getElem_cons_zero, List.setIfInBounds_toArray, List.set_cons_succ, List.set_cons_zero]
            refine wpAnyH_take (i := 16) (v := ?v20) rfl (by kernel_rfl) (by kernel_rfl) (by kernel_rfl) (fun _ _ _ h => h) (Or.inl ⟨by rfl, ?y20⟩) (⟨kt, yx00⟩) ?r20
            case y20 =>
              intro w_ hS_
              go_simp
              try with_reducible rfl
            simp only [Act.put, List.getElem_toArray, List.getElem_cons_succ, List.getElem_cons_zero, List.setIfInBounds_toArray, List.set_cons_succ, List.set_cons_zero]
            refine wpAnyH_done (by kernel_rfl) ?_ _
            refine NoPanic.normal ?_
            exact key_ g4 g7 vO vP q9 ⟨R0, R1, R2, rb, kd, kt, ra, ko, hw⟩
          · refine wp_world_op (.slice (some ⟨q3.heap.size, 0, none⟩) 1 1) (q3.alloc (.cells (irow .u8 X) 23)) (by have h_ := run_bslK X hXl q3; simp [execOp, h_, Act.eval, Result.andThen]) ?_
            have hb_ : Below q3.heap.size q3 (q3.alloc (.cells (irow .u8 X) 23)) := (Below.refl _ _).alloc (Nat.le_refl _) _
            have sz_g11 : w.heap.size ≤ q3.heap.size := hw.size
            have lt_R0_g11 := lt_of_row R0
            have lt_R1_g11 := lt_of_row R1
            have lt_R2_g11 := lt_of_row R2
            have lt_rb_g11 := lt_of_row rb
            have lt_kd_g11 := lt_of_row kd
            have lt_kt_g11 := lt_of_row kt
            have lt_ra_g11 := lt_of_row ra
            have lt_yx00_g11 := lt_of_row yx00
            have lt_rE_g11 := lt_of_row rE
            have rX := hp1_0 q3 (.cells (irow .u8 X) 23)
            replace R0 := keep hb_ R0
            replace R1 := keep hb_ R1
            replace R2 := keep hb_ R2
            replace rb := keep hb_ rb
            replace kd := keep hb_ kd
            replace kt := keep hb_ kt
            replace ra := keep hb_ ra
            replace yx00 := keep hb_ yx00
            replace rE := keep hb_ rE
            replace ko := ko.keep hb_
            replace hl := hl.keep hb_
            replace hw := Below.after hw hb_
            clear hb_
            refine hK_ _ _ (⟨kt, yx00⟩) ?_
            simp only [Act.put, List.getElem_toArray, List.getElem_cons_succ, List.getElem_cons_zero, List.setIfInBounds_toArray, List.set_cons_succ, List.set_cons_zero]
            clear hK_
            generalize q3.alloc (.cells (irow .u8 X) 23) = q10 at *
            generalize q3.heap.size = g11 at *
            refine wpAnyH_one (k := 10) (fuel := 4) (by kernel_rfl) rfl (by kernel_rfl) (fun K_ hK_ => ?_)
            have hO := ownK_empty rE
            have hOk : ∀ k, (Value.slice (some ⟨g4, 0, none⟩) 0 0).ownBlock = some k → k = g4 := fun k e => by cases e; rfl
            have ltE := lt_of_row rE
            refine wp_append_Ks _ _ rfl g4 _ [] rfl hO _ _ ML rfl hl (by rw [hlq.out]; simp; omega) (by omega) (fun vO q12 hO2 hgr hnx => ?_)
            clear rE
            have lt10_R0 := lt_of_row R0
            have lt10_R1 := lt_of_row R1
            have lt10_R2 := lt_of_row R2
            have lt10_rb := lt_of_row rb
            have lt10_kd := lt_of_row kd
            have lt10_kt := lt_of_row kt
            have lt10_ra := lt_of_row ra
            have lt10_yx00 := lt_of_row yx00
            have lt10_rX := lt_of_row rX
            have ltko2 := ko.lt
            have hOb : ∀ k, vO.ownBlock = some k → k = g4 ∨ q10.heap.size ≤ k := fun k e => by
              rcases hnx with h | ⟨k', h, hk⟩
              · rw [h] at e; exact .inl (hOk k e)
              · rw [h] at e; cases e; exact .inr hk
            replace R0 := (hgr.block (w.heap.size) (lt_of_row R0) (fun e_ => by have := hOk _ e_.symm; omega)).trans R0
            replace R1 := (hgr.block (w.heap.size + 1) (lt_of_row R1) (fun e_ => by have := hOk _ e_.symm; omega)).trans R1
            replace R2 := (hgr.block (w.heap.size + 1 + 1) (lt_of_row R2) (fun e_ => by have := hOk _ e_.symm; omega)).trans R2
            replace rb := (hgr.block (gb) (lt_of_row rb) (fun e_ => by have := hOk _ e_.symm; omega)).trans rb
            replace kd := (hgr.block (e + 4) (lt_of_row kd) (fun e_ => by have := hOk _ e_.symm; omega)).trans kd
            replace kt := (hgr.block (e + 1) (lt_of_row kt) (fun e_ => by have := hOk _ e_.symm; omega)).trans kt
            replace ra := (hgr.block (ga) (lt_of_row ra) (fun e_ => by have := hOk _ e_.symm; omega)).trans ra
            replace yx00 := (hgr.block (g8) (lt_of_row yx00) (fun e_ => by have := hOk _ e_.symm; omega)).trans yx00
            replace rX := (hgr.block (g11) (lt_of_row rX) (fun e_ => by have := hOk _ e_.symm; omega)).trans rX
            replace ko := ko.move (fun k o e h => (hgr.block k (lt_of_heap h) (fun e_ => by have := hOk _ e_.symm; have := ltko k e; omega)).trans h)
            replace hw := hw.grown hgr hw.size (fun k e => by have := hOk k e; omega)
            have szg_q12 := hgr.size
            clear hgr hnx hOk hl
            replace hO := hO2
            clear hO2
            rw [List.nil_append] at hO
            refine hK_ _ _ (⟨kt, yx00⟩) ?_
            simp only [Act.put, List.getElem_toArray, List.getElem_cons_succ, List.getElem_cons_zero, List.setIfInBounds_toArray, List.set_cons_succ, List.set_cons_zero]
            clear hK_
            refine wpAnyH_one (k := 13) (fuel := 3) (by kernel_rfl) rfl (by kernel_rfl) (fun K_ hK_ => ?_)
            have hOk : ∀ k, vO.ownBlock = some k → k = g4 ∨ q10.heap.size ≤ k := hOb
            have lO := hO.lt
            have ltX_ := lt_of_row rX
            refine wp_append_K _ _ rfl g4 _ ML rfl hO g11 X hXl rfl rX (by rw [hlq.out]; omega) (by omega) (fun vP q13 hO2 hgr hnx => ?_)
            clear rX
            replace R0 := (hgr.block (w.heap.size) (lt_of_row R0) (fun e_ => by have := hOk _ e_.symm; omega)).trans R0
            replace R1 := (hgr.block (w.heap.size + 1) (lt_of_row R1) (fun e_ => by have := hOk _ e_.symm; omega)).trans R1
            replace R2 := (hgr.block (w.heap.size + 1 + 1) (lt_of_row R2) (fun e_ => by have := hOk _ e_.symm; omega)).trans R2
            replace rb := (hgr.block (gb) (lt_of_row rb) (fun e_ => by have := hOk _ e_.symm; omega)).trans rb
            replace kd := (hgr.block (e + 4) (lt_of_row kd) (fun e_ => by have := hOk _ e_.symm; omega)).trans kd
            replace kt := (hgr.block (e + 1) (lt_of_row kt) (fun e_ => by have := hOk _ e_.symm; omega)).trans kt
            replace ra := (hgr.block (ga) (lt_of_row ra) (fun e_ => by have := hOk _ e_.symm; omega)).trans ra
            replace yx00 := (hgr.block (g8) (lt_of_row yx00) (fun e_ => by have := hOk _ e_.symm; omega)).trans yx00
            replace ko := ko.move (fun k o e h => (hgr.block k (lt_of_heap h) (fun e_ => by have := hOk _ e_.symm; have := ltko k e; have := ltko2 k e; omega)).trans h)
            replace hw := hw.grown hgr hw.size (fun k e => by have := hOk k e; omega)
            have szg_q13 := hgr.size
            clear hgr hnx hOk hO hOb lO
            refine hK_ _ _ (⟨kt, yx00⟩) ?_
            simp only [Act.put, List.getElem_toArray, List.getElem_cons_succ, List.getElem_cons_zero, List.setIfInBounds_toArray, List.set_cons_succ, List.set_cons_zero]
            clear hK_
            refine wpAnyH_one (k := 14) (fuel := 2) (by kernel_rfl) rfl (by kernel_rfl) (fun K_ hK_ => ?_)
            have hP2 := hO2
            rw [← hmsg.out] at hP2
            refine wp_call_ex (f := 25) (by kernel_rfl) (ex1 (l_alike MQ hall.out (by rw [hlq1.out]; omega) q13 _ _ _ _ ko hP2)) (fun v_ q14 hX_ => ?_)
            obtain ⟨rfl, hb_⟩ := hX_
            replace R0 := keep hb_ R0
            replace R1 := keep hb_ R1
            replace R2 := keep hb_ R2
            replace rb := keep hb_ rb
            replace kd := keep hb_ kd
            replace kt := keep hb_ kt
            replace ra := keep hb_ ra
            replace yx00 := keep hb_ yx00
            replace ko := ko.keep hb_
            replace hO2 := hO2.keep hb_
            replace hw := Below.after hw hb_
            clear hb_
            clear hP2 hO2
            refine hK_ _ _ (⟨kt, yx00⟩) ?_
            simp only [Act.put, List.getElem_toArray, List.getElem_cons_succ, List.getElem_cons_zero, List.setIfInBounds_toArray, List.set_cons_succ, List.set_cons_zero]
            clear hK_
            refine wpAnyH_take (i := 15) (v := ?v21) rfl (by kernel_rfl) (by kernel_rfl) (by kernel_rfl) (fun _ _ _ h => h) (Or.inl ⟨by rfl, ?y21⟩) (⟨kt, yx00⟩) ?r21
            case y21 =>
              intro w_ hS_
              go_simp
              try with_reducible rfl
            simp only [Act.put, List.getElem_toArray, List.getElem_cons_succ, List.getElem_cons_zero, List.setIfInBounds_toArray, List.set_cons_succ, List.set_cons_zero]
            refine wpAnyH_take (i := 16) (v := ?v22) rfl (by kernel_rfl) (by kernel_rfl) (by kernel_rfl) (fun _ _ _ h => h) (Or.inl ⟨by rfl, ?y22⟩) (⟨kt, yx00⟩) ?r22
            case y22 =>
              intro w_ hS_
              go_simp
              try with_reducible rfl
            simp only [Act.put, List.getElem_toArray, List.getElem_cons_succ, List.getElem_cons_zero, List.setIfInBounds_toArray, List.set_cons_succ, List.set_cons_zero]
            refine wpAnyH_done (by kernel_rfl) ?_ _
            refine NoPanic.normal ?_
            exact key_ g4 g11 vO vP q14 ⟨R0, R1, R2, rb, kd, kt, ra, ko, hw⟩
        · refine wp_world_op (.slice (some ⟨w10.heap.size, 0, none⟩) 1 1) (w10.alloc (.cells (irow .u8 X) 23)) (by have h_ := run_bslK X hXl w10; simp [execOp, h_, Act.eval, Result.andThen]) ?_
          have hb_ : Below w10.heap.size w10 (w10.alloc (.cells (irow .u8 X) 23)) := (Below.refl _ _).alloc (Nat.le_refl _) _
          have sz_g16 : w.heap.size ≤ w10.heap.size := hw.size
          have lt_R0_g16 := lt_of_row R0
          have lt_R1_g16 := lt_of_row R1
          have lt_R2_g16 := lt_of_row R2
          have lt_rb_g16 := lt_of_row rb
          have lt_kd_g16 := lt_of_row kd
          have lt_kt_g16 := lt_of_row kt
          have lt_ra_g16 := lt_of_row ra
          have lt_yx00_g16 := lt_of_row yx00
          have rX := hp1_0 w10 (.cells (irow .u8 X) 23)
          replace R0 := keep hb_ R0
          replace R1 := keep hb_ R1
          replace R2 := keep hb_ R2
          replace rb := keep hb_ rb
          replace kd := keep hb_ kd
          replace kt := keep hb_ kt
          replace ra := keep hb_ ra
          replace yx00 := keep hb_ yx00
          replace ko := ko.keep hb_
          replace hl := hl.keep hb_
          replace hw := Below.after hw hb_
          clear hb_
          refine hK_ _ _ (⟨kt, yx00⟩) ?_
          simp only [Act.put, List.getElem_toArray, List.getElem_cons_succ, List.getElem_cons_zero, List.setIfInBounds_toArray, List.set_cons_succ, List.set_cons_zero]
          clear hK_
          generalize w10.alloc (.cells (irow .u8 X) 23) = q15 at *
          generalize w10.heap.size = g16 at *
          refine wpAnyH_one (k := 8) (fuel := 5) (by kernel_rfl) rfl (by kernel_rfl) (fun K_ hK_ => ?_)
          have ltko := ko.lt
          refine wp_world_op (.slice (some ⟨q15.heap.size, 0, none⟩) 0 0) (q15.alloc (.cells #[] 23)) (by kernel_rfl) ?_
          have hb_ : Below q15.heap.size q15 (q15.alloc (.cells #[] 23)) := (Below.refl _ _).alloc (Nat.le_refl _) _
          have sz_g18 : w.heap.size ≤ q15.heap.size := hw.size
          have lt_R0_g18 := lt_of_row R0
          have lt_R1_g18 := lt_of_row R1
          have lt_R2_g18 := lt_of_row R2
          have lt_rb_g18 := lt_of_row rb
          have lt_kd_g18 := lt_of_row kd
          have lt_kt_g18 := lt_of_row kt
          have lt_ra_g18 := lt_of_row ra
          have lt_yx00_g18 := lt_of_row yx00
          have lt_rX_g18 := lt_of_row rX
          have rE := hp1_0 q15 (.cells #[] 23)
          replace R0 := keep hb_ R0
          replace R1 := keep hb_ R1
          replace R2 := keep hb_ R2
          replace rb := keep hb_ rb
          replace kd := keep hb_ kd
          replace kt := keep hb_ kt
          replace ra := keep hb_ ra
          replace yx00 := keep hb_ yx00
          replace rX := keep hb_ rX
          replace ko := ko.keep hb_
          replace hl := hl.keep hb_
          replace hw := Below.after hw hb_
          clear hb_
          refine hK_ _ _ (⟨kt, yx00⟩) ?_
          simp only [Act.put, List.getElem_toArray, List.getElem_cons_succ, List.getElem_cons_zero, List.setIfInBounds_toArray, List.set_cons_succ, List.set_cons_zero]
          clear hK_
          generalize q15.alloc (.cells #[] 23) = q17 at *
          generalize q15.heap.size = g18 at *
          refine wpAnyH_one (k := 10) (fuel := 4) (by kernel_rfl) rfl (by kernel_rfl) (fun K_ hK_ => ?_)
          have hO := ownK_empty rE
          have hOk : ∀ k, (Value.slice (some ⟨g18, 0, none⟩) 0 0).ownBlock = some k → k = g18 := fun k e => by cases e; rfl
          have ltE := lt_of_row rE
          refine wp_append_Ks _ _ rfl g18 _ [] rfl hO _ _ ML rfl hl (by rw [hlq.out]; simp; omega) (by omega) (fun vO q19 hO2 hgr hnx => ?_)
          clear rE
          have lt10_R0 := lt_of_row R0
          have lt10_R1 := lt_of_row R1
          have lt10_R2 := lt_of_row R2
          have lt10_rb := lt_of_row rb
          have lt10_kd := lt_of_row kd
          have lt10_kt := lt_of_row kt
          have lt10_ra := lt_of_row ra
          have lt10_yx00 := lt_of_row yx00
          have lt10_rX := lt_of_row rX
          have ltko2 := ko.lt
          have hOb : ∀ k, vO.ownBlock = some k → k = g18 ∨ q17.heap.size ≤ k := fun k e => by
            rcases hnx with h | ⟨k', h, hk⟩
            · rw [h] at e; exact .inl (hOk k e)
            · rw [h] at e; cases e; exact .inr hk
          replace R0 := (hgr.block (w.heap.size) (lt_of_row R0) (fun e_ => by have := hOk _ e_.symm; omega)).trans R0
          replace R1 := (hgr.block (w.heap.size + 1) (lt_of_row R1) (fun e_ => by have := hOk _ e_.symm; omega)).trans R1
          replace R2 := (hgr.block (w.heap.size + 1 + 1) (lt_of_row R2) (fun e_ => by have := hOk _ e_.symm; omega)).trans R2
          replace rb := (hgr.block (gb) (lt_of_row rb) (fun e_ => by have := hOk _ e_.symm; omega)).trans rb
          replace kd := (hgr.block (e + 4) (lt_of_row kd) (fun e_ => by have := hOk _ e_.symm; omega)).trans kd
          replace kt := (hgr.block (e + 1) (lt_of_row kt) (fun e_ => by have := hOk _ e_.symm; omega)).trans kt
          replace ra := (hgr.block (ga) (lt_of_row ra) (fun e_ => by have := hOk _ e_.symm; omega)).trans ra
          replace yx00 := (hgr.block (g8) (lt_of_row yx00) (fun e_ => by have := hOk _ e_.symm; omega)).trans yx00
          replace rX := (hgr.block (g16) (lt_of_row rX) (fun e_ => by have := hOk _ e_.symm; omega)).trans rX
          replace ko := ko.move (fun k o e h => (hgr.block k (lt_of_heap h) (fun e_ => by have := hOk _ e_.symm; have := ltko k e; omega)).trans h)
          replace hw := hw.grown hgr hw.size (fun k e => by have := hOk k e; omega)
          have szg_q19 := hgr.size
          clear hgr hnx hOk hl
          replace hO := hO2
          clear hO2
          rw [List.nil_append] at hO
          refine hK_ _ _ (⟨kt, yx00⟩) ?_
          simp only [Act.put, List.getElem_toArray, List.getElem_cons_succ, List.getElem_cons_zero, List.setIfInBounds_toArray, List.set_cons_succ, List.set_cons_zero]
          clear hK_
          refine wpAnyH_one (k := 13) (fuel := 3) (by kernel_rfl) rfl (by kernel_rfl) (fun K_ hK_ => ?_)
          have hOk : ∀ k, vO.ownBlock = some k → k = g18 ∨ q17.heap.size ≤ k := hOb
          have lO := hO.lt
          have ltX_ := lt_of_row rX
          refine wp_append_K _ _ rfl g18 _ ML rfl hO g16 X hXl rfl rX (by rw [hlq.out]; omega) (by omega) (fun vP q20 hO2 hgr hnx => ?_)
          clear rX
          replace R0 := (hgr.block (w.heap.size) (lt_of_row R0) (fun e_ => by have := hOk _ e_.symm; omega)).trans R0
          replace R1 := (hgr.block (w.heap.size + 1) (lt_of_row R1) (fun e_ => by have := hOk _ e_.symm; omega)).trans R1
          replace R2 := (hgr.block (w.heap.size + 1 + 1) (lt_of_row R2) (fun e_ => by have := hOk _ e_.symm; omega)).trans R2
          replace rb := (hgr.block (gb) (lt_of_row rb) (fun e_ => by have := hOk _ e_.symm; omega)).trans rb
          replace kd := (hgr.block (e + 4) (lt_of_row kd) (fun e_ => by have := hOk _ e_.symm; omega)).trans kd
          replace kt := (hgr.block (e + 1) (lt_of_row kt) (fun e_ => by have := hOk _ e_.symm; omega)).trans kt
          replace ra := (hgr.block (ga) (lt_of_row ra) (fun e_ => by have := hOk _ e_.symm; omega)).trans ra
          replace yx00 := (hgr.block (g8) (lt_of_row yx00) (fun e_ => by have := hOk _ e_.symm; omega)).trans yx00
          replace ko := ko.move (fun k o e h => (hgr.block k (lt_of_heap h) (fun e_ => by have := hOk _ e_.symm; have := ltko k e; have := ltko2 k e; omega)).trans h)
          replace hw := hw.grown hgr hw.size (fun k e => by have := hOk k e; omega)
          have szg_q20 := hgr.size
          clear hgr hnx hOk hO hOb lO
          refine hK_ _ _ (⟨kt, yx00⟩) ?_
          simp only [Act.put, List.getElem_toArray, List.getElem_cons_succ, List.getElem_cons_zero, List.setIfInBounds_toArray, List.set_cons_succ, List.set_cons_zero]
          clear hK_
          refine wpAnyH_one (k := 14) (fuel := 2) (by kernel_rfl) rfl (by kernel_rfl) (fun K_ hK_ => ?_)
          have hP2 := hO2
          rw [← hmsg.out] at hP2
          refine wp_call_ex (f := 25) (by kernel_rfl) (ex1 (l_alike MQ hall.out (by rw [hlq1.out]; omega) q20 _ _ _ _ ko hP2)) (fun v_ q21 hX_ => ?_)
          obtain ⟨rfl, hb_⟩ := hX_
          replace R0 := keep hb_ R0
          replace R1 := keep hb_ R1
          replace R2 := keep hb_ R2
          replace rb := keep hb_ rb
          replace kd := keep hb_ kd
          replace kt := keep hb_ kt
          replace ra := keep hb_ ra
          replace yx00 := keep hb_ yx00
          replace ko := ko.keep hb_
          replace hO2 := hO2.keep hb_
          replace hw := Below.after hw hb_
          clear hb_
          clear hP2 hO2
          refine hK_ _ _ (⟨kt, yx00⟩) ?_
          simp only [Act.put, List.getElem_toArray, List.getElem_cons_succ, List.getElem_cons_zero, List.setIfInBounds_toArray, List.set_cons_succ, List.set_cons_zero]
          clear hK_
          refine wpAnyH_take (i := 15) (v := ?v23) rfl (by kernel_rfl) (by kernel_rfl) (by kernel_rfl) (fun _ _ _ h => h) (Or.inl ⟨by rfl, ?y23⟩) (⟨kt, yx00⟩) ?r23
          case y23 =>
            intro w_ hS_
            go_simp
            try with_reducible rfl
          simp only [Act.put, List.getElem_toArray, List.getElem_cons_succ, List.getElem_cons_zero, List.setIfInBounds_toArray, List.set_cons_succ, List.set_cons_zero]
          refine wpAnyH_take (i := 16) (v := ?v24) rfl (by kernel_rfl) (by kernel_rfl) (by kernel_rfl) (fun _ _ _ h => h) (Or.inl ⟨by rfl, ?y24⟩) (⟨kt, yx00⟩) ?r24
          case y24 =>
            intro w_ hS_
            go_simp
            try with_reducible rfl
          simp only [Act.put, List.getElem_toArray, List.getElem_cons_succ, List.getElem_cons_zero, List.setIfInBounds_toArray, List.set_cons_succ, List.set_cons_zero]
          refine wpAnyH_done (by kernel_rfl) ?_ _
          refine NoPanic.normal ?_
          exact key_ g18 g16 vO vP q21 ⟨R0, R1, R2, rb, kd, kt, ra, ko, hw⟩
      clear R0 R1 R2 rb kd kt ra ko hw yx00 hl f0 f4
      rintro gE gX vO vP w12 ⟨R0, R1, R2, rb, kd, kt, ra, ko, hw⟩
      go_wp2_with (fail)
      go_loopw [19] (fun a0 wr => ∃ i : Nat, i ≤ q + 1 ∧ a0 = .int .i64 (i : Int) ∧ wr.heap[w.heap.size]? = some (.cells (irow .u8 key) 23 (0, 0)) ∧ wr.heap[w.heap.size + 1]? = some (.cells #[.int .u32 n] 36 (0, 0)) ∧ wr.heap[w.heap.size + 1 + 1]? = some (.cells #[.bool false] 4 (0, 0)) ∧ wr.heap[gb]? = some (.cells (chc (kat key i) (n + (i : Int))) 75 (0, 0)) ∧ wr.heap[e + 4]? = some (.deferred (some [])) ∧ wr.heap[e + 1]? = some (.cells #[.slice uo (q + 1) uc] 57 (0, 0)) ∧ wr.heap[ga]? = some (.cells (chc (kat key (q + 1)) (n + (q : Int) + 1)) 75 (0, 0)) ∧ OwnK wr e (.slice uo (q + 1) uc) MQ ∧ Below w.heap.size w wr) (fun a0 _ => q + 1 - (intOf a0).toNat)
      case atStart => exact ⟨0, by omega, rfl, R0, R1, R2, by rw [rb]; simp [kat], kd, kt, ra, ko, hw⟩
      case round =>
        clear R0 R1 R2 rb kd kt ra ko hw
        obtain ⟨i, hi, rfl, R0, R1, R2, rb, kd, kt, ra, ko, hw⟩ := hrel
        have ct : wr.cell? ⟨e + 1, 0, none⟩ = some (.slice uo (q + 1) uc) := by rw [cell_of_row _ _ 0 _ _ _ kt]; rfl
        by_cases hlt : i < q + 1
        · have hd : decide ((i : Int) < ((q + 1 : Nat) : Int)) = true := by simp; omega
          have hd2 : decide ((i : Int) < (q : Int) + 1) = true := by simp; omega
          have cX := a_Next (kat key i) (kat_len hkl i) (kat_bd hkz i) (n + (i : Int)) (by omega) (by omega) wr (hS.below hw) (hK.below hw) gb rb
          rw [show hm (kat key i) [1] = mat key i from rfl, show hm (kat key i) [2] = kat key (i + 1) from rfl] at cX
          go_wp2_with (fail)
          refine cX.mono ?_
          clear cX rb
          rintro e_ w14 ⟨rfl, rb, hb⟩
          replace R0 := hb.row R0 (by omega)
          replace R1 := hb.row R1 (by omega)
          replace R2 := hb.row R2 (by omega)
          replace kd := hb.row kd (by omega)
          replace kt := hb.row kt (by omega)
          replace ra := hb.row ra (by omega)
          replace ko := ko.move (fun k o e h => hb.row h (by have := j5b k e; omega))
          replace hw := But.after hw (by omega) hb
          clear hb ct
          have hYl := mat_len key i
          have hgi2 := hgi.out i hlt
          generalize mat key i = Y at *
          have zy0 := hp1_0 w14 (.cells (irow .u8 (zr 32)) 23)
          have yy00 := setRow_heap (w14.alloc (.cells (irow .u8 (zr 32)) 23)) (w14.heap.size) _ (irow .u8 Y) _ _ zy0
          have hbF : Below w14.heap.size w14 ((w14.alloc (.cells (irow .u8 (zr 32)) 23)).setRow (w14.heap.size) (irow .u8 Y)) := (below_setRow ((Below.refl _ _).alloc (Nat.le_refl _) _) (show w14.heap.size ≤ w14.heap.size by omega) (irow .u8 Y))
          go_wp2_with (first | (refine wpList_alloc rfl 23 rfl (irow .u8 (zr 32)) zkey ?_) | (refine wpList_store_row rfl 23 _ _ rfl (w14.heap.size) (irow .u8 Y) rfl rfl 23 _ zy0 (infok8 _ hYl) (fit32 _ _ (zr_len 32) hYl) (irow_one _ _) ?_; refine wpList_stay ?_) | fail)
          unfold WpStay
          replace R0 := keep hbF R0
          replace R1 := keep hbF R1
          replace R2 := keep hbF R2
          replace kd := keep hbF kd
          replace kt := keep hbF kt
          replace ra := keep hbF ra
          replace rb := keep hbF rb
          replace ko := ko.keep hbF
          replace hw := Below.after hw hbF
          clear hbF zy0
          generalize ((w14.alloc (.cells (irow .u8 (zr 32)) 23)).setRow (w14.heap.size) (irow .u8 Y)) = w15 at *
          generalize w14.heap.size = g14 at *
          obtain ⟨g1, cp1, cur1, hv1, rP, x1⟩ := ko.part hall.out i (by rw [hlq1.out]; exact hlt)
          rw [hlq1.out] at hv1
          cases hv1
          rw [hgi2] at x1
          have eY := eqKs Y hYl
          have q1 : ∀ p : Regrown, (grow (redrawn w15 p.d) p.os).cell? ⟨e + 1, 0, none⟩ = some (.slice (some ⟨g1, 0, none⟩) (q + 1) uc) := fun p => cell_regrown (by rw [cell_of_row _ _ 0 _ _ _ kt]; rfl) p.d p.os
          have hix : decide ((i : Int) < ((q + 1 : Nat) : Int)) = true := by simp; omega
          go_wp2_with (fail)
          have HR0 := keepr R0
          have HR1 := keepr R1
          have HR2 := keepr R2
          have Hkd := keepr kd
          have Hkt := keepr kt
          have Hra := keepr ra
          have Hrb := keepr rb
          have Hyy00 := keepr yy00
          have HrP := keepr rP
          refine wp_region_quiet_below (by kernel_rfl) (by kernel_rfl) ?_
          go_big_quiet_step (fail)
          go_big_quiet_step (fail)
          go_big_quiet_step (fail)
          refine wpQuiet_load_part rfl 23 _ rfl (g14) 0 rfl 23 (irow .u8 Y) (0, 0) (irow .u8 Y) _ Hyy00.out (all_row _) Tryd.underlying23 rfl (infok8 _ hYl) ?_
          simp only [Act.put, List.setIfInBounds_toArray, List.set_cons_succ, List.set_cons_zero]
          go_big_quiet_step (fail)
          go_big_quiet_step (fail)
          go_big_quiet_step (fail)
          refine wpQuiet_load_part rfl 23 _ rfl g1 (i * 32) rfl 23 cur1 (0, 0) (irow .u8 Y) _ HrP.out x1 Tryd.underlying23 rfl (infok8 _ hYl) ?_
          simp only [Act.put, List.setIfInBounds_toArray, List.set_cons_succ, List.set_cons_zero]
          go_big_quiet_step (fail)
          go_big_quiet_step (fail)
          refine wpQuiet_nil ?_
          rintro _ ⟨p, rfl⟩
          have hb := below_regrown w15 p.d p.os
          generalize grow (redrawn w15 p.d) p.os = w16 at *
          clear HR0 HR1 HR2 Hkd Hkt Hra Hrb Hyy00 HrP
          replace R0 := keep hb R0
          replace R1 := keep hb R1
          replace R2 := keep hb R2
          replace kd := keep hb kd
          replace kt := keep hb kt
          replace ra := keep hb ra
          replace rb := keep hb rb
          replace yy00 := keep hb yy00
          replace rP := keep hb rP
          replace ko := ko.keep hb
          replace hw := Below.after hw hb
          clear hb
          clear q1
          go_wp2_with (fail)
          refine ⟨⟨i + 1, by omega, by go_num, R0, R1, R2, by rw [rb]; simp [Int.add_assoc], kd, kt, ra, ko, hw⟩, ?_⟩
          simp [intOf]; omega
        · obtain rfl : i = q + 1 := by omega
          have hd : decide (((q + 1 : Nat) : Int) < ((q + 1 : Nat) : Int)) = false := by simp
          have hd2 : decide ((q : Int) + 1 < (q : Int) + 1) = false := by simp
          have hKl := kat_len hkl (q + 1)
          have cNa : GivesB wr 16 #[.pointer (some ⟨ga, 0, none⟩)] (.int .u32 (n + (q : Int) + 1)) := fun V h => a_N _ hKl _ V ga (keep h ra)
          have cKa : GivesB wr 15 #[.pointer (some ⟨ga, 0, none⟩)] (.agg (irow .u8 (kat key (q + 1)))) := fun V h => a_Key _ hKl _ V ga (keep h ra)
          have hcast : n + ((q + 1 : Nat) : Int) = n + (q : Int) + 1 := by omega
          rw [hcast] at rb
          have cNb : GivesB wr 16 #[.pointer (some ⟨gb, 0, none⟩)] (.int .u32 (n + (q : Int) + 1)) := fun V h => a_N _ hKl _ V gb (keep h rb)
          have cKb : GivesB wr 15 #[.pointer (some ⟨gb, 0, none⟩)] (.agg (irow .u8 (kat key (q + 1)))) := fun V h => a_Key _ hKl _ V gb (keep h rb)
          clear hcast
          generalize kat key (q + 1) = KQ at *
          have eQ := eqKs KQ hKl
          go_wp2_with (fail)
          have q1 : ∀ p : Regrown, (grow (redrawn wr p.d) p.os).cell? ⟨w.heap.size + 1, 0, none⟩ = some (.int .u32 n) := fun p => cell_regrown (by rw [cell_of_row _ _ 0 _ _ _ R1]; rfl) p.d p.os
          have q2 : ∀ p : Regrown, (grow (redrawn wr p.d) p.os).cell? ⟨e + 1, 0, none⟩ = some (.slice uo (q + 1) uc) := fun p => cell_regrown (by rw [cell_of_row _ _ 0 _ _ _ kt]; rfl) p.d p.os
          refine wp_region_tail (C := fun w' => ∃ p : Regrown, w' = grow (redrawn wr p.d) p.os) 29 _ rfl rfl rfl (by kernel_rfl) (by kernel_rfl) (by kernel_rfl) (by kernel_rfl) ⟨⟨wr.drawn + 1, #[]⟩, by rw [grow_empty]; rfl⟩ ?_
          dsimp only [List.set, idle]
          go_big_quiet_step (fail)
          go_big_quiet_step (exact cNa.re)
          go_big_quiet_step (fail)
          go_big_quiet_step (exact cNb.re)
          go_big_quiet_step (fail)
          go_big_quiet_step (fail)
          go_big_quiet_step (fail)
          go_big_quiet_step (exact cKa.re)
          go_big_quiet_step (fail)
          go_big_quiet_step (exact cKb.re)
          go_big_quiet_step (fail)
          go_big_quiet_step (fail)
          go_big_quiet_step (fail)
          go_big_quiet_step (fail)
          go_big_quiet_step (exact cNa.re)
          go_big_quiet_step (fail)
          go_big_quiet_step (fail)
          go_big_quiet_step (fail)
          go_big_quiet_step (fail)
          go_big_quiet_step (fail)
          go_big_quiet_step (fail)
          go_big_quiet_step (fail)
          go_big_quiet_step (fail)
          go_big_quiet_step (fail)
          go_big_quiet_step (fail)
          go_big_quiet_step (fail)
          go_big_quiet_step (fail)
          go_big_quiet_step (fail)
          go_big_quiet_step (fail)
          refine wpQuiet_idle rfl rfl rfl ?_
          rintro _ ⟨p, rfl⟩
          have hb := below_regrown wr p.d p.os
          generalize grow (redrawn wr p.d) p.os = w17 at *
          clear q1 q2
          replace R2 := keep hb R2
          replace kd := keep hb kd
          replace hw := Below.after hw hb
          clear hb
          have c2 : w17.cell? ⟨w.heap.size + 1 + 1, 0, none⟩ = some (.bool false) := by rw [cell_of_row _ _ 0 _ _ _ R2]; rfl
          have f2 : w17.frozen? ⟨w.heap.size + 1 + 1, 0, none⟩ = false := by simp [World.frozen?, R2]
          go_wp2_with (fail)
          have kd' := heap_other (g := w.heap.size + 1 + 1) (j := 0) (v := .bool true) kd (by omega)
          have R2' := row_set R2 0 (.bool true)
          have hw' := hw.setCell (p := ⟨w.heap.size + 1 + 1, 0, none⟩) (show w.heap.size ≤ w.heap.size + 1 + 1 by omega) (.bool true)
          generalize w17.setCell ⟨w.heap.size + 1 + 1, 0, none⟩ (.bool true) = w18 at *
          refine ⟨by simp, .inl ⟨_, _, rfl, run_takeDeferred kd', ?_⟩⟩
          refine ⟨_, results_cell_bool Tryd.results5 _ _ (w.heap.size + 1 + 1) _ rfl (row_load ((World.putObj_heap_other (by omega)).trans R2')), rfl, hw'.grown (grownBy_putObj' _ _ _) hw'.size (fun k e => by cases e; omega)⟩
  · have hd : decide (-(q : Int) < 0) = true := by simp; omega
    go_wp2_with (first | (refine wpList_box rfl 23 _ rfl _ rfl (bK _) ?_) | fail)
    try simp only [size_alloc1, Act.put, List.setIfInBounds_toArray, List.set_cons_succ, List.set_cons_zero]
    clear hd hst
    generalize (((w.alloc (.cells (irow .u8 key) 23)).alloc (.cells #[.int .u32 n] 36)).alloc (.cells #[.bool false] 4)) = w0 at *
    have hbd : Below w0.heap.size w0 w0.drew := below_drN (Below.refl _ _) 1
    replace R0 := keep hbd R0
    replace R1 := keep hbd R1
    replace R2 := keep hbd R2
    replace f0 := f0.below hbd
    replace f4 := f4.below hbd
    replace hw := Below.after hw hbd
    clear hbd
    refine wp_region_noPanic ?_
    refine wp_region_held (S := fun W => W.heap[w.heap.size]? = some (.cells (irow .u8 key) 23 (0, 0)) ∧ W.heap[w.heap.size + 1]? = some (.cells #[.int .u32 n] 36 (0, 0))) (by kernel_rfl) ?_
    change wpAnyH _ _ _ _ _ _ _ _ (World.drew _)
    generalize w0.drew = w1 at *
    refine wpAnyH_take (i := 0) (v := .agg (irow .u8 key)) rfl (by kernel_rfl) (by kernel_rfl) (by kernel_rfl) (fun _ _ _ h => h) (Or.inl ⟨by rfl, ?yb3⟩) (⟨R0, R1⟩) ?rb3
    case yb3 =>
      intro w_ hS_
      simp only [List.getElem_toArray, List.getElem_cons_zero]
      exact run_load_part 23 _ (by rfl) (w.heap.size) 0 (by rfl) 23 (irow .u8 key) (0, 0) (irow .u8 key) _ (hS_.1) (all_row _) Tryd.underlying23 rfl (infok8 _ hkl)
    simp only [Act.put, List.getElem_toArray, List.getElem_cons_zero, List.setIfInBounds_toArray, List.set_cons_succ, List.set_cons_zero]
    refine wpAnyH_take (i := 1) (v := .int .u32 n) rfl (by kernel_rfl) (by kernel_rfl) (by kernel_rfl) (fun _ _ _ h => h) (Or.inl ⟨by rfl, ?yb4⟩) (⟨R0, R1⟩) ?rb4
    case yb4 =>
      intro w_ hS_
      have c_ : w_.cell? ⟨w.heap.size + 1, 0, none⟩ = some (.int .u32 n) := by rw [cell_of_row _ _ 0 _ _ _ hS_.2]; rfl
      go_simp
      try with_reducible rfl
    simp only [Act.put, List.getElem_toArray, List.getElem_cons_succ, List.getElem_cons_zero, List.setIfInBounds_toArray, List.set_cons_succ, List.set_cons_zero]
    refine wpAnyH_take (i := 3) (v := .agg (irow .u8 key)) rfl (by kernel_rfl) (by kernel_rfl) (by kernel_rfl) (fun _ _ _ h => h) (Or.inl ⟨by rfl, ?yb5⟩) (⟨R0, R1⟩) ?rb5
    case yb5 =>
      intro w_ hS_
      simp only [List.getElem_toArray, List.getElem_cons_succ, List.getElem_cons_zero]
      exact run_load_part 23 _ (by rfl) (w.heap.size) 0 (by rfl) 23 (irow .u8 key) (0, 0) (irow .u8 key) _ (hS_.1) (all_row _) Tryd.underlying23 rfl (infok8 _ hkl)
    simp only [Act.put, List.getElem_toArray, List.getElem_cons_succ, List.getElem_cons_zero, List.setIfInBounds_toArray, List.set_cons_succ, List.set_cons_zero]
    refine wpAnyH_take (i := 4) (v := .int .u32 n) rfl (by kernel_rfl) (by kernel_rfl) (by kernel_rfl) (fun _ _ _ h => h) (Or.inl ⟨by rfl, ?yb6⟩) (⟨R0, R1⟩) ?rb6
    case yb6 =>
      intro w_ hS_
      have c_ : w_.cell? ⟨w.heap.size + 1, 0, none⟩ = some (.int .u32 n) := by rw [cell_of_row _ _ 0 _ _ _ hS_.2]; rfl
      go_simp
      try with_reducible rfl
    simp only [Act.put, List.getElem_toArray, List.getElem_cons_succ, List.getElem_cons_zero, List.setIfInBounds_toArray, List.set_cons_succ, List.set_cons_zero]
    refine wpAnyH_one (k := 2) (fuel := 3) (by kernel_rfl) rfl (by kernel_rfl) (fun K_ hK_ => ?_)
    refine wp_call_ex (f := 14) (by kernel_rfl) (new_k key hkl n w1) (fun v_ q1 hX_ => ?_)
    obtain ⟨⟨ga, rfl, lga, ra⟩, hb_⟩ := hX_
    have hzga := hw.size
    have ltR2_ := lt_of_row R2
    replace R0 := keep hb_ R0
    replace R1 := keep hb_ R1
    replace R2 := keep hb_ R2
    replace f0 := f0.below hb_
    replace f4 := f4.below hb_
    replace hw := Below.after hw hb_
    clear hb_
    refine hK_ _ _ (⟨R0, R1⟩) ?_
    simp only [Act.put, List.getElem_toArray, List.getElem_cons_succ, List.getElem_cons_zero, List.setIfInBounds_toArray, List.set_cons_succ, List.set_cons_zero]
    clear hK_
    refine wpAnyH_one (k := 5) (fuel := 2) (by kernel_rfl) rfl (by kernel_rfl) (fun K_ hK_ => ?_)
    refine wp_call_ex (f := 14) (by kernel_rfl) (new_k key hkl n q1) (fun v_ q2 hX_ => ?_)
    obtain ⟨⟨gb, rfl, lgb, rb⟩, hb_⟩ := hX_
    have hzgb := hw.size
    have lta := lt_of_row ra
    replace R0 := keep hb_ R0
    replace R1 := keep hb_ R1
    replace R2 := keep hb_ R2
    replace ra := keep hb_ ra
    replace f0 := f0.below hb_
    replace f4 := f4.below hb_
    replace hw := Below.after hw hb_
    clear hb_
    refine hK_ _ _ (⟨R0, R1⟩) ?_
    simp only [Act.put, List.getElem_toArray, List.getElem_cons_succ, List.getElem_cons_zero, List.setIfInBounds_toArray, List.set_cons_succ, List.set_cons_zero]
    clear hK_
    refine wpAnyH_take (i := 6) (v := ?vb7) rfl (by kernel_rfl) (by kernel_rfl) (by kernel_rfl) (fun _ _ _ h => h) (Or.inl ⟨by rfl, ?yb7⟩) (⟨R0, R1⟩) ?rb7
    case yb7 =>
      intro w_ hS_
      go_simp
      try with_reducible rfl
    simp only [Act.put, List.getElem_toArray, List.getElem_cons_succ, List.getElem_cons_zero, List.setIfInBounds_toArray, List.set_cons_succ, List.set_cons_zero]
    refine wpAnyH_take (i := 7) (v := ?vb8) rfl (by kernel_rfl) (by kernel_rfl) (by kernel_rfl) (fun _ _ _ h => h) (Or.inl ⟨by rfl, ?yb8⟩) (⟨R0, R1⟩) ?rb8
    case yb8 =>
      intro w_ hS_
      go_simp
      try with_reducible rfl
    simp only [Act.put, List.getElem_toArray, List.getElem_cons_succ, List.getElem_cons_zero, List.setIfInBounds_toArray, List.set_cons_succ, List.set_cons_zero]
    refine wpAnyH_done (by kernel_rfl) ?_ _
    refine NoPanic.normal ?_
    have hne : ga ≠ gb := by omega
    have hgw2_ : w.heap.size + 2 < ga := by omega
    have hgw3_ : w.heap.size + 2 < gb := by omega
    have hlow : w.heap.size ≤ gb := by omega
    clear hzgb lta lgb
    go_wp2_with (fail)
    have cN : GivesB q2 16 #[.pointer (some ⟨ga, 0, none⟩)] (.int .u32 n) := fun V h => a_N key hkl n V ga (keep h ra)
    have cK : GivesB q2 15 #[.pointer (some ⟨ga, 0, none⟩)] (.agg (irow .u8 key)) := fun V h => a_Key key hkl n V ga (keep h ra)
    have q1 : ∀ p : Regrown, (grow (redrawn q2 p.d) p.os).cell? ⟨w.heap.size + 1, 0, none⟩ = some (.int .u32 n) := fun p => cell_regrown (by rw [cell_of_row _ _ 0 _ _ _ R1]; rfl) p.d p.os
    have HR0 := keepr R0
    have HR1 := keepr R1
    have HR2 := keepr R2
    have Hra := keepr ra
    have Hrb := keepr rb
    refine wp_region_quiet_below (by kernel_rfl) (by kernel_rfl) ?_
    go_big_quiet_step (fail)
    go_big_quiet_step (fail)
    go_big_quiet_step (fail)
    go_big_quiet_step (fail)
    go_big_quiet_step (fail)
    go_big_quiet_step (fail)
    go_big_quiet_step (fail)
    go_big_quiet_step (fail)
    go_big_quiet_step (exact cN.re)
    go_big_quiet_step (fail)
    go_big_quiet_step (fail)
    go_big_quiet_step (fail)
    go_big_quiet_step (fail)
    go_big_quiet_step (fail)
    go_big_quiet_step (exact cK.re)
    refine wpQuiet_load_part rfl 23 _ rfl (w.heap.size) 0 rfl 23 (irow .u8 key) (0, 0) (irow .u8 key) _ HR0.out (all_row _) Tryd.underlying23 rfl (infok8 _ hkl) ?_
    simp only [Act.put, List.setIfInBounds_toArray, List.set_cons_succ, List.set_cons_zero]
    go_big_quiet_step (fail)
    go_big_quiet_step (fail)
    refine wpQuiet_nil ?_
    rintro _ ⟨p, rfl⟩
    have hb := below_regrown q2 p.d p.os
    generalize grow (redrawn q2 p.d) p.os = w3 at *
    clear HR0 HR1 HR2 Hra Hrb
    replace R0 := keep hb R0
    replace R1 := keep hb R1
    replace R2 := keep hb R2
    replace ra := keep hb ra
    replace rb := keep hb rb
    replace f0 := f0.below hb
    replace f4 := f4.below hb
    replace hw := Below.after hw hb
    clear hb
    clear cN cK q1
    have cn : w3.cell? ⟨w.heap.size + 1, 0, none⟩ = some (.int .u32 n) := by rw [cell_of_row _ _ 0 _ _ _ R1]; rfl
    by_cases hE : 4294967295 < n + (q : Int) + 1
    · have hd : decide (n + (q : Int) + 1 > 4294967295) = true := by simp; omega
      go_wp2_with (first | (refine wpList_load_want rfl 23 _ rfl (w.heap.size) rfl 23 (irow .u8 key) (0, 0) _ R0 Tryd.underlying23 rfl (infok8 _ hkl) ?_) | fail)
      refine (a_New key hkl 4294967295 w3).mono ?_
      rintro e_ w4 ⟨gc, rfl, lgc, rc, hb⟩
      replace R2 := keep hb R2
      replace hw := Below.after hw hb
      clear hb
      go_wp2_with (fail)
      refine (a_Next_end key hkl w4 gc rc).mono ?_
      rintro e_ w5 ⟨rfl, hb⟩
      replace R2 := keep hb R2
      replace hw := Below.after hw hb
      clear hb cn hd
      have ze0 := hp1_0 w5 (.cells (irow .u8 (zr 32)) 23)
      have ye00 := setRow_heap (w5.alloc (.cells (irow .u8 (zr 32)) 23)) (w5.heap.size) _ (irow .u8 (zr 32)) _ _ ze0
      have hbF : Below w5.heap.size w5 ((w5.alloc (.cells (irow .u8 (zr 32)) 23)).setRow (w5.heap.size) (irow .u8 (zr 32))) := (below_setRow ((Below.refl _ _).alloc (Nat.le_refl _) _) (show w5.heap.size ≤ w5.heap.size by omega) (irow .u8 (zr 32)))
      go_wp2_with (first | (refine wpList_alloc rfl 23 rfl (irow .u8 (zr 32)) zkey ?_) | (refine wpList_store_row rfl 23 _ _ rfl (w5.heap.size) (irow .u8 (zr 32)) rfl rfl 23 _ ze0 (infok8 _ (zr_len 32)) rfl (irow_one _ _) ?_; refine wpList_stay ?_) | fail)
      unfold WpStay
      replace R2 := keep hbF R2
      replace hw := Below.after hw hbF
      clear hbF ze0
      generalize ((w5.alloc (.cells (irow .u8 (zr 32)) 23)).setRow (w5.heap.size) (irow .u8 (zr 32))) = w6 at *
      have c6 : w6.cell? ⟨w.heap.size + 1 + 1, 0, none⟩ = some (.bool false) := by rw [cell_of_row _ _ 0 _ _ _ R2]; rfl
      have f6 : w6.frozen? ⟨w.heap.size + 1 + 1, 0, none⟩ = false := by simp [World.frozen?, R2]
      go_wp2_with (fail)
      refine ⟨_, results_cell_bool Tryd.results5 _ _ (w.heap.size + 1 + 1) _ rfl (row_cell_set R2 (.bool true)), rfl, hw.setCell (p := ⟨w.heap.size + 1 + 1, 0, none⟩) (show w.heap.size ≤ w.heap.size + 1 + 1 by omega) (.bool true)⟩
    · have hd : decide (n + (q : Int) + 1 > 4294967295) = false := by simp; omega
      go_wp2_with (fail)
      refine (a_Ahead ga ((q : Int) + 1) _).mono ?_
      rintro e_ w4 ⟨rfl, hw4⟩
      have O1 := hp4_1 w3 (.cells #[] 23) (.cells #[.slice (some ⟨w3.heap.size, 0, none⟩) 0 0] 57) (.cells #[.pointer (some ⟨ga, 0, none⟩)] 34) (.cells #[.int .i64 ((q : Int) + 1)] 3)
      have O2 := hp4_2 w3 (.cells #[] 23) (.cells #[.slice (some ⟨w3.heap.size, 0, none⟩) 0 0] 57) (.cells #[.pointer (some ⟨ga, 0, none⟩)] 34) (.cells #[.int .i64 ((q : Int) + 1)] 3)
      have O3 := hp4_3 w3 (.cells #[] 23) (.cells #[.slice (some ⟨w3.heap.size, 0, none⟩) 0 0] 57) (.cells #[.pointer (some ⟨ga, 0, none⟩)] 34) (.cells #[.int .i64 ((q : Int) + 1)] 3)
      have hs4 : w4.heap.size = w3.heap.size + 4 := by rw [hw4]; simp
      have hb4 : Below w3.heap.size w3 w4 := by rw [hw4]; exact ((((Below.refl _ _).alloc (Nat.le_refl _) _).alloc (by simp) _).alloc (by simp; omega) _).alloc (by simp; omega) _
      have hown4 : OwnK w4 w3.heap.size (.slice (some ⟨w3.heap.size, 0, none⟩) 0 0) [] := by
        have h : OwnK (w3.alloc (.cells #[] 23)) w3.heap.size (.slice (some ⟨w3.heap.size, 0, none⟩) 0 0) [] := World.ownsRow_made w3 #[] 0 (Nat.le_refl _) (by decide) (by rfl)
        rw [hw4]
        exact (h.keep ((Below.refl _ _).alloc (Nat.le_refl _) _)).keep (((Below.refl _ _).alloc (Nat.le_refl _) _).alloc (by simp) _)
      rw [← hw4] at O1 O2 O3
      have hsx : ((w3.alloc (.cells #[] 23)).alloc (.cells #[.slice (some ⟨w3.heap.size, 0, none⟩) 0 0] 57)).heap.size = w3.heap.size + 2 := by simp
      rw [hsx]
      have lta := lt_of_row ra
      have ltb := lt_of_row rb
      have ltR := lt_of_row R2
      replace R0 := keep hb4 R0
      replace R1 := keep hb4 R1
      replace R2 := keep hb4 R2
      replace ra := keep hb4 ra
      replace rb := keep hb4 rb
      replace hw := Below.after hw hb4
      clear hw4 hsx cn hd
      generalize w3.heap.size = e at *
      have hnf := nilfn #[.pointer (some ⟨e + 2, 0, none⟩), .pointer (some ⟨e + 2 + 1, 0, none⟩)]
      go_wp2_with (fail)
      refine wp_range_clo (gf := 37) (lb := #[.pointer (some ⟨e + 2, 0, none⟩), .pointer (some ⟨e + 2 + 1, 0, none⟩)]) rfl (enters_of Tryd.func37 (by kernel_rfl) rfl) ?_
      intro fn rec hrec
      rw [hs4] at hrec ⊢
      have y0 := hp2_0 w4 (.deferred (some [])) (.loop (rec .ready none))
      have y1 := hp2_1 w4 (.deferred (some [])) (.loop (rec .ready none))
      have hb0 : Below w4.heap.size w4 ((w4.alloc (.deferred (some []))).alloc (.loop (rec .ready none))) := ((Below.refl _ _).alloc (Nat.le_refl _) _).alloc (by simp) _
      have hs6 : ((w4.alloc (.deferred (some []))).alloc (.loop (rec .ready none))).heap.size = e + 6 := by simp [hs4]
      rw [hs4] at y0 y1
      have z1 := keep hb0 O1
      have z2 := keep hb0 O2
      have z3 := keep hb0 O3
      have za := keep hb0 ra
      have zo := hown4.keep hb0
      have zw := Below.after hw hb0
      have zf : ∀ g, g < e → ((w4.alloc (.deferred (some []))).alloc (.loop (rec .ready none))).heap[g]? = w4.heap[g]? := fun g hg => hb0.block g (by omega)
      generalize (w4.alloc (.deferred (some []))).alloc (.loop (rec .ready none)) = W1 at *
      have hah : ahm n ((q : Int) + 1) = q + 1 := by unfold ahm; omega
      have hwe : w.heap.size + 2 < e := by omega
      have hy_ : ∀ (i : Nat) A, i < ahm n ((q : Int) + 1) → FwJ w w4 e key (rec .ready none) i A → W1.heap.size + 3 ≤ A.heap.size → YieldAt Fence.wide 2 Tryd.prog (e + 4 + 1) #[.int .u32 (n + (i : Int)), .agg (irow .u8 (mat key i))] A fun e_ A' => (e_ = .returned (.bool true) ∧ FwJ w w4 e key (rec .ready none) (i + 1) A' ∧ A.heap.size ≤ A'.heap.size ∧ ∀ g, W1.heap.size ≤ g → g < W1.heap.size + 3 → A'.heap[g]? = A.heap[g]?) ∨ (e_ = .returned (.bool false) ∧ False) := by
        rw [hs6, hah]
        rintro i A hi ⟨g1, g2, ⟨v, g5, g5o, g5b⟩, g6, g7⟩ hAs
        have hsA := g7.size
        have hvlt := g5o.lt
        have hy := run_yield (P := Tryd.prog) (args := #[.int .u32 (n + (i : Int)), .agg (irow .u8 (mat key i))]) g1 (by rw [hrec]; rfl)
        rw [hrec] at hy
        refine ⟨fn, _, _, _, hy, roundIn_of_wpIn trivial ?_⟩
        have hml := mat_len key i
        have hmsg : Hid (msgs key (i + 1) = msgs key i ++ [mat key i]) := hide (msgs_succ key i)
        obtain ⟨so, sc, hv⟩ := slen_own g5o
        rw [msgs_len] at hv
        have hmln : (msgs key i).length = i := msgs_len key i
        generalize mat key i = X at *
        generalize msgs key i = L at *
        subst hv
        have r0 := hp1_0 A (.cells (irow .u8 (zr 32)) 23)
        have hbx : Below A.heap.size A ((A.alloc (.cells (irow .u8 (zr 32)) 23)).setRow A.heap.size (irow .u8 X)) := below_setRow ((Below.refl _ _).alloc (Nat.le_refl _) _) (Nat.le_refl _) _
        have rB := setRow_heap _ A.heap.size _ (irow .u8 X) _ _ r0
        clear hy
        gi_wp2_with (first | (refine wpListIn_alloc rfl 23 rfl (irow .u8 (zr 32)) zkey ?_) | (refine wpListIn_store_row rfl 23 _ _ rfl A.heap.size (irow .u8 X) rfl rfl 23 _ r0 (infok8 _ hml) (fit32 _ _ (zr_len 32) hml) (irow_one _ _) ?_) | fail)
        have hsC : A.heap.size < ((A.alloc (.cells (irow .u8 (zr 32)) 23)).setRow A.heap.size (irow .u8 X)).heap.size := lt_of_row rB
        generalize (A.alloc (.cells (irow .u8 (zr 32)) 23)).setRow A.heap.size (irow .u8 X) = C1 at *
        clear r0
        have e1 := keep hbx g1
        refine ⟨_, run_beginRound e1 (by rw [hrec]), ?_⟩
        have hoth : ∀ g, g ≠ e + 4 + 1 → (C1.putObj (e + 4 + 1) (.loop { rec .ready none with state := .busy })).heap[g]? = C1.heap[g]? := fun g hg => World.putObj_heap_other hg
        have e1' : (C1.putObj (e + 4 + 1) (.loop { rec .ready none with state := .busy })).heap[e + 4 + 1]? = some (.loop { rec .ready none with state := .busy }) := World.putObj_heap_same (lt_of_row e1)
        have e2 := (hoth (e + 4) (by omega)).trans (keep hbx g2)
        have e5 := (hoth (e + 1) (by omega)).trans (keep hbx g5)
        have e5o : OwnK (C1.putObj (e + 4 + 1) (.loop { rec .ready none with state := .busy })) e (.slice so i sc) L := (g5o.keep hbx).move (fun k o e h => (hoth k (by have := g5b k e; omega)).trans h)
        have e6 : ∀ g, g < e → (C1.putObj (e + 4 + 1) (.loop { rec .ready none with state := .busy })).heap[g]? = w4.heap[g]? := fun g hg => (hoth g (by omega)).trans ((hbx.block g (by omega)).trans (g6 g hg))
        have e7 : Below w.heap.size w (C1.putObj (e + 4 + 1) (.loop { rec .ready none with state := .busy })) := (Below.after g7 hbx).grown (grownBy_putObj' _ _ _) (by have := hbx.size; omega) (fun k e => by cases e; omega)
        have e8 : Hid (∀ g, e + 6 ≤ g → g < A.heap.size → (C1.putObj (e + 4 + 1) (.loop { rec .ready none with state := .busy })).heap[g]? = A.heap[g]?) := hide (fun g hg hl => (hoth g (by omega)).trans (hbx.block g hl))
        have rB2 := (hoth A.heap.size (by omega)).trans rB
        have hszC : (C1.putObj (e + 4 + 1) (.loop { rec .ready none with state := .busy })).heap.size = C1.heap.size := World.putObj_size
        generalize C1.putObj (e + 4 + 1) (.loop { rec .ready none with state := .busy }) = C2 at *
        clear hoth rB hbx e1 g1 g2 g5 g5o g7 g6
        rw [← hszC] at hsC
        clear hszC
        have c5 : C2.cell? ⟨e + 1, 0, none⟩ = some (.slice so i sc) := by rw [cell_of_row _ _ 0 _ _ _ e5]; rfl
        have cn : C2.cell? ⟨w.heap.size + 1, 0, none⟩ = some (.int .u32 n) := by rw [cell_of_row _ _ 0 _ _ _ ((e6 _ (by omega)).trans R1)]; rfl
        have hbn : Below C2.heap.size C2 (C2.alloc (.cells (irow .u8 X) 23)) := (Below.refl _ _).alloc (Nat.le_refl _) _
        have rN := hp1_0 C2 (.cells (irow .u8 X) 23)
        gi_wp2_with (first | (refine wpListIn_load_want rfl 23 _ rfl A.heap.size rfl 23 _ (0, 0) _ rB2 Tryd.underlying23 rfl (infok8 _ hml) ?_) | (refine wpListIn_bslK rfl _ rfl X hml rfl ?_) | (gi_at_builtin; suffices h9 : True ∧ _ from h9.2) | fail)
        refine ⟨trivial, ?_⟩
        refine wpListIn_append_K rfl (.tmp 84) (.tmp 86) rfl e _ L rfl (e5o.keep hbn) C2.heap.size X hml rfl rN (by omega) (by rw [size_alloc1]; omega) ?_
        intro v4 w5 hI4 hgr hnx
        have hgk : ∀ k, (Value.slice so i sc).ownBlock = some k → e ≤ k ∧ k < A.heap.size ∧ (k = e ∨ e + 9 ≤ k) := fun k e => ⟨(hvlt k e).1, (hvlt k e).2, g5b k e⟩
        have hoth : ∀ g, g < C2.heap.size → (g < e ∨ (e < g ∧ g < e + 9)) → w5.heap[g]? = C2.heap[g]? := fun g hg hh => (hgr.block g (by rw [size_alloc1]; omega) (fun e => by have := hgk g e.symm; omega)).trans (hbn.block g hg)
        have q1 := (hoth (e + 4 + 1) (by omega) (by omega)).trans e1'
        have q2 := (hoth (e + 4) (by omega) (by omega)).trans e2
        have q5 := (hoth (e + 1) (by omega) (by omega)).trans e5
        have q6 : ∀ g, g < e → w5.heap[g]? = w4.heap[g]? := fun g hg => (hoth g (by omega) (.inl hg)).trans (e6 g hg)
        have q7 : Below w.heap.size w w5 := (Below.after e7 hbn).grown hgr (by rw [size_alloc1]; have := e7.size; omega) (fun k e => by have := hgk k e; omega)
        have q8 : Hid (∀ g, e + 6 ≤ g → g < e + 9 → w5.heap[g]? = A.heap[g]?) := hide (fun g hg hl => (hoth g (by omega) (.inr (by omega))).trans (e8.out g hg (by omega)))
        have q9 : A.heap.size ≤ w5.heap.size := by have := hgr.size; rw [size_alloc1] at this; omega
        have q5b : ∀ k, v4.ownBlock = some k → k = e ∨ e + 9 ≤ k := fun k e => by
          rcases hnx with h | ⟨k', h, hk⟩
          · exact (hgk k (h ▸ e)).2.2
          · rw [h] at e; cases e; rw [size_alloc1] at hk; omega
        clear hoth e1' e2 e5 e5o e6 e7 e8 hbn rB2 c5 hgr hnx hgk rN cn hvlt
        obtain ⟨ao4, ac4, hv4⟩ := slen_own hI4
        have c6 : w5.cell? ⟨e + 1, 0, none⟩ = some (.slice so i sc) := by rw [cell_of_row _ _ 0 _ _ _ q5]; rfl
        have f6 : w5.frozen? ⟨e + 1, 0, none⟩ = false := by simp [World.frozen?, q5]
        generalize (L ++ [X]).length = fl at hv4
        subst hv4
        gi_wp2_with (fail)
        have p1 := heap_other (g := e + 1) (j := 0) (v := .slice ao4 fl ac4) q1 (by omega)
        have p2 := heap_other (g := e + 1) (j := 0) (v := .slice ao4 fl ac4) q2 (by omega)
        have p5 := row_set q5 0 (.slice ao4 fl ac4)
        have p5o : OwnK (w5.setCell ⟨e + 1, 0, none⟩ (.slice ao4 fl ac4)) e (.slice ao4 fl ac4) (L ++ [X]) := hI4.move (fun k o e h => heap_other h (by have := q5b k e; omega))
        have p6 : ∀ g, g < e → (w5.setCell ⟨e + 1, 0, none⟩ (.slice ao4 fl ac4)).heap[g]? = w4.heap[g]? := fun g hg => (heap_setCell_other w5 ⟨e + 1, 0, none⟩ g _ (by show g ≠ e + 1; omega)).trans (q6 g hg)
        have p7 := q7.setCell (p := ⟨e + 1, 0, none⟩) (show w.heap.size ≤ e + 1 by omega) (.slice ao4 fl ac4)
        have p8 : Hid (∀ g, e + 6 ≤ g → g < e + 9 → (w5.setCell ⟨e + 1, 0, none⟩ (.slice ao4 fl ac4)).heap[g]? = A.heap[g]?) := hide (fun g hg hl => (heap_setCell_other w5 ⟨e + 1, 0, none⟩ g _ (by show g ≠ e + 1; omega)).trans (q8.out g hg hl))
        have p9 : A.heap.size ≤ (w5.setCell ⟨e + 1, 0, none⟩ (.slice ao4 fl ac4)).heap.size := Nat.le_trans q9 (grownBy_setCell' w5 (e + 1) _).size
        generalize w5.setCell ⟨e + 1, 0, none⟩ (.slice ao4 fl ac4) = w6 at *
        refine ⟨_, _, run_endRound none p1, .inl ⟨rfl, ⟨?_, ?_, ⟨.slice ao4 fl ac4, ?_, ?_, q5b⟩, ?_, ?_⟩, ?_, ?_⟩⟩
        · rw [World.putObj_heap_same (lt_of_row p1)]; simp [hrec]
        · exact (World.putObj_heap_other (by omega)).trans p2
        · exact (World.putObj_heap_other (by omega)).trans p5
        · rw [hmsg.out]; exact p5o.move (fun k o e h => (World.putObj_heap_other (by have := q5b k e; omega)).trans h)
        · exact fun g hg => (World.putObj_heap_other (by omega)).trans (p6 g hg)
        · exact p7.grown (grownBy_putObj' _ _ _) p7.size (fun k e => by cases e; omega)
        · rw [World.putObj_size]; exact p9
        · exact fun g hg hl => (World.putObj_heap_other (by omega)).trans (p8.out g hg (by omega))
      refine (a_ahead1 key hkl hkz n hn0 hn1 ((q : Int) + 1) ga (e + 2) (e + 2 + 1) (e + 4 + 1) (FwJ w w4 e key (rec .ready none)) (fun _ _ => False) W1 z2 z3 za (fun i A h => ⟨hS.below h.2.2.2.2, hK.below h.2.2.2.2⟩) ?_ ?_ hy_).mono ?_
      · clear hy_
        rw [hs6]
        rintro i A C ⟨g1, g2, ⟨v, g5, g5o, g5b⟩, g6, g7⟩ hB hAs
        refine ⟨hB.row g1 (by omega), hB.row g2 (by omega), ⟨v, hB.row g5 (by omega), g5o.move (fun k o e h => hB.row h (by have := g5b k e; omega)), g5b⟩, fun g hg => (hB.block g (by omega) (by omega)).trans (g6 g hg), But.after g7 (by omega) hB⟩
      · clear hy_
        intro C hb hC
        refine ⟨keep hb y1, keep hb y0, ⟨_, keep hb z1, zo.keep hb, fun k e => by cases e; exact .inl rfl⟩, fun g hg => (hb.block g (by omega)).trans (zf g hg), Below.after zw hb⟩
      clear hy_ y0 y1 z1 z2 z3 za zo zw zf
      rw [hah]
      rintro e_ w5 ⟨⟨r, rfl⟩, (hJ | ⟨_, _, hF⟩)⟩
      rotate_left
      · exact hF.elim
      obtain ⟨j1, j2, ⟨u, j5, j5o, j5b⟩, j6, j7⟩ := hJ
      refine ⟨⟨_, rfl⟩, .inl ⟨j1, ?_⟩⟩
      have hj5 : e + 5 < w5.heap.size := lt_of_row j1
      have hoth : ∀ g, g ≠ e + 4 + 1 → (w5.putObj (e + 4 + 1) (.loop (rec .exhausted none))).heap[g]? = w5.heap[g]? := fun g hg => World.putObj_heap_other hg
      have hsz5 : (w5.putObj (e + 4 + 1) (.loop (rec .exhausted none))).heap.size = w5.heap.size := World.putObj_size
      have kd := (hoth (e + 4) (by omega)).trans j2
      have kt := (hoth (e + 1) (by omega)).trans j5
      have ko : OwnK (w5.putObj (e + 4 + 1) (.loop (rec .exhausted none))) e u (msgs key (q + 1)) := j5o.move (fun k o e h => (hoth k (by have := j5b k e; omega)).trans h)
      replace R0 := ((hoth _ (by omega)).trans (j6 _ (by omega))).trans R0
      replace R1 := ((hoth _ (by omega)).trans (j6 _ (by omega))).trans R1
      replace R2 := ((hoth _ (by omega)).trans (j6 _ (by omega))).trans R2
      replace ra := ((hoth _ (by omega)).trans (j6 _ (by omega))).trans ra
      replace rb := ((hoth _ (by omega)).trans (j6 _ (by omega))).trans rb
      replace hw := j7.grown (grownBy_putObj' w5 (e + 4 + 1) (.loop (rec .exhausted none))) j7.size (fun k e => by cases e; omega)
      replace f0 := hS.below hw
      replace f4 := hK.below hw
      rw [← hsz5] at hj5
      clear hoth hsz5 j1 j2 j5 j5o j6 j7
      generalize w5.putObj (e + 4 + 1) (.loop (rec .exhausted none)) = w6 at *
      clear O1 O2 O3 hs4 hs6 hown4 hah hrec
      have cn : w6.cell? ⟨w.heap.size + 1, 0, none⟩ = some (.int .u32 n) := by rw [cell_of_row _ _ 0 _ _ _ R1]; rfl
      go_wp2_with (fail)
      have hg1 : 1 < ga := by have := hK.sz; omega
      have hgw : w.heap.size ≤ ga := by omega
      have hgw2 : w.heap.size + 2 < ga := hgw2_
      refine (a_Skip key hkl hkz n hn0 q (by omega) (by omega) (q : Int) (Int.le_refl _) w6 f0 f4 ga hg1 ra).mono ?_
      rintro e_ w7 ⟨vl, rfl, hl, ra7, hb⟩
      have hs67 := hb.size
      replace R0 := hb.row R0 (by omega)
      replace R1 := hb.row R1 (by omega)
      replace R2 := hb.row R2 (by omega)
      replace rb := hb.row rb (by omega)
      replace kd := hb.row kd (by omega)
      replace kt := hb.row kt (by omega)
      replace ko := ko.move (fun k o e h => hb.row h (by have := j5b k e; omega))
      replace hw := But.after hw (by omega) hb
      replace f0 := hS.below hw
      replace f4 := hK.below hw
      clear hb ra cn
      have hX1 : hm (kat key q) [1] = mat key q := rfl
      have hX2 : hm (kat key q) [2] = kat key (q + 1) := rfl
      have cX := a_Next (kat key q) (kat_len hkl q) (kat_bd hkz q) (n + (q : Int)) (by omega) (by omega) w7 f0 f4 ga ra7
      rw [hX1, hX2] at cX
      clear hX1 hX2 ra7
      go_wp2_with (fail)
      refine cX.mono ?_
      clear cX
      rintro e_ w8 ⟨rfl, ra, hb⟩
      have hs78 := hb.size
      replace R0 := hb.row R0 (by omega)
      replace R1 := hb.row R1 (by omega)
      replace R2 := hb.row R2 (by omega)
      replace rb := hb.row rb (by omega)
      replace kd := hb.row kd (by omega)
      replace kt := hb.row kt (by omega)
      replace ko := ko.move (fun k o e h => hb.row h (by have := j5b k e; omega))
      replace hw := But.after hw (by omega) hb
      replace f0 := hS.below hw
      replace f4 := hK.below hw
      replace hl := hl.move (fun k o e h => hb.row h (by have := (hl.lt k e).1; omega))
      clear hb
      have hXl := mat_len key q
      have hmsg : Hid (msgs key (q + 1) = msgs key q ++ [mat key q]) := hide (msgs_succ key q)
      generalize hX : mat key q = X at *
      replace hX := hide hX
      have zx0 := hp1_0 w8 (.cells (irow .u8 (zr 32)) 23)
      have yx00 := setRow_heap (w8.alloc (.cells (irow .u8 (zr 32)) 23)) (w8.heap.size) _ (irow .u8 X) _ _ zx0
      have hbF : Below w8.heap.size w8 ((w8.alloc (.cells (irow .u8 (zr 32)) 23)).setRow (w8.heap.size) (irow .u8 X)) := (below_setRow ((Below.refl _ _).alloc (Nat.le_refl _) _) (show w8.heap.size ≤ w8.heap.size by omega) (irow .u8 X))
      go_wp2_with (first | (refine wpList_alloc rfl 23 rfl (irow .u8 (zr 32)) zkey ?_) | (refine wpList_store_row rfl 23 _ _ rfl (w8.heap.size) (irow .u8 X) rfl rfl 23 _ zx0 (infok8 _ hXl) (fit32 _ _ (zr_len 32) hXl) (irow_one _ _) ?_; refine wpList_stay ?_) | fail)
      unfold WpStay
      replace R0 := keep hbF R0
      replace R1 := keep hbF R1
      replace R2 := keep hbF R2
      replace rb := keep hbF rb
      replace kd := keep hbF kd
      replace kt := keep hbF kt
      replace ra := keep hbF ra
      replace ko := ko.keep hbF
      replace hl := hl.keep hbF
      replace hw := Below.after hw hbF
      have hs89 := hbF.size
      have l8 := lt_of_row yx00
      clear hbF zx0
      replace f0 := hS.below hw
      replace f4 := hK.below hw
      generalize ((w8.alloc (.cells (irow .u8 (zr 32)) 23)).setRow (w8.heap.size) (irow .u8 X)) = w9 at *
      generalize w8.heap.size = g8 at *
      obtain ⟨uo, uc, hu⟩ := slen_own ko
      obtain ⟨lo, lc, hu2⟩ := slen_own hl
      rw [msgs_len] at hu hu2
      subst hu hu2
      have hlq : Hid ((msgs key q).length = q) := hide (msgs_len key q)
      have hlq1 : Hid ((msgs key (q + 1)).length = q + 1) := hide (msgs_len key (q + 1))
      have hall : Hid (∀ k ∈ msgs key (q + 1), k.length = 32) := hide (msgs_all key (q + 1))
      have hgi : Hid (∀ i, i < q + 1 → (msgs key (q + 1)).getD i [] = mat key i) := hide (msgs_get key (q + 1))
      generalize msgs key (q + 1) = MQ at *
      generalize msgs key q = ML at *
      go_wp2_with (fail)
      apply ecut4 (fun (gE gX : Nat) (vO vP : Value) (W : World) => W.heap[w.heap.size]? = some (.cells (irow .u8 key) 23 (0, 0)) ∧ W.heap[w.heap.size + 1]? = some (.cells #[.int .u32 n] 36 (0, 0)) ∧ W.heap[w.heap.size + 1 + 1]? = some (.cells #[.bool false] 4 (0, 0)) ∧ W.heap[gb]? = some (.cells (chc key n) 75 (0, 0)) ∧ W.heap[e + 4]? = some (.deferred (some [])) ∧ W.heap[e + 1]? = some (.cells #[.slice uo (q + 1) uc] 57 (0, 0)) ∧ W.heap[ga]? = some (.cells (chc (kat key (q + 1)) (n + (q : Int) + 1)) 75 (0, 0)) ∧ OwnK W e (.slice uo (q + 1) uc) MQ ∧ Below w.heap.size w W)
      · intro key_
        have hbd : Below w9.heap.size w9 w9.drew := below_drN (Below.refl _ _) 1
        replace R0 := keep hbd R0
        replace R1 := keep hbd R1
        replace R2 := keep hbd R2
        replace rb := keep hbd rb
        replace kd := keep hbd kd
        replace kt := keep hbd kt
        replace ra := keep hbd ra
        replace yx00 := keep hbd yx00
        replace ko := ko.keep hbd
        replace hl := hl.keep hbd
        replace hw := Below.after hw hbd
        clear hbd
        refine wp_region_noPanic ?_
        refine wp_region_held (S := fun W => W.heap[e + 1]? = some (.cells #[.slice uo (q + 1) uc] 57 (0, 0)) ∧ W.heap[g8]? = some (.cells (irow .u8 X) 23 (0, 0))) (by kernel_rfl) ?_
        change wpAnyH _ _ _ _ _ _ _ _ (World.drew _)
        generalize w9.drew = w10 at *
        refine wpAnyH_take (i := 0) (v := ?vb9) rfl (by kernel_rfl) (by kernel_rfl) (by kernel_rfl) (fun _ _ _ h => h) (Or.inl ⟨by rfl, ?yb9⟩) (⟨kt, yx00⟩) ?rb9
        case yb9 =>
          intro w_ hS_
          go_simp
          try with_reducible rfl
        simp only [Act.put, List.getElem_toArray, List.getElem_cons_zero, List.setIfInBounds_toArray, List.set_cons_succ, List.set_cons_zero]
        refine wpAnyH_take (i := 1) (v := ?vb10) rfl (by kernel_rfl) (by kernel_rfl) (by kernel_rfl) (fun _ _ _ h => h) (Or.inl ⟨by rfl, ?yb10⟩) (⟨kt, yx00⟩) ?rb10
        case yb10 =>
          intro w_ hS_
          go_simp
          try with_reducible rfl
        simp only [Act.put, List.getElem_toArray, List.getElem_cons_succ, List.getElem_cons_zero, List.setIfInBounds_toArray, List.set_cons_succ, List.set_cons_zero]
        refine wpAnyH_take (i := 2) (v := ?vb11) rfl (by kernel_rfl) (by kernel_rfl) (by kernel_rfl) (fun _ _ _ h => h) (Or.inl ⟨by rfl, ?yb11⟩) (⟨kt, yx00⟩) ?rb11
        case yb11 =>
          intro w_ hS_
          go_simp
          try with_reducible rfl
        simp only [Act.put, List.getElem_toArray, List.getElem_cons_succ, List.getElem_cons_zero, List.setIfInBounds_toArray, List.set_cons_succ, List.set_cons_zero]
        refine wpAnyH_take (i := 3) (v := ?vb12) rfl (by kernel_rfl) (by kernel_rfl) (by kernel_rfl) (fun _ _ _ h => h) (Or.inl ⟨by rfl, ?yb12⟩) (⟨kt, yx00⟩) ?rb12
        case yb12 =>
          intro w_ hS_
          go_simp
          try with_reducible rfl
        simp only [Act.put, List.getElem_toArray, List.getElem_cons_succ, List.getElem_cons_zero, List.setIfInBounds_toArray, List.set_cons_succ, List.set_cons_zero]
        refine wpAnyH_take (i := 4) (v := ?vb13) rfl (by kernel_rfl) (by kernel_rfl) (by kernel_rfl) (fun _ _ _ h => h) (Or.inl ⟨by rfl, ?yb13⟩) (⟨kt, yx00⟩) ?rb13
        case yb13 =>
          intro w_ hS_
          go_simp
          try with_reducible rfl
        simp only [Act.put, List.getElem_toArray, List.getElem_cons_succ, List.getElem_cons_zero, List.setIfInBounds_toArray, List.set_cons_succ, List.set_cons_zero]
        refine wpAnyH_take (i := 5) (v := ?vb14) rfl (by kernel_rfl) (by kernel_rfl) (by kernel_rfl) (fun _ _ _ h => h) (Or.inl ⟨by rfl, ?yb14⟩) (⟨kt, yx00⟩) ?rb14
        case yb14 =>
          intro w_ hS_
          go_simp
          try with_reducible rfl
        simp only [Act.put, List.getElem_toArray, List.getElem_cons_succ, List.getElem_cons_zero, List.setIfInBounds_toArray, List.set_cons_succ, List.set_cons_zero]
        refine wpAnyH_take (i := 6) (v := ?vb15) rfl (by kernel_rfl) (by kernel_rfl) (by kernel_rfl) (fun _ _ _ h => h) (Or.inl ⟨by rfl, ?yb15⟩) (⟨kt, yx00⟩) ?rb15
        case yb15 =>
          intro w_ hS_
          go_simp
          try with_reducible rfl
        simp only [Act.put, List.getElem_toArray, List.getElem_cons_succ, List.getElem_cons_zero, List.setIfInBounds_toArray, List.set_cons_succ, List.set_cons_zero]
        refine wpAnyH_take (i := 7) (v := .slice uo (q + 1) uc) rfl (by kernel_rfl) (by kernel_rfl) (by kernel_rfl) (fun _ _ _ h => h) (Or.inl ⟨by rfl, ?yb16⟩) (⟨kt, yx00⟩) ?rb16
        case yb16 =>
          intro w_ hS_
          have c_ : w_.cell? ⟨e + 1, 0, none⟩ = some (.slice uo (q + 1) uc) := by rw [cell_of_row _ _ 0 _ _ _ hS_.1]; rfl
          go_simp
          try with_reducible rfl
        simp only [Act.put, List.getElem_toArray, List.getElem_cons_succ, List.getElem_cons_zero, List.setIfInBounds_toArray, List.set_cons_succ, List.set_cons_zero]
        refine wpAnyH_take (i := 9) (v := ?vb17) rfl (by kernel_rfl) (by kernel_rfl) (by kernel_rfl) (fun _ _ _ h => h) (Or.inl ⟨by rfl, ?yb17⟩) (⟨kt, yx00⟩) ?rb17
        case yb17 =>
          intro w_ hS_
          go_simp
          try with_reducible rfl
        simp only [Act.put, List.getElem_toArray, List.getElem_cons_succ, List.getElem_cons_zero, List.setIfInBounds_toArray, List.set_cons_succ, List.set_cons_zero]
        refine wpAnyH_take (i := 11) (v := .agg (irow .u8 X)) rfl (by kernel_rfl) (by kernel_rfl) (by kernel_rfl) (fun _ _ _ h => h) (Or.inl ⟨by rfl, ?yb18⟩) (⟨kt, yx00⟩) ?rb18
        case yb18 =>
          intro w_ hS_
          simp only [List.getElem_toArray, List.getElem_cons_succ, List.getElem_cons_zero]
          exact run_load_part 23 _ (by rfl) (g8) 0 (by rfl) 23 (irow .u8 X) (0, 0) (irow .u8 X) _ (hS_.2) (all_row _) Tryd.underlying23 rfl (infok8 _ hXl)
        simp only [Act.put, List.getElem_toArray, List.getElem_cons_succ, List.getElem_cons_zero, List.setIfInBounds_toArray, List.set_cons_succ, List.set_cons_zero]
        refine wpAnyH_two (j := 8) (k := 12) (fuel := 6) (by kernel_rfl) rfl rfl (by kernel_rfl) (by kernel_rfl) (fun K_ hK_ => ?_) (fun K_ hK_ => ?_)
        · have ltko := ko.lt
          refine wp_world_op (.slice (some ⟨w10.heap.size, 0, none⟩) 0 0) (w10.alloc (.cells #[] 23)) (by kernel_rfl) ?_
          have hb_ : Below w10.heap.size w10 (w10.alloc (.cells #[] 23)) := (Below.refl _ _).alloc (Nat.le_refl _) _
          have sz_g4 : w.heap.size ≤ w10.heap.size := hw.size
          have lt_R0_g4 := lt_of_row R0
          have lt_R1_g4 := lt_of_row R1
          have lt_R2_g4 := lt_of_row R2
          have lt_rb_g4 := lt_of_row rb
          have lt_kd_g4 := lt_of_row kd
          have lt_kt_g4 := lt_of_row kt
          have lt_ra_g4 := lt_of_row ra
          have lt_yx00_g4 := lt_of_row yx00
          have rE := hp1_0 w10 (.cells #[] 23)
          replace R0 := keep hb_ R0
          replace R1 := keep hb_ R1
          replace R2 := keep hb_ R2
          replace rb := keep hb_ rb
          replace kd := keep hb_ kd
          replace kt := keep hb_ kt
          replace ra := keep hb_ ra
          replace yx00 := keep hb_ yx00
          replace ko := ko.keep hb_
          replace hl := hl.keep hb_
          replace hw := Below.after hw hb_
          clear hb_
          refine hK_ _ _ (⟨kt, yx00⟩) ?_
          simp only [Act.put, List.getElem_toArray, List.getElem_cons_succ, List.getElem_cons_zero, List.setIfInBounds_toArray, List.set_cons_succ, List.set_cons_zero]
          clear hK_
          generalize w10.alloc (.cells #[] 23) = q3 at *
          generalize w10.heap.size = g4 at *
          refine wpAnyH_two (j := 10) (k := 12) (fuel := 5) (by kernel_rfl) rfl rfl (by kernel_rfl) (by kernel_rfl) (fun K_ hK_ => ?_) (fun K_ hK_ => ?_)
          · have hO := ownK_empty rE
            have hOk : ∀ k, (Value.slice (some ⟨g4, 0, none⟩) 0 0).ownBlock = some k → k = g4 := fun k e => by cases e; rfl
            have ltE := lt_of_row rE
            refine wp_append_Ks _ _ rfl g4 _ [] rfl hO _ _ ML rfl hl (by rw [hlq.out]; simp; omega) (by omega) (fun vO q5 hO2 hgr hnx => ?_)
            clear rE
            have lt10_R0 := lt_of_row R0
            have lt10_R1 := lt_of_row R1
            have lt10_R2 := lt_of_row R2
            have lt10_rb := lt_of_row rb
            have lt10_kd := lt_of_row kd
            have lt10_kt := lt_of_row kt
            have lt10_ra := lt_of_row ra
            have lt10_yx00 := lt_of_row yx00
            have ltko2 := ko.lt
            have hOb : ∀ k, vO.ownBlock = some k → k = g4 ∨ q3.heap.size ≤ k := fun k e => by
              rcases hnx with h | ⟨k', h, hk⟩
              · rw [h] at e; exact .inl (hOk k e)
              · rw [h] at e; cases e; exact .inr hk
            replace R0 := (hgr.block (w.heap.size) (lt_of_row R0) (fun e_ => by have := hOk _ e_.symm; omega)).trans R0
            replace R1 := (hgr.block (w.heap.size + 1) (lt_of_row R1) (fun e_ => by have := hOk _ e_.symm; omega)).trans R1
            replace R2 := (hgr.block (w.heap.size + 1 + 1) (lt_of_row R2) (fun e_ => by have := hOk _ e_.symm; omega)).trans R2
            replace rb := (hgr.block (gb) (lt_of_row rb) (fun e_ => by have := hOk _ e_.symm; omega)).trans rb
            replace kd := (hgr.block (e + 4) (lt_of_row kd) (fun e_ => by have := hOk _ e_.symm; omega)).trans kd
            replace kt := (hgr.block (e + 1) (lt_of_row kt) (fun e_ => by have := hOk _ e_.symm; omega)).trans kt
            replace ra := (hgr.block (ga) (lt_of_row ra) (fun e_ => by have := hOk _ e_.symm; omega)).trans ra
            replace yx00 := (hgr.block (g8) (lt_of_row yx00) (fun e_ => by have := hOk _ e_.symm; omega)).trans yx00
            replace ko := ko.move (fun k o e h => (hgr.block k (lt_of_heap h) (fun e_ => by have := hOk _ e_.symm; have := ltko k e; omega)).trans h)
            replace hw := hw.grown hgr hw.size (fun k e => by have := hOk k e; omega)
            have szg_q5 := hgr.size
            clear hgr hnx hOk hl
            replace hO := hO2
            clear hO2
            rw [List.nil_append] at hO
            refine hK_ _ _ (⟨kt, yx00⟩) ?_
            simp only [Act.put, List.getElem_toArray, List.getElem_cons_succ, List.getElem_cons_zero, List.setIfInBounds_toArray, List.set_cons_succ, List.set_cons_zero]
            clear hK_
            refine wpAnyH_one (k := 12) (fuel := 4) (by kernel_rfl) rfl (by kernel_rfl) (fun K_ hK_ => ?_)
            refine wp_world_op (.slice (some ⟨q5.heap.size, 0, none⟩) 1 1) (q5.alloc (.cells (irow .u8 X) 23)) (by have h_ := run_bslK X hXl q5; simp [execOp, h_, Act.eval, Result.andThen]) ?_
            have hb_ : Below q5.heap.size q5 (q5.alloc (.cells (irow .u8 X) 23)) := (Below.refl _ _).alloc (Nat.le_refl _) _
            have sz_g7 : w.heap.size ≤ q5.heap.size := hw.size
            have lt_R0_g7 := lt_of_row R0
            have lt_R1_g7 := lt_of_row R1
            have lt_R2_g7 := lt_of_row R2
            have lt_rb_g7 := lt_of_row rb
            have lt_kd_g7 := lt_of_row kd
            have lt_kt_g7 := lt_of_row kt
            have lt_ra_g7 := lt_of_row ra
            have lt_yx00_g7 := lt_of_row yx00
            have lO_g7 := hO.lt
            have rX := hp1_0 q5 (.cells (irow .u8 X) 23)
            replace R0 := keep hb_ R0
            replace R1 := keep hb_ R1
            replace R2 := keep hb_ R2
            replace rb := keep hb_ rb
            replace kd := keep hb_ kd
            replace kt := keep hb_ kt
            replace ra := keep hb_ ra
            replace yx00 := keep hb_ yx00
            replace ko := ko.keep hb_
            replace hO := hO.keep hb_
            replace hw := Below.after hw hb_
            clear hb_
            refine hK_ _ _ (⟨kt, yx00⟩) ?_
            simp only [Act.put, List.getElem_toArray, List.getElem_cons_succ, List.getElem_cons_zero, List.setIfInBounds_toArray, List.set_cons_succ, List.set_cons_zero]
            clear hK_
            generalize q5.alloc (.cells (irow .u8 X) 23) = q6 at *
            generalize q5.heap.size = g7 at *
            refine wpAnyH_one (k := 13) (fuel := 3) (by kernel_rfl) rfl (by kernel_rfl) (fun K_ hK_ => ?_)
            have hOk : ∀ k, vO.ownBlock = some k → k = g4 ∨ q3.heap.size ≤ k := hOb
            have lO := hO.lt
            have ltX_ := lt_of_row rX
            refine wp_append_K _ _ rfl g4 _ ML rfl hO g7 X hXl rfl rX (by rw [hlq.out]; omega) (by omega) (fun vP q8 hO2 hgr hnx => ?_)
            clear rX
            replace R0 := (hgr.block (w.heap.size) (lt_of_row R0) (fun e_ => by have := hOk _ e_.symm; omega)).trans R0
            replace R1 := (hgr.block (w.heap.size + 1) (lt_of_row R1) (fun e_ => by have := hOk _ e_.symm; omega)).trans R1
            replace R2 := (hgr.block (w.heap.size + 1 + 1) (lt_of_row R2) (fun e_ => by have := hOk _ e_.symm; omega)).trans R2
            replace rb := (hgr.block (gb) (lt_of_row rb) (fun e_ => by have := hOk _ e_.symm; omega)).trans rb
            replace kd := (hgr.block (e + 4) (lt_of_row kd) (fun e_ => by have := hOk _ e_.symm; omega)).trans kd
            replace kt := (hgr.block (e + 1) (lt_of_row kt) (fun e_ => by have := hOk _ e_.symm; omega)).trans kt
            replace ra := (hgr.block (ga) (lt_of_row ra) (fun e_ => by have := hOk _ e_.symm; omega)).trans ra
            replace yx00 := (hgr.block (g8) (lt_of_row yx00) (fun e_ => by have := hOk _ e_.symm; omega)).trans yx00
            replace ko := ko.move (fun k o e h => (hgr.block k (lt_of_heap h) (fun e_ => by have := hOk _ e_.symm; have := ltko k e; have := ltko2 k e; omega)).trans h)
            replace hw := hw.grown hgr hw.size (fun k e => by have := hOk k e; omega)
            have szg_q8 := hgr.size
            clear hgr hnx hOk hO hOb lO
            refine hK_ _ _ (⟨kt, yx00⟩) ?_
            simp only [Act.put, List.getElem_toArray, List.getElem_cons_succ, List.getElem_cons_zero, List.setIfInBounds_toArray, List.set_cons_succ, List.set_cons_zero]
            clear hK_
            refine wpAnyH_one (k := 14) (fuel := 2) (by kernel_rfl) rfl (by kernel_rfl) (fun K_ hK_ => ?_)
            have hP2 := hO2
            rw [← hmsg.out] at hP2
            refine wp_call_ex (f := 25) (by kernel_rfl) (ex1 (l_alike MQ hall.out (by rw [hlq1.out]; omega) q8 _ _ _ _ ko hP2)) (fun v_ q9 hX_ => ?_)
            obtain ⟨rfl, hb_⟩ := hX_
            replace R0 := keep hb_ R0
            replace R1 := keep hb_ R1
            replace R2 := keep hb_ R2
            replace rb := keep hb_ rb
            replace kd := keep hb_ kd
            replace kt := keep hb_ kt
            replace ra := keep hb_ ra
            replace yx00 := keep hb_ yx00
            replace ko := ko.keep hb_
            replace hO2 := hO2.keep hb_
            replace hw := Below.after hw hb_
            clear hb_
            clear hP2 hO2
            refine hK_ _ _ (⟨kt, yx00⟩) ?_
            simp only [Act.put, List.getElem_toArray, List.getElem_cons_succ, List.getElem_cons_zero, List.setIfInBounds_toArray, List.set_cons_succ, List.set_cons_zero]
            clear hK_
            refine wpAnyH_take (i := 15) (v := ?vb19) rfl (by kernel_rfl) (by kernel_rfl) (by kernel_rfl) (fun _ _ _ h => h) (Or.inl ⟨by rfl, ?yb19⟩) (⟨kt, yx00⟩) ?rb19
            case yb19 =>
              intro w_ hS_
              go_simp
              try with_reducible rfl
            simp only [Act.put, List.getElem_toArray, List.getElem_cons_succ, List.getElem_cons_zero, List.setIfInBounds_toArray, List.set_cons_succ, List.set_cons_zero]
            refine wpAnyH_take (i := 16) (v := ?vb20) rfl (by kernel_rfl) (by kernel_rfl) (by kernel_rfl) (fun _ _ _ h => h) (Or.inl ⟨by rfl, ?yb20⟩) (⟨kt, yx00⟩) ?rb20
            case yb20 =>
              intro w_ hS_
              go_simp
              try with_reducible rfl
            simp only [Act.put, List.getElem_toArray, List.getElem_cons_succ, List.getElem_cons_zero, List.setIfInBounds_toArray, List.set_cons_succ, List.set_cons_zero]
            refine wpAnyH_done (by kernel_rfl) ?_ _
            refine NoPanic.normal ?_
            exact key_ g4 g7 vO vP q9 ⟨R0, R1, R2, rb, kd, kt, ra, ko, hw⟩
          · refine wp_world_op (.slice (some ⟨q3.heap.size, 0, none⟩) 1 1) (q3.alloc (.cells (irow .u8 X) 23)) (by have h_ := run_bslK X hXl q3; simp [execOp, h_, Act.eval, Result.andThen]) ?_
            have hb_ : Below q3.heap.size q3 (q3.alloc (.cells (irow .u8 X) 23)) := (Below.refl _ _).alloc (Nat.le_refl _) _
            have sz_g11 : w.heap.size ≤ q3.heap.size := hw.size
            have lt_R0_g11 := lt_of_row R0
            have lt_R1_g11 := lt_of_row R1
            have lt_R2_g11 := lt_of_row R2
            have lt_rb_g11 := lt_of_row rb
            have lt_kd_g11 := lt_of_row kd
            have lt_kt_g11 := lt_of_row kt
            have lt_ra_g11 := lt_of_row ra
            have lt_yx00_g11 := lt_of_row yx00
            have lt_rE_g11 := lt_of_row rE
            have rX := hp1_0 q3 (.cells (irow .u8 X) 23)
            replace R0 := keep hb_ R0
            replace R1 := keep hb_ R1
            replace R2 := keep hb_ R2
            replace rb := keep hb_ rb
            replace kd := keep hb_ kd
            replace kt := keep hb_ kt
            replace ra := keep hb_ ra
            replace yx00 := keep hb_ yx00
            replace rE := keep hb_ rE
            replace ko := ko.keep hb_
            replace hl := hl.keep hb_
            replace hw := Below.after hw hb_
            clear hb_
            refine hK_ _ _ (⟨kt, yx00⟩) ?_
            simp only [Act.put, List.getElem_toArray, List.getElem_cons_succ, List.getElem_cons_zero, List.setIfInBounds_toArray, List.set_cons_succ, List.set_cons_zero]
            clear hK_
            generalize q3.alloc (.cells (irow .u8 X) 23) = q10 at *
            generalize q3.heap.size = g11 at *
            refine wpAnyH_one (k := 10) (fuel := 4) (by kernel_rfl) rfl (by kernel_rfl) (fun K_ hK_ => ?_)
            have hO := ownK_empty rE
            have hOk : ∀ k, (Value.slice (some ⟨g4, 0, none⟩) 0 0).ownBlock = some k → k = g4 := fun k e => by cases e; rfl
            have ltE := lt_of_row rE
            refine wp_append_Ks _ _ rfl g4 _ [] rfl hO _ _ ML rfl hl (by rw [hlq.out]; simp; omega) (by omega) (fun vO q12 hO2 hgr hnx => ?_)
            clear rE
            have lt10_R0 := lt_of_row R0
            have lt10_R1 := lt_of_row R1
            have lt10_R2 := lt_of_row R2
            have lt10_rb := lt_of_row rb
            have lt10_kd := lt_of_row kd
            have lt10_kt := lt_of_row kt
            have lt10_ra := lt_of_row ra
            have lt10_yx00 := lt_of_row yx00
            have lt10_rX := lt_of_row rX
            have ltko2 := ko.lt
            have hOb : ∀ k, vO.ownBlock = some k → k = g4 ∨ q10.heap.size ≤ k := fun k e => by
              rcases hnx with h | ⟨k', h, hk⟩
              · rw [h] at e; exact .inl (hOk k e)
              · rw [h] at e; cases e; exact .inr hk
            replace R0 := (hgr.block (w.heap.size) (lt_of_row R0) (fun e_ => by have := hOk _ e_.symm; omega)).trans R0
            replace R1 := (hgr.block (w.heap.size + 1) (lt_of_row R1) (fun e_ => by have := hOk _ e_.symm; omega)).trans R1
            replace R2 := (hgr.block (w.heap.size + 1 + 1) (lt_of_row R2) (fun e_ => by have := hOk _ e_.symm; omega)).trans R2
            replace rb := (hgr.block (gb) (lt_of_row rb) (fun e_ => by have := hOk _ e_.symm; omega)).trans rb
            replace kd := (hgr.block (e + 4) (lt_of_row kd) (fun e_ => by have := hOk _ e_.symm; omega)).trans kd
            replace kt := (hgr.block (e + 1) (lt_of_row kt) (fun e_ => by have := hOk _ e_.symm; omega)).trans kt
            replace ra := (hgr.block (ga) (lt_of_row ra) (fun e_ => by have := hOk _ e_.symm; omega)).trans ra
            replace yx00 := (hgr.block (g8) (lt_of_row yx00) (fun e_ => by have := hOk _ e_.symm; omega)).trans yx00
            replace rX := (hgr.block (g11) (lt_of_row rX) (fun e_ => by have := hOk _ e_.symm; omega)).trans rX
            replace ko := ko.move (fun k o e h => (hgr.block k (lt_of_heap h) (fun e_ => by have := hOk _ e_.symm; have := ltko k e; omega)).trans h)
            replace hw := hw.grown hgr hw.size (fun k e => by have := hOk k e; omega)
            have szg_q12 := hgr.size
            clear hgr hnx hOk hl
            replace hO := hO2
            clear hO2
            rw [List.nil_append] at hO
            refine hK_ _ _ (⟨kt, yx00⟩) ?_
            simp only [Act.put, List.getElem_toArray, List.getElem_cons_succ, List.getElem_cons_zero, List.setIfInBounds_toArray, List.set_cons_succ, List.set_cons_zero]
            clear hK_
            refine wpAnyH_one (k := 13) (fuel := 3) (by kernel_rfl) rfl (by kernel_rfl) (fun K_ hK_ => ?_)
            have hOk : ∀ k, vO.ownBlock = some k → k = g4 ∨ q10.heap.size ≤ k := hOb
            have lO := hO.lt
            have ltX_ := lt_of_row rX
            refine wp_append_K _ _ rfl g4 _ ML rfl hO g11 X hXl rfl rX (by rw [hlq.out]; omega) (by omega) (fun vP q13 hO2 hgr hnx => ?_)
            clear rX
            replace R0 := (hgr.block (w.heap.size) (lt_of_row R0) (fun e_ => by have := hOk _ e_.symm; omega)).trans R0
            replace R1 := (hgr.block (w.heap.size + 1) (lt_of_row R1) (fun e_ => by have := hOk _ e_.symm; omega)).trans R1
            replace R2 := (hgr.block (w.heap.size + 1 + 1) (lt_of_row R2) (fun e_ => by have := hOk _ e_.symm; omega)).trans R2
            replace rb := (hgr.block (gb) (lt_of_row rb) (fun e_ => by have := hOk _ e_.symm; omega)).trans rb
            replace kd := (hgr.block (e + 4) (lt_of_row kd) (fun e_ => by have := hOk _ e_.symm; omega)).trans kd
            replace kt := (hgr.block (e + 1) (lt_of_row kt) (fun e_ => by have := hOk _ e_.symm; omega)).trans kt
            replace ra := (hgr.block (ga) (lt_of_row ra) (fun e_ => by have := hOk _ e_.symm; omega)).trans ra
            replace yx00 := (hgr.block (g8) (lt_of_row yx00) (fun e_ => by have := hOk _ e_.symm; omega)).trans yx00
            replace ko := ko.move (fun k o e h => (hgr.block k (lt_of_heap h) (fun e_ => by have := hOk _ e_.symm; have := ltko k e; have := ltko2 k e; omega)).trans h)
            replace hw := hw.grown hgr hw.size (fun k e => by have := hOk k e; omega)
            have szg_q13 := hgr.size
            clear hgr hnx hOk hO hOb lO
            refine hK_ _ _ (⟨kt, yx00⟩) ?_
            simp only [Act.put, List.getElem_toArray, List.getElem_cons_succ, List.getElem_cons_zero, List.setIfInBounds_toArray, List.set_cons_succ, List.set_cons_zero]
            clear hK_
            refine wpAnyH_one (k := 14) (fuel := 2) (by kernel_rfl) rfl (by kernel_rfl) (fun K_ hK_ => ?_)
            have hP2 := hO2
            rw [← hmsg.out] at hP2
            refine wp_call_ex (f := 25) (by kernel_rfl) (ex1 (l_alike MQ hall.out (by rw [hlq1.out]; omega) q13 _ _ _ _ ko hP2)) (fun v_ q14 hX_ => ?_)
            obtain ⟨rfl, hb_⟩ := hX_
            replace R0 := keep hb_ R0
            replace R1 := keep hb_ R1
            replace R2 := keep hb_ R2
            replace rb := keep hb_ rb
            replace kd := keep hb_ kd
            replace kt := keep hb_ kt
            replace ra := keep hb_ ra
            replace yx00 := keep hb_ yx00
            replace ko := ko.keep hb_
            replace hO2 := hO2.keep hb_
            replace hw := Below.after hw hb_
            clear hb_
            clear hP2 hO2
            refine hK_ _ _ (⟨kt, yx00⟩) ?_
            simp only [Act.put, List.getElem_toArray, List.getElem_cons_succ, List.getElem_cons_zero, List.setIfInBounds_toArray, List.set_cons_succ, List.set_cons_zero]
            clear hK_
            refine wpAnyH_take (i := 15) (v := ?vb21) rfl (by kernel_rfl) (by kernel_rfl) (by kernel_rfl) (fun _ _ _ h => h) (Or.inl ⟨by rfl, ?yb21⟩) (⟨kt, yx00⟩) ?rb21
            case yb21 =>
              intro w_ hS_
              go_simp
              try with_reducible rfl
            simp only [Act.put, List.getElem_toArray, List.getElem_cons_succ, List.getElem_cons_zero, List.setIfInBounds_toArray, List.set_cons_succ, List.set_cons_zero]
            refine wpAnyH_take (i := 16) (v := ?vb22) rfl (by kernel_rfl) (by kernel_rfl) (by kernel_rfl) (fun _ _ _ h => h) (Or.inl ⟨by rfl, ?yb22⟩) (⟨kt, yx00⟩) ?rb22
            case yb22 =>
              intro w_ hS_
              go_simp
              try with_reducible rfl
            simp only [Act.put, List.getElem_toArray, List.getElem_cons_succ, List.getElem_cons_zero, List.setIfInBounds_toArray, List.set_cons_succ, List.set_cons_zero]
            refine wpAnyH_done (by kernel_rfl) ?_ _
            refine NoPanic.normal ?_
            exact key_ g4 g11 vO vP q14 ⟨R0, R1, R2, rb, kd, kt, ra, ko, hw⟩
        · refine wp_world_op (.slice (some ⟨w10.heap.size, 0, none⟩) 1 1) (w10.alloc (.cells (irow .u8 X) 23)) (by have h_ := run_bslK X hXl w10; simp [execOp, h_, Act.eval, Result.andThen]) ?_
          have hb_ : Below w10.heap.size w10 (w10.alloc (.cells (irow .u8 X) 23)) := (Below.refl _ _).alloc (Nat.le_refl _) _
          have sz_g16 : w.heap.size ≤ w10.heap.size := hw.size
          have lt_R0_g16 := lt_of_row R0
          have lt_R1_g16 := lt_of_row R1
          have lt_R2_g16 := lt_of_row R2
          have lt_rb_g16 := lt_of_row rb
          have lt_kd_g16 := lt_of_row kd
          have lt_kt_g16 := lt_of_row kt
          have lt_ra_g16 := lt_of_row ra
          have lt_yx00_g16 := lt_of_row yx00
          have rX := hp1_0 w10 (.cells (irow .u8 X) 23)
          replace R0 := keep hb_ R0
          replace R1 := keep hb_ R1
          replace R2 := keep hb_ R2
          replace rb := keep hb_ rb
          replace kd := keep hb_ kd
          replace kt := keep hb_ kt
          replace ra := keep hb_ ra
          replace yx00 := keep hb_ yx00
          replace ko := ko.keep hb_
          replace hl := hl.keep hb_
          replace hw := Below.after hw hb_
          clear hb_
          refine hK_ _ _ (⟨kt, yx00⟩) ?_
          simp only [Act.put, List.getElem_toArray, List.getElem_cons_succ, List.getElem_cons_zero, List.setIfInBounds_toArray, List.set_cons_succ, List.set_cons_zero]
          clear hK_
          generalize w10.alloc (.cells (irow .u8 X) 23) = q15 at *
          generalize w10.heap.size = g16 at *
          refine wpAnyH_one (k := 8) (fuel := 5) (by kernel_rfl) rfl (by kernel_rfl) (fun K_ hK_ => ?_)
          have ltko := ko.lt
          refine wp_world_op (.slice (some ⟨q15.heap.size, 0, none⟩) 0 0) (q15.alloc (.cells #[] 23)) (by kernel_rfl) ?_
          have hb_ : Below q15.heap.size q15 (q15.alloc (.cells #[] 23)) := (Below.refl _ _).alloc (Nat.le_refl _) _
          have sz_g18 : w.heap.size ≤ q15.heap.size := hw.size
          have lt_R0_g18 := lt_of_row R0
          have lt_R1_g18 := lt_of_row R1
          have lt_R2_g18 := lt_of_row R2
          have lt_rb_g18 := lt_of_row rb
          have lt_kd_g18 := lt_of_row kd
          have lt_kt_g18 := lt_of_row kt
          have lt_ra_g18 := lt_of_row ra
          have lt_yx00_g18 := lt_of_row yx00
          have lt_rX_g18 := lt_of_row rX
          have rE := hp1_0 q15 (.cells #[] 23)
          replace R0 := keep hb_ R0
          replace R1 := keep hb_ R1
          replace R2 := keep hb_ R2
          replace rb := keep hb_ rb
          replace kd := keep hb_ kd
          replace kt := keep hb_ kt
          replace ra := keep hb_ ra
          replace yx00 := keep hb_ yx00
          replace rX := keep hb_ rX
          replace ko := ko.keep hb_
          replace hl := hl.keep hb_
          replace hw := Below.after hw hb_
          clear hb_
          refine hK_ _ _ (⟨kt, yx00⟩) ?_
          simp only [Act.put, List.getElem_toArray, List.getElem_cons_succ, List.getElem_cons_zero, List.setIfInBounds_toArray, List.set_cons_succ, List.set_cons_zero]
          clear hK_
          generalize q15.alloc (.cells #[] 23) = q17 at *
          generalize q15.heap.size = g18 at *
          refine wpAnyH_one (k := 10) (fuel := 4) (by kernel_rfl) rfl (by kernel_rfl) (fun K_ hK_ => ?_)
          have hO := ownK_empty rE
          have hOk : ∀ k, (Value.slice (some ⟨g18, 0, none⟩) 0 0).ownBlock = some k → k = g18 := fun k e => by cases e; rfl
          have ltE := lt_of_row rE
          refine wp_append_Ks _ _ rfl g18 _ [] rfl hO _ _ ML rfl hl (by rw [hlq.out]; simp; omega) (by omega) (fun vO q19 hO2 hgr hnx => ?_)
          clear rE
          have lt10_R0 := lt_of_row R0
          have lt10_R1 := lt_of_row R1
          have lt10_R2 := lt_of_row R2
          have lt10_rb := lt_of_row rb
          have lt10_kd := lt_of_row kd
          have lt10_kt := lt_of_row kt
          have lt10_ra := lt_of_row ra
          have lt10_yx00 := lt_of_row yx00
          have lt10_rX := lt_of_row rX
          have ltko2 := ko.lt
          have hOb : ∀ k, vO.ownBlock = some k → k = g18 ∨ q17.heap.size ≤ k := fun k e => by
            rcases hnx with h | ⟨k', h, hk⟩
            · rw [h] at e; exact .inl (hOk k e)
            · rw [h] at e; cases e; exact .inr hk
          replace R0 := (hgr.block (w.heap.size) (lt_of_row R0) (fun e_ => by have := hOk _ e_.symm; omega)).trans R0
          replace R1 := (hgr.block (w.heap.size + 1) (lt_of_row R1) (fun e_ => by have := hOk _ e_.symm; omega)).trans R1
          replace R2 := (hgr.block (w.heap.size + 1 + 1) (lt_of_row R2) (fun e_ => by have := hOk _ e_.symm; omega)).trans R2
          replace rb := (hgr.block (gb) (lt_of_row rb) (fun e_ => by have := hOk _ e_.symm; omega)).trans rb
          replace kd := (hgr.block (e + 4) (lt_of_row kd) (fun e_ => by have := hOk _ e_.symm; omega)).trans kd
          replace kt := (hgr.block (e + 1) (lt_of_row kt) (fun e_ => by have := hOk _ e_.symm; omega)).trans kt
          replace ra := (hgr.block (ga) (lt_of_row ra) (fun e_ => by have := hOk _ e_.symm; omega)).trans ra
          replace yx00 := (hgr.block (g8) (lt_of_row yx00) (fun e_ => by have := hOk _ e_.symm; omega)).trans yx00
          replace rX := (hgr.block (g16) (lt_of_row rX) (fun e_ => by have := hOk _ e_.symm; omega)).trans rX
          replace ko := ko.move (fun k o e h => (hgr.block k (lt_of_heap h) (fun e_ => by have := hOk _ e_.symm; have := ltko k e; omega)).trans h)
          replace hw := hw.grown hgr hw.size (fun k e => by have := hOk k e; omega)
          have szg_q19 := hgr.size
          clear hgr hnx hOk hl
          replace hO := hO2
          clear hO2
          rw [List.nil_append] at hO
          refine hK_ _ _ (⟨kt, yx00⟩) ?_
          simp only [Act.put, List.getElem_toArray, List.getElem_cons_succ, List.getElem_cons_zero, List.setIfInBounds_toArray, List.set_cons_succ, List.set_cons_zero]
          clear hK_
          refine wpAnyH_one (k := 13) (fuel := 3) (by kernel_rfl) rfl (by kernel_rfl) (fun K_ hK_ => ?_)
          have hOk : ∀ k, vO.ownBlock = some k → k = g18 ∨ q17.heap.size ≤ k := hOb
          have lO := hO.lt
          have ltX_ := lt_of_row rX
          refine wp_append_K _ _ rfl g18 _ ML rfl hO g16 X hXl rfl rX (by rw [hlq.out]; omega) (by omega) (fun vP q20 hO2 hgr hnx => ?_)
          clear rX
          replace R0 := (hgr.block (w.heap.size) (lt_of_row R0) (fun e_ => by have := hOk _ e_.symm; omega)).trans R0
          replace R1 := (hgr.block (w.heap.size + 1) (lt_of_row R1) (fun e_ => by have := hOk _ e_.symm; omega)).trans R1
          replace R2 := (hgr.block (w.heap.size + 1 + 1) (lt_of_row R2) (fun e_ => by have := hOk _ e_.symm; omega)).trans R2
          replace rb := (hgr.block (gb) (lt_of_row rb) (fun e_ => by have := hOk _ e_.symm; omega)).trans rb
          replace kd := (hgr.block (e + 4) (lt_of_row kd) (fun e_ => by have := hOk _ e_.symm; omega)).trans kd
          replace kt := (hgr.block (e + 1) (lt_of_row kt) (fun e_ => by have := hOk _ e_.symm; omega)).trans kt
          replace ra := (hgr.block (ga) (lt_of_row ra) (fun e_ => by have := hOk _ e_.symm; omega)).trans ra
          replace yx00 := (hgr.block (g8) (lt_of_row yx00) (fun e_ => by have := hOk _ e_.symm; omega)).trans yx00
          replace ko := ko.move (fun k o e h => (hgr.block k (lt_of_heap h) (fun e_ => by have := hOk _ e_.symm; have := ltko k e; have := ltko2 k e; omega)).trans h)
          replace hw := hw.grown hgr hw.size (fun k e => by have := hOk k e; omega)
          have szg_q20 := hgr.size
          clear hgr hnx hOk hO hOb lO
          refine hK_ _ _ (⟨kt, yx00⟩) ?_
          simp only [Act.put, List.getElem_toArray, List.getElem_cons_succ, List.getElem_cons_zero, List.setIfInBounds_toArray, List.set_cons_succ, List.set_cons_zero]
          clear hK_
          refine wpAnyH_one (k := 14) (fuel := 2) (by kernel_rfl) rfl (by kernel_rfl) (fun K_ hK_ => ?_)
          have hP2 := hO2
          rw [← hmsg.out] at hP2
          refine wp_call_ex (f := 25) (by kernel_rfl) (ex1 (l_alike MQ hall.out (by rw [hlq1.out]; omega) q20 _ _ _ _ ko hP2)) (fun v_ q21 hX_ => ?_)
          obtain ⟨rfl, hb_⟩ := hX_
          replace R0 := keep hb_ R0
          replace R1 := keep hb_ R1
          replace R2 := keep hb_ R2
          replace rb := keep hb_ rb
          replace kd := keep hb_ kd
          replace kt := keep hb_ kt
          replace ra := keep hb_ ra
          replace yx00 := keep hb_ yx00
          replace ko := ko.keep hb_
          replace hO2 := hO2.keep hb_
          replace hw := Below.after hw hb_
          clear hb_
          clear hP2 hO2
          refine hK_ _ _ (⟨kt, yx00⟩) ?_
          simp only [Act.put, List.getElem_toArray, List.getElem_cons_succ, List.getElem_cons_zero, List.setIfInBounds_toArray, List.set_cons_succ, List.set_cons_zero]
          clear hK_
          refine wpAnyH_take (i := 15) (v := ?vb23) rfl (by kernel_rfl) (by kernel_rfl) (by kernel_rfl) (fun _ _ _ h => h) (Or.inl ⟨by rfl, ?yb23⟩) (⟨kt, yx00⟩) ?rb23
          case yb23 =>
            intro w_ hS_
            go_simp
            try with_reducible rfl
          simp only [Act.put, List.getElem_toArray, List.getElem_cons_succ, List.getElem_cons_zero, List.setIfInBounds_toArray, List.set_cons_succ, List.set_cons_zero]
          refine wpAnyH_take (i := 16) (v := ?vb24) rfl (by kernel_rfl) (by kernel_rfl) (by kernel_rfl) (fun _ _ _ h => h) (Or.inl ⟨by rfl, ?yb24⟩) (⟨kt, yx00⟩) ?rb24
          case yb24 =>
            intro w_ hS_
            go_simp
            try with_reducible rfl
          simp only [Act.put, List.getElem_toArray, List.getElem_cons_succ, List.getElem_cons_zero, List.setIfInBounds_toArray, List.set_cons_succ, List.set_cons_zero]
          refine wpAnyH_done (by kernel_rfl) ?_ _
          refine NoPanic.normal ?_
          exact key_ g18 g16 vO vP q21 ⟨R0, R1, R2, rb, kd, kt, ra, ko, hw⟩
      clear R0 R1 R2 rb kd kt ra ko hw yx00 hl f0 f4
      rintro gE gX vO vP w12 ⟨R0, R1, R2, rb, kd, kt, ra, ko, hw⟩
      go_wp2_with (fail)
      go_loopw [19] (fun a0 wr => ∃ i : Nat, i ≤ q + 1 ∧ a0 = .int .i64 (i : Int) ∧ wr.heap[w.heap.size]? = some (.cells (irow .u8 key) 23 (0, 0)) ∧ wr.heap[w.heap.size + 1]? = some (.cells #[.int .u32 n] 36 (0, 0)) ∧ wr.heap[w.heap.size + 1 + 1]? = some (.cells #[.bool false] 4 (0, 0)) ∧ wr.heap[gb]? = some (.cells (chc (kat key i) (n + (i : Int))) 75 (0, 0)) ∧ wr.heap[e + 4]? = some (.deferred (some [])) ∧ wr.heap[e + 1]? = some (.cells #[.slice uo (q + 1) uc] 57 (0, 0)) ∧ wr.heap[ga]? = some (.cells (chc (kat key (q + 1)) (n + (q : Int) + 1)) 75 (0, 0)) ∧ OwnK wr e (.slice uo (q + 1) uc) MQ ∧ Below w.heap.size w wr) (fun a0 _ => q + 1 - (intOf a0).toNat)
      case atStart => exact ⟨0, by omega, rfl, R0, R1, R2, by rw [rb]; simp [kat], kd, kt, ra, ko, hw⟩
      case round =>
        clear R0 R1 R2 rb kd kt ra ko hw
        obtain ⟨i, hi, rfl, R0, R1, R2, rb, kd, kt, ra, ko, hw⟩ := hrel
        have ct : wr.cell? ⟨e + 1, 0, none⟩ = some (.slice uo (q + 1) uc) := by rw [cell_of_row _ _ 0 _ _ _ kt]; rfl
        by_cases hlt : i < q + 1
        · have hd : decide ((i : Int) < ((q + 1 : Nat) : Int)) = true := by simp; omega
          have hd2 : decide ((i : Int) < (q : Int) + 1) = true := by simp; omega
          have cX := a_Next (kat key i) (kat_len hkl i) (kat_bd hkz i) (n + (i : Int)) (by omega) (by omega) wr (hS.below hw) (hK.below hw) gb rb
          rw [show hm (kat key i) [1] = mat key i from rfl, show hm (kat key i) [2] = kat key (i + 1) from rfl] at cX
          go_wp2_with (fail)
          refine cX.mono ?_
          clear cX rb
          rintro e_ w14 ⟨rfl, rb, hb⟩
          replace R0 := hb.row R0 (by omega)
          replace R1 := hb.row R1 (by omega)
          replace R2 := hb.row R2 (by omega)
          replace kd := hb.row kd (by omega)
          replace kt := hb.row kt (by omega)
          replace ra := hb.row ra (by omega)
          replace ko := ko.move (fun k o e h => hb.row h (by have := j5b k e; omega))
          replace hw := But.after hw (by omega) hb
          clear hb ct
          have hYl := mat_len key i
          have hgi2 := hgi.out i hlt
          generalize mat key i = Y at *
          have zy0 := hp1_0 w14 (.cells (irow .u8 (zr 32)) 23)
          have yy00 := setRow_heap (w14.alloc (.cells (irow .u8 (zr 32)) 23)) (w14.heap.size) _ (irow .u8 Y) _ _ zy0
          have hbF : Below w14.heap.size w14 ((w14.alloc (.cells (irow .u8 (zr 32)) 23)).setRow (w14.heap.size) (irow .u8 Y)) := (below_setRow ((Below.refl _ _).alloc (Nat.le_refl _) _) (show w14.heap.size ≤ w14.heap.size by omega) (irow .u8 Y))
          go_wp2_with (first | (refine wpList_alloc rfl 23 rfl (irow .u8 (zr 32)) zkey ?_) | (refine wpList_store_row rfl 23 _ _ rfl (w14.heap.size) (irow .u8 Y) rfl rfl 23 _ zy0 (infok8 _ hYl) (fit32 _ _ (zr_len 32) hYl) (irow_one _ _) ?_; refine wpList_stay ?_) | fail)
          unfold WpStay
          replace R0 := keep hbF R0
          replace R1 := keep hbF R1
          replace R2 := keep hbF R2
          replace kd := keep hbF kd
          replace kt := keep hbF kt
          replace ra := keep hbF ra
          replace rb := keep hbF rb
          replace ko := ko.keep hbF
          replace hw := Below.after hw hbF
          clear hbF zy0
          generalize ((w14.alloc (.cells (irow .u8 (zr 32)) 23)).setRow (w14.heap.size) (irow .u8 Y)) = w15 at *
          generalize w14.heap.size = g14 at *
          obtain ⟨g1, cp1, cur1, hv1, rP, x1⟩ := ko.part hall.out i (by rw [hlq1.out]; exact hlt)
          rw [hlq1.out] at hv1
          cases hv1
          rw [hgi2] at x1
          have eY := eqKs Y hYl
          have q1 : ∀ p : Regrown, (grow (redrawn w15 p.d) p.os).cell? ⟨e + 1, 0, none⟩ = some (.slice (some ⟨g1, 0, none⟩) (q + 1) uc) := fun p => cell_regrown (by rw [cell_of_row _ _ 0 _ _ _ kt]; rfl) p.d p.os
          have hix : decide ((i : Int) < ((q + 1 : Nat) : Int)) = true := by simp; omega
          go_wp2_with (fail)
          have HR0 := keepr R0
          have HR1 := keepr R1
          have HR2 := keepr R2
          have Hkd := keepr kd
          have Hkt := keepr kt
          have Hra := keepr ra
          have Hrb := keepr rb
          have Hyy00 := keepr yy00
          have HrP := keepr rP
          refine wp_region_quiet_below (by kernel_rfl) (by kernel_rfl) ?_
          go_big_quiet_step (fail)
          go_big_quiet_step (fail)
          go_big_quiet_step (fail)
          refine wpQuiet_load_part rfl 23 _ rfl (g14) 0 rfl 23 (irow .u8 Y) (0, 0) (irow .u8 Y) _ Hyy00.out (all_row _) Tryd.underlying23 rfl (infok8 _ hYl) ?_
          simp only [Act.put, List.setIfInBounds_toArray, List.set_cons_succ, List.set_cons_zero]
          go_big_quiet_step (fail)
          go_big_quiet_step (fail)
          go_big_quiet_step (fail)
          refine wpQuiet_load_part rfl 23 _ rfl g1 (i * 32) rfl 23 cur1 (0, 0) (irow .u8 Y) _ HrP.out x1 Tryd.underlying23 rfl (infok8 _ hYl) ?_
          simp only [Act.put, List.setIfInBounds_toArray, List.set_cons_succ, List.set_cons_zero]
          go_big_quiet_step (fail)
          go_big_quiet_step (fail)
          refine wpQuiet_nil ?_
          rintro _ ⟨p, rfl⟩
          have hb := below_regrown w15 p.d p.os
          generalize grow (redrawn w15 p.d) p.os = w16 at *
          clear HR0 HR1 HR2 Hkd Hkt Hra Hrb Hyy00 HrP
          replace R0 := keep hb R0
          replace R1 := keep hb R1
          replace R2 := keep hb R2
          replace kd := keep hb kd
          replace kt := keep hb kt
          replace ra := keep hb ra
          replace rb := keep hb rb
          replace yy00 := keep hb yy00
          replace rP := keep hb rP
          replace ko := ko.keep hb
          replace hw := Below.after hw hb
          clear hb
          clear q1
          go_wp2_with (fail)
          refine ⟨⟨i + 1, by omega, by go_num, R0, R1, R2, by rw [rb]; simp [Int.add_assoc], kd, kt, ra, ko, hw⟩, ?_⟩
          simp [intOf]; omega
        · obtain rfl : i = q + 1 := by omega
          have hd : decide (((q + 1 : Nat) : Int) < ((q + 1 : Nat) : Int)) = false := by simp
          have hd2 : decide ((q : Int) + 1 < (q : Int) + 1) = false := by simp
          have hKl := kat_len hkl (q + 1)
          have cNa : GivesB wr 16 #[.pointer (some ⟨ga, 0, none⟩)] (.int .u32 (n + (q : Int) + 1)) := fun V h => a_N _ hKl _ V ga (keep h ra)
          have cKa : GivesB wr 15 #[.pointer (some ⟨ga, 0, none⟩)] (.agg (irow .u8 (kat key (q + 1)))) := fun V h => a_Key _ hKl _ V ga (keep h ra)
          have hcast : n + ((q + 1 : Nat) : Int) = n + (q : Int) + 1 := by omega
          rw [hcast] at rb
          have cNb : GivesB wr 16 #[.pointer (some ⟨gb, 0, none⟩)] (.int .u32 (n + (q : Int) + 1)) := fun V h => a_N _ hKl _ V gb (keep h rb)
          have cKb : GivesB wr 15 #[.pointer (some ⟨gb, 0, none⟩)] (.agg (irow .u8 (kat key (q + 1)))) := fun V h => a_Key _ hKl _ V gb (keep h rb)
          clear hcast
          generalize kat key (q + 1) = KQ at *
          have eQ := eqKs KQ hKl
          go_wp2_with (fail)
          have q1 : ∀ p : Regrown, (grow (redrawn wr p.d) p.os).cell? ⟨w.heap.size + 1, 0, none⟩ = some (.int .u32 n) := fun p => cell_regrown (by rw [cell_of_row _ _ 0 _ _ _ R1]; rfl) p.d p.os
          have q2 : ∀ p : Regrown, (grow (redrawn wr p.d) p.os).cell? ⟨e + 1, 0, none⟩ = some (.slice uo (q + 1) uc) := fun p => cell_regrown (by rw [cell_of_row _ _ 0 _ _ _ kt]; rfl) p.d p.os
          refine wp_region_tail (C := fun w' => ∃ p : Regrown, w' = grow (redrawn wr p.d) p.os) 29 _ rfl rfl rfl (by kernel_rfl) (by kernel_rfl) (by kernel_rfl) (by kernel_rfl) ⟨⟨wr.drawn + 1, #[]⟩, by rw [grow_empty]; rfl⟩ ?_
          dsimp only [List.set, idle]
          go_big_quiet_step (fail)
          go_big_quiet_step (exact cNa.re)
          go_big_quiet_step (fail)
          go_big_quiet_step (exact cNb.re)
          go_big_quiet_step (fail)
          go_big_quiet_step (fail)
          go_big_quiet_step (fail)
          go_big_quiet_step (exact cKa.re)
          go_big_quiet_step (fail)
          go_big_quiet_step (exact cKb.re)
          go_big_quiet_step (fail)
          go_big_quiet_step (fail)
          go_big_quiet_step (fail)
          go_big_quiet_step (fail)
          go_big_quiet_step (exact cNa.re)
          go_big_quiet_step (fail)
          go_big_quiet_step (fail)
          go_big_quiet_step (fail)
          go_big_quiet_step (fail)
          go_big_quiet_step (fail)
          go_big_quiet_step (fail)
          go_big_quiet_step (fail)
          go_big_quiet_step (fail)
          go_big_quiet_step (fail)
          go_big_quiet_step (fail)
          go_big_quiet_step (fail)
          go_big_quiet_step (fail)
          go_big_quiet_step (fail)
          go_big_quiet_step (fail)
          refine wpQuiet_idle rfl rfl rfl ?_
          rintro _ ⟨p, rfl⟩
          have hb := below_regrown wr p.d p.os
          generalize grow (redrawn wr p.d) p.os = w17 at *
          clear q1 q2
          replace R2 := keep hb R2
          replace kd := keep hb kd
          replace hw := Below.after hw hb
          clear hb
          have c2 : w17.cell? ⟨w.heap.size + 1 + 1, 0, none⟩ = some (.bool false) := by rw [cell_of_row _ _ 0 _ _ _ R2]; rfl
          have f2 : w17.frozen? ⟨w.heap.size + 1 + 1, 0, none⟩ = false := by simp [World.frozen?, R2]
          go_wp2_with (fail)
          have kd' := heap_other (g := w.heap.size + 1 + 1) (j := 0) (v := .bool true) kd (by omega)
          have R2' := row_set R2 0 (.bool true)
          have hw' := hw.setCell (p := ⟨w.heap.size + 1 + 1, 0, none⟩) (show w.heap.size ≤ w.heap.size + 1 + 1 by omega) (.bool true)
          generalize w17.setCell ⟨w.heap.size + 1 + 1, 0, none⟩ (.bool true) = w18 at *
          refine ⟨by simp, .inl ⟨_, _, rfl, run_takeDeferred kd', ?_⟩⟩
          refine ⟨_, results_cell_bool Tryd.results5 _ _ (w.heap.size + 1 + 1) _ rfl (row_load ((World.putObj_heap_other (by omega)).trans R2')), rfl, hw'.grown (grownBy_putObj' _ _ _) hw'.size (fun k e => by cases e; omega)⟩
theorem forward_any (key : List Int) (hkl : key.length = 32) (hkz : ∀ z ∈ key, 0 ≤ z ∧ z < 256) (n : Int) (hn0 : 0 ≤ n) (hn1 : n ≤ 4294967295) (st : Int) (w : World) (hS : Sta w) (hK : Kon w) : Calls Tryd.prog 5 #[.agg (irow .u8 key), .int .u32 n, .int .i64 st] w fun e w' => e = .returned (.bool true) ∧ Below w.heap.size w w' := by
  have h1 : (st.tmod 40).natAbs < 40 := by
    rw [Int.natAbs_tmod]
    exact Nat.mod_lt _ (by decide)
  refine forward_aux key hkl hkz n hn0 hn1 st (st.tmod 40).natAbs (by omega) ?_ w hS hK
  omega

end Go.Proofs.YtmflfdedhbnfnaaDoor
