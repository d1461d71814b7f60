import Derived.Test.YtgfeacnhdlgpoaaDoorProg
import Derived.WalkKit
import Derived.WalkSpells
import Derived.WalkLawsBesides
import Derived.Lib.QuietBelow
import Derived.BigQuiet
import Derived.OrdersHeld
import Derived.OwnWalk
import Derived.Deep.RegionHeld3
import Derived.Deep.Cut
import Derived.Deep.CutRange
import Derived.Test.YtgfeacnhdlgpoaaDoorTrr
import Derived.Test.YtgfeacnhdlgpoaaDoorTrm
namespace Go.Proofs.YtgfeacnhdlgpoaaDoor
set_option maxRecDepth 100000
open Go Go.RowKit Go.Sort
attribute [local go_sem] setCell_drewN alloc_drewN
set_option maxRecDepth 100000 in
set_option maxHeartbeats 8000000 in
theorem r_keys_true (w : World) (n : Nat) : Calls Tryd.prog 55 #[.int .i64 (n : Int), .int .i64 (n : Int), .bool true] w fun e w' => e = .returned (.int .i64 0) ∧ Below w.heap.size w w' := by
  have d1 : decide ((n : Int) = (n : Int)) = true := by simp
  have hw : Below w.heap.size w w := Below.refl _ _
  go_enter Tryd.func55, Tryd.ntmps55
  go_wp2_with (fail)
  go_ret
  exact ⟨rfl, hw⟩
set_option maxRecDepth 100000 in
set_option maxHeartbeats 8000000 in
theorem r_keys_false (w : World) (n : Nat) : Calls Tryd.prog 55 #[.int .i64 (n : Int), .int .i64 (n : Int), .bool false] w fun e w' => e = .returned (.int .i64 1) ∧ Below w.heap.size w w' := by
  have d1 : decide ((n : Int) = (n : Int)) = true := by simp
  have hw : Below w.heap.size w w := Below.refl _ _
  go_enter Tryd.func55, Tryd.ntmps55
  go_wp2_with (fail)
  go_ret
  exact ⟨rfl, hw⟩
set_option maxRecDepth 100000 in
set_option maxHeartbeats 8000000 in
theorem r_keyslo (w : World) (n k m L : Nat) (wh : Bool) (_hm : n ≤ 4398046511000) (_hk : k < n) (hi : m ≤ k) (hmn : m < n) (hL : L ≤ 4398046511001) (cC : Gives 45 #[.int .i64 (n : Int)] (.int .i64 (k : Int))) (cP : (∀ W, Below w.heap.size w W → Calls Tryd.prog 55 #[.int .i64 (k : Int), .int .i64 (m : Int), .bool wh] W fun e w' => e = .returned (.int .i64 (L : Int)) ∧ Below W.heap.size W w')) : Calls Tryd.prog 55 #[.int .i64 (n : Int), .int .i64 (m : Int), .bool wh] w fun e w' => e = .returned (.int .i64 (1 + (L : Int))) ∧ Below w.heap.size w w' := by
  have d1 : decide ((m : Int) = (n : Int)) = false := by simp; omega
  have d2 : decide ((m : Int) ≤ (k : Int)) = true := by simp; omega
  have hw : Below w.heap.size w w := Below.refl _ _
  go_enter Tryd.func55, Tryd.ntmps55
  go_wp2_with (fail)
  refine (cC.at _).mono ?_
  rintro e_ w1 ⟨rfl, hb⟩
  replace hw := Below.after hw hb
  clear hb
  clear cC
  go_wp2_with (fail)
  refine (cP _ hw).mono ?_
  rintro e_ w2 ⟨rfl, hb⟩
  replace hw := Below.after hw hb
  clear hb
  clear cP
  go_wp2_with (fail)
  go_ret
  exact ⟨rfl, hw⟩
set_option maxRecDepth 100000 in
set_option maxHeartbeats 8000000 in
theorem r_keyshi (w : World) (n k m L : Nat) (wh : Bool) (hm : n ≤ 4398046511000) (hk : k < n) (hi : ¬ m ≤ k) (hmn : m < n) (hL : L ≤ 4398046511001) (cC : Gives 45 #[.int .i64 (n : Int)] (.int .i64 (k : Int))) (cP : (∀ W, Below w.heap.size w W → Calls Tryd.prog 55 #[.int .i64 ((n : Int) - (k : Int)), .int .i64 ((m : Int) - (k : Int)), .bool false] W fun e w' => e = .returned (.int .i64 (L : Int)) ∧ Below W.heap.size W w')) : Calls Tryd.prog 55 #[.int .i64 (n : Int), .int .i64 (m : Int), .bool wh] w fun e w' => e = .returned (.int .i64 (1 + (L : Int))) ∧ Below w.heap.size w w' := by
  have d1 : decide ((m : Int) = (n : Int)) = false := by simp; omega
  have d2 : decide ((m : Int) ≤ (k : Int)) = false := by simp; omega
  have hw : Below w.heap.size w w := Below.refl _ _
  go_enter Tryd.func55, Tryd.ntmps55
  go_wp2_with (fail)
  refine (cC.at _).mono ?_
  rintro e_ w1 ⟨rfl, hb⟩
  replace hw := Below.after hw hb
  clear hb
  clear cC
  go_wp2_with (fail)
  refine (cP _ hw).mono ?_
  rintro e_ w2 ⟨rfl, hb⟩
  replace hw := Below.after hw hb
  clear hb
  clear cP
  go_wp2_with (fail)
  go_ret
  exact ⟨rfl, hw⟩
theorem r_keys : ∀ (n m : Nat) (wh : Bool) (w : World), 1 ≤ m → m ≤ n → n ≤ 4398046511000 → Calls Tryd.prog 55 #[.int .i64 (n : Int), .int .i64 (m : Int), .bool wh] w fun e w' => e = .returned (.int .i64 (kys n m wh : Int)) ∧ Below w.heap.size w w' := by
  intro n
  induction n using Nat.strongRecOn with
  | ind n ih =>
    intro m wh w h1 hmn hn
    by_cases h : n ≤ m
    · obtain rfl : m = n := by omega
      rw [kys_end h]
      cases wh with
      | true => exact r_keys_true w m
      | false => exact r_keys_false w m
    · have h2 : ¬ n < 2 := by omega
      have a := ct_lt h2
      have b := ct_pos n
      by_cases hk : m ≤ ctN n
      · rw [kys_lo h1 (by omega) hk, Int.natCast_add]
        exact r_keyslo w n (ctN n) m _ wh hn a hk (by omega) (Nat.le_trans (kys_lt _ _ _ h1) (by omega)) (r_cut _ h2 hn) (fun W hW => ih _ a _ _ _ h1 hk (by omega))
      · rw [kys_hi h1 (by omega) hk, Int.natCast_add]
        have e1 : (n : Int) - (ctN n : Int) = ((n - ctN n : Nat) : Int) := by omega
        have e2 : (m : Int) - (ctN n : Int) = ((m - ctN n : Nat) : Int) := by omega
        exact r_keyshi w n (ctN n) m _ wh hn a hk (by omega) (Nat.le_trans (kys_lt _ _ _ (by omega)) (by omega)) (r_cut _ h2 hn) (fun W hW => by rw [e1, e2]; exact ih (n - ctN n) (by omega) _ _ _ (by omega) (by omega) (by omega))
theorem wp_append_Tn {w : World} {o : Oper} {a : Act} {K : Act → World → Prop} {Q : Exit → Act → World → Prop} (s x : Operand) (ho : o.op = .call { callee := .builtin .append, args := #[s, x], argTypes := #[66, 66] })
    (base : Nat) (v : Value) (ts : List (List Int)) (hs : a.eval s = v) (hT : OwnT w base v ts) (u : Value) (ms : List (List Int)) (hx : a.eval x = u) (hM : OwnT w base u ms) (hlen : ts.length + ms.length ≤ 1000000) (hbase : base ≤ w.heap.size)
    (h : ∀ v' w', OwnT w' base v' (ts ++ ms) → w.grownBy w' v.ownBlock → Nx w v v' → K (a.put o.dst v') w') : o.wp Tryd.prog a w K Q := by
  obtain ⟨i0, hi, hz0, hz1, hz2⟩ := infoT
  obtain ⟨vs, hv, hvs⟩ := hT
  obtain ⟨us, hu, hus⟩ := hM
  have l1 : vs.length = ts.length := by have := hv.1; omega
  have l2 : us.length = ms.length := by have := hu.1; omega
  have key : ∀ w' v', w'.ownsRow base 22 1 v' (ts.length + ms.length) (vs ++ us) → w.grownBy w' v.ownBlock → OwnT w' base v' (ts ++ ms) := fun w' v' q1 q2 => by
    refine ⟨vs ++ us, by rw [List.length_append]; exact q1, fun j y hy => ?_⟩
    by_cases hj : j < ts.length
    · rw [List.getElem?_append_left (by omega)] at hy
      rw [getD_app1 _ _ _ hj]
      exact (hvs j y hy).stay hv q2
    · rw [List.getElem?_append_right (by omega), l1] at hy
      rw [getD_app2 _ _ _ hj]
      exact (hus _ y hy).stay hv q2
  obtain ⟨ao, cap, rfl⟩ := slen_own hu
  cases ao with
  | some ad =>
    have hcells : ∀ j y, us[j]? = some y → w.cell? (ad.add j) = some y := by
      obtain ⟨_, ⟨e, _⟩ | ⟨g, c, cur, e, hb, hg, hn, hm, hcs, ht⟩⟩ := id hu
      · cases e
      · cases e
        intro j y hy
        rw [addr_add, cell_of_row _ _ _ _ _ _ hg, Nat.zero_add]
        rw [← ht] at hy
        rw [← Array.getElem?_toList]
        rw [List.getElem?_take] at hy
        split at hy
        · exact hy
        · cases hy
    have hone : ∀ y ∈ us, y.oneCell' = true := fun y hy => by
      obtain ⟨j, hj, e⟩ := List.mem_iff_getElem.1 hy
      have := hus j y (by rw [List.getElem?_eq_getElem hj, e])
      obtain ⟨ao, c, rfl⟩ := slen_own this
      rfl
    exact wp_append_nx s x 66 ho base 22 i0 (.slice none 0 0) 1 24 Tryd.underlying66 hi hz0 hz1 hz2 rfl (by decide) v ts.length vs hs hv ad ms.length cap us hx (by omega) hcells hone (by unfold maxLen; omega) (by omega) hbase (fun v' w' h1 h2 h3 => h v' w' (key w' v' h1 h2) h2 h3)
  | none =>
    obtain ⟨_, ⟨e, h0⟩ | ⟨g, c, cur, e, _⟩⟩ := id hu
    · have hm : ms = [] := List.eq_nil_of_length_eq_zero h0
      subst hm
      cases e
      have hrun := run_append_owned_none (P := Tryd.prog) w base 66 o.type 22 i0 1 Tryd.underlying66 hi _ ts.length vs hv
      unfold Oper.wp
      simp [execOp, ho, resolve, invoke, builtin, hs, hx, hrun, Result.andThen]
      exact h v w ⟨vs, by simpa using hv, fun j y hy => by rw [List.append_nil]; exact hvs j y hy⟩ (World.grownBy.refl _ _) (Nx.refl _ _)
    · cases e
/-- Two values lie in two blocks. -/
def Dj (a b : Value) : Prop := ∀ k, a.ownBlock = some k → b.ownBlock ≠ some k
theorem Dj.sym {a b : Value} (h : Dj a b) : Dj b a := fun k h1 h2 => h k h2 h1
theorem Dj.nil (a : Value) : Dj a (.slice none 0 0) := fun _ _ h => by cases h
theorem Dj.next {a b b' : Value} {W : World} (h : Dj a b) (hn : Nx W b b') (ha : ∀ k, a.ownBlock = some k → k < W.heap.size) : Dj a b' := fun k h1 => hn.ne (ha k h1) (h k h1)
theorem OwnT.other {W W' : World} {b c : Nat} {u v : Value} {S T : List (List Int)} (h : OwnT W b u S) (ht : OwnT W c v T) (hd : Dj u v) (hg : W.grownBy W' v.ownBlock) : OwnT W' b u S := by
  obtain ⟨us, h1, h2⟩ := h
  obtain ⟨vs, h3, _⟩ := ht
  refine ⟨us, ?_, fun j y hy => (h2 j y hy).stay h3 hg⟩
  obtain ⟨q1, q2⟩ := h1
  refine ⟨q1, ?_⟩
  rcases q2 with q2 | ⟨g, cap, cur, rfl, hb, r, rest⟩
  · exact .inl q2
  · exact .inr ⟨g, cap, cur, rfl, hb, (hg.block g (lt_of_row r) (fun e => hd g rfl e.symm)).trans r, rest⟩
theorem results_cell2_slot2 {P : Program} {fn : Func} {p q r s : Tmp} {ty : TypeId} (h : fn.results = #[.cell p ty, .cell q ty, .tmp r, .tmp s]) (tmps : Array Value) (w : World) (g1 g2 : Nat) (t1 t2 : TypeId) (c1 c2 : Array Value) (f1 f2 : Nat × Nat) (d : TypeDesc) (v u : Value)
    (h1 : tmps.getD p undef = .pointer (some ⟨g1, 0, none⟩)) (r1 : w.heap[g1]? = some (.cells c1 t1 f1)) (h2 : tmps.getD q undef = .pointer (some ⟨g2, 0, none⟩)) (r2 : w.heap[g2]? = some (.cells c2 t2 f2)) (h3 : tmps.getD r undef = v) (h4 : tmps.getD s undef = u)
    (hu : P.underlying ty = some d) (hd : (match d with | .struct _ | .array _ _ => true | _ => false) = true) (i1 : (P.info? ty).map (·.size) = some c1.size) (i2 : (P.info? ty).map (·.size) = some c2.size) :
    (results fn tmps).run P w = .ok (.tuple #[.agg c1, .agg c2, v, u]) w := by
  have q1 := run_loadVar_row w g1 t1 ty c1 f1 d r1 hu hd i1
  have q2 := run_loadVar_row w g2 t2 ty c2 f2 d r2 hu hd i2
  have p1 : tmps[p]?.getD undef = .pointer (some ⟨g1, 0, none⟩) := by simpa using h1
  have p2 : tmps[q]?.getD undef = .pointer (some ⟨g2, 0, none⟩) := by simpa using h2
  have p3 : tmps[r]?.getD undef = v := by simpa using h3
  have p4 : tmps[s]?.getD undef = u := by simpa using h4
  simp [results, h, p1, p2, p3, p4, asAddr, q1, q2]
set_option maxRecDepth 100000 in
set_option maxHeartbeats 8000000 in
theorem r_both_end {x : List Int} (hX : x.length = 32) (w : World) (v : Value) (n : Nat) : Calls Tryd.prog 39 #[.agg (irow .u8 x), .int .i64 (n : Int), .int .i64 (n : Int), .bool true, v] w fun e w' => ∃ v, e = .returned v ∧ ∃ vs vt, v = .tuple #[.agg (irow .u8 x), .agg (irow .u8 x), vs, vt] ∧ OwnT w' w.heap.size vs [] ∧ OwnT w' w.heap.size vt [] ∧ Dj vs vt ∧ Below w.heap.size w w' := by
  have d2 : decide ((n : Int) = (n : Int)) = true := by simp
  have rp0 := hp3_0 w (.cells (irow .u8 x) 24) (.cells (irow .u8 (zr 32)) 24) (.cells (irow .u8 (zr 32)) 24)
  have rp1 := hp3_1 w (.cells (irow .u8 x) 24) (.cells (irow .u8 (zr 32)) 24) (.cells (irow .u8 (zr 32)) 24)
  have rp2 := hp3_2 w (.cells (irow .u8 x) 24) (.cells (irow .u8 (zr 32)) 24) (.cells (irow .u8 (zr 32)) 24)
  have hw : Below w.heap.size w (((w.alloc (.cells (irow .u8 x) 24)).alloc (.cells (irow .u8 (zr 32)) 24)).alloc (.cells (irow .u8 (zr 32)) 24)) := ((((Below.refl _ _).alloc (Nat.le_refl _) _).alloc (by simp) _).alloc (by simp; omega) _)
  go_enter Tryd.func39, Tryd.ntmps39
  iterate 12 go_step
  try rw [zk32]
  generalize (((w.alloc (.cells (irow .u8 x) 24)).alloc (.cells (irow .u8 (zr 32)) 24)).alloc (.cells (irow .u8 (zr 32)) 24)) = w0 at *
  go_wp2_with (fail)
  have hb : Below w0.heap.size w0 w0.drew := below_drN (Below.refl _ _) 1
  replace rp0 := keep hb rp0
  replace rp1 := keep hb rp1
  replace rp2 := keep hb rp2
  replace hw := Below.after hw hb
  clear hb
  refine wp_region_noPanic ?_
  refine wp_region_held (S := fun W_ => W_.heap[w.heap.size]? = some (.cells (irow .u8 x) 24 (0, 0))) (by kernel_rfl) ?_
  change wpAnyH _ _ _ _ _ _ _ _ (World.drew _)
  generalize w0.drew = wd180 at *
  refine wpAnyH_take (i := 0) (v := .agg (irow .u8 x)) rfl (by kernel_rfl) (by kernel_rfl) (by kernel_rfl) (fun _ _ _ h => h) (Or.inl ⟨by rfl, ?y181⟩) (rp0) ?r181
  case y181 =>
    intro w_ hS_
    simp only [List.getElem_toArray, List.getElem_cons_zero]
    exact e_load_part 24 _ (by rfl) (w.heap.size) 0 (by rfl) 24 (irow .u8 x) (0, 0) (irow .u8 x) _ (hS_) (all_rowe _) Tryd.underlying24 rfl (infok8 _ hX)
  simp only [Act.put, List.getElem_toArray, List.getElem_cons_zero, List.setIfInBounds_toArray, List.set_cons_succ, List.set_cons_zero]
  refine wpAnyH_take (i := 1) (v := .agg (irow .u8 x)) rfl (by kernel_rfl) (by kernel_rfl) (by kernel_rfl) (fun _ _ _ h => h) (Or.inl ⟨by rfl, ?y182⟩) (rp0) ?r182
  case y182 =>
    intro w_ hS_
    simp only [List.getElem_toArray, List.getElem_cons_succ, List.getElem_cons_zero]
    exact e_load_part 24 _ (by rfl) (w.heap.size) 0 (by rfl) 24 (irow .u8 x) (0, 0) (irow .u8 x) _ (hS_) (all_rowe _) Tryd.underlying24 rfl (infok8 _ hX)
  simp only [Act.put, List.getElem_toArray, List.getElem_cons_succ, List.getElem_cons_zero, List.setIfInBounds_toArray, List.set_cons_succ, List.set_cons_zero]
  refine eH_one (k := 2) (fuel := 3) (by kernel_rfl) rfl (by kernel_rfl) (fun K_ hK_ => ?_)
  refine wp_store_row 24 _ _ rfl (w.heap.size + 1) (irow .u8 x) rfl rfl 24 _ rp1 (infok8 _ hX) (((irow_size _ _).trans (zr_len 32)).trans ((irow_size _ _).trans hX).symm) (irow_one8 _) ?_
  have hN_ := setRow_heap wd180 (w.heap.size + 1) _ (irow .u8 x) _ _ rp1
  replace rp0 := (setRow_other wd180 (w.heap.size + 1) (w.heap.size) (irow .u8 x) (by omega)).trans rp0
  replace rp2 := (setRow_other wd180 (w.heap.size + 1) (w.heap.size + 1 + 1) (irow .u8 x) (by omega)).trans rp2
  replace hw := below_setRow hw (show w.heap.size ≤ w.heap.size + 1 by omega) (irow .u8 x)
  generalize (wd180.setRow (w.heap.size + 1) (irow .u8 x)) = wq183 at *
  clear rp1
  have rp1 := hN_
  clear hN_
  refine hK_ _ _ (rp0) ?_
  simp only [Act.put]
  clear hK_
  refine eH_one (k := 3) (fuel := 2) (by kernel_rfl) rfl (by kernel_rfl) (fun K_ hK_ => ?_)
  refine wp_store_row 24 _ _ rfl (w.heap.size + 1 + 1) (irow .u8 x) rfl rfl 24 _ rp2 (infok8 _ hX) (((irow_size _ _).trans (zr_len 32)).trans ((irow_size _ _).trans hX).symm) (irow_one8 _) ?_
  have hN_ := setRow_heap wq183 (w.heap.size + 1 + 1) _ (irow .u8 x) _ _ rp2
  replace rp0 := (setRow_other wq183 (w.heap.size + 1 + 1) (w.heap.size) (irow .u8 x) (by omega)).trans rp0
  replace rp1 := (setRow_other wq183 (w.heap.size + 1 + 1) (w.heap.size + 1) (irow .u8 x) (by omega)).trans rp1
  replace hw := below_setRow hw (show w.heap.size ≤ w.heap.size + 1 + 1 by omega) (irow .u8 x)
  generalize (wq183.setRow (w.heap.size + 1 + 1) (irow .u8 x)) = wq184 at *
  clear rp2
  have rp2 := hN_
  clear hN_
  refine hK_ _ _ (rp0) ?_
  simp only [Act.put]
  clear hK_
  refine wpAnyH_take (i := 4) (v := ?v185) rfl (by kernel_rfl) (by kernel_rfl) (by kernel_rfl) (fun _ _ _ h => h) (Or.inl ⟨by rfl, ?y185⟩) (rp0) ?r185
  case y185 =>
    intro w_ hS_
    go_simp
    try with_reducible rfl
  simp only [Act.put, List.getElem_toArray, List.getElem_cons_succ, List.getElem_cons_zero, List.setIfInBounds_toArray, List.set_cons_succ, List.set_cons_zero]
  refine wpAnyH_take (i := 5) (v := ?v186) rfl (by kernel_rfl) (by kernel_rfl) (by kernel_rfl) (fun _ _ _ h => h) (Or.inl ⟨by rfl, ?y186⟩) (rp0) ?r186
  case y186 =>
    intro w_ hS_
    go_simp
    try with_reducible rfl
  simp only [Act.put, List.getElem_toArray, List.getElem_cons_succ, List.getElem_cons_zero, List.setIfInBounds_toArray, List.set_cons_succ, List.set_cons_zero]
  refine wpAnyH_done (by kernel_rfl) ?_ _
  refine NoPanic.normal ?_
  go_wp2_with (fail)
  exact bodyPost_ret (v := .tuple #[.agg (irow .u8 x), .agg (irow .u8 x), .slice none 0 0, .slice none 0 0]) (results_cell2_slot2 Tryd.results39 _ _ (w.heap.size + 1) (w.heap.size + 1 + 1) _ _ (irow .u8 x) (irow .u8 x) _ _ _ _ _ rfl rp1 rfl rp2 rfl rfl Tryd.underlying24 rfl (infok8 _ hX) (infok8 _ hX)) rfl ⟨_, rfl, _, _, rfl, OwnT.nil _ _, OwnT.nil _ _, Dj.nil _, hw⟩
set_option maxRecDepth 100000 in
set_option maxHeartbeats 8000000 in
theorem r_both_last {x E : List Int} (_hX : x.length = 32) (hE : E.length = 32) (w : World) (n : Nat) (pg po pc : Nat) (pcs : Array Value) (pt : TypeId) (pf : Nat × Nat) (hpg : w.heap[pg]? = some (.cells pcs pt pf)) (hx : pcs.extract po (po + (irow .u8 E).size) = irow .u8 E) : Calls Tryd.prog 39 #[.agg (irow .u8 x), .int .i64 (n : Int), .int .i64 (n : Int), .bool false, .slice (some ⟨pg, po, none⟩) 1 pc] w fun e w' => ∃ v, e = .returned v ∧ ∃ vs vt, v = .tuple #[.agg (irow .u8 E), .agg (irow .u8 E), vs, vt] ∧ OwnT w' w.heap.size vs [] ∧ OwnT w' w.heap.size vt [] ∧ Dj vs vt ∧ Below w.heap.size w w' := by
  have d2 : decide ((n : Int) = (n : Int)) = true := by simp
  have rp0 := hp3_0 w (.cells (irow .u8 x) 24) (.cells (irow .u8 (zr 32)) 24) (.cells (irow .u8 (zr 32)) 24)
  have rp1 := hp3_1 w (.cells (irow .u8 x) 24) (.cells (irow .u8 (zr 32)) 24) (.cells (irow .u8 (zr 32)) 24)
  have rp2 := hp3_2 w (.cells (irow .u8 x) 24) (.cells (irow .u8 (zr 32)) 24) (.cells (irow .u8 (zr 32)) 24)
  have hw : Below w.heap.size w (((w.alloc (.cells (irow .u8 x) 24)).alloc (.cells (irow .u8 (zr 32)) 24)).alloc (.cells (irow .u8 (zr 32)) 24)) := ((((Below.refl _ _).alloc (Nat.le_refl _) _).alloc (by simp) _).alloc (by simp; omega) _)
  go_enter Tryd.func39, Tryd.ntmps39
  iterate 12 go_step
  try rw [zk32]
  generalize (((w.alloc (.cells (irow .u8 x) 24)).alloc (.cells (irow .u8 (zr 32)) 24)).alloc (.cells (irow .u8 (zr 32)) 24)) = w0 at *
  have rq := keep hw hpg
  have lpg := lt_of_row hpg
  go_wp2_with (fail)
  have hb : Below w0.heap.size w0 w0.drew := below_drN (Below.refl _ _) 1
  replace rp0 := keep hb rp0
  replace rp1 := keep hb rp1
  replace rp2 := keep hb rp2
  replace rq := keep hb rq
  replace hw := Below.after hw hb
  clear hb
  refine wp_region_noPanic ?_
  refine wp_region_held (S := fun W_ => W_.heap[pg]? = some (.cells pcs pt pf)) (by kernel_rfl) ?_
  change wpAnyH _ _ _ _ _ _ _ _ (World.drew _)
  generalize w0.drew = wd187 at *
  refine wpAnyH_take (i := 0) (v := ?v188) rfl (by kernel_rfl) (by kernel_rfl) (by kernel_rfl) (fun _ _ _ h => h) (Or.inl ⟨by rfl, ?y188⟩) (rq) ?r188
  case y188 =>
    intro w_ hS_
    go_simp
    try with_reducible rfl
  simp only [Act.put, List.getElem_toArray, List.getElem_cons_zero, List.setIfInBounds_toArray, List.set_cons_succ, List.set_cons_zero]
  refine wpAnyH_take (i := 1) (v := ?v189) rfl (by kernel_rfl) (by kernel_rfl) (by kernel_rfl) (fun _ _ _ h => h) (Or.inl ⟨by rfl, ?y189⟩) (rq) ?r189
  case y189 =>
    intro w_ hS_
    go_simp
    try with_reducible rfl
  simp only [Act.put, List.getElem_toArray, List.getElem_cons_succ, List.getElem_cons_zero, List.setIfInBounds_toArray, List.set_cons_succ, List.set_cons_zero]
  refine wpAnyH_take (i := 2) (v := .agg (irow .u8 E)) rfl (by kernel_rfl) (by kernel_rfl) (by kernel_rfl) (fun _ _ _ h => h) (Or.inl ⟨by rfl, ?y190⟩) (rq) ?r190
  case y190 =>
    intro w_ hS_
    simp only [List.getElem_toArray, List.getElem_cons_succ, List.getElem_cons_zero]
    exact e_load_part 24 _ (by rfl) pg po (by rfl) pt pcs pf (irow .u8 E) _ (hS_) hx Tryd.underlying24 rfl (infok8 _ hE)
  simp only [Act.put, List.getElem_toArray, List.getElem_cons_succ, List.getElem_cons_zero, List.setIfInBounds_toArray, List.set_cons_succ, List.set_cons_zero]
  refine wpAnyH_take (i := 3) (v := ?v191) rfl (by kernel_rfl) (by kernel_rfl) (by kernel_rfl) (fun _ _ _ h => h) (Or.inl ⟨by rfl, ?y191⟩) (rq) ?r191
  case y191 =>
    intro w_ hS_
    go_simp
    try with_reducible rfl
  simp only [Act.put, List.getElem_toArray, List.getElem_cons_succ, List.getElem_cons_zero, List.setIfInBounds_toArray, List.set_cons_succ, List.set_cons_zero]
  refine wpAnyH_take (i := 4) (v := ?v192) rfl (by kernel_rfl) (by kernel_rfl) (by kernel_rfl) (fun _ _ _ h => h) (Or.inl ⟨by rfl, ?y192⟩) (rq) ?r192
  case y192 =>
    intro w_ hS_
    go_simp
    try with_reducible rfl
  simp only [Act.put, List.getElem_toArray, List.getElem_cons_succ, List.getElem_cons_zero, List.setIfInBounds_toArray, List.set_cons_succ, List.set_cons_zero]
  refine wpAnyH_take (i := 5) (v := .agg (irow .u8 E)) rfl (by kernel_rfl) (by kernel_rfl) (by kernel_rfl) (fun _ _ _ h => h) (Or.inl ⟨by rfl, ?y193⟩) (rq) ?r193
  case y193 =>
    intro w_ hS_
    simp only [List.getElem_toArray, List.getElem_cons_succ, List.getElem_cons_zero]
    exact e_load_part 24 _ (by rfl) pg po (by rfl) pt pcs pf (irow .u8 E) _ (hS_) hx Tryd.underlying24 rfl (infok8 _ hE)
  simp only [Act.put, List.getElem_toArray, List.getElem_cons_succ, List.getElem_cons_zero, List.setIfInBounds_toArray, List.set_cons_succ, List.set_cons_zero]
  refine eH_one (k := 6) (fuel := 3) (by kernel_rfl) rfl (by kernel_rfl) (fun K_ hK_ => ?_)
  refine wp_store_row 24 _ _ rfl (w.heap.size + 1) (irow .u8 E) rfl rfl 24 _ rp1 (infok8 _ hE) (((irow_size _ _).trans (zr_len 32)).trans ((irow_size _ _).trans hE).symm) (irow_one8 _) ?_
  have hN_ := setRow_heap wd187 (w.heap.size + 1) _ (irow .u8 E) _ _ rp1
  replace rp0 := (setRow_other wd187 (w.heap.size + 1) (w.heap.size) (irow .u8 E) (by omega)).trans rp0
  replace rp2 := (setRow_other wd187 (w.heap.size + 1) (w.heap.size + 1 + 1) (irow .u8 E) (by omega)).trans rp2
  replace hw := below_setRow hw (show w.heap.size ≤ w.heap.size + 1 by omega) (irow .u8 E)
  replace rq := (setRow_other wd187 (w.heap.size + 1) pg (irow .u8 E) (by omega)).trans rq
  generalize (wd187.setRow (w.heap.size + 1) (irow .u8 E)) = wq194 at *
  clear rp1
  have rp1 := hN_
  clear hN_
  refine hK_ _ _ (rq) ?_
  simp only [Act.put]
  clear hK_
  refine eH_one (k := 7) (fuel := 2) (by kernel_rfl) rfl (by kernel_rfl) (fun K_ hK_ => ?_)
  refine wp_store_row 24 _ _ rfl (w.heap.size + 1 + 1) (irow .u8 E) rfl rfl 24 _ rp2 (infok8 _ hE) (((irow_size _ _).trans (zr_len 32)).trans ((irow_size _ _).trans hE).symm) (irow_one8 _) ?_
  have hN_ := setRow_heap wq194 (w.heap.size + 1 + 1) _ (irow .u8 E) _ _ rp2
  replace rp0 := (setRow_other wq194 (w.heap.size + 1 + 1) (w.heap.size) (irow .u8 E) (by omega)).trans rp0
  replace rp1 := (setRow_other wq194 (w.heap.size + 1 + 1) (w.heap.size + 1) (irow .u8 E) (by omega)).trans rp1
  replace hw := below_setRow hw (show w.heap.size ≤ w.heap.size + 1 + 1 by omega) (irow .u8 E)
  replace rq := (setRow_other wq194 (w.heap.size + 1 + 1) pg (irow .u8 E) (by omega)).trans rq
  generalize (wq194.setRow (w.heap.size + 1 + 1) (irow .u8 E)) = wq195 at *
  clear rp2
  have rp2 := hN_
  clear hN_
  refine hK_ _ _ (rq) ?_
  simp only [Act.put]
  clear hK_
  refine wpAnyH_take (i := 8) (v := ?v196) rfl (by kernel_rfl) (by kernel_rfl) (by kernel_rfl) (fun _ _ _ h => h) (Or.inl ⟨by rfl, ?y196⟩) (rq) ?r196
  case y196 =>
    intro w_ hS_
    go_simp
    try with_reducible rfl
  simp only [Act.put, List.getElem_toArray, List.getElem_cons_succ, List.getElem_cons_zero, List.setIfInBounds_toArray, List.set_cons_succ, List.set_cons_zero]
  refine wpAnyH_take (i := 9) (v := ?v197) rfl (by kernel_rfl) (by kernel_rfl) (by kernel_rfl) (fun _ _ _ h => h) (Or.inl ⟨by rfl, ?y197⟩) (rq) ?r197
  case y197 =>
    intro w_ hS_
    go_simp
    try with_reducible rfl
  simp only [Act.put, List.getElem_toArray, List.getElem_cons_succ, List.getElem_cons_zero, List.setIfInBounds_toArray, List.set_cons_succ, List.set_cons_zero]
  refine wpAnyH_done (by kernel_rfl) ?_ _
  refine NoPanic.normal ?_
  go_wp2_with (fail)
  exact bodyPost_ret (v := .tuple #[.agg (irow .u8 E), .agg (irow .u8 E), .slice none 0 0, .slice none 0 0]) (results_cell2_slot2 Tryd.results39 _ _ (w.heap.size + 1) (w.heap.size + 1 + 1) _ _ (irow .u8 E) (irow .u8 E) _ _ _ _ _ rfl rp1 rfl rp2 rfl rfl Tryd.underlying24 rfl (infok8 _ hE) (infok8 _ hE)) rfl ⟨_, rfl, _, _, rfl, OwnT.nil _ _, OwnT.nil _ _, Dj.nil _, hw⟩
set_option maxRecDepth 100000 in
set_option maxHeartbeats 8000000 in
theorem r_both_lo {x A B E R X2 : List Int} {S T : List (List Int)} (hX : x.length = 32) (hA : A.length = 32) (hB : B.length = 32) (hE : E.length = 32) (hR : R.length = 32) (hTl : T.length ≤ 900000) (w : World) (n k m j : Nat) (wh : Bool) (_hm : n ≤ 4398046511000) (_hk : k < n) (hi : m ≤ k) (hmn : m < n) (hjl : j ≤ 4398046511000) (pg po pc : Nat) (pcs : Array Value) (pt : TypeId) (pf : Nat × Nat) (hpg : w.heap[pg]? = some (.cells pcs pt pf)) (hmc : j + 1 ≤ pc) (hx : pcs.extract (po + j * 32) (po + j * 32 + (irow .u8 E).size) = irow .u8 E) (cC : Gives 45 #[.int .i64 (n : Int)] (.int .i64 (k : Int))) (cP : (∀ W, Below w.heap.size w W → Calls Tryd.prog 39 #[.agg (irow .u8 x), .int .i64 (m : Int), .int .i64 (k : Int), .bool wh, .slice (some ⟨pg, po, none⟩) j pc] W fun e w' => ∃ v, e = .returned v ∧ ∃ vs vt, v = .tuple #[.agg (irow .u8 A), .agg (irow .u8 B), vs, vt] ∧ OwnT w' W.heap.size vs S ∧ OwnT w' W.heap.size vt T ∧ Dj vs vt ∧ Below W.heap.size W w')) (cN2 : (∀ W, Below w.heap.size w W → Calls Tryd.prog 16 #[.agg (irow .u8 B), .agg (irow .u8 E)] W fun e w' => e = .returned (.agg (irow .u8 R)) ∧ Below W.heap.size W w')) (cX2 : (∀ W, Below w.heap.size w W → Calls Tryd.prog 43 #[.agg (irow .u8 B), .agg (irow .u8 E)] W fun e w' => ∃ v, e = .returned v ∧ OwnI w' w.heap.size v X2 ∧ Below W.heap.size W w')) : Calls Tryd.prog 39 #[.agg (irow .u8 x), .int .i64 (m : Int), .int .i64 (n : Int), .bool wh, .slice (some ⟨pg, po, none⟩) (j + 1) pc] w fun e w' => ∃ v, e = .returned v ∧ ∃ vs vt, v = .tuple #[.agg (irow .u8 A), .agg (irow .u8 R), vs, vt] ∧ OwnT w' w.heap.size vs S ∧ OwnT w' w.heap.size vt (T ++ [X2]) ∧ Dj vs vt ∧ Below w.heap.size w w' := by
  have d1 : decide ((m : Int) = (n : Int)) = false := by simp; omega
  have d2 : decide ((m : Int) ≤ (k : Int)) = true := by simp; omega
  have jm : (j : Int) < (j : Int) + 1 := by omega
  have qm : IntKind.i64.wrap (j : Int) = (j : Int) := by rw [IntKind.wrap_i64]; omega
  have rp0 := hp3_0 w (.cells (irow .u8 x) 24) (.cells (irow .u8 (zr 32)) 24) (.cells (irow .u8 (zr 32)) 24)
  have rp1 := hp3_1 w (.cells (irow .u8 x) 24) (.cells (irow .u8 (zr 32)) 24) (.cells (irow .u8 (zr 32)) 24)
  have rp2 := hp3_2 w (.cells (irow .u8 x) 24) (.cells (irow .u8 (zr 32)) 24) (.cells (irow .u8 (zr 32)) 24)
  have hw : Below w.heap.size w (((w.alloc (.cells (irow .u8 x) 24)).alloc (.cells (irow .u8 (zr 32)) 24)).alloc (.cells (irow .u8 (zr 32)) 24)) := ((((Below.refl _ _).alloc (Nat.le_refl _) _).alloc (by simp) _).alloc (by simp; omega) _)
  go_enter Tryd.func39, Tryd.ntmps39
  iterate 12 go_step
  try rw [zk32]
  generalize (((w.alloc (.cells (irow .u8 x) 24)).alloc (.cells (irow .u8 (zr 32)) 24)).alloc (.cells (irow .u8 (zr 32)) 24)) = w0 at *
  have rq := keep hw hpg
  have lpg := lt_of_row hpg
  go_wp2_with (fail)
  refine (cC.at _).mono ?_
  rintro e_ w1 ⟨rfl, hb⟩
  replace rp0 := keep hb rp0
  replace rp1 := keep hb rp1
  replace rp2 := keep hb rp2
  replace rq := keep hb rq
  replace hw := Below.after hw hb
  clear hb
  clear cC
  go_wp2_with (first | (refine wpList_store_row rfl 24 _ _ rfl (w1.heap.size) (irow .u8 E) rfl rfl 24 (irow .u8 (zr 32)) (hp1_0 w1 _) (infok8 _ hE) (((irow_size _ _).trans (zr_len 32)).trans ((irow_size _ _).trans hE).symm) (irow_one8 _) ?_; rw [setRow_alloc_new _ _ _ _ _ _ (by simp)]; refine wpList_stay ?_) | (refine wpList_load_part rfl 24 _ rfl pg (po + j * 32) rfl pt pcs pf (irow .u8 E) _ rq hx Tryd.underlying24 rfl (infok8 _ hE) ?_) | fail)
  unfold WpStay
  try simp only [Act.put]
  have rl15 : (w1.alloc (.cells (irow .u8 E) 24)).heap[w1.heap.size]? = some (.cells (irow .u8 E) 24 (0, 0)) := hp1_0 w1 _
  have hb : Below w1.heap.size w1 (w1.alloc (.cells (irow .u8 E) 24)) := ((Below.refl _ _).alloc (Nat.le_refl _) _)
  generalize (w1.alloc (.cells (irow .u8 E) 24)) = w2 at *
  have lt_g15_0 := lt_of_row rp0
  have lt_g15_1 := lt_of_row rp1
  have lt_g15_2 := lt_of_row rp2
  have sz_g15 := hw.size
  replace rp0 := keep hb rp0
  replace rp1 := keep hb rp1
  replace rp2 := keep hb rp2
  replace rq := keep hb rq
  replace hw := Below.after hw hb
  clear hb
  generalize w1.heap.size = g15 at *
  clear w1
  have s1 := slk_head (some ⟨pg, po, none⟩) (j + 1) pc j (by omega) (by intro e; cases e)
  go_wp2_with (first | (refine wpList_load_part rfl 24 _ rfl (w.heap.size) 0 rfl 24 (irow .u8 x) (0, 0) (irow .u8 x) _ rp0 (all_rowe _) Tryd.underlying24 rfl (infok8 _ hX) ?_) | (refine wpList_load_part rfl 24 _ rfl (w.heap.size + 1) 0 rfl 24 (irow .u8 (zr 32)) (0, 0) (irow .u8 (zr 32)) _ rp1 (all_rowe _) Tryd.underlying24 rfl (infok8 _ (zr_len 32)) ?_) | (refine wpList_load_part rfl 24 _ rfl (w.heap.size + 1 + 1) 0 rfl 24 (irow .u8 (zr 32)) (0, 0) (irow .u8 (zr 32)) _ rp2 (all_rowe _) Tryd.underlying24 rfl (infok8 _ (zr_len 32)) ?_) | (refine wpList_load_part rfl 24 _ rfl (g15) 0 rfl 24 (irow .u8 E) (0, 0) (irow .u8 E) _ rl15 (all_rowe _) Tryd.underlying24 rfl (infok8 _ hE) ?_) | fail)
  have hsr := hw.size
  refine (cP _ hw).mono ?_
  rintro e_ w3 ⟨_, rfl, vs, vt, rfl, hT1, hT2, hDj, hb⟩
  replace rp0 := keep hb rp0
  replace rp1 := keep hb rp1
  replace rp2 := keep hb rp2
  replace rl15 := keep hb rl15
  replace rq := keep hb rq
  replace hw := Below.after hw hb
  clear hb
  replace hT1 := hT1.down hsr
  replace hT2 := hT2.down hsr
  go_wp2_with (first | (refine wpList_store_row rfl 24 _ _ rfl (w3.heap.size) (irow .u8 A) rfl rfl 24 (irow .u8 (zr 32)) (hp2_0 w3 _ _) (infok8 _ hA) (((irow_size _ _).trans (zr_len 32)).trans ((irow_size _ _).trans hA).symm) (irow_one8 _) ?_; rw [setRow_alloc_old _ _ _ _ (by simp), setRow_alloc_new _ _ _ _ _ _ (by simp)]) | (refine wpList_store_row rfl 24 _ _ rfl (w3.heap.size + 1) (irow .u8 B) rfl rfl 24 (irow .u8 (zr 32)) (hp2_1 w3 _ _) (infok8 _ hB) (((irow_size _ _).trans (zr_len 32)).trans ((irow_size _ _).trans hB).symm) (irow_one8 _) ?_; rw [setRow_alloc_new _ _ _ _ _ _ (by simp)]; refine wpList_stay ?_) | fail)
  unfold WpStay
  try simp only [Act.put]
  have rl17 : ((w3.alloc (.cells (irow .u8 A) 24)).alloc (.cells (irow .u8 B) 24)).heap[w3.heap.size]? = some (.cells (irow .u8 A) 24 (0, 0)) := hp2_0 w3 _ _
  have rl18 : ((w3.alloc (.cells (irow .u8 A) 24)).alloc (.cells (irow .u8 B) 24)).heap[w3.heap.size + 1]? = some (.cells (irow .u8 B) 24 (0, 0)) := hp2_1 w3 _ _
  have hb : Below w3.heap.size w3 ((w3.alloc (.cells (irow .u8 A) 24)).alloc (.cells (irow .u8 B) 24)) := (((Below.refl _ _).alloc (Nat.le_refl _) _).alloc (by simp) _)
  generalize ((w3.alloc (.cells (irow .u8 A) 24)).alloc (.cells (irow .u8 B) 24)) = w4 at *
  have lt_gab_0 := lt_of_row rp0
  have lt_gab_1 := lt_of_row rp1
  have lt_gab_2 := lt_of_row rp2
  have lt_gab_3 := lt_of_row rl15
  have sz_gab := hw.size
  replace rp0 := keep hb rp0
  replace rp1 := keep hb rp1
  replace rp2 := keep hb rp2
  replace rl15 := keep hb rl15
  replace rq := keep hb rq
  replace hT1 := hT1.keep hb
  replace hT2 := hT2.keep hb
  replace hw := Below.after hw hb
  clear hb
  generalize w3.heap.size = gab at *
  clear w3
  go_wp2_with (fail)
  have hb : Below w4.heap.size w4 w4.drew := below_drN (Below.refl _ _) 1
  replace rp0 := keep hb rp0
  replace rp1 := keep hb rp1
  replace rp2 := keep hb rp2
  replace rl15 := keep hb rl15
  replace rl17 := keep hb rl17
  replace rl18 := keep hb rl18
  replace rq := keep hb rq
  replace hT1 := hT1.keep hb
  replace hT2 := hT2.keep hb
  replace hw := Below.after hw hb
  clear hb
  refine wp_region_noPanic ?_
  refine wp_region_held (S := fun W_ => W_.heap[g15]? = some (.cells (irow .u8 E) 24 (0, 0)) ∧ W_.heap[gab]? = some (.cells (irow .u8 A) 24 (0, 0)) ∧ W_.heap[gab + 1]? = some (.cells (irow .u8 B) 24 (0, 0))) (by kernel_rfl) ?_
  change wpAnyH _ _ _ _ _ _ _ _ (World.drew _)
  generalize w4.drew = wd198 at *
  refine wpAnyH_take (i := 0) (v := .agg (irow .u8 A)) rfl (by kernel_rfl) (by kernel_rfl) (by kernel_rfl) (fun _ _ _ h => h) (Or.inl ⟨by rfl, ?y199⟩) (⟨rl15, rl17, rl18⟩) ?r199
  case y199 =>
    intro w_ hS_
    simp only [List.getElem_toArray, List.getElem_cons_zero]
    exact e_load_part 24 _ (by rfl) (gab) 0 (by rfl) 24 (irow .u8 A) (0, 0) (irow .u8 A) _ (hS_.2.1) (all_rowe _) Tryd.underlying24 rfl (infok8 _ hA)
  simp only [Act.put, List.getElem_toArray, List.getElem_cons_zero, List.setIfInBounds_toArray, List.set_cons_succ, List.set_cons_zero]
  refine wpAnyH_take (i := 1) (v := .agg (irow .u8 B)) rfl (by kernel_rfl) (by kernel_rfl) (by kernel_rfl) (fun _ _ _ h => h) (Or.inl ⟨by rfl, ?y200⟩) (⟨rl15, rl17, rl18⟩) ?r200
  case y200 =>
    intro w_ hS_
    simp only [List.getElem_toArray, List.getElem_cons_succ, List.getElem_cons_zero]
    exact e_load_part 24 _ (by rfl) (gab + 1) 0 (by rfl) 24 (irow .u8 B) (0, 0) (irow .u8 B) _ (hS_.2.2) (all_rowe _) Tryd.underlying24 rfl (infok8 _ hB)
  simp only [Act.put, List.getElem_toArray, List.getElem_cons_succ, List.getElem_cons_zero, List.setIfInBounds_toArray, List.set_cons_succ, List.set_cons_zero]
  refine wpAnyH_take (i := 2) (v := .agg (irow .u8 E)) rfl (by kernel_rfl) (by kernel_rfl) (by kernel_rfl) (fun _ _ _ h => h) (Or.inl ⟨by rfl, ?y201⟩) (⟨rl15, rl17, rl18⟩) ?r201
  case y201 =>
    intro w_ hS_
    simp only [List.getElem_toArray, List.getElem_cons_succ, List.getElem_cons_zero]
    exact e_load_part 24 _ (by rfl) (g15) 0 (by rfl) 24 (irow .u8 E) (0, 0) (irow .u8 E) _ (hS_.1) (all_rowe _) Tryd.underlying24 rfl (infok8 _ hE)
  simp only [Act.put, List.getElem_toArray, List.getElem_cons_succ, List.getElem_cons_zero, List.setIfInBounds_toArray, List.set_cons_succ, List.set_cons_zero]
  refine wpAnyH_take (i := 4) (v := ?v202) rfl (by kernel_rfl) (by kernel_rfl) (by kernel_rfl) (fun _ _ _ h => h) (Or.inl ⟨by rfl, ?y202⟩) (⟨rl15, rl17, rl18⟩) ?r202
  case y202 =>
    intro w_ hS_
    go_simp
    try with_reducible rfl
  simp only [Act.put, List.getElem_toArray, List.getElem_cons_succ, List.getElem_cons_zero, List.setIfInBounds_toArray, List.set_cons_succ, List.set_cons_zero]
  refine wpAnyH_take (i := 5) (v := ?v203) rfl (by kernel_rfl) (by kernel_rfl) (by kernel_rfl) (fun _ _ _ h => h) (Or.inl ⟨by rfl, ?y203⟩) (⟨rl15, rl17, rl18⟩) ?r203
  case y203 =>
    intro w_ hS_
    go_simp
    try with_reducible rfl
  simp only [Act.put, List.getElem_toArray, List.getElem_cons_succ, List.getElem_cons_zero, List.setIfInBounds_toArray, List.set_cons_succ, List.set_cons_zero]
  refine wpAnyH_take (i := 6) (v := .agg (irow .u8 B)) rfl (by kernel_rfl) (by kernel_rfl) (by kernel_rfl) (fun _ _ _ h => h) (Or.inl ⟨by rfl, ?y204⟩) (⟨rl15, rl17, rl18⟩) ?r204
  case y204 =>
    intro w_ hS_
    simp only [List.getElem_toArray, List.getElem_cons_succ, List.getElem_cons_zero]
    exact e_load_part 24 _ (by rfl) (gab + 1) 0 (by rfl) 24 (irow .u8 B) (0, 0) (irow .u8 B) _ (hS_.2.2) (all_rowe _) Tryd.underlying24 rfl (infok8 _ hB)
  simp only [Act.put, List.getElem_toArray, List.getElem_cons_succ, List.getElem_cons_zero, List.setIfInBounds_toArray, List.set_cons_succ, List.set_cons_zero]
  refine wpAnyH_take (i := 7) (v := .agg (irow .u8 E)) rfl (by kernel_rfl) (by kernel_rfl) (by kernel_rfl) (fun _ _ _ h => h) (Or.inl ⟨by rfl, ?y205⟩) (⟨rl15, rl17, rl18⟩) ?r205
  case y205 =>
    intro w_ hS_
    simp only [List.getElem_toArray, List.getElem_cons_succ, List.getElem_cons_zero]
    exact e_load_part 24 _ (by rfl) (g15) 0 (by rfl) 24 (irow .u8 E) (0, 0) (irow .u8 E) _ (hS_.1) (all_rowe _) Tryd.underlying24 rfl (infok8 _ hE)
  simp only [Act.put, List.getElem_toArray, List.getElem_cons_succ, List.getElem_cons_zero, List.setIfInBounds_toArray, List.set_cons_succ, List.set_cons_zero]
  refine eH_one (k := 3) (fuel := 7) (by kernel_rfl) rfl (by kernel_rfl) (fun K_ hK_ => ?_)
  refine wp_call_ex (f := 16) (by kernel_rfl) (ex1e (cN2 _ hw)) (fun v_ wq206 hX_ => ?_)
  obtain ⟨rfl, hb⟩ := hX_
  replace rp0 := keep hb rp0
  replace rp1 := keep hb rp1
  replace rp2 := keep hb rp2
  replace rl15 := keep hb rl15
  replace rl17 := keep hb rl17
  replace rl18 := keep hb rl18
  replace rq := keep hb rq
  replace hT1 := hT1.keep hb
  replace hT2 := hT2.keep hb
  replace hw := Below.after hw hb
  clear hb
  refine hK_ _ _ (⟨rl15, rl17, rl18⟩) ?_
  simp only [Act.put, List.getElem_toArray, List.getElem_cons_succ, List.getElem_cons_zero, List.setIfInBounds_toArray, List.set_cons_succ, List.set_cons_zero]
  clear hK_
  refine eH_one (k := 8) (fuel := 6) (by kernel_rfl) rfl (by kernel_rfl) (fun K_ hK_ => ?_)
  refine wp_call_ex (f := 43) (by kernel_rfl) (cX2 _ hw) (fun vhT2 wq207 hX_ => ?_)
  obtain ⟨hx_hT2, hb⟩ := hX_
  replace rp0 := keep hb rp0
  replace rp1 := keep hb rp1
  replace rp2 := keep hb rp2
  replace rl15 := keep hb rl15
  replace rl17 := keep hb rl17
  replace rl18 := keep hb rl18
  replace rq := keep hb rq
  replace hT1 := hT1.keep hb
  replace hT2 := hT2.keep hb
  replace hw := Below.after hw hb
  clear hb
  refine hK_ _ _ (⟨rl15, rl17, rl18⟩) ?_
  simp only [Act.put, List.getElem_toArray, List.getElem_cons_succ, List.getElem_cons_zero, List.setIfInBounds_toArray, List.set_cons_succ, List.set_cons_zero]
  clear hK_
  refine eH_one (k := 9) (fuel := 5) (by kernel_rfl) rfl (by kernel_rfl) (fun K_ hK_ => ?_)
  refine e_world_op (.slice (some ⟨wq207.heap.size, 0, none⟩) 1 1) (wq207.alloc (.cells #[vhT2] 22)) (e_bslT _ rfl vhT2 rfl hx_hT2 _) ?_
  have hb : Below wq207.heap.size wq207 (wq207.alloc (.cells #[vhT2] 22)) := (Below.refl _ _).alloc (Nat.le_refl _) _
  have rg208 := hp1_0 wq207 (.cells #[vhT2] 22)
  have lt_g208_0 := lt_of_row rp0
  have lt_g208_1 := lt_of_row rp1
  have lt_g208_2 := lt_of_row rp2
  have lt_g208_3 := lt_of_row rl15
  have lt_g208_4 := lt_of_row rl17
  have lt_g208_5 := lt_of_row rl18
  have sz_g208 := hw.size
  replace rp0 := keep hb rp0
  replace rp1 := keep hb rp1
  replace rp2 := keep hb rp2
  replace rl15 := keep hb rl15
  replace rl17 := keep hb rl17
  replace rl18 := keep hb rl18
  replace rq := keep hb rq
  replace hT1 := hT1.keep hb
  replace hT2 := hT2.keep hb
  replace hx_hT2 := hx_hT2.keep hb
  replace hw := Below.after hw hb
  clear hb
  refine hK_ _ _ (⟨rl15, rl17, rl18⟩) ?_
  simp only [Act.put, List.getElem_toArray, List.getElem_cons_succ, List.getElem_cons_zero, List.setIfInBounds_toArray, List.set_cons_succ, List.set_cons_zero]
  clear hK_
  generalize (wq207.alloc (.cells #[vhT2] 22)) = wq208 at *
  generalize wq207.heap.size = g208 at *
  refine eH_one (k := 10) (fuel := 4) (by kernel_rfl) rfl (by kernel_rfl) (fun K_ hK_ => ?_)
  refine wp_append_Tn _ _ rfl w.heap.size _ T rfl hT2 _ [X2] rfl (OwnT.single (by omega) rg208 hx_hT2) (by simp only [List.length_singleton]; omega) hw.size (fun va_ wa209 hA_ hG_ hN_ => ?_)
  replace rp0 := (hG_.block _ (lt_of_row rp0) (own_neT hT2 rp0 (by decide))).trans rp0
  replace rp1 := (hG_.block _ (lt_of_row rp1) (own_neT hT2 rp1 (by decide))).trans rp1
  replace rp2 := (hG_.block _ (lt_of_row rp2) (own_neT hT2 rp2 (by decide))).trans rp2
  replace rl15 := (hG_.block _ (lt_of_row rl15) (own_neT hT2 rl15 (by decide))).trans rl15
  replace rl17 := (hG_.block _ (lt_of_row rl17) (own_neT hT2 rl17 (by decide))).trans rl17
  replace rl18 := (hG_.block _ (lt_of_row rl18) (own_neT hT2 rl18 (by decide))).trans rl18
  replace rq := (hG_.block pg (Nat.lt_of_lt_of_le lpg hw.size) (fun e => by have := (hT2.lt pg e.symm).1; omega)).trans rq
  have hDn_ := (hDj).next hN_ (fun k e => (hT1.lt k e).2)
  replace hT1 := hT1.other hT2 hDj hG_
  replace hDj := hDn_
  clear hDn_ hN_
  replace hw := hw.grown hG_ hw.size (fun k e => (hT2.lt k e).1)
  clear hT2 hx_hT2 rg208
  have hT2 := hA_
  clear hA_ hG_
  refine hK_ _ _ (⟨rl15, rl17, rl18⟩) ?_
  simp only [Act.put, List.getElem_toArray, List.getElem_cons_succ, List.getElem_cons_zero, List.setIfInBounds_toArray, List.set_cons_succ, List.set_cons_zero]
  clear hK_
  refine eH_one (k := 11) (fuel := 3) (by kernel_rfl) rfl (by kernel_rfl) (fun K_ hK_ => ?_)
  refine wp_store_row 24 _ _ rfl (w.heap.size + 1) (irow .u8 A) rfl rfl 24 _ rp1 (infok8 _ hA) (((irow_size _ _).trans (zr_len 32)).trans ((irow_size _ _).trans hA).symm) (irow_one8 _) ?_
  have hN_ := setRow_heap wa209 (w.heap.size + 1) _ (irow .u8 A) _ _ rp1
  replace rp0 := (setRow_other wa209 (w.heap.size + 1) (w.heap.size) (irow .u8 A) (by omega)).trans rp0
  replace rp2 := (setRow_other wa209 (w.heap.size + 1) (w.heap.size + 1 + 1) (irow .u8 A) (by omega)).trans rp2
  replace rl15 := (setRow_other wa209 (w.heap.size + 1) (g15) (irow .u8 A) (by omega)).trans rl15
  replace rl17 := (setRow_other wa209 (w.heap.size + 1) (gab) (irow .u8 A) (by omega)).trans rl17
  replace rl18 := (setRow_other wa209 (w.heap.size + 1) (gab + 1) (irow .u8 A) (by omega)).trans rl18
  replace hw := below_setRow hw (show w.heap.size ≤ w.heap.size + 1 by omega) (irow .u8 A)
  replace rq := (setRow_other wa209 (w.heap.size + 1) pg (irow .u8 A) (by omega)).trans rq
  replace hT1 := hT1.set (irow .u8 A) rp1 (by decide) (by decide)
  replace hT2 := hT2.set (irow .u8 A) rp1 (by decide) (by decide)
  generalize (wa209.setRow (w.heap.size + 1) (irow .u8 A)) = wq210 at *
  clear rp1
  have rp1 := hN_
  clear hN_
  refine hK_ _ _ (⟨rl15, rl17, rl18⟩) ?_
  simp only [Act.put]
  clear hK_
  refine eH_one (k := 12) (fuel := 2) (by kernel_rfl) rfl (by kernel_rfl) (fun K_ hK_ => ?_)
  refine wp_store_row 24 _ _ rfl (w.heap.size + 1 + 1) (irow .u8 R) rfl rfl 24 _ rp2 (infok8 _ hR) (((irow_size _ _).trans (zr_len 32)).trans ((irow_size _ _).trans hR).symm) (irow_one8 _) ?_
  have hN_ := setRow_heap wq210 (w.heap.size + 1 + 1) _ (irow .u8 R) _ _ rp2
  replace rp0 := (setRow_other wq210 (w.heap.size + 1 + 1) (w.heap.size) (irow .u8 R) (by omega)).trans rp0
  replace rp1 := (setRow_other wq210 (w.heap.size + 1 + 1) (w.heap.size + 1) (irow .u8 R) (by omega)).trans rp1
  replace rl15 := (setRow_other wq210 (w.heap.size + 1 + 1) (g15) (irow .u8 R) (by omega)).trans rl15
  replace rl17 := (setRow_other wq210 (w.heap.size + 1 + 1) (gab) (irow .u8 R) (by omega)).trans rl17
  replace rl18 := (setRow_other wq210 (w.heap.size + 1 + 1) (gab + 1) (irow .u8 R) (by omega)).trans rl18
  replace hw := below_setRow hw (show w.heap.size ≤ w.heap.size + 1 + 1 by omega) (irow .u8 R)
  replace rq := (setRow_other wq210 (w.heap.size + 1 + 1) pg (irow .u8 R) (by omega)).trans rq
  replace hT1 := hT1.set (irow .u8 R) rp2 (by decide) (by decide)
  replace hT2 := hT2.set (irow .u8 R) rp2 (by decide) (by decide)
  generalize (wq210.setRow (w.heap.size + 1 + 1) (irow .u8 R)) = wq211 at *
  clear rp2
  have rp2 := hN_
  clear hN_
  refine hK_ _ _ (⟨rl15, rl17, rl18⟩) ?_
  simp only [Act.put]
  clear hK_
  refine wpAnyH_take (i := 13) (v := ?v212) rfl (by kernel_rfl) (by kernel_rfl) (by kernel_rfl) (fun _ _ _ h => h) (Or.inl ⟨by rfl, ?y212⟩) (⟨rl15, rl17, rl18⟩) ?r212
  case y212 =>
    intro w_ hS_
    go_simp
    try with_reducible rfl
  simp only [Act.put, List.getElem_toArray, List.getElem_cons_succ, List.getElem_cons_zero, List.setIfInBounds_toArray, List.set_cons_succ, List.set_cons_zero]
  refine wpAnyH_take (i := 14) (v := ?v213) rfl (by kernel_rfl) (by kernel_rfl) (by kernel_rfl) (fun _ _ _ h => h) (Or.inl ⟨by rfl, ?y213⟩) (⟨rl15, rl17, rl18⟩) ?r213
  case y213 =>
    intro w_ hS_
    go_simp
    try with_reducible rfl
  simp only [Act.put, List.getElem_toArray, List.getElem_cons_succ, List.getElem_cons_zero, List.setIfInBounds_toArray, List.set_cons_succ, List.set_cons_zero]
  refine wpAnyH_done (by kernel_rfl) ?_ _
  refine NoPanic.normal ?_
  go_wp2_with (fail)
  exact bodyPost_ret (v := .tuple #[.agg (irow .u8 A), .agg (irow .u8 R), _, _]) (results_cell2_slot2 Tryd.results39 _ _ (w.heap.size + 1) (w.heap.size + 1 + 1) _ _ (irow .u8 A) (irow .u8 R) _ _ _ _ _ rfl rp1 rfl rp2 rfl rfl Tryd.underlying24 rfl (infok8 _ hA) (infok8 _ hR)) rfl ⟨_, rfl, _, _, rfl, hT1, hT2, hDj, hw⟩
set_option maxRecDepth 100000 in
set_option maxHeartbeats 8000000 in
theorem r_both_hi {x A B E Q X1 R X2 : List Int} {S T : List (List Int)} (hX : x.length = 32) (hA : A.length = 32) (hB : B.length = 32) (hE : E.length = 32) (hQ : Q.length = 32) (hSl : S.length ≤ 900000) (hR : R.length = 32) (hTl : T.length ≤ 900000) (w : World) (n k m j : Nat) (wh : Bool) (_hm : n ≤ 4398046511000) (_hk : k < n) (hi : ¬ m ≤ k) (hmn : m < n) (hjl : j ≤ 4398046511000) (pg po pc : Nat) (pcs : Array Value) (pt : TypeId) (pf : Nat × Nat) (hpg : w.heap[pg]? = some (.cells pcs pt pf)) (hmc : j + 1 ≤ pc) (hx : pcs.extract (po + j * 32) (po + j * 32 + (irow .u8 E).size) = irow .u8 E) (cC : Gives 45 #[.int .i64 (n : Int)] (.int .i64 (k : Int))) (cP : (∀ W, Below w.heap.size w W → Calls Tryd.prog 39 #[.agg (irow .u8 x), .int .i64 ((m : Int) - (k : Int)), .int .i64 ((n : Int) - (k : Int)), .bool false, .slice (some ⟨pg, po, none⟩) j pc] W fun e w' => ∃ v, e = .returned v ∧ ∃ vs vt, v = .tuple #[.agg (irow .u8 A), .agg (irow .u8 B), vs, vt] ∧ OwnT w' W.heap.size vs S ∧ OwnT w' W.heap.size vt T ∧ Dj vs vt ∧ Below W.heap.size W w')) (cN1 : (∀ W, Below w.heap.size w W → Calls Tryd.prog 16 #[.agg (irow .u8 E), .agg (irow .u8 A)] W fun e w' => e = .returned (.agg (irow .u8 Q)) ∧ Below W.heap.size W w')) (cX1 : (∀ W, Below w.heap.size w W → Calls Tryd.prog 43 #[.agg (irow .u8 E), .agg (irow .u8 A)] W fun e w' => ∃ v, e = .returned v ∧ OwnI w' w.heap.size v X1 ∧ Below W.heap.size W w')) (cN2 : (∀ W, Below w.heap.size w W → Calls Tryd.prog 16 #[.agg (irow .u8 E), .agg (irow .u8 B)] W fun e w' => e = .returned (.agg (irow .u8 R)) ∧ Below W.heap.size W w')) (cX2 : (∀ W, Below w.heap.size w W → Calls Tryd.prog 43 #[.agg (irow .u8 E), .agg (irow .u8 B)] W fun e w' => ∃ v, e = .returned v ∧ OwnI w' w.heap.size v X2 ∧ Below W.heap.size W w')) : Calls Tryd.prog 39 #[.agg (irow .u8 x), .int .i64 (m : Int), .int .i64 (n : Int), .bool wh, .slice (some ⟨pg, po, none⟩) (j + 1) pc] w fun e w' => ∃ v, e = .returned v ∧ ∃ vs vt, v = .tuple #[.agg (irow .u8 Q), .agg (irow .u8 R), vs, vt] ∧ OwnT w' w.heap.size vs (S ++ [X1]) ∧ OwnT w' w.heap.size vt (T ++ [X2]) ∧ Dj vs vt ∧ Below w.heap.size w w' := by
  have d1 : decide ((m : Int) = (n : Int)) = false := by simp; omega
  have d2 : decide ((m : Int) ≤ (k : Int)) = false := by simp; omega
  have jm : (j : Int) < (j : Int) + 1 := by omega
  have qm : IntKind.i64.wrap (j : Int) = (j : Int) := by rw [IntKind.wrap_i64]; omega
  have rp0 := hp3_0 w (.cells (irow .u8 x) 24) (.cells (irow .u8 (zr 32)) 24) (.cells (irow .u8 (zr 32)) 24)
  have rp1 := hp3_1 w (.cells (irow .u8 x) 24) (.cells (irow .u8 (zr 32)) 24) (.cells (irow .u8 (zr 32)) 24)
  have rp2 := hp3_2 w (.cells (irow .u8 x) 24) (.cells (irow .u8 (zr 32)) 24) (.cells (irow .u8 (zr 32)) 24)
  have hw : Below w.heap.size w (((w.alloc (.cells (irow .u8 x) 24)).alloc (.cells (irow .u8 (zr 32)) 24)).alloc (.cells (irow .u8 (zr 32)) 24)) := ((((Below.refl _ _).alloc (Nat.le_refl _) _).alloc (by simp) _).alloc (by simp; omega) _)
  go_enter Tryd.func39, Tryd.ntmps39
  iterate 12 go_step
  try rw [zk32]
  generalize (((w.alloc (.cells (irow .u8 x) 24)).alloc (.cells (irow .u8 (zr 32)) 24)).alloc (.cells (irow .u8 (zr 32)) 24)) = w0 at *
  have rq := keep hw hpg
  have lpg := lt_of_row hpg
  go_wp2_with (fail)
  refine (cC.at _).mono ?_
  rintro e_ w1 ⟨rfl, hb⟩
  replace rp0 := keep hb rp0
  replace rp1 := keep hb rp1
  replace rp2 := keep hb rp2
  replace rq := keep hb rq
  replace hw := Below.after hw hb
  clear hb
  clear cC
  go_wp2_with (first | (refine wpList_store_row rfl 24 _ _ rfl (w1.heap.size) (irow .u8 E) rfl rfl 24 (irow .u8 (zr 32)) (hp1_0 w1 _) (infok8 _ hE) (((irow_size _ _).trans (zr_len 32)).trans ((irow_size _ _).trans hE).symm) (irow_one8 _) ?_; rw [setRow_alloc_new _ _ _ _ _ _ (by simp)]; refine wpList_stay ?_) | (refine wpList_load_part rfl 24 _ rfl pg (po + j * 32) rfl pt pcs pf (irow .u8 E) _ rq hx Tryd.underlying24 rfl (infok8 _ hE) ?_) | fail)
  unfold WpStay
  try simp only [Act.put]
  have rl15 : (w1.alloc (.cells (irow .u8 E) 24)).heap[w1.heap.size]? = some (.cells (irow .u8 E) 24 (0, 0)) := hp1_0 w1 _
  have hb : Below w1.heap.size w1 (w1.alloc (.cells (irow .u8 E) 24)) := ((Below.refl _ _).alloc (Nat.le_refl _) _)
  generalize (w1.alloc (.cells (irow .u8 E) 24)) = w2 at *
  have lt_g15_0 := lt_of_row rp0
  have lt_g15_1 := lt_of_row rp1
  have lt_g15_2 := lt_of_row rp2
  have sz_g15 := hw.size
  replace rp0 := keep hb rp0
  replace rp1 := keep hb rp1
  replace rp2 := keep hb rp2
  replace rq := keep hb rq
  replace hw := Below.after hw hb
  clear hb
  generalize w1.heap.size = g15 at *
  clear w1
  have s1 := slk_head (some ⟨pg, po, none⟩) (j + 1) pc j (by omega) (by intro e; cases e)
  go_wp2_with (first | (refine wpList_load_part rfl 24 _ rfl (w.heap.size) 0 rfl 24 (irow .u8 x) (0, 0) (irow .u8 x) _ rp0 (all_rowe _) Tryd.underlying24 rfl (infok8 _ hX) ?_) | (refine wpList_load_part rfl 24 _ rfl (w.heap.size + 1) 0 rfl 24 (irow .u8 (zr 32)) (0, 0) (irow .u8 (zr 32)) _ rp1 (all_rowe _) Tryd.underlying24 rfl (infok8 _ (zr_len 32)) ?_) | (refine wpList_load_part rfl 24 _ rfl (w.heap.size + 1 + 1) 0 rfl 24 (irow .u8 (zr 32)) (0, 0) (irow .u8 (zr 32)) _ rp2 (all_rowe _) Tryd.underlying24 rfl (infok8 _ (zr_len 32)) ?_) | (refine wpList_load_part rfl 24 _ rfl (g15) 0 rfl 24 (irow .u8 E) (0, 0) (irow .u8 E) _ rl15 (all_rowe _) Tryd.underlying24 rfl (infok8 _ hE) ?_) | fail)
  have hsr := hw.size
  refine (cP _ hw).mono ?_
  rintro e_ w3 ⟨_, rfl, vs, vt, rfl, hT1, hT2, hDj, hb⟩
  replace rp0 := keep hb rp0
  replace rp1 := keep hb rp1
  replace rp2 := keep hb rp2
  replace rl15 := keep hb rl15
  replace rq := keep hb rq
  replace hw := Below.after hw hb
  clear hb
  replace hT1 := hT1.down hsr
  replace hT2 := hT2.down hsr
  go_wp2_with (first | (refine wpList_store_row rfl 24 _ _ rfl (w3.heap.size) (irow .u8 A) rfl rfl 24 (irow .u8 (zr 32)) (hp2_0 w3 _ _) (infok8 _ hA) (((irow_size _ _).trans (zr_len 32)).trans ((irow_size _ _).trans hA).symm) (irow_one8 _) ?_; rw [setRow_alloc_old _ _ _ _ (by simp), setRow_alloc_new _ _ _ _ _ _ (by simp)]) | (refine wpList_store_row rfl 24 _ _ rfl (w3.heap.size + 1) (irow .u8 B) rfl rfl 24 (irow .u8 (zr 32)) (hp2_1 w3 _ _) (infok8 _ hB) (((irow_size _ _).trans (zr_len 32)).trans ((irow_size _ _).trans hB).symm) (irow_one8 _) ?_; rw [setRow_alloc_new _ _ _ _ _ _ (by simp)]; refine wpList_stay ?_) | fail)
  unfold WpStay
  try simp only [Act.put]
  have rl21 : ((w3.alloc (.cells (irow .u8 A) 24)).alloc (.cells (irow .u8 B) 24)).heap[w3.heap.size]? = some (.cells (irow .u8 A) 24 (0, 0)) := hp2_0 w3 _ _
  have rl22 : ((w3.alloc (.cells (irow .u8 A) 24)).alloc (.cells (irow .u8 B) 24)).heap[w3.heap.size + 1]? = some (.cells (irow .u8 B) 24 (0, 0)) := hp2_1 w3 _ _
  have hb : Below w3.heap.size w3 ((w3.alloc (.cells (irow .u8 A) 24)).alloc (.cells (irow .u8 B) 24)) := (((Below.refl _ _).alloc (Nat.le_refl _) _).alloc (by simp) _)
  generalize ((w3.alloc (.cells (irow .u8 A) 24)).alloc (.cells (irow .u8 B) 24)) = w4 at *
  have lt_gab_0 := lt_of_row rp0
  have lt_gab_1 := lt_of_row rp1
  have lt_gab_2 := lt_of_row rp2
  have lt_gab_3 := lt_of_row rl15
  have sz_gab := hw.size
  replace rp0 := keep hb rp0
  replace rp1 := keep hb rp1
  replace rp2 := keep hb rp2
  replace rl15 := keep hb rl15
  replace rq := keep hb rq
  replace hT1 := hT1.keep hb
  replace hT2 := hT2.keep hb
  replace hw := Below.after hw hb
  clear hb
  generalize w3.heap.size = gab at *
  clear w3
  go_wp2_with (fail)
  have hb : Below w4.heap.size w4 w4.drew := below_drN (Below.refl _ _) 1
  replace rp0 := keep hb rp0
  replace rp1 := keep hb rp1
  replace rp2 := keep hb rp2
  replace rl15 := keep hb rl15
  replace rl21 := keep hb rl21
  replace rl22 := keep hb rl22
  replace rq := keep hb rq
  replace hT1 := hT1.keep hb
  replace hT2 := hT2.keep hb
  replace hw := Below.after hw hb
  clear hb
  refine wp_region_noPanic ?_
  refine wp_region_held (S := fun W_ => W_.heap[g15]? = some (.cells (irow .u8 E) 24 (0, 0)) ∧ W_.heap[gab]? = some (.cells (irow .u8 A) 24 (0, 0)) ∧ W_.heap[gab + 1]? = some (.cells (irow .u8 B) 24 (0, 0))) (by kernel_rfl) ?_
  change wpAnyH _ _ _ _ _ _ _ _ (World.drew _)
  generalize w4.drew = wd214 at *
  refine wpAnyH_take (i := 0) (v := .agg (irow .u8 E)) rfl (by kernel_rfl) (by kernel_rfl) (by kernel_rfl) (fun _ _ _ h => h) (Or.inl ⟨by rfl, ?y215⟩) (⟨rl15, rl21, rl22⟩) ?r215
  case y215 =>
    intro w_ hS_
    simp only [List.getElem_toArray, List.getElem_cons_zero]
    exact e_load_part 24 _ (by rfl) (g15) 0 (by rfl) 24 (irow .u8 E) (0, 0) (irow .u8 E) _ (hS_.1) (all_rowe _) Tryd.underlying24 rfl (infok8 _ hE)
  simp only [Act.put, List.getElem_toArray, List.getElem_cons_zero, List.setIfInBounds_toArray, List.set_cons_succ, List.set_cons_zero]
  refine wpAnyH_take (i := 1) (v := .agg (irow .u8 A)) rfl (by kernel_rfl) (by kernel_rfl) (by kernel_rfl) (fun _ _ _ h => h) (Or.inl ⟨by rfl, ?y216⟩) (⟨rl15, rl21, rl22⟩) ?r216
  case y216 =>
    intro w_ hS_
    simp only [List.getElem_toArray, List.getElem_cons_succ, List.getElem_cons_zero]
    exact e_load_part 24 _ (by rfl) (gab) 0 (by rfl) 24 (irow .u8 A) (0, 0) (irow .u8 A) _ (hS_.2.1) (all_rowe _) Tryd.underlying24 rfl (infok8 _ hA)
  simp only [Act.put, List.getElem_toArray, List.getElem_cons_succ, List.getElem_cons_zero, List.setIfInBounds_toArray, List.set_cons_succ, List.set_cons_zero]
  refine wpAnyH_take (i := 3) (v := .agg (irow .u8 E)) rfl (by kernel_rfl) (by kernel_rfl) (by kernel_rfl) (fun _ _ _ h => h) (Or.inl ⟨by rfl, ?y217⟩) (⟨rl15, rl21, rl22⟩) ?r217
  case y217 =>
    intro w_ hS_
    simp only [List.getElem_toArray, List.getElem_cons_succ, List.getElem_cons_zero]
    exact e_load_part 24 _ (by rfl) (g15) 0 (by rfl) 24 (irow .u8 E) (0, 0) (irow .u8 E) _ (hS_.1) (all_rowe _) Tryd.underlying24 rfl (infok8 _ hE)
  simp only [Act.put, List.getElem_toArray, List.getElem_cons_succ, List.getElem_cons_zero, List.setIfInBounds_toArray, List.set_cons_succ, List.set_cons_zero]
  refine wpAnyH_take (i := 4) (v := .agg (irow .u8 B)) rfl (by kernel_rfl) (by kernel_rfl) (by kernel_rfl) (fun _ _ _ h => h) (Or.inl ⟨by rfl, ?y218⟩) (⟨rl15, rl21, rl22⟩) ?r218
  case y218 =>
    intro w_ hS_
    simp only [List.getElem_toArray, List.getElem_cons_succ, List.getElem_cons_zero]
    exact e_load_part 24 _ (by rfl) (gab + 1) 0 (by rfl) 24 (irow .u8 B) (0, 0) (irow .u8 B) _ (hS_.2.2) (all_rowe _) Tryd.underlying24 rfl (infok8 _ hB)
  simp only [Act.put, List.getElem_toArray, List.getElem_cons_succ, List.getElem_cons_zero, List.setIfInBounds_toArray, List.set_cons_succ, List.set_cons_zero]
  refine wpAnyH_take (i := 6) (v := ?v219) rfl (by kernel_rfl) (by kernel_rfl) (by kernel_rfl) (fun _ _ _ h => h) (Or.inl ⟨by rfl, ?y219⟩) (⟨rl15, rl21, rl22⟩) ?r219
  case y219 =>
    intro w_ hS_
    go_simp
    try with_reducible rfl
  simp only [Act.put, List.getElem_toArray, List.getElem_cons_succ, List.getElem_cons_zero, List.setIfInBounds_toArray, List.set_cons_succ, List.set_cons_zero]
  refine wpAnyH_take (i := 7) (v := .agg (irow .u8 E)) rfl (by kernel_rfl) (by kernel_rfl) (by kernel_rfl) (fun _ _ _ h => h) (Or.inl ⟨by rfl, ?y220⟩) (⟨rl15, rl21, rl22⟩) ?r220
  case y220 =>
    intro w_ hS_
    simp only [List.getElem_toArray, List.getElem_cons_succ, List.getElem_cons_zero]
    exact e_load_part 24 _ (by rfl) (g15) 0 (by rfl) 24 (irow .u8 E) (0, 0) (irow .u8 E) _ (hS_.1) (all_rowe _) Tryd.underlying24 rfl (infok8 _ hE)
  simp only [Act.put, List.getElem_toArray, List.getElem_cons_succ, List.getElem_cons_zero, List.setIfInBounds_toArray, List.set_cons_succ, List.set_cons_zero]
  refine wpAnyH_take (i := 8) (v := .agg (irow .u8 A)) rfl (by kernel_rfl) (by kernel_rfl) (by kernel_rfl) (fun _ _ _ h => h) (Or.inl ⟨by rfl, ?y221⟩) (⟨rl15, rl21, rl22⟩) ?r221
  case y221 =>
    intro w_ hS_
    simp only [List.getElem_toArray, List.getElem_cons_succ, List.getElem_cons_zero]
    exact e_load_part 24 _ (by rfl) (gab) 0 (by rfl) 24 (irow .u8 A) (0, 0) (irow .u8 A) _ (hS_.2.1) (all_rowe _) Tryd.underlying24 rfl (infok8 _ hA)
  simp only [Act.put, List.getElem_toArray, List.getElem_cons_succ, List.getElem_cons_zero, List.setIfInBounds_toArray, List.set_cons_succ, List.set_cons_zero]
  refine wpAnyH_take (i := 12) (v := ?v222) rfl (by kernel_rfl) (by kernel_rfl) (by kernel_rfl) (fun _ _ _ h => h) (Or.inl ⟨by rfl, ?y222⟩) (⟨rl15, rl21, rl22⟩) ?r222
  case y222 =>
    intro w_ hS_
    go_simp
    try with_reducible rfl
  simp only [Act.put, List.getElem_toArray, List.getElem_cons_succ, List.getElem_cons_zero, List.setIfInBounds_toArray, List.set_cons_succ, List.set_cons_zero]
  refine wpAnyH_take (i := 13) (v := .agg (irow .u8 E)) rfl (by kernel_rfl) (by kernel_rfl) (by kernel_rfl) (fun _ _ _ h => h) (Or.inl ⟨by rfl, ?y223⟩) (⟨rl15, rl21, rl22⟩) ?r223
  case y223 =>
    intro w_ hS_
    simp only [List.getElem_toArray, List.getElem_cons_succ, List.getElem_cons_zero]
    exact e_load_part 24 _ (by rfl) (g15) 0 (by rfl) 24 (irow .u8 E) (0, 0) (irow .u8 E) _ (hS_.1) (all_rowe _) Tryd.underlying24 rfl (infok8 _ hE)
  simp only [Act.put, List.getElem_toArray, List.getElem_cons_succ, List.getElem_cons_zero, List.setIfInBounds_toArray, List.set_cons_succ, List.set_cons_zero]
  refine wpAnyH_take (i := 14) (v := .agg (irow .u8 B)) rfl (by kernel_rfl) (by kernel_rfl) (by kernel_rfl) (fun _ _ _ h => h) (Or.inl ⟨by rfl, ?y224⟩) (⟨rl15, rl21, rl22⟩) ?r224
  case y224 =>
    intro w_ hS_
    simp only [List.getElem_toArray, List.getElem_cons_succ, List.getElem_cons_zero]
    exact e_load_part 24 _ (by rfl) (gab + 1) 0 (by rfl) 24 (irow .u8 B) (0, 0) (irow .u8 B) _ (hS_.2.2) (all_rowe _) Tryd.underlying24 rfl (infok8 _ hB)
  simp only [Act.put, List.getElem_toArray, List.getElem_cons_succ, List.getElem_cons_zero, List.setIfInBounds_toArray, List.set_cons_succ, List.set_cons_zero]
  refine eH_one (k := 2) (fuel := 11) (by kernel_rfl) rfl (by kernel_rfl) (fun K_ hK_ => ?_)
  refine wp_call_ex (f := 16) (by kernel_rfl) (ex1e (cN1 _ hw)) (fun v_ wq225 hX_ => ?_)
  obtain ⟨rfl, hb⟩ := hX_
  replace rp0 := keep hb rp0
  replace rp1 := keep hb rp1
  replace rp2 := keep hb rp2
  replace rl15 := keep hb rl15
  replace rl21 := keep hb rl21
  replace rl22 := keep hb rl22
  replace rq := keep hb rq
  replace hT1 := hT1.keep hb
  replace hT2 := hT2.keep hb
  replace hw := Below.after hw hb
  clear hb
  refine hK_ _ _ (⟨rl15, rl21, rl22⟩) ?_
  simp only [Act.put, List.getElem_toArray, List.getElem_cons_succ, List.getElem_cons_zero, List.setIfInBounds_toArray, List.set_cons_succ, List.set_cons_zero]
  clear hK_
  refine eH_one (k := 5) (fuel := 10) (by kernel_rfl) rfl (by kernel_rfl) (fun K_ hK_ => ?_)
  refine wp_call_ex (f := 16) (by kernel_rfl) (ex1e (cN2 _ hw)) (fun v_ wq226 hX_ => ?_)
  obtain ⟨rfl, hb⟩ := hX_
  replace rp0 := keep hb rp0
  replace rp1 := keep hb rp1
  replace rp2 := keep hb rp2
  replace rl15 := keep hb rl15
  replace rl21 := keep hb rl21
  replace rl22 := keep hb rl22
  replace rq := keep hb rq
  replace hT1 := hT1.keep hb
  replace hT2 := hT2.keep hb
  replace hw := Below.after hw hb
  clear hb
  refine hK_ _ _ (⟨rl15, rl21, rl22⟩) ?_
  simp only [Act.put, List.getElem_toArray, List.getElem_cons_succ, List.getElem_cons_zero, List.setIfInBounds_toArray, List.set_cons_succ, List.set_cons_zero]
  clear hK_
  refine eH_one (k := 9) (fuel := 9) (by kernel_rfl) rfl (by kernel_rfl) (fun K_ hK_ => ?_)
  refine wp_call_ex (f := 43) (by kernel_rfl) (cX1 _ hw) (fun vhT1 wq227 hX_ => ?_)
  obtain ⟨hx_hT1, hb⟩ := hX_
  replace rp0 := keep hb rp0
  replace rp1 := keep hb rp1
  replace rp2 := keep hb rp2
  replace rl15 := keep hb rl15
  replace rl21 := keep hb rl21
  replace rl22 := keep hb rl22
  replace rq := keep hb rq
  replace hT1 := hT1.keep hb
  replace hT2 := hT2.keep hb
  replace hw := Below.after hw hb
  clear hb
  refine hK_ _ _ (⟨rl15, rl21, rl22⟩) ?_
  simp only [Act.put, List.getElem_toArray, List.getElem_cons_succ, List.getElem_cons_zero, List.setIfInBounds_toArray, List.set_cons_succ, List.set_cons_zero]
  clear hK_
  refine eH_one (k := 10) (fuel := 8) (by kernel_rfl) rfl (by kernel_rfl) (fun K_ hK_ => ?_)
  refine e_world_op (.slice (some ⟨wq227.heap.size, 0, none⟩) 1 1) (wq227.alloc (.cells #[vhT1] 22)) (e_bslT _ rfl vhT1 rfl hx_hT1 _) ?_
  have hb : Below wq227.heap.size wq227 (wq227.alloc (.cells #[vhT1] 22)) := (Below.refl _ _).alloc (Nat.le_refl _) _
  have rg228 := hp1_0 wq227 (.cells #[vhT1] 22)
  have lt_g228_0 := lt_of_row rp0
  have lt_g228_1 := lt_of_row rp1
  have lt_g228_2 := lt_of_row rp2
  have lt_g228_3 := lt_of_row rl15
  have lt_g228_4 := lt_of_row rl21
  have lt_g228_5 := lt_of_row rl22
  have sz_g228 := hw.size
  replace rp0 := keep hb rp0
  replace rp1 := keep hb rp1
  replace rp2 := keep hb rp2
  replace rl15 := keep hb rl15
  replace rl21 := keep hb rl21
  replace rl22 := keep hb rl22
  replace rq := keep hb rq
  replace hT1 := hT1.keep hb
  replace hT2 := hT2.keep hb
  replace hx_hT1 := hx_hT1.keep hb
  replace hw := Below.after hw hb
  clear hb
  refine hK_ _ _ (⟨rl15, rl21, rl22⟩) ?_
  simp only [Act.put, List.getElem_toArray, List.getElem_cons_succ, List.getElem_cons_zero, List.setIfInBounds_toArray, List.set_cons_succ, List.set_cons_zero]
  clear hK_
  generalize (wq227.alloc (.cells #[vhT1] 22)) = wq228 at *
  generalize wq227.heap.size = g228 at *
  refine eH_one (k := 11) (fuel := 7) (by kernel_rfl) rfl (by kernel_rfl) (fun K_ hK_ => ?_)
  refine wp_append_Tn _ _ rfl w.heap.size _ S rfl hT1 _ [X1] rfl (OwnT.single (by omega) rg228 hx_hT1) (by simp only [List.length_singleton]; omega) hw.size (fun va_ wa229 hA_ hG_ hN_ => ?_)
  replace rp0 := (hG_.block _ (lt_of_row rp0) (own_neT hT1 rp0 (by decide))).trans rp0
  replace rp1 := (hG_.block _ (lt_of_row rp1) (own_neT hT1 rp1 (by decide))).trans rp1
  replace rp2 := (hG_.block _ (lt_of_row rp2) (own_neT hT1 rp2 (by decide))).trans rp2
  replace rl15 := (hG_.block _ (lt_of_row rl15) (own_neT hT1 rl15 (by decide))).trans rl15
  replace rl21 := (hG_.block _ (lt_of_row rl21) (own_neT hT1 rl21 (by decide))).trans rl21
  replace rl22 := (hG_.block _ (lt_of_row rl22) (own_neT hT1 rl22 (by decide))).trans rl22
  replace rq := (hG_.block pg (Nat.lt_of_lt_of_le lpg hw.size) (fun e => by have := (hT1.lt pg e.symm).1; omega)).trans rq
  have hDn_ := (hDj.sym).next hN_ (fun k e => (hT2.lt k e).2)
  replace hT2 := hT2.other hT1 hDj.sym hG_
  replace hDj := hDn_.sym
  clear hDn_ hN_
  replace hw := hw.grown hG_ hw.size (fun k e => (hT1.lt k e).1)
  clear hT1 hx_hT1 rg228
  have hT1 := hA_
  clear hA_ hG_
  refine hK_ _ _ (⟨rl15, rl21, rl22⟩) ?_
  simp only [Act.put, List.getElem_toArray, List.getElem_cons_succ, List.getElem_cons_zero, List.setIfInBounds_toArray, List.set_cons_succ, List.set_cons_zero]
  clear hK_
  refine eH_one (k := 15) (fuel := 6) (by kernel_rfl) rfl (by kernel_rfl) (fun K_ hK_ => ?_)
  refine wp_call_ex (f := 43) (by kernel_rfl) (cX2 _ hw) (fun vhT2 wq230 hX_ => ?_)
  obtain ⟨hx_hT2, hb⟩ := hX_
  replace rp0 := keep hb rp0
  replace rp1 := keep hb rp1
  replace rp2 := keep hb rp2
  replace rl15 := keep hb rl15
  replace rl21 := keep hb rl21
  replace rl22 := keep hb rl22
  replace rq := keep hb rq
  replace hT2 := hT2.keep hb
  replace hT1 := hT1.keep hb
  replace hw := Below.after hw hb
  clear hb
  refine hK_ _ _ (⟨rl15, rl21, rl22⟩) ?_
  simp only [Act.put, List.getElem_toArray, List.getElem_cons_succ, List.getElem_cons_zero, List.setIfInBounds_toArray, List.set_cons_succ, List.set_cons_zero]
  clear hK_
  refine eH_one (k := 16) (fuel := 5) (by kernel_rfl) rfl (by kernel_rfl) (fun K_ hK_ => ?_)
  refine e_world_op (.slice (some ⟨wq230.heap.size, 0, none⟩) 1 1) (wq230.alloc (.cells #[vhT2] 22)) (e_bslT _ rfl vhT2 rfl hx_hT2 _) ?_
  have hb : Below wq230.heap.size wq230 (wq230.alloc (.cells #[vhT2] 22)) := (Below.refl _ _).alloc (Nat.le_refl _) _
  have rg231 := hp1_0 wq230 (.cells #[vhT2] 22)
  have lt_g231_0 := lt_of_row rp0
  have lt_g231_1 := lt_of_row rp1
  have lt_g231_2 := lt_of_row rp2
  have lt_g231_3 := lt_of_row rl15
  have lt_g231_4 := lt_of_row rl21
  have lt_g231_5 := lt_of_row rl22
  have sz_g231 := hw.size
  replace rp0 := keep hb rp0
  replace rp1 := keep hb rp1
  replace rp2 := keep hb rp2
  replace rl15 := keep hb rl15
  replace rl21 := keep hb rl21
  replace rl22 := keep hb rl22
  replace rq := keep hb rq
  replace hT2 := hT2.keep hb
  replace hT1 := hT1.keep hb
  replace hx_hT2 := hx_hT2.keep hb
  replace hw := Below.after hw hb
  clear hb
  refine hK_ _ _ (⟨rl15, rl21, rl22⟩) ?_
  simp only [Act.put, List.getElem_toArray, List.getElem_cons_succ, List.getElem_cons_zero, List.setIfInBounds_toArray, List.set_cons_succ, List.set_cons_zero]
  clear hK_
  generalize (wq230.alloc (.cells #[vhT2] 22)) = wq231 at *
  generalize wq230.heap.size = g231 at *
  refine eH_one (k := 17) (fuel := 4) (by kernel_rfl) rfl (by kernel_rfl) (fun K_ hK_ => ?_)
  refine wp_append_Tn _ _ rfl w.heap.size _ T rfl hT2 _ [X2] rfl (OwnT.single (by omega) rg231 hx_hT2) (by simp only [List.length_singleton]; omega) hw.size (fun va_ wa232 hA_ hG_ hN_ => ?_)
  replace rp0 := (hG_.block _ (lt_of_row rp0) (own_neT hT2 rp0 (by decide))).trans rp0
  replace rp1 := (hG_.block _ (lt_of_row rp1) (own_neT hT2 rp1 (by decide))).trans rp1
  replace rp2 := (hG_.block _ (lt_of_row rp2) (own_neT hT2 rp2 (by decide))).trans rp2
  replace rl15 := (hG_.block _ (lt_of_row rl15) (own_neT hT2 rl15 (by decide))).trans rl15
  replace rl21 := (hG_.block _ (lt_of_row rl21) (own_neT hT2 rl21 (by decide))).trans rl21
  replace rl22 := (hG_.block _ (lt_of_row rl22) (own_neT hT2 rl22 (by decide))).trans rl22
  replace rq := (hG_.block pg (Nat.lt_of_lt_of_le lpg hw.size) (fun e => by have := (hT2.lt pg e.symm).1; omega)).trans rq
  have hDn_ := (hDj).next hN_ (fun k e => (hT1.lt k e).2)
  replace hT1 := hT1.other hT2 hDj hG_
  replace hDj := hDn_
  clear hDn_ hN_
  replace hw := hw.grown hG_ hw.size (fun k e => (hT2.lt k e).1)
  clear hT2 hx_hT2 rg231
  have hT2 := hA_
  clear hA_ hG_
  refine hK_ _ _ (⟨rl15, rl21, rl22⟩) ?_
  simp only [Act.put, List.getElem_toArray, List.getElem_cons_succ, List.getElem_cons_zero, List.setIfInBounds_toArray, List.set_cons_succ, List.set_cons_zero]
  clear hK_
  refine eH_one (k := 18) (fuel := 3) (by kernel_rfl) rfl (by kernel_rfl) (fun K_ hK_ => ?_)
  refine wp_store_row 24 _ _ rfl (w.heap.size + 1) (irow .u8 Q) rfl rfl 24 _ rp1 (infok8 _ hQ) (((irow_size _ _).trans (zr_len 32)).trans ((irow_size _ _).trans hQ).symm) (irow_one8 _) ?_
  have hN_ := setRow_heap wa232 (w.heap.size + 1) _ (irow .u8 Q) _ _ rp1
  replace rp0 := (setRow_other wa232 (w.heap.size + 1) (w.heap.size) (irow .u8 Q) (by omega)).trans rp0
  replace rp2 := (setRow_other wa232 (w.heap.size + 1) (w.heap.size + 1 + 1) (irow .u8 Q) (by omega)).trans rp2
  replace rl15 := (setRow_other wa232 (w.heap.size + 1) (g15) (irow .u8 Q) (by omega)).trans rl15
  replace rl21 := (setRow_other wa232 (w.heap.size + 1) (gab) (irow .u8 Q) (by omega)).trans rl21
  replace rl22 := (setRow_other wa232 (w.heap.size + 1) (gab + 1) (irow .u8 Q) (by omega)).trans rl22
  replace hw := below_setRow hw (show w.heap.size ≤ w.heap.size + 1 by omega) (irow .u8 Q)
  replace rq := (setRow_other wa232 (w.heap.size + 1) pg (irow .u8 Q) (by omega)).trans rq
  replace hT1 := hT1.set (irow .u8 Q) rp1 (by decide) (by decide)
  replace hT2 := hT2.set (irow .u8 Q) rp1 (by decide) (by decide)
  generalize (wa232.setRow (w.heap.size + 1) (irow .u8 Q)) = wq233 at *
  clear rp1
  have rp1 := hN_
  clear hN_
  refine hK_ _ _ (⟨rl15, rl21, rl22⟩) ?_
  simp only [Act.put]
  clear hK_
  refine eH_one (k := 19) (fuel := 2) (by kernel_rfl) rfl (by kernel_rfl) (fun K_ hK_ => ?_)
  refine wp_store_row 24 _ _ rfl (w.heap.size + 1 + 1) (irow .u8 R) rfl rfl 24 _ rp2 (infok8 _ hR) (((irow_size _ _).trans (zr_len 32)).trans ((irow_size _ _).trans hR).symm) (irow_one8 _) ?_
  have hN_ := setRow_heap wq233 (w.heap.size + 1 + 1) _ (irow .u8 R) _ _ rp2
  replace rp0 := (setRow_other wq233 (w.heap.size + 1 + 1) (w.heap.size) (irow .u8 R) (by omega)).trans rp0
  replace rp1 := (setRow_other wq233 (w.heap.size + 1 + 1) (w.heap.size + 1) (irow .u8 R) (by omega)).trans rp1
  replace rl15 := (setRow_other wq233 (w.heap.size + 1 + 1) (g15) (irow .u8 R) (by omega)).trans rl15
  replace rl21 := (setRow_other wq233 (w.heap.size + 1 + 1) (gab) (irow .u8 R) (by omega)).trans rl21
  replace rl22 := (setRow_other wq233 (w.heap.size + 1 + 1) (gab + 1) (irow .u8 R) (by omega)).trans rl22
  replace hw := below_setRow hw (show w.heap.size ≤ w.heap.size + 1 + 1 by omega) (irow .u8 R)
  replace rq := (setRow_other wq233 (w.heap.size + 1 + 1) pg (irow .u8 R) (by omega)).trans rq
  replace hT1 := hT1.set (irow .u8 R) rp2 (by decide) (by decide)
  replace hT2 := hT2.set (irow .u8 R) rp2 (by decide) (by decide)
  generalize (wq233.setRow (w.heap.size + 1 + 1) (irow .u8 R)) = wq234 at *
  clear rp2
  have rp2 := hN_
  clear hN_
  refine hK_ _ _ (⟨rl15, rl21, rl22⟩) ?_
  simp only [Act.put]
  clear hK_
  refine wpAnyH_take (i := 20) (v := ?v235) rfl (by kernel_rfl) (by kernel_rfl) (by kernel_rfl) (fun _ _ _ h => h) (Or.inl ⟨by rfl, ?y235⟩) (⟨rl15, rl21, rl22⟩) ?r235
  case y235 =>
    intro w_ hS_
    go_simp
    try with_reducible rfl
  simp only [Act.put, List.getElem_toArray, List.getElem_cons_succ, List.getElem_cons_zero, List.setIfInBounds_toArray, List.set_cons_succ, List.set_cons_zero]
  refine wpAnyH_take (i := 21) (v := ?v236) rfl (by kernel_rfl) (by kernel_rfl) (by kernel_rfl) (fun _ _ _ h => h) (Or.inl ⟨by rfl, ?y236⟩) (⟨rl15, rl21, rl22⟩) ?r236
  case y236 =>
    intro w_ hS_
    go_simp
    try with_reducible rfl
  simp only [Act.put, List.getElem_toArray, List.getElem_cons_succ, List.getElem_cons_zero, List.setIfInBounds_toArray, List.set_cons_succ, List.set_cons_zero]
  refine wpAnyH_done (by kernel_rfl) ?_ _
  refine NoPanic.normal ?_
  go_wp2_with (fail)
  exact bodyPost_ret (v := .tuple #[.agg (irow .u8 Q), .agg (irow .u8 R), _, _]) (results_cell2_slot2 Tryd.results39 _ _ (w.heap.size + 1) (w.heap.size + 1 + 1) _ _ (irow .u8 Q) (irow .u8 R) _ _ _ _ _ rfl rp1 rfl rp2 rfl rfl Tryd.underlying24 rfl (infok8 _ hQ) (infok8 _ hR)) rfl ⟨_, rfl, _, _, rfl, hT1, hT2, hDj, hw⟩
end Go.Proofs.YtgfeacnhdlgpoaaDoor
