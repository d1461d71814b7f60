import Derived.Test.YtebgdenfaiinmaaProg
import Derived.WalkKit
import Derived.WalkSpells
import Derived.WalkLawsBesides
import Derived.Lib.QuietBelow
import Derived.BigQuiet
import Derived.OrdersHeld
import Derived.Deep.RegionHeld3
import Derived.OwnWalk
import Derived.Test.YtebgdenfaiinmaaKit
import Derived.Test.YtebgdenfaiinmaaSqa
namespace Go.Proofs.Ytebgdenfaiinmaa
open Go Go.RowKit Go.Sort Go.ChangeMaps Go.MapKept
attribute [local go_sem] setCell_drewN alloc_drewN

theorem kcs_len : ∀ (ks : List (List Int)), (∀ k ∈ ks, k.length = 32) → (kcs ks).length = ks.length * 32
  | [], _ => rfl
  | k :: r, h => by
    have i := kcs_len r (fun x hx => h x (by simp [hx]))
    have e := h k (by simp)
    simp only [kcs, List.flatMap_cons, List.length_append, List.length_map, List.length_cons] at i ⊢
    omega
theorem kcs_get : ∀ (ks : List (List Int)) (i : Nat), (∀ k ∈ ks, k.length = 32) → i < ks.length → ((kcs ks).drop (i * 32)).take 32 = (ks.getD i []).map (Value.int .u8)
  | [], i, _, h => by simp at h
  | k :: r, 0, hl, _ => by
    have e := hl k (by simp)
    simp [kcs, e]
  | k :: r, (i + 1), hl, h => by
    have e := hl k (by simp)
    have j := kcs_get r i (fun x hx => hl x (by simp [hx])) (by simpa using h)
    rw [show kcs (k :: r) = k.map (Value.int .u8) ++ kcs r from rfl, show (i + 1) * 32 = (k.map (Value.int .u8)).length + i * 32 by simp [e]; omega, List.drop_append]
    simp only [Nat.add_sub_cancel_left, List.getD_cons_succ]
    rw [List.drop_eq_nil_of_le (by omega), List.nil_append]
    exact j
/-- A key of a list, as it lies there. -/
theorem OwnK.part {W : World} {b : Nat} {v : Value} {ks : List (List Int)} (h : OwnK W b v ks) (hl : ∀ k ∈ ks, k.length = 32) (i : Nat) (hi : i < ks.length) : ∃ g cap cur, v = .slice (some ⟨g, 0, none⟩) ks.length cap ∧ W.heap[g]? = some (.cells cur 40 (0, 0)) ∧ cur.extract (i * 32) (i * 32 + (irow .u8 (ks.getD i [])).size) = irow .u8 (ks.getD i []) := by
  obtain ⟨_, ⟨rfl, h0⟩ | ⟨g, cap, cur, rfl, _, hg, _, _, _, ht⟩⟩ := h
  · omega
  · refine ⟨g, cap, cur, rfl, hg, ?_⟩
    have hk : (ks.getD i []).length = 32 := hl _ (by rw [List.getD_eq_getElem?_getD, List.getElem?_eq_getElem hi]; exact List.getElem_mem _)
    have e := kcs_get ks i hl hi
    rw [← ht] at e
    apply Array.ext'
    rw [irow_size, hk]
    simp only [Array.toList_extract, irow, List.extract_eq_take_drop]
    rw [← e, List.drop_take, List.take_take]
    congr 1
    omega
set_option maxRecDepth 100000 in
set_option maxHeartbeats 4000000 in
theorem l_sameKeys (ks : List (List Int)) (hl : ∀ k ∈ ks, k.length = 32) (hs : ks.length ≤ 1000000) (w : World) (b1 b2 : Nat) (v1 v2 : Value) (h1 : OwnK w b1 v1 ks) (h2 : OwnK w b2 v2 ks) : Calls Try.prog 42 #[v1, v2] w fun e w' => e = .returned (.bool true) ∧ Below w.heap.size w w' := by
  obtain ⟨a1, c1, e1⟩ := slen_own h1
  obtain ⟨a2, c2, e2⟩ := slen_own h2
  subst e1 e2
  go_enter Try.func42, Try.ntmps42
  go_wp2_with (fail)
  go_loopw [5] (fun i wr => ∃ k : Nat, k ≤ ks.length ∧ i = .int .i64 k ∧ Below w.heap.size w wr) (fun i _ => ks.length - (intOf i).toNat)
  case atStart => exact ⟨0, by omega, rfl, Below.refl _ _⟩
  case round =>
    obtain ⟨k, hk, rfl, hw⟩ := hrel
    by_cases hlt : k < ks.length
    · have hd : decide ((k : Int) < (ks.length : Int)) = true := by simp; omega
      have hk1 : 0 ≤ (k : Int) ∧ (k : Int) < (ks.length : Int) := by omega
      obtain ⟨g1, cp1, cur1, hv1, r1, x1⟩ := (h1.keep hw).part hl k hlt
      obtain ⟨g2, cp2, cur2, hv2, r2, x2⟩ := (h2.keep hw).part hl k hlt
      cases hv1
      cases hv2
      have hX : (ks.getD k []).length = 32 := hl _ (by rw [List.getD_eq_getElem?_getD, List.getElem?_eq_getElem hlt]; exact List.getElem_mem _)
      generalize (ks.getD k []) = X at *
      clear h1 h2
      go_wp2_with (fail)
      have hbd : Below wr.heap.size wr wr.drew := below_drN (Below.refl _ _) 1
      replace r1 := keep hbd r1
      replace r2 := keep hbd r2
      replace hw := Below.after hw hbd
      clear hbd
      refine wp_region_noPanic ?_
      refine wp_region_held (S := fun W => W.heap[g1]? = some (.cells cur1 40 (0, 0)) ∧ W.heap[g2]? = some (.cells cur2 40 (0, 0))) (by kernel_rfl) ?_
      change wpAnyH _ _ _ _ _ _ _ _ (World.drew _)
      generalize wr.drew = w1 at *
      refine wpAnyH_take (i := 0) (v := ?v10) rfl (by kernel_rfl) (by kernel_rfl) (by kernel_rfl) (fun _ _ _ h => h) (Or.inl ⟨by rfl, ?y10⟩) ⟨r1, r2⟩ ?r10
      case y10 =>
        intro w_ hS_
        go_simp
        try with_reducible rfl
      simp only [Act.put, List.getElem_toArray, List.getElem_cons_zero, List.setIfInBounds_toArray, List.set_cons_succ, List.set_cons_zero]
      refine wpAnyH_take (i := 1) (v := ?v11) rfl (by kernel_rfl) (by kernel_rfl) (by kernel_rfl) (fun _ _ _ h => h) (Or.inl ⟨by rfl, ?y11⟩) ⟨r1, r2⟩ ?r11
      case y11 =>
        intro w_ hS_
        go_simp
        try with_reducible rfl
      simp only [Act.put, List.getElem_toArray, List.getElem_cons_succ, List.getElem_cons_zero, List.setIfInBounds_toArray, List.set_cons_succ, List.set_cons_zero]
      refine wpAnyH_take (i := 2) (v := ?v12) rfl (by kernel_rfl) (by kernel_rfl) (by kernel_rfl) (fun _ _ _ h => h) (Or.inl ⟨by rfl, ?y12⟩) ⟨r1, r2⟩ ?r12
      case y12 =>
        intro w_ hS_
        go_simp
        try with_reducible rfl
      simp only [Act.put, List.getElem_toArray, List.getElem_cons_succ, List.getElem_cons_zero, List.setIfInBounds_toArray, List.set_cons_succ, List.set_cons_zero]
      refine wpAnyH_take (i := 3) (v := .agg (irow .u8 X)) rfl (by kernel_rfl) (by kernel_rfl) (by kernel_rfl) (fun _ _ _ h => h) (Or.inl ⟨by rfl, ?y13⟩) ⟨r1, r2⟩ ?r13
      case y13 =>
        intro w_ hS_
        simp only [List.getElem_toArray, List.getElem_cons_succ, List.getElem_cons_zero]
        exact run_load_part 40 _ (by rfl) (g1) (k * 32) (by rfl) 40 cur1 (0, 0) (irow .u8 X) _ (hS_.1) x1 Try.underlying40 rfl (infok8 _ hX)
      simp only [Act.put, List.getElem_toArray, List.getElem_cons_succ, List.getElem_cons_zero, List.setIfInBounds_toArray, List.set_cons_succ, List.set_cons_zero]
      refine wpAnyH_take (i := 4) (v := ?v14) rfl (by kernel_rfl) (by kernel_rfl) (by kernel_rfl) (fun _ _ _ h => h) (Or.inl ⟨by rfl, ?y14⟩) ⟨r1, r2⟩ ?r14
      case y14 =>
        intro w_ hS_
        go_simp
        try with_reducible rfl
      simp only [Act.put, List.getElem_toArray, List.getElem_cons_succ, List.getElem_cons_zero, List.setIfInBounds_toArray, List.set_cons_succ, List.set_cons_zero]
      refine wpAnyH_take (i := 5) (v := ?v15) rfl (by kernel_rfl) (by kernel_rfl) (by kernel_rfl) (fun _ _ _ h => h) (Or.inl ⟨by rfl, ?y15⟩) ⟨r1, r2⟩ ?r15
      case y15 =>
        intro w_ hS_
        go_simp
        try with_reducible rfl
      simp only [Act.put, List.getElem_toArray, List.getElem_cons_succ, List.getElem_cons_zero, List.setIfInBounds_toArray, List.set_cons_succ, List.set_cons_zero]
      refine wpAnyH_take (i := 6) (v := ?v16) rfl (by kernel_rfl) (by kernel_rfl) (by kernel_rfl) (fun _ _ _ h => h) (Or.inl ⟨by rfl, ?y16⟩) ⟨r1, r2⟩ ?r16
      case y16 =>
        intro w_ hS_
        go_simp
        try with_reducible rfl
      simp only [Act.put, List.getElem_toArray, List.getElem_cons_succ, List.getElem_cons_zero, List.setIfInBounds_toArray, List.set_cons_succ, List.set_cons_zero]
      refine wpAnyH_take (i := 7) (v := .agg (irow .u8 X)) rfl (by kernel_rfl) (by kernel_rfl) (by kernel_rfl) (fun _ _ _ h => h) (Or.inl ⟨by rfl, ?y17⟩) ⟨r1, r2⟩ ?r17
      case y17 =>
        intro w_ hS_
        simp only [List.getElem_toArray, List.getElem_cons_succ, List.getElem_cons_zero]
        exact run_load_part 40 _ (by rfl) (g2) (k * 32) (by rfl) 40 cur2 (0, 0) (irow .u8 X) _ (hS_.2) x2 Try.underlying40 rfl (infok8 _ hX)
      simp only [Act.put, List.getElem_toArray, List.getElem_cons_succ, List.getElem_cons_zero, List.setIfInBounds_toArray, List.set_cons_succ, List.set_cons_zero]
      refine wpAnyH_take (i := 8) (v := .bool false) rfl (by kernel_rfl) (by kernel_rfl) (by kernel_rfl) (fun _ _ _ h => h) (Or.inl ⟨by rfl, ?y18⟩) ⟨r1, r2⟩ ?r18
      case y18 =>
        intro w_ hS_
        simp only [List.getElem_toArray, List.getElem_cons_succ, List.getElem_cons_zero]
        exact run_neq_op 40 40 _ _ (by rfl) (irow .u8 X) (irow .u8 X) (by rfl) (by rfl) egK true (by have := eq_key 9998 X X hX hX w_; rwa [show decide (X = X) = true by simp] at this)
      simp only [Act.put, List.getElem_toArray, List.getElem_cons_succ, List.getElem_cons_zero, List.setIfInBounds_toArray, List.set_cons_succ, List.set_cons_zero]
      refine wpAnyH_done (by kernel_rfl) ?_ _
      refine NoPanic.normal ?_
      go_wp2_with (fail)
      refine ⟨⟨k + 1, by omega, by go_num, hw⟩, ?_⟩
      simp [intOf]; omega
    · obtain rfl : k = ks.length := by omega
      have hd : decide ((ks.length : Int) < (ks.length : Int)) = false := by simp
      clear h1 h2
      go_wp2_with (fail)
      go_ret
      exact ⟨rfl, hw⟩
/-- Keys laid behind a list of one's own. -/
theorem kcs_ones (ks : List (List Int)) : ∀ u ∈ kcs ks, u.oneCell' = true := by
  intro u hu
  obtain ⟨k, _, h⟩ := List.mem_flatMap.1 hu
  obtain ⟨z, _, rfl⟩ := List.mem_map.1 h
  rfl
theorem wp_append_Ks {w : World} {o : Oper} {a : Act} {K : Act → World → Prop} {Q : Exit → Act → World → Prop} (s x : Operand) (ho : o.op = .call { callee := .builtin .append, args := #[s, x], argTypes := #[77, 77] })
    (base : Nat) (v : Value) (ks : List (List Int)) (hs : a.eval s = v) (hI : OwnK w base v ks) (b2 : Nat) (u : Value) (qs : List (List Int)) (hq : ∀ k ∈ qs, k.length = 32) (hx : a.eval x = u) (hO : OwnK w b2 u qs) (hlen : ks.length + qs.length ≤ 1000000) (hbase : base ≤ w.heap.size)
    (h : ∀ v' w', OwnK w' base v' (ks ++ qs) → w.grownBy w' v.ownBlock → Nx w v v' → K (a.put o.dst v') w') : o.wp Try.prog a w K Q := by
  obtain ⟨i0, hi, hz0, hz1, hz2⟩ := infoKy
  have hO2 := hO
  obtain ⟨_, ⟨rfl, hn0⟩ | ⟨g, cap, cur, rfl, _⟩⟩ := hO
  · have he0 : qs = [] := List.length_eq_zero_iff.1 hn0
    subst he0
    have hrun := run_append_owned_none (P := Try.prog) w base 77 o.type 40 i0 32 Try.underlying77 hi _ ks.length _ hI
    unfold Oper.wp
    simp [execOp, ho, resolve, invoke, builtin, hs, hx, hrun, Result.andThen]
    exact h v w (by simpa using hI) (World.grownBy.refl _ _) (Nx.refl _ _)
  · refine wp_append_nx s x 77 ho base 40 i0 (.agg (irow .u8 (zr 32))) 32 32 Try.underlying77 hi hz0 hz1 hz2 rfl (by decide) v ks.length (kcs ks) hs hI ⟨g, 0, none⟩ qs.length cap (kcs qs) hx (kcs_len qs hq) (hO2.cells rfl) (kcs_ones qs) (by unfold maxLen; omega) (by omega) hbase (fun v' w' h1 h2 h3 => h v' w' ?_ h2 h3)
    unfold OwnK
    rw [kcs_app, List.length_append]
    exact h1
theorem infoLS : ∃ i, Try.prog.info? 38 = some i ∧ i.zero = some (.slice none 0 0) ∧ i.size = 1 ∧ i.bytes = 24 := ⟨_, rfl, rfl, rfl, rfl⟩
theorem infoLK : ∃ i, Try.prog.info? 77 = some i ∧ i.zero = some (.slice none 0 0) ∧ i.size = 1 ∧ i.bytes = 24 := ⟨_, rfl, rfl, rfl, rfl⟩
theorem run_bslLS (ao : Option Addr) (n c : Nat) (W : World) : (Instr.buildSlice 34 1 #[(0, .slice ao n c)]).run Try.prog W = .ok (.slice (some ⟨W.heap.size, 0, none⟩) 1 1) (W.alloc (.cells #[.slice ao n c] 38)) := by kernel_rfl
theorem run_bslLK (ao : Option Addr) (n c : Nat) (W : World) : (Instr.buildSlice 35 1 #[(0, .slice ao n c)]).run Try.prog W = .ok (.slice (some ⟨W.heap.size, 0, none⟩) 1 1) (W.alloc (.cells #[.slice ao n c] 77)) := by kernel_rfl
theorem run_bslK0 (W : World) : (Instr.buildSlice 77 0 #[]).run Try.prog W = .ok (.slice (some ⟨W.heap.size, 0, none⟩) 0 0) (W.alloc (.cells #[] 40)) := by kernel_rfl
theorem wpList_bslLS {w : World} {ops : Array Oper} {rest : List Oper} {o : Oper} {a : Act} {Q : Exit → Act → World → Prop} (hgd : o.guard = none) (x : Operand) (ho : o.op = .buildSlice 34 1 #[(0, x)]) (ao : Option Addr) (n c : Nat) (hx : a.eval x = .slice ao n c)
    (h : wpList Try.prog ops Q rest (a.put o.dst (.slice (some ⟨w.heap.size, 0, none⟩) 1 1)) (w.alloc (.cells #[.slice ao n c] 38))) : wpList Try.prog ops Q (o :: rest) a w :=
  wpList_plain hgd fun _ hK => wp_world_op _ _ (run_bsl_op 34 x ho hx (run_bslLS ao n c w)) (hK _ _ h)
theorem wpList_bslLK {w : World} {ops : Array Oper} {rest : List Oper} {o : Oper} {a : Act} {Q : Exit → Act → World → Prop} (hgd : o.guard = none) (x : Operand) (ho : o.op = .buildSlice 35 1 #[(0, x)]) (ao : Option Addr) (n c : Nat) (hx : a.eval x = .slice ao n c)
    (h : wpList Try.prog ops Q rest (a.put o.dst (.slice (some ⟨w.heap.size, 0, none⟩) 1 1)) (w.alloc (.cells #[.slice ao n c] 77))) : wpList Try.prog ops Q (o :: rest) a w :=
  wpList_plain hgd fun _ hK => wp_world_op _ _ (run_bsl_op 35 x ho hx (run_bslLK ao n c w)) (hK _ _ h)
/-- A list laid behind a list of lists of one's own. -/
theorem wp_append_A {w : World} {o : Oper} {a : Act} {K : Act → World → Prop} {Q : Exit → Act → World → Prop} (s x : Operand) (ho : o.op = .call { callee := .builtin .append, args := #[s, x], argTypes := #[34, 34] })
    (base : Nat) (v : Value) (vs : List Value) (hs : a.eval s = v) (hI : w.ownsRow base 38 1 v vs.length vs) (g : Nat) (u : Value) (hx : a.eval x = .slice (some ⟨g, 0, none⟩) 1 1) (rg : w.heap[g]? = some (.cells #[u] 38 (0, 0))) (h1 : u.oneCell' = true) (hlen : vs.length ≤ 1000000000000) (hbase : base ≤ w.heap.size)
    (h : ∀ v' w', w'.ownsRow base 38 1 v' (vs ++ [u]).length (vs ++ [u]) → w.grownBy w' v.ownBlock → Nx w v v' → K (a.put o.dst v') w') : o.wp Try.prog a w K Q := by
  obtain ⟨i0, hi, hz0, hz1, hz2⟩ := infoLS
  refine wp_append_nx s x 34 ho base 38 i0 (.slice none 0 0) 1 24 Try.underlying34 hi hz0 hz1 hz2 rfl (by decide) v vs.length vs hs hI ⟨g, 0, none⟩ 1 1 [u] hx rfl (fun j x hj => ?_) (fun x hx => by rw [List.mem_singleton] at hx; rw [hx]; exact h1) (by unfold maxLen; omega) (by omega) hbase (fun v' w' h1 h2 h3 => h v' w' (by rw [List.length_append]; exact h1) h2 h3)
  rw [addr_add, cell_of_row _ _ _ _ _ _ rg, Nat.zero_add]
  simpa using hj
theorem wpList_append_A {w : World} {ops : Array Oper} {rest : List Oper} {o : Oper} {a : Act} {Q : Exit → Act → World → Prop} (hw : Region.wanted o (yielded ops a.tmps) = true) (s x : Operand) (ho : o.op = .call { callee := .builtin .append, args := #[s, x], argTypes := #[34, 34] })
    (base : Nat) (v : Value) (vs : List Value) (hs : a.eval s = v) (hI : w.ownsRow base 38 1 v vs.length vs) (g : Nat) (u : Value) (hx : a.eval x = .slice (some ⟨g, 0, none⟩) 1 1) (rg : w.heap[g]? = some (.cells #[u] 38 (0, 0))) (h1 : u.oneCell' = true) (hlen : vs.length ≤ 1000000000000) (hbase : base ≤ w.heap.size)
    (h : ∀ v' w', w'.ownsRow base 38 1 v' (vs ++ [u]).length (vs ++ [u]) → w.grownBy w' v.ownBlock → Nx w v v' → wpList Try.prog ops Q rest (a.put o.dst v') w') : wpList Try.prog ops Q (o :: rest) a w :=
  BigFrame.wpList_want hw fun _ hK => wp_append_A s x ho base v vs hs hI g u hx rg h1 hlen hbase (fun v' w' h1 h2 h3 => hK _ _ (h v' w' h1 h2 h3))
/-- A list laid behind a list of lists of one's own. -/
theorem wp_append_B {w : World} {o : Oper} {a : Act} {K : Act → World → Prop} {Q : Exit → Act → World → Prop} (s x : Operand) (ho : o.op = .call { callee := .builtin .append, args := #[s, x], argTypes := #[35, 35] })
    (base : Nat) (v : Value) (vs : List Value) (hs : a.eval s = v) (hI : w.ownsRow base 77 1 v vs.length vs) (g : Nat) (u : Value) (hx : a.eval x = .slice (some ⟨g, 0, none⟩) 1 1) (rg : w.heap[g]? = some (.cells #[u] 77 (0, 0))) (h1 : u.oneCell' = true) (hlen : vs.length ≤ 1000000000000) (hbase : base ≤ w.heap.size)
    (h : ∀ v' w', w'.ownsRow base 77 1 v' (vs ++ [u]).length (vs ++ [u]) → w.grownBy w' v.ownBlock → Nx w v v' → K (a.put o.dst v') w') : o.wp Try.prog a w K Q := by
  obtain ⟨i0, hi, hz0, hz1, hz2⟩ := infoLK
  refine wp_append_nx s x 35 ho base 77 i0 (.slice none 0 0) 1 24 Try.underlying35 hi hz0 hz1 hz2 rfl (by decide) v vs.length vs hs hI ⟨g, 0, none⟩ 1 1 [u] hx rfl (fun j x hj => ?_) (fun x hx => by rw [List.mem_singleton] at hx; rw [hx]; exact h1) (by unfold maxLen; omega) (by omega) hbase (fun v' w' h1 h2 h3 => h v' w' (by rw [List.length_append]; exact h1) h2 h3)
  rw [addr_add, cell_of_row _ _ _ _ _ _ rg, Nat.zero_add]
  simpa using hj
theorem wpList_append_B {w : World} {ops : Array Oper} {rest : List Oper} {o : Oper} {a : Act} {Q : Exit → Act → World → Prop} (hw : Region.wanted o (yielded ops a.tmps) = true) (s x : Operand) (ho : o.op = .call { callee := .builtin .append, args := #[s, x], argTypes := #[35, 35] })
    (base : Nat) (v : Value) (vs : List Value) (hs : a.eval s = v) (hI : w.ownsRow base 77 1 v vs.length vs) (g : Nat) (u : Value) (hx : a.eval x = .slice (some ⟨g, 0, none⟩) 1 1) (rg : w.heap[g]? = some (.cells #[u] 77 (0, 0))) (h1 : u.oneCell' = true) (hlen : vs.length ≤ 1000000000000) (hbase : base ≤ w.heap.size)
    (h : ∀ v' w', w'.ownsRow base 77 1 v' (vs ++ [u]).length (vs ++ [u]) → w.grownBy w' v.ownBlock → Nx w v v' → wpList Try.prog ops Q rest (a.put o.dst v') w') : wpList Try.prog ops Q (o :: rest) a w :=
  BigFrame.wpList_want hw fun _ hK => wp_append_B s x ho base v vs hs hI g u hx rg h1 hlen hbase (fun v' w' h1 h2 h3 => hK _ _ (h v' w' h1 h2 h3))

end Go.Proofs.Ytebgdenfaiinmaa
