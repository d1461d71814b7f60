import Derived.Test.YtgfeacnhdlgpoaaDoorProg
import Derived.WalkKit
import Derived.WalkSpells
import Derived.WalkLawsBesides
import Derived.Lib.QuietBelow
import Derived.BigQuiet
import Derived.OrdersHeld
import Derived.OwnWalk
import Derived.Deep.RegionHeld3
import Derived.Deep.Cut
import Derived.Deep.CutRange
import Derived.Test.YtgfeacnhdlgpoaaDoorTrj
namespace Go.Proofs.YtgfeacnhdlgpoaaDoor
set_option maxRecDepth 100000
open Go Go.RowKit Go.Sort
attribute [local go_sem] setCell_drewN alloc_drewN
set_option maxRecDepth 100000 in
set_option maxHeartbeats 8000000 in
theorem r_long1 (w : World) (i : Value) : Calls Tryd.prog 52 #[.int .i64 1, i] w fun e w' => e = .returned (.int .i64 0) ∧ Below w.heap.size w w' := by
  have hw : Below w.heap.size w w := Below.refl _ _
  go_enter Tryd.func52, Tryd.ntmps52
  go_wp2_with (fail)
  go_ret
  exact ⟨rfl, hw⟩
set_option maxRecDepth 100000 in
set_option maxHeartbeats 8000000 in
theorem r_longlo (w : World) (n k i L : Nat) (hn : 2 ≤ n) (hm : n ≤ 4398046511000) (_hk : k < n) (hi : i < k) (_hin : i < n) (hL : L ≤ 4398046511000) (cC : Gives 45 #[.int .i64 (n : Int)] (.int .i64 (k : Int))) (cP : (∀ W, Below w.heap.size w W → Calls Tryd.prog 52 #[.int .i64 (k : Int), .int .i64 (i : Int)] W fun e w' => e = .returned (.int .i64 (L : Int)) ∧ Below W.heap.size W w')) : Calls Tryd.prog 52 #[.int .i64 (n : Int), .int .i64 (i : Int)] w fun e w' => e = .returned (.int .i64 (1 + (L : Int))) ∧ Below w.heap.size w w' := by
  have d1 : decide ((n : Int) = 1) = false := by simp; omega
  have d2 : decide ((i : Int) < (k : Int)) = true := by simp; omega
  have hw : Below w.heap.size w w := Below.refl _ _
  go_enter Tryd.func52, Tryd.ntmps52
  go_wp2_with (fail)
  refine (cC.at _).mono ?_
  rintro e_ w1 ⟨rfl, hb⟩
  replace hw := Below.after hw hb
  clear hb
  clear cC
  go_wp2_with (fail)
  refine (cP _ hw).mono ?_
  rintro e_ w2 ⟨rfl, hb⟩
  replace hw := Below.after hw hb
  clear hb
  clear cP
  go_wp2_with (fail)
  go_ret
  exact ⟨rfl, hw⟩
set_option maxRecDepth 100000 in
set_option maxHeartbeats 8000000 in
theorem r_longhi (w : World) (n k i L : Nat) (hn : 2 ≤ n) (hm : n ≤ 4398046511000) (hk : k < n) (hi : ¬ i < k) (hin : i < n) (hL : L ≤ 4398046511000) (cC : Gives 45 #[.int .i64 (n : Int)] (.int .i64 (k : Int))) (cP : (∀ W, Below w.heap.size w W → Calls Tryd.prog 52 #[.int .i64 ((n : Int) - (k : Int)), .int .i64 ((i : Int) - (k : Int))] W fun e w' => e = .returned (.int .i64 (L : Int)) ∧ Below W.heap.size W w')) : Calls Tryd.prog 52 #[.int .i64 (n : Int), .int .i64 (i : Int)] w fun e w' => e = .returned (.int .i64 (1 + (L : Int))) ∧ Below w.heap.size w w' := by
  have d1 : decide ((n : Int) = 1) = false := by simp; omega
  have d2 : decide ((i : Int) < (k : Int)) = false := by simp; omega
  have hw : Below w.heap.size w w := Below.refl _ _
  go_enter Tryd.func52, Tryd.ntmps52
  go_wp2_with (fail)
  refine (cC.at _).mono ?_
  rintro e_ w1 ⟨rfl, hb⟩
  replace hw := Below.after hw hb
  clear hb
  clear cC
  go_wp2_with (fail)
  refine (cP _ hw).mono ?_
  rintro e_ w2 ⟨rfl, hb⟩
  replace hw := Below.after hw hb
  clear hb
  clear cP
  go_wp2_with (fail)
  go_ret
  exact ⟨rfl, hw⟩
theorem r_long : ∀ (n i : Nat) (w : World), 1 ≤ n → n ≤ 4398046511000 → i < n → Calls Tryd.prog 52 #[.int .i64 (n : Int), .int .i64 (i : Int)] w fun e w' => e = .returned (.int .i64 (lng n i : Int)) ∧ Below w.heap.size w w' := by
  intro n
  induction n using Nat.strongRecOn with
  | ind n ih =>
    intro i w h1 hn hi
    by_cases h2 : n < 2
    · obtain rfl : n = 1 := by omega
      rw [lng_one h2]
      exact r_long1 w _
    · have a := ct_lt h2
      have b := ct_pos n
      by_cases hk : i < ctN n
      · rw [lng_lo h2 hk, Int.natCast_add]
        exact r_longlo w n (ctN n) i _ (by omega) hn a hk hi (Nat.le_trans (lng_lt _ _) (by omega)) (r_cut _ h2 hn) (fun W hW => ih _ a _ _ b (by omega) hk)
      · rw [lng_hi h2 hk, Int.natCast_add]
        have e1 : (n : Int) - (ctN n : Int) = ((n - ctN n : Nat) : Int) := by omega
        have e2 : (i : Int) - (ctN n : Int) = ((i - ctN n : Nat) : Int) := by omega
        exact r_longhi w n (ctN n) i _ (by omega) hn a hk hi (Nat.le_trans (lng_lt _ _) (by omega)) (r_cut _ h2 hn) (fun W hW => by rw [e1, e2]; exact ih (n - ctN n) (by omega) _ _ (by omega) (by omega) (by omega))
/-- Texts of one's own, in a list of one's own. -/
def OwnT (W : World) (b : Nat) (v : Value) (ts : List (List Int)) : Prop := ∃ vs : List Value, W.ownsRow b 22 1 v ts.length vs ∧ ∀ j u, vs[j]? = some u → OwnI W b u (ts.getD j [])
theorem OwnT.keep {W W' : World} {b : Nat} {v : Value} {ts : List (List Int)} (h : OwnT W b v ts) (hb : Below W.heap.size W W') : OwnT W' b v ts := by
  obtain ⟨vs, h1, h2⟩ := h
  exact ⟨vs, own_keep h1 hb, fun j u hu => (h2 j u hu).keep hb⟩
theorem OwnT.nil (W : World) (b : Nat) : OwnT W b (.slice none 0 0) [] := ⟨[], ⟨rfl, .inl ⟨rfl, rfl⟩⟩, fun j u hu => by simp at hu⟩
theorem OwnT.down {W : World} {b c : Nat} {v : Value} {ts : List (List Int)} (h : OwnT W b v ts) (hc : c ≤ b) : OwnT W c v ts := by
  obtain ⟨vs, ⟨h1, h2⟩, h3⟩ := h
  refine ⟨vs, ⟨h1, ?_⟩, fun j u hu => (h3 j u hu).down hc⟩
  rcases h2 with h2 | ⟨g, cap, cur, hv, hb, r⟩
  · exact .inl h2
  · exact .inr ⟨g, cap, cur, hv, Nat.le_trans hc hb, r⟩
theorem OwnT.slc {W : World} {b : Nat} {v : Value} {ts : List (List Int)} (h : OwnT W b v ts) : ∃ ao cap, v = .slice ao ts.length cap := by
  obtain ⟨vs, h1, _⟩ := h
  exact slen_own h1
theorem OwnT.lt {W : World} {b : Nat} {v : Value} {ts : List (List Int)} (h : OwnT W b v ts) : ∀ k, v.ownBlock = some k → b ≤ k ∧ k < W.heap.size := by
  obtain ⟨vs, h1, _⟩ := h
  exact World.ownsRow.lt h1
theorem infoT : ∃ i, Tryd.prog.info? 22 = some i ∧ i.zero = some (.slice none 0 0) ∧ i.size = 1 ∧ i.bytes = 24 := ⟨_, rfl, rfl, rfl, rfl⟩
/-- A store into a row of another type. -/
theorem OwnT.set {W : World} {b : Nat} {v : Value} {ts : List (List Int)} (h : OwnT W b v ts) {g : Nat} {old : Array Value} {t : TypeId} {fr : Nat × Nat} (cs : Array Value) (hg : W.heap[g]? = some (.cells old t fr)) (h1 : t ≠ 22) (h2 : t ≠ 5) : OwnT (W.setRow g cs) b v ts := by
  have key : ∀ (k : Nat) (cs' : Array Value) (t' : TypeId) (fr' : Nat × Nat), W.heap[k]? = some (Obj.cells cs' t' fr') → (t' = 22 ∨ t' = 5) → (W.setRow g cs).heap[k]? = some (Obj.cells cs' t' fr') := fun k cs' t' fr' hk ht => by
    rw [setRow_other W g k cs (fun e => by subst e; rw [hg] at hk; cases hk; rcases ht with rfl | rfl; exact h1 rfl; exact h2 rfl)]
    exact hk
  obtain ⟨vs, ⟨q1, q2⟩, h3⟩ := h
  refine ⟨vs, ⟨q1, ?_⟩, fun j u hu => ?_⟩
  · rcases q2 with q2 | ⟨g, cap, cur, hv, hb, r, rest⟩
    · exact .inl q2
    · exact .inr ⟨g, cap, cur, hv, hb, key _ _ _ _ r (.inl rfl), rest⟩
  · obtain ⟨q1, q2⟩ := h3 j u hu
    refine ⟨q1, ?_⟩
    rcases q2 with q2 | ⟨g, cap, cur, hv, hb, r, rest⟩
    · exact .inl q2
    · exact .inr ⟨g, cap, cur, hv, hb, key _ _ _ _ r (.inr rfl), rest⟩
/-- What is of bytes stays where a list of texts grows. -/
theorem OwnI.stay {W W' : World} {b c m : Nat} {u v : Value} {l : List Int} {xs : List Value} (h : OwnI W b u l) (ho : W.ownsRow c 22 1 v m xs) (hg : W.grownBy W' v.ownBlock) : OwnI W' b u l := by
  refine h.move fun g o e hq => ?_
  refine (hg.block g (lt_of_row hq) ?_).trans hq
  intro e2
  obtain ⟨_, ⟨rfl, _⟩ | ⟨g2, cap2, cur2, rfl, _, r2, _⟩⟩ := ho
  · cases e2
  · obtain ⟨_, ⟨rfl, _⟩ | ⟨g1, cap1, cur1, rfl, _, r1, _⟩⟩ := h
    · cases e
    · cases e
      cases e2
      rw [r1] at r2
      cases r2
theorem OwnT.stay {W W' : World} {b : Nat} {v : Value} {ts : List (List Int)} {g : Option Nat} (h : OwnT W b v ts) (hg : W.grownBy W' g) (hn : ∀ k, g = some k → ∃ o, W.heap[k]? = some o ∧ ∀ cs t fr, o = .cells cs t fr → t ≠ 22 ∧ t ≠ 5) : OwnT W' b v ts := by
  have key : ∀ (k : Nat) (cs : Array Value) (t : TypeId) (fr : Nat × Nat), W.heap[k]? = some (Obj.cells cs t fr) → (t = 22 ∨ t = 5) → W'.heap[k]? = some (Obj.cells cs t fr) := fun k cs t fr hk ht => by
    refine (hg.block k (lt_of_row hk) ?_).trans hk
    intro e
    obtain ⟨o, h1, h2⟩ := hn k e.symm
    rw [hk] at h1
    cases h1
    have := h2 cs t fr rfl
    rcases ht with rfl | rfl
    · exact this.1 rfl
    · exact this.2 rfl
  obtain ⟨vs, ⟨h1, h2⟩, h3⟩ := h
  refine ⟨vs, ⟨h1, ?_⟩, fun j u hu => ?_⟩
  · rcases h2 with h2 | ⟨g, cap, cur, hv, hb, r, rest⟩
    · exact .inl h2
    · exact .inr ⟨g, cap, cur, hv, hb, key _ _ _ _ r (.inl rfl), rest⟩
  · obtain ⟨q1, q2⟩ := h3 j u hu
    refine ⟨q1, ?_⟩
    rcases q2 with q2 | ⟨g, cap, cur, hv, hb, r, rest⟩
    · exact .inl q2
    · exact .inr ⟨g, cap, cur, hv, hb, key _ _ _ _ r (.inr rfl), rest⟩
theorem getD_app1 (a b : List (List Int)) (j : Nat) (h : j < a.length) : (a ++ b).getD j [] = a.getD j [] := by
  rw [List.getD_eq_getElem?_getD, List.getD_eq_getElem?_getD, List.getElem?_append_left h]
theorem getD_app2 (a b : List (List Int)) (j : Nat) (h : ¬ j < a.length) : (a ++ b).getD j [] = b.getD (j - a.length) [] := by
  rw [List.getD_eq_getElem?_getD, List.getD_eq_getElem?_getD, List.getElem?_append_right (by omega)]
/-- Texts laid behind a list of texts. -/
theorem wp_append_T {w : World} {o : Oper} {a : Act} {K : Act → World → Prop} {Q : Exit → Act → World → Prop} (s x : Operand) (ho : o.op = .call { callee := .builtin .append, args := #[s, x], argTypes := #[66, 66] })
    (base : Nat) (v : Value) (ts : List (List Int)) (hs : a.eval s = v) (hT : OwnT w base v ts) (u : Value) (ms : List (List Int)) (hx : a.eval x = u) (hM : OwnT w base u ms) (hlen : ts.length + ms.length ≤ 1000000) (hbase : base ≤ w.heap.size)
    (h : ∀ v' w', OwnT w' base v' (ts ++ ms) → w.grownBy w' v.ownBlock → K (a.put o.dst v') w') : o.wp Tryd.prog a w K Q := by
  obtain ⟨i0, hi, hz0, hz1, hz2⟩ := infoT
  obtain ⟨vs, hv, hvs⟩ := hT
  obtain ⟨us, hu, hus⟩ := hM
  have l1 : vs.length = ts.length := by have := hv.1; omega
  have l2 : us.length = ms.length := by have := hu.1; omega
  have key : ∀ w' v', w'.ownsRow base 22 1 v' (ts.length + ms.length) (vs ++ us) → w.grownBy w' v.ownBlock → OwnT w' base v' (ts ++ ms) := fun w' v' q1 q2 => by
    refine ⟨vs ++ us, by rw [List.length_append]; exact q1, fun j y hy => ?_⟩
    by_cases hj : j < ts.length
    · rw [List.getElem?_append_left (by omega)] at hy
      rw [getD_app1 _ _ _ hj]
      exact (hvs j y hy).stay hv q2
    · rw [List.getElem?_append_right (by omega), l1] at hy
      rw [getD_app2 _ _ _ hj]
      exact (hus _ y hy).stay hv q2
  obtain ⟨ao, cap, rfl⟩ := slen_own hu
  cases ao with
  | some ad =>
    have hcells : ∀ j y, us[j]? = some y → w.cell? (ad.add j) = some y := by
      obtain ⟨_, ⟨e, _⟩ | ⟨g, c, cur, e, hb, hg, hn, hm, hcs, ht⟩⟩ := id hu
      · cases e
      · cases e
        intro j y hy
        rw [addr_add, cell_of_row _ _ _ _ _ _ hg, Nat.zero_add]
        rw [← ht] at hy
        rw [← Array.getElem?_toList]
        rw [List.getElem?_take] at hy
        split at hy
        · exact hy
        · cases hy
    have hone : ∀ y ∈ us, y.oneCell' = true := fun y hy => by
      obtain ⟨j, hj, e⟩ := List.mem_iff_getElem.1 hy
      have := hus j y (by rw [List.getElem?_eq_getElem hj, e])
      obtain ⟨ao, c, rfl⟩ := slen_own this
      rfl
    obtain ⟨v', w', hr, h2, h3, _⟩ := run_append_own (P := Tryd.prog) w base 66 o.type 22 i0 (.slice none 0 0) 1 24 Tryd.underlying66 hi hz0 hz1 hz2 rfl (by decide) _ ts.length vs hv ad ms.length cap us (by omega) hcells hone (by unfold maxLen; omega) (by omega) hbase
    unfold Oper.wp execOp
    simp only [ho, resolve, invoke, builtin, Sem.run_bind, Sem.run_pure, Result.andThen_ok, List.map_toArray, List.map_cons, List.map_nil, hs, hx, hr]
    exact h v' w' (key w' v' h2 h3) h3
  | none =>
    obtain ⟨_, ⟨e, h0⟩ | ⟨g, c, cur, e, _⟩⟩ := id hu
    · have hm : ms = [] := List.eq_nil_of_length_eq_zero h0
      subst hm
      cases e
      have hrun := run_append_owned_none (P := Tryd.prog) w base 66 o.type 22 i0 1 Tryd.underlying66 hi _ ts.length vs hv
      unfold Oper.wp
      simp [execOp, ho, resolve, invoke, builtin, hs, hx, hrun, Result.andThen]
      exact h v w ⟨vs, by simpa using hv, fun j y hy => by rw [List.append_nil]; exact hvs j y hy⟩ (World.grownBy.refl _ _)
    · cases e
theorem OwnT.single {W : World} {g b : Nat} {u : Value} {t : List Int} (hb : b ≤ g) (rg : W.heap[g]? = some (.cells #[u] 22 (0, 0))) (hI : OwnI W b u t) : OwnT W b (.slice (some ⟨g, 0, none⟩) 1 1) [t] :=
  ⟨[u], ⟨rfl, .inr ⟨g, 1, #[u], rfl, hb, rg, Nat.le_refl _, by decide, rfl, rfl⟩⟩, fun j y hy => by
    match j, hy with
    | 0, hy => cases hy; exact hI⟩
theorem e_bslT {o : Oper} {a : Act} (x : Operand) (ho : o.op = .buildSlice 66 1 #[(0, x)]) (u : Value) (hx : a.eval x = u) {W : World} {b : Nat} {l : List Int} (hI : OwnI W b u l) (w : World) : (execOp a.eval o).run Tryd.prog w = .ok (.value (.slice (some ⟨w.heap.size, 0, none⟩) 1 1)) (w.alloc (.cells #[u] 22)) := by
  obtain ⟨ao, c, rfl⟩ := slen_own hI
  have hr : (Instr.buildSlice 66 1 #[(0, .slice ao l.length c)]).run Tryd.prog w = .ok (.slice (some ⟨w.heap.size, 0, none⟩) 1 1) (w.alloc (.cells #[.slice ao l.length c] 22)) := by kernel_rfl
  simp [execOp, ho, hx, hr, Result.andThen]
/-- A row of another type is another block. -/
theorem own_neT {W : World} {b g : Nat} {v : Value} {ts : List (List Int)} {cs : Array Value} {t : TypeId} {fr : Nat × Nat} (h : OwnT W b v ts) (hg : W.heap[g]? = some (.cells cs t fr)) (ht : t ≠ 22) : some g ≠ v.ownBlock := by
  intro e
  obtain ⟨vs, ⟨_, ⟨rfl, _⟩ | ⟨g2, cap2, cur2, rfl, _, r2, _⟩⟩, _⟩ := h
  · cases e
  · cases e
    rw [hg] at r2
    cases r2
    exact ht rfl
end Go.Proofs.YtgfeacnhdlgpoaaDoor
