import Derived.Test.YtkickbgiidhpfaaDoorProg
import Derived.WalkKit
import Derived.WalkSpells
import Derived.WalkLawsBesides
import Derived.Lib.QuietBelow
import Derived.BigQuiet
import Derived.OrdersHeld
import Derived.Laws.MakeOwn
import Derived.RangeFuncBox
import Derived.RangeFuncNested
import Derived.RangeFuncBound
import Derived.RangeFuncCalls
import Derived.RangeFuncLeaves
import Derived.Shelf.Abstract
import Derived.Shelf.RegionOpen
import Derived.OwnWalkIn
import Derived.TacticsInMore
import Derived.LoopNIn
import Derived.LoopIn
import Derived.OwnWalk
import Derived.Deep.RegionHeld3
import Derived.Test.YtkickbgiidhpfaaDoorKa
import Derived.Test.YtkickbgiidhpfaaDoorCqi
import Derived.Test.YtkickbgiidhpfaaDoorNq
namespace Go.Proofs.YtkickbgiidhpfaaDoor
open Go Go.RowKit Go.Sort
attribute [local go_sem] setCell_drewN alloc_drewN

attribute [local go_sem] Oper.semAt_some
theorem wp_append_Ks {w : World} {o : Oper} {a : Act} {K : Act → World → Prop} {Q : Exit → Act → World → Prop} (s x : Operand) (ho : o.op = .call { callee := .builtin .append, args := #[s, x], argTypes := #[30, 30] })
    (base : Nat) (v : Value) (ks : List (List Int)) (hs : a.eval s = v) (hI : OwnK w base v ks) (b2 : Nat) (y : Value) (es : List (List Int)) (hx : a.eval x = y) (hE : OwnK w b2 y es) (hlen : ks.length + es.length ≤ 1000000) (hbase : base ≤ w.heap.size)
    (h : ∀ v' w', OwnK w' base v' (ks ++ es) → w.grownBy w' v.ownBlock → Nx w v v' → K (a.put o.dst v') w') : o.wp Tryd.prog a w K Q := by
  obtain ⟨i0, hi, hz0, hz1, hz2⟩ := infoKy
  rcases hE.2 with ⟨rfl, h0⟩ | ⟨g, cap, cur, rfl, _⟩
  · obtain rfl : es = [] := List.length_eq_zero_iff.1 h0
    have hrun := run_append_owned_none (P := Tryd.prog) w base 30 o.type 23 i0 32 Tryd.underlying30 hi _ ks.length _ hI
    unfold Oper.wp
    simp [execOp, ho, resolve, invoke, builtin, hs, hx, hrun, Result.andThen]
    exact h v w (by simpa using hI) (World.grownBy.refl _ _) (Nx.refl _ _)
  · refine wp_append_nx s x 30 ho base 23 i0 (.agg (irow .u8 (zr 32))) 32 32 Tryd.underlying30 hi hz0 hz1 hz2 rfl (by decide) v ks.length (kcs ks) hs hI ⟨g, 0, none⟩ es.length cap (kcs es) hx hE.1 (World.ownsRow.cells hE rfl) ?_ (by unfold maxLen; omega) (by omega) hbase (fun v' w' h1 h2 h3 => h v' w' ?_ h2 h3)
    · intro u hu
      simp only [kcs, List.mem_flatMap, List.mem_map] at hu
      obtain ⟨k, _, z, _, rfl⟩ := hu
      rfl
    · unfold OwnK
      rw [kcs_app, List.length_append]
      exact h1
theorem msgs_all (key : List Int) (m : Nat) : ∀ k ∈ msgs key m, k.length = 32 := by
  intro k hk
  simp only [msgs, List.mem_map] at hk
  obtain ⟨i, _, rfl⟩ := hk
  exact mat_len key i
theorem msgs_get (key : List Int) (m : Nat) : ∀ i, i < m → (msgs key m).getD i [] = mat key i := by
  intro i hi
  simp [msgs, List.getD_eq_getElem?_getD, hi]
theorem ecut4 {G : Prop} {A : Nat → Nat → Value → Value → World → Prop} (T : Nat → Nat → Value → Value → World → Prop) (h1 : (∀ a b c d W, T a b c d W → A a b c d W) → G) (h2 : ∀ a b c d W, T a b c d W → A a b c d W) : G := h1 h2
theorem lt_of_heap {W : World} {g : Nat} {o : Obj} (h : W.heap[g]? = some o) : g < W.heap.size := (Array.getElem?_eq_some_iff.1 h).1
theorem ownK_empty {W : World} {g : Nat} (r : W.heap[g]? = some (.cells #[] 23 (0, 0))) : OwnK W g (.slice (some ⟨g, 0, none⟩) 0 0) [] := ⟨rfl, .inr ⟨g, 0, #[], rfl, Nat.le_refl _, r, Nat.le_refl _, by decide, rfl, rfl⟩⟩
theorem nilfn (lb : Array Value) (W : World) : (binOp .eql 34 (.func (.func 13) #[] lb) .nilFunc).run Tryd.prog W = .ok (.bool false) W := by kernel_rfl
/-- What holds between two rounds. -/
def FwJ (w w4 : World) (e : Nat) (key : List Int) (r : Loop) (i : Nat) (A : World) : Prop :=
  A.heap[e + 5]? = some (.loop r) ∧ A.heap[e + 4]? = some (.deferred (some [])) ∧ (∃ v, A.heap[e + 1]? = some (.cells #[v] 30 (0, 0)) ∧ OwnK A e v (msgs key i) ∧ ∀ k, v.ownBlock = some k → k = e ∨ e + 9 ≤ k) ∧ (∀ g, g < e → A.heap[g]? = w4.heap[g]?) ∧ Below w.heap.size w A
theorem results_cell_bool {P : Program} {fn : Func} {p : Tmp} {ty : TypeId} (h : fn.results = #[.cell p ty]) (tmps : Array Value) (w : World) (g : Nat) (v : Value) (hp : tmps.getD p undef = .pointer (some ⟨g, 0, none⟩)) (hg : (loadVar ty ⟨g, 0, none⟩).run P w = .ok v w) : (results fn tmps).run P w = .ok v w := by
  have hp' : tmps[p]?.getD undef = .pointer (some ⟨g, 0, none⟩) := by simpa using hp
  simp [results, h, hp', asAddr, hg]
theorem row_cell_set {w : World} {g : Nat} {u : Value} {t : TypeId} (h : w.heap[g]? = some (.cells #[u] t (0, 0))) (b : Value) : (loadVar 4 ⟨g, 0, none⟩).run Tryd.prog (w.setCell ⟨g, 0, none⟩ b) = .ok b (w.setCell ⟨g, 0, none⟩ b) := by
  have r := row_set h 0 b
  have c : (w.setCell ⟨g, 0, none⟩ b).cell? ⟨g, 0, none⟩ = some b := by rw [cell_of_row _ g 0 _ _ _ r]; rfl
  simp [loadVar, c, go_sem]
theorem row_load {w : World} {g : Nat} {b : Value} {t : TypeId} (h : w.heap[g]? = some (.cells #[b] t (0, 0))) : (loadVar 4 ⟨g, 0, none⟩).run Tryd.prog w = .ok b w := by
  have c : w.cell? ⟨g, 0, none⟩ = some b := by rw [cell_of_row _ g 0 _ _ _ h]; rfl
  simp [loadVar, c, go_sem]
theorem new_k (key : List Int) (hkl : key.length = 32) (n : Int) (w : World) : Calls Tryd.prog 4 #[.agg (irow .u8 key), .int .u32 n] w fun e w' => ∃ v, e = .returned v ∧ ((∃ g, v = .pointer (some ⟨g, 0, none⟩) ∧ w.heap.size ≤ g ∧ w'.heap[g]? = some (.cells (chc key n) 47 (0, 0))) ∧ Below w.heap.size w w') :=
  (a_New key hkl n w).mono fun _ _ ⟨g, h1, h2, h3, h4⟩ => ⟨_, h1, ⟨g, rfl, h2, h3⟩, h4⟩
end Go.Proofs.YtkickbgiidhpfaaDoor
