import Derived.Test.YtbbdfbljhjijbaaDoorHop
namespace Go.Proofs.YtbbdfbljhjijbaaDoor
open Go Go.ChangeShapes Go.WideShapes Go.ChangeAt Go.RowKit Go.Deep

/-! HashAll: the places, and the steps out of the data. -/
def atv (i : Int) : Nat := (i % 3).toNat
theorem atv_lt (i : Int) : atv i < 3 := by unfold atv; omega
theorem tmod3 (i : Int) : i.tmod 3 = if 0 ≤ i then i % 3 else -(-i % 3) := by
  split
  · rename_i h; exact Int.tmod_eq_emod_of_nonneg h
  · rename_i h
    rw [show i = -(-i) by omega, Int.neg_tmod, Int.tmod_eq_emod_of_nonneg (by omega)]
    omega
theorem at_nn {i : Int} (h : 0 ≤ i.tmod 3) : i.tmod 3 = (atv i : Int) := by
  have ht := tmod3 i
  unfold atv
  generalize i.tmod 3 = q at *
  split at ht <;> omega
theorem at_ng {i : Int} (h : i.tmod 3 < 0) : wrap64 (i.tmod 3 + 3) = (atv i : Int) := by
  have ht := tmod3 i
  unfold atv
  generalize i.tmod 3 = q at *
  unfold wrap64
  split at ht <;> omega
theorem at_walk (i : Int) : Gives 23 #[.int .i64 i] (.int .i64 (atv i)) := by
  intro w
  have hn := @at_nn i
  have hg := @at_ng i
  generalize (atv i : Int) = v at *
  go_enter Tryd.func23, Tryd.ntmps23
  go_wp2
  · have h := hg (by assumption)
    go_ret
    rw [h]
    exact ⟨rfl, Below.refl _ _⟩
  · have h := hn (by assumption)
    go_ret
    rw [h]
    exact ⟨rfl, Below.refl _ _⟩
/-- A step, as its four cells say it. -/
def ActOf (W : World) (cs : List Value) (P : List Int) : Prop := ∃ (K A B : Int) (u : Option Addr) (uc : Nat), cs = [.int .i64 K, .int .i64 A, .int .i64 B, .slice u P.length uc] ∧ Bys W (.slice u P.length uc) P ∧ (u = none → uc = 0) ∧ P.length ≤ uc
theorem cellsInt : Tryd.prog.cellsOf 3 = 1 := by kernel_rfl
theorem cellsAct : Tryd.prog.cellsOf 52 = 4 := by kernel_rfl
theorem act_of_trod {H : Type} {enc : TypeId × Value → H} {W : World} {m : Nat} {cs : List Value} {x : DataW H × List MemPlace} (h : DataW.trod enc Tryd.prog W 0 (fun _ => true) true m 52 cs = some x) : ∃ P : List Int, ActOf W cs P ∧ P.length ≤ Rows.uptoBulk x.1 := by
  obtain ⟨xs, m, rfl, rfl, hlen, hxl, hf⟩ := DataW.trod_struct Tryd.underlying52 h
  rw [cellsAct] at hlen
  have g0 := hf 0 _ rfl; have g1 := hf 1 _ rfl; have g2 := hf 2 _ rfl; have g3 := hf 3 _ rfl
  clear hf h
  match cs, hlen, xs, hxl, g0, g1, g2, g3 with
  | [c0, c1, c2, c3], _, [x0, x1, x2, x3], _, g0, g1, g2, g3 =>
    obtain ⟨K, e0, _, _⟩ := DataW.trod_int Tryd.underlying3 g0
    obtain ⟨A, e1, _, _⟩ := DataW.trod_int Tryd.underlying3 g1
    obtain ⟨B, e2, _, _⟩ := DataW.trod_int Tryd.underlying3 g2
    have q0 : c0 = .int .i64 K := by
      have q : ([c0, c1, c2, c3].drop 0).take (Tryd.prog.cellsOf 3) = [.int .i64 K] := e0
      rw [cellsInt] at q
      simpa using q
    have q1 : c1 = .int .i64 A := by
      have q : ([c0, c1, c2, c3].drop 1).take (Tryd.prog.cellsOf 3) = [.int .i64 A] := e1
      rw [cellsInt] at q
      simpa using q
    have q2 : c2 = .int .i64 B := by
      have q : ([c0, c1, c2, c3].drop 2).take (Tryd.prog.cellsOf 3) = [.int .i64 B] := e2
      rw [cellsInt] at q
      simpa using q
    have q3 : DataW.trod enc Tryd.prog W 0 (fun _ => true) true m 27 [c3] = some x3 := by
      have q : DataW.trod enc Tryd.prog W 0 (fun _ => true) true m 27 (([c0, c1, c2, c3].drop 3).take (Tryd.prog.cellsOf 27)) = some x3 := g3
      rw [cellsSl] at q
      simpa using q
    obtain ⟨P, u, uc, h1, h2, h3, h4, h5⟩ := bytes_of_trod q3
    refine ⟨P, ⟨K, A, B, u, uc, by rw [q0, q1, q2, h1], h2, h3, h4⟩, ?_⟩
    have hb : Rows.uptoBulk x3.1 ≤ Rows.uptoBulk (DataW.agg (List.map (·.1) [x0, x1, x2, x3])) := by
      simp only [List.map_cons, List.map_nil, Rows.uptoBulk, Rows.uptoBulkAll]
      omega
    exact Nat.le_trans h5 hb
/-- Three pointers; three lists. -/
def prow (h : Nat → Nat) : Array Value := #[.pointer (some ⟨h 0, 0, none⟩), .pointer (some ⟨h 1, 0, none⟩), .pointer (some ⟨h 2, 0, none⟩)]
def srow (s : Nat → Value) : Array Value := #[s 0, s 1, s 2]
def upd {α : Type} (f : Nat → α) (i : Nat) (x : α) : Nat → α := fun j => if j = i then x else f j
theorem prow_get (h : Nat → Nat) (i : Nat) (hi : i < 3) : (prow h)[i]? = some (.pointer (some ⟨h i, 0, none⟩)) := by
  rcases (by omega : i = 0 ∨ i = 1 ∨ i = 2) with rfl | rfl | rfl <;> rfl
theorem srow_get (s : Nat → Value) (i : Nat) (hi : i < 3) : (srow s)[i]? = some (s i) := by
  rcases (by omega : i = 0 ∨ i = 1 ∨ i = 2) with rfl | rfl | rfl <;> rfl
theorem prow_set (h : Nat → Nat) (i g : Nat) (hi : i < 3) : (prow h).setIfInBounds i (.pointer (some ⟨g, 0, none⟩)) = prow (upd h i g) := by
  rcases (by omega : i = 0 ∨ i = 1 ∨ i = 2) with rfl | rfl | rfl <;> rfl
theorem srow_set (s : Nat → Value) (i : Nat) (v : Value) (hi : i < 3) : (srow s).setIfInBounds i v = srow (upd s i v) := by
  rcases (by omega : i = 0 ∨ i = 1 ∨ i = 2) with rfl | rfl | rfl <;> rfl
theorem upd_same {α : Type} (f : Nat → α) (i : Nat) (x : α) : upd f i x i = x := if_pos rfl
theorem upd_other {α : Type} (f : Nat → α) {i j : Nat} (x : α) (h : j ≠ i) : upd f i x j = f j := if_neg h
end Go.Proofs.YtbbdfbljhjijbaaDoor
