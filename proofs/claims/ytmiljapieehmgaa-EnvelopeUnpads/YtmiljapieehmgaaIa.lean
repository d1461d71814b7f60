import Derived.Test.YtmiljapieehmgaaProg
import Derived.WalkKit
import Derived.WalkSpells
import Derived.WalkLawsBesides
import Derived.Lib.QuietBelow
import Derived.Laws.BitsAllLaws
import Derived.BigQuiet
import Derived.WalkMore
import Derived.Maps.Own
import Derived.Maps.OwnSet
import Derived.Test.YtmiljapieehmgaaKit
import Derived.Test.YtmiljapieehmgaaHk
namespace Go.Proofs.Ytmiljapieehmgaa
open Go Go.RowKit Go.Sort Go.ChangeMaps Go.MapKept
attribute [local go_sem] setCell_drewN alloc_drewN

theorem keyn (n : Nat) (hn : n < 18446744073709551616) : keyOf Try.prog 35 (.int .u64 (n : Int)) = some (.int .u64 (n : Int)) := Go.Maps.keyOf_int_mk Try.underlying35 (by unfold Lit.wf; simp only [Bool.and_eq_true, decide_eq_true_eq]; exact ⟨Int.natCast_nonneg n, by show (n : Int) ≤ 18446744073709551615; omega⟩)
theorem run_chk (n : Nat) (hn : n < 18446744073709551616) (e : Bool) (w : World) : (Instr.checkKey e 10000 35 (.int .u64 (n : Int))).run Try.prog w = .ok () w := (Go.Maps.int_keyed Try.underlying35).check w e (keyn n hn)
theorem run_fnd (w : World) (k : Value) (es : List MapEntry) (r : Option (Nat × Value)) (hf : Instr.findNow (.int .u64) k es 0 = some r) : (Instr.findKey 35 k es).run Try.prog w = .ok r w := by
  simp [Instr.findKey, run_underlying Try.underlying35, hf, Result.andThen]
/-- The table of versions: one entry more. -/
theorem run_ins (w : World) (b : Nat) (es : Array MapEntry) (c : Nat) (n : Nat) (hn : n < 18446744073709551616) (v : Value) (hb : w.heap[b]? = some (.map es c)) (hf : Instr.findNow (.int .u64) (.int .u64 (n : Int)) es.toList 0 = some none) :
    (Instr.mapUpdate 47 (.map (some b)) (.int .u64 (n : Int)) v).run Try.prog w = .ok () (setBlock w b (.map (es.push { key := .int .u64 (n : Int), val := v, born := c }) (c + 1))) := by
  simp [Instr.mapUpdate, run_underlying Try.underlying47, MapKept.run_getObj_map hb, run_chk n hn, run_fnd w _ _ _ hf, MapKept.run_setObj_map _ hb, Result.andThen, setBlock]
theorem run_lookS (w : World) (b : Nat) (es : Array MapEntry) (c : Nat) (n : Nat) (hn : n < 18446744073709551616) (i : Nat) (v : Value) (hb : w.heap[b]? = some (.map es c)) (hf : Instr.findNow (.int .u64) (.int .u64 (n : Int)) es.toList 0 = some (some (i, v))) :
    (Instr.lookup 47 (.map (some b)) (.int .u64 (n : Int)) true).run Try.prog w = .ok (.tuple #[v, .bool true]) w := by
  simp [Instr.lookup, run_underlying Try.underlying47, MapKept.run_getObj_map hb, run_chk n hn, run_fnd w _ _ _ hf, Result.andThen]
theorem zeroF (w : World) : (zeroValue 36).run Try.prog w = .ok .nilFunc w := by kernel_rfl
theorem run_lookN (w : World) (b : Nat) (es : Array MapEntry) (c : Nat) (n : Nat) (hn : n < 18446744073709551616) (hb : w.heap[b]? = some (.map es c)) (hf : Instr.findNow (.int .u64) (.int .u64 (n : Int)) es.toList 0 = some none) :
    (Instr.lookup 47 (.map (some b)) (.int .u64 (n : Int)) true).run Try.prog w = .ok (.tuple #[.nilFunc, .bool false]) w := by
  simp [Instr.lookup, run_underlying Try.underlying47, MapKept.run_getObj_map hb, run_chk n hn, run_fnd w _ _ _ hf, Result.andThen]
theorem below_setBlock {w W : World} {g b : Nat} (o : Obj) (h : Below g w W) (hb : g ≤ b) : Below g w (setBlock W b o) := by
  refine ⟨h.os, h.tape, h.output, ?_, fun k hk => ?_⟩
  · have := h.size
    simpa [setBlock] using this
  · rw [← h.block k hk]
    simp only [setBlock]
    exact Array.getElem?_setIfInBounds_ne (by omega)
theorem setBlock_at {W : World} {b : Nat} {o : Obj} (h : b < W.heap.size) : (setBlock W b o).heap[b]? = some o := by
  simp [setBlock, h]
theorem setBlock_ne {W : World} {b k : Nat} {o : Obj} (h : b ≠ k) : (setBlock W b o).heap[k]? = W.heap[k]? := by
  simp only [setBlock]
  exact Array.getElem?_setIfInBounds_ne h
/-- The function that a version's number is bound to. -/
def bkf (n : Nat) : Value := if n = 1 then .func (.func 28) #[] #[] else if n = 2 then .func (.func 29) #[] #[] else .nilFunc
def known (n : Nat) : Bool := n == 1 || n == 2
def es1 : Array MapEntry := #[{ key := .int .u64 ((1 : Nat) : Int), val := .func (.func 28) #[] #[], born := 0 }]
def es2 : Array MapEntry := es1.push { key := .int .u64 ((2 : Nat) : Int), val := .func (.func 29) #[] #[], born := 1 }
theorem run_two (n : Nat) (hn : n < 18446744073709551616) (w : World) (b c : Nat) (hb : w.heap[b]? = some (.map es2 c)) : (Instr.lookup 47 (.map (some b)) (.int .u64 (n : Int)) true).run Try.prog w = .ok (.tuple #[bkf n, .bool (known n)]) w := by
  rcases Nat.decEq n 1 with h1 | rfl
  · rcases Nat.decEq n 2 with h2 | rfl
    · rw [run_lookN w b es2 c n hn hb]
      · simp [bkf, known, h1, h2]
      · have e1 : ((n : Int) == ((1 : Nat) : Int)) = false := by simp; omega
        have e2 : ((n : Int) == ((2 : Nat) : Int)) = false := by simp; omega
        simp only [es2, es1, Array.toList_push, Instr.findNow, Instr.sameNow, List.cons_append, List.nil_append, e1, e2, if_true]
    · exact run_lookS w b es2 c 2 hn 1 _ hb rfl
  · exact run_lookS w b es2 c 1 hn 0 _ hb rfl
theorem results_cell_slot {P : Program} {fn : Func} {p q : Tmp} {ty : TypeId} (h : fn.results = #[.cell p ty, .tmp q]) (tmps : Array Value) (w : World) (g : Nat) (t : TypeId) (cs : Array Value) (fr : Nat × Nat) (d : TypeDesc)
    (hp : tmps.getD p undef = .pointer (some ⟨g, 0, none⟩)) (hg : w.heap[g]? = some (.cells cs t fr))
    (hu : P.underlying ty = some d) (hd : (match d with | .struct _ | .array _ _ => true | _ => false) = true) (hi : (P.info? ty).map (·.size) = some cs.size) :
    (results fn tmps).run P w = .ok (.tuple #[.agg cs, tmps.getD q undef]) w := by
  have hp' : tmps[p]?.getD undef = .pointer (some ⟨g, 0, none⟩) := by simpa using hp
  simp [results, h, hp', asAddr, run_loadVar_row w g t ty cs fr d hg hu hd hi]
theorem infoR : (Try.prog.info? 38).map (·.size) = some 2 := by kernel_rfl
set_option maxRecDepth 100000 in
set_option maxHeartbeats 4000000 in
theorem a_rulesOf (n : Nat) (hn : n < 18446744073709551616) (w : World) : Calls Try.prog 19 #[.int .u64 (n : Int)] w fun e w' => e = .returned (.tuple #[.agg #[.int .u64 (n : Int), bkf n], .bool (known n)]) ∧ Below w.heap.size w w' := by
  have hmm := @run_makeMap Try.prog
  have s1 : ((w.alloc (Obj.cells #[Value.int IntKind.u64 0, Value.nilFunc] 38)).alloc (Obj.map #[] 0)).heap.size = w.heap.size + 1 + 1 := by simp
  have h0 : ((w.alloc (Obj.cells #[Value.int IntKind.u64 0, Value.nilFunc] 38)).alloc (Obj.map #[] 0)).heap[w.heap.size]? = some (.cells #[Value.int IntKind.u64 0, Value.nilFunc] 38 (0, 0)) := hp2_0 w _ _
  have h1 : ((w.alloc (Obj.cells #[Value.int IntKind.u64 0, Value.nilFunc] 38)).alloc (Obj.map #[] 0)).heap[w.heap.size + 1]? = some (.map #[] 0) := hp2_1 w _ _
  have hB : Below w.heap.size w ((w.alloc (Obj.cells #[Value.int IntKind.u64 0, Value.nilFunc] 38)).alloc (Obj.map #[] 0)) := .alloc (.alloc (Below.refl _ _) (Nat.le_refl _) _) (by simp) _
  have r1 : (Instr.mapUpdate 47 (.map (some (w.heap.size + 1))) (.int .u64 1) (.func (.func 28) #[] #[])).run Try.prog ((w.alloc (Obj.cells #[Value.int IntKind.u64 0, Value.nilFunc] 38)).alloc (Obj.map #[] 0)) = .ok () (setBlock ((w.alloc (Obj.cells #[Value.int IntKind.u64 0, Value.nilFunc] 38)).alloc (Obj.map #[] 0)) (w.heap.size + 1) (.map es1 1)) := run_ins _ (w.heap.size + 1) _ _ 1 (by decide) (.func (.func 28) #[] #[]) h1 rfl
  generalize hw1 : ((w.alloc (Obj.cells #[Value.int IntKind.u64 0, Value.nilFunc] 38)).alloc (Obj.map #[] 0)) = w1 at *
  have h2 := setBlock_at (W := w1) (b := w.heap.size + 1) (o := .map es1 1) (by omega)
  have h3 := (setBlock_ne (W := w1) (b := w.heap.size + 1) (k := w.heap.size) (o := .map es1 1) (by omega)).trans h0
  have s2 : (setBlock w1 (w.heap.size + 1) (.map es1 1)).heap.size = w.heap.size + 1 + 1 := by simpa [setBlock] using s1
  replace hB := below_setBlock (b := w.heap.size + 1) (.map es1 1) hB (by omega)
  generalize setBlock w1 (w.heap.size + 1) (.map es1 1) = w2 at *
  have r2 : (Instr.mapUpdate 47 (.map (some (w.heap.size + 1))) (.int .u64 2) (.func (.func 29) #[] #[])).run Try.prog w2 = .ok () (setBlock w2 (w.heap.size + 1) (.map es2 2)) := run_ins w2 (w.heap.size + 1) _ _ 2 (by decide) (.func (.func 29) #[] #[]) h2 rfl
  have h4 := setBlock_at (W := w2) (b := w.heap.size + 1) (o := .map es2 2) (by omega)
  have h5 := (setBlock_ne (W := w2) (b := w.heap.size + 1) (k := w.heap.size) (o := .map es2 2) (by omega)).trans h3
  replace hB := below_setBlock (b := w.heap.size + 1) (.map es2 2) hB (by omega)
  generalize setBlock w2 (w.heap.size + 1) (.map es2 2) = w3 at *
  have r3 := run_two n hn w3 _ _ h4
  have hF : ∀ k, (#[Value.int IntKind.u64 (n : Int), Value.func (Fn.func k) #[] #[]] : Array Value).all (·.oneCell') = true := fun k => by simp [Value.oneCell']
  have hN : (#[Value.int IntKind.u64 (n : Int), Value.nilFunc] : Array Value).all (·.oneCell') = true := by simp [Value.oneCell']
  have c0 : w3.cell? ⟨w.heap.size, 0, none⟩ = some (.int .u64 0) := by rw [cell_of_row _ _ _ _ _ _ h5]; rfl
  have c1 : w3.cell? ⟨w.heap.size, 1, none⟩ = some .nilFunc := by rw [cell_of_row _ _ _ _ _ _ h5]; rfl
  have f0 := row_frozen h5 0
  have f1 := row_frozen h5 1
  subst hw1
  clear h0 h1 h2 h3 s1 s2 h4
  obtain ⟨k, hu⟩ | hu : (∃ k, bkf n = .func (.func k) #[] #[]) ∨ bkf n = .nilFunc := by
    unfold bkf
    split
    · exact .inl ⟨_, rfl⟩
    · split
      · exact .inl ⟨_, rfl⟩
      · exact .inr rfl
  · rw [hu] at r3 ⊢
    clear hu
    have r6 := setRow_heap w3 w.heap.size _ (#[.int .u64 (n : Int), (Value.func (Fn.func k) #[] #[])]) _ _ h5
    go_enter Try.func19, Try.ntmps19
    go_wp2_with (first | (refine wpList_store_row rfl 38 _ _ rfl w.heap.size #[.int .u64 (n : Int), (Value.func (Fn.func k) #[] #[])] rfl rfl 38 _ h5 infoR rfl (hF k) ?_) | fail)
    exact bodyPost_ret (v := .tuple #[.agg #[.int .u64 (n : Int), (Value.func (Fn.func k) #[] #[])], .bool (known n)]) (results_cell_slot Try.results19 _ _ w.heap.size _ _ _ _ rfl r6 Try.underlying38 rfl infoR) rfl ⟨rfl, below_setRow hB (Nat.le_refl _) _⟩
  · rw [hu] at r3 ⊢
    clear hu
    have r6 := setRow_heap w3 w.heap.size _ (#[.int .u64 (n : Int), Value.nilFunc]) _ _ h5
    go_enter Try.func19, Try.ntmps19
    go_wp2_with (first | (refine wpList_store_row rfl 38 _ _ rfl w.heap.size #[.int .u64 (n : Int), Value.nilFunc] rfl rfl 38 _ h5 infoR rfl hN ?_) | fail)
    exact bodyPost_ret (v := .tuple #[.agg #[.int .u64 (n : Int), Value.nilFunc], .bool (known n)]) (results_cell_slot Try.results19 _ _ w.heap.size _ _ _ _ rfl r6 Try.underlying38 rfl infoR) rfl ⟨rfl, below_setRow hB (Nat.le_refl _) _⟩
end Go.Proofs.Ytmiljapieehmgaa
