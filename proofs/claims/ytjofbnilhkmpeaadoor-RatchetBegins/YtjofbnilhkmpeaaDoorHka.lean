import Derived.Test.YtjofbnilhkmpeaaDoorProg
import Derived.WalkKit
import Derived.WalkSpells
import Derived.WalkLawsBesides
import Derived.Lib.QuietBelow
import Derived.BigQuiet
import Derived.Test.YtjofbnilhkmpeaaDoorKa
import Derived.Test.YtjofbnilhkmpeaaDoorKim
import Derived.ChangeKeysEq
import Derived.Laws.StructEq
import Derived.Deep.OwnRows
import Derived.Laws.CopyOwn
import Derived.OwnWalk
import Derived.Maps.OwnSet
import Derived.OrdersHeld
import Derived.Deep.RegionHeld3
import Derived.Deep.AppendLies
namespace Go.Proofs.YtjofbnilhkmpeaaDoor
set_option maxRecDepth 100000
open Go Go.RowKit Go.Sort

/-! Two arrays of integers, held against each other. -/
section
variable {P : Program}

theorem run_part_int {e : TypeId} {k : IntKind} {i0 : TypeInfo} (w : World) (hu : P.underlying e = some (.int k)) (_hi : P.info? e = some i0) (l : List Int) (i : Nat) (h : i < l.length) :
    (part e (l.map (Value.int k)).toArray i).run P w = .ok (.int k l[i]) w := by
  have hagg : (isAgg e).run P w = .ok false w := by
    unfold isAgg
    rw [Sem.run_bind, run_underlying hu w]
    rfl
  simp [part, Sem.run_bind, hagg, h]

theorem run_eqItems_int {e : TypeId} {k : IntKind} {i0 : TypeInfo} (d : Nat) (w : World) (hu : P.underlying e = some (.int k)) (hi : P.info? e = some i0) (l l' : List Int) : ∀ (is : List Nat), (∀ i ∈ is, i < l.length ∧ i < l'.length) →
    (Op.eqItems (d + 1) e 1 (l.map (Value.int k)).toArray (l'.map (Value.int k)).toArray is).run P w = .ok (is.all fun i => l.getD i 0 == l'.getD i 0) w
  | [], _ => by simp [Op.eqItems]
  | i :: is, h => by
    have h1 := h i (by simp)
    have h2 := run_eqItems_int d w hu hi l l' is (fun j hj => h j (by simp [hj]))
    have e1 : l.getD i 0 = l[i]'h1.1 := by simp [h1.1]
    have e2 : l'.getD i 0 = l'[i]'h1.2 := by simp [h1.2]
    simp only [Op.eqItems, Sem.run_bind, Nat.mul_one, run_part_int w hu hi l i h1.1, run_part_int w hu hi l' i h1.2, Result.andThen_ok, run_equalIn_int w d e k k _ _ hu, List.all_cons, e1, e2]
    cases hb : (l[i]'h1.1 == l'[i]'h1.2)
    · simp
    · simpa using h2

theorem run_equal_ints {t e : TypeId} {k : IntKind} {i0 : TypeInfo} {n : Nat} (w : World) (ht : P.underlying t = some (.array n e)) (hu : P.underlying e = some (.int k)) (hi : P.info? e = some i0) (hc : P.cellsOf e = 1)
    (l l' : List Int) (hl : l.length = n) (hl' : l'.length = n) :
    (Op.equalIn 10000 t (.agg (l.map (Value.int k)).toArray) (.agg (l'.map (Value.int k)).toArray)).run P w = .ok (decide (l = l')) w := by
  rw [run_equalIn_array w 9999 _ _ ht hi, hc, run_eqItems_int 9998 w hu hi l l' (List.range n) (fun i h => by simp at h; omega)]
  congr 1
  rw [Bool.eq_iff_iff]
  simp only [List.all_eq_true, List.mem_range, beq_iff_eq, decide_eq_true_eq]
  constructor
  · intro h
    apply List.ext_getElem (by omega)
    intro i h1 h2
    have := h i (by omega)
    simpa [h1, h2] using this
  · rintro rfl i _
    rfl

end

/-! Calls by contract; what stays. -/
/-- In whatever world it is called, a function answers v and leaves what was there. -/
def Gives (f : FuncId) (args : Array Value) (v : Value) : Prop := ∀ W, Calls Tryd.prog f args W fun e w' => e = .returned v ∧ Below W.heap.size W w'
theorem Gives.at {f : FuncId} {args : Array Value} {v : Value} (h : Gives f args v) (W : World) : Calls Tryd.prog f args W fun e w' => e = .returned v ∧ Below W.heap.size W w' := h W
theorem Gives.re {f : FuncId} {args : Array Value} {v : Value} (h : Gives f args v) {w : World} {d : Nat} {os : Array Obj} : Calls Tryd.prog f args (grow (redrawn w d) os) fun e w'' => e = .returned v ∧ ∃ p : Regrown, w'' = grow (redrawn w p.d) p.os := Calls.regrown_of (h _)
theorem hide {p : Prop} (h : p) : Hid p := h
theorem Hid.out {p : Prop} (h : Hid p) : p := h
theorem keep {w W : World} (hb : Below w.heap.size w W) {g : Nat} {o : Obj} (h : w.heap[g]? = some o) : W.heap[g]? = some o :=
  (hb.block _ (Array.getElem?_eq_some_iff.1 h).1).trans h
theorem keepr {w : World} {g : Nat} {o : Obj} (h : w.heap[g]? = some o) : Hid (∀ W, (∃ p : Regrown, W = grow (redrawn w p.d) p.os) → W.heap[g]? = some o) := by
  rintro _ ⟨p, rfl⟩; exact keep (below_regrown w p.d p.os) h
theorem lt_of_row {w : World} {g : Nat} {o : Obj} (h : w.heap[g]? = some o) : g < w.heap.size := (Array.getElem?_eq_some_iff.1 h).1
theorem Below.after {w w1 w2 : World} (h : Below w.heap.size w w1) (hb : Below w1.heap.size w1 w2) : Below w.heap.size w w2 := h.trans (hb.mono h.size)
/-- A whole row read in an ordered region, under a guard that says yes. -/
theorem wpList_load_want {P : Program} {ops : Array Oper} {rest : List Oper} {o : Oper} {a : Act} {w : World} {Q : Exit → Act → World → Prop} (hw : Region.wanted o (yielded ops a.tmps) = true) (ty : TypeId) (x : Operand) (ho : o.op = .load ty x)
    (g : Nat) (hx : a.eval x = .pointer (some ⟨g, 0, none⟩)) (t : TypeId) (cs : Array Value) (fr : Nat × Nat) (d : TypeDesc) (hg : w.heap[g]? = some (.cells cs t fr))
    (hu : P.underlying ty = some d) (hd : (match d with | .struct _ | .array _ _ => true | _ => false) = true) (hi : (P.info? ty).map (·.size) = some cs.size)
    (h : wpList P ops Q rest (a.put o.dst (.agg cs)) w) : wpList P ops Q (o :: rest) a w :=
  BigFrame.wpList_want hw fun _ hK => wp_load_row ty x ho g hx t cs fr d hg hu hd hi (hK _ _ h)
/-- A block laid, its zeros by their name. -/
theorem wpList_alloc {P : Program} {ops : Array Oper} {rest : List Oper} {o : Oper} {a : Act} {w : World} {Q : Exit → Act → World → Prop} (hw : Region.wanted o (yielded ops a.tmps) = true) (ty : TypeId) (ho : o.op = .alloc ty) (cs : Array Value)
    (hz : ∀ W, (Instr.alloc ty true (.tuple #[])).run P W = .ok (.pointer (some ⟨W.heap.size, 0, none⟩)) (W.alloc (.cells cs ty)))
    (h : wpList P ops Q rest (a.put o.dst (.pointer (some ⟨w.heap.size, 0, none⟩))) (w.alloc (.cells cs ty))) : wpList P ops Q (o :: rest) a w := by
  refine BigFrame.wpList_want hw fun _ hK => wp_world_op _ _ ?_ (hK _ _ h)
  unfold execOp
  simp only [ho, Sem.run_bind, Sem.run_pure, hz, Result.andThen_ok]
/-- A parameter laid into a block of its own. -/
theorem wpList_box {P : Program} {ops : Array Oper} {rest : List Oper} {o : Oper} {a : Act} {w : World} {Q : Exit → Act → World → Prop} (hw : Region.wanted o (yielded ops a.tmps) = true) (ty : TypeId) (x : Operand) (ho : o.op = .box ty x) (cs : Array Value) (hx : a.eval x = .agg cs)
    (hz : ∀ W, (Instr.box ty (.agg cs)).run P W = .ok (.pointer (some ⟨W.heap.size, 0, none⟩)) (W.alloc (.cells cs ty)))
    (h : wpList P ops Q rest (a.put o.dst (.pointer (some ⟨w.heap.size, 0, none⟩))) (w.alloc (.cells cs ty))) : wpList P ops Q (o :: rest) a w := by
  refine BigFrame.wpList_want hw fun _ hK => wp_world_op _ _ ?_ (hK _ _ h)
  unfold execOp
  simp only [ho, hx, Sem.run_bind, Sem.run_pure, hz, Result.andThen_ok]
theorem size_alloc1 (w : World) (o : Obj) : (w.alloc o).heap.size = w.heap.size + 1 := Array.size_push ..
theorem addr_add (b off j : Nat) : (⟨b, off, none⟩ : Addr).add j = ⟨b, off + j, none⟩ := by
  unfold Addr.add
  split
  · rename_i h; rw [h]; rfl
  · rfl

/-! Rows of integers. -/
def irow (k : IntKind) (l : List Int) : Array Value := (l.map (Value.int k)).toArray
theorem irow_size (k : IntKind) (l : List Int) : (irow k l).size = l.length := by simp [irow]
theorem irow_one (k : IntKind) (l : List Int) : (irow k l).all (·.oneCell') = true := by
  simp only [irow, List.all_toArray, List.all_map, List.all_eq_true]
  intro x _; rfl
theorem irow_get (k : IntKind) (l : List Int) (j : Nat) (hj : j < l.length) : (irow k l)[j]? = some (.int k (l.getD j 0)) := by
  simp [irow, List.getElem?_eq_getElem hj, List.getD_eq_getElem?_getD]
theorem irow_cell {W : World} {g : Nat} {k : IntKind} {l : List Int} {t : TypeId} (hg : W.heap[g]? = some (.cells (irow k l) t (0, 0))) {j : Nat} (hj : j < l.length) : W.cell? ⟨g, j, none⟩ = some (.int k (l.getD j 0)) := by
  simp only [World.cell?, hg]
  simpa using irow_get k l j hj
theorem row_frozen {W : World} {g : Nat} {cs : Array Value} {t : TypeId} (hg : W.heap[g]? = some (.cells cs t (0, 0))) (j : Nat) : W.frozen? ⟨g, j, none⟩ = false := by
  simp [World.frozen?, hg]
theorem irow_set {W : World} {g : Nat} {k : IntKind} {l : List Int} {t : TypeId} (hg : W.heap[g]? = some (.cells (irow k l) t (0, 0))) (j : Nat) (z : Int) : (W.setCell ⟨g, j, none⟩ (.int k z)).heap[g]? = some (.cells (irow k (l.set j z)) t (0, 0)) := by
  rw [heap_setCell_same W g j _ t _ hg]
  simp [irow, List.map_set]
theorem heap_other {W : World} {g g' j : Nat} {v : Value} {o : Obj} (h : W.heap[g']? = some o) (hne : g' ≠ g) : (W.setCell ⟨g, j, none⟩ v).heap[g']? = some o := by
  rw [← h]
  exact heap_setCell_other W ⟨g, j, none⟩ g' v hne
theorem ints_one (k : IntKind) (l : List Int) : ∀ u ∈ l.map (Value.int k), u.oneCell' = true := by
  intro u hu
  obtain ⟨z, _, rfl⟩ := List.mem_map.1 hu
  rfl
/-- Zeros. -/
def zr (k : Nat) : List Int := List.replicate k 0
theorem zr_len (k : Nat) : (zr k).length = k := by simp [zr]

/-! Blocks of zeros, by their types. -/
theorem zkey (W : World) : (Instr.alloc 23 true (.tuple #[])).run Tryd.prog W = .ok (.pointer (some ⟨W.heap.size, 0, none⟩)) (W.alloc (.cells (irow .u8 (zr 32)) 23)) := by kernel_rfl
/-- What a slice of bytes says in a world. -/
def Bys (W : World) (v : Value) (bs : List Int) : Prop := ∃ ao cap, v = .slice ao bs.length cap ∧ bs.length ≤ 9223372036854775807 ∧ (∀ j, j < bs.length → ∃ b off, ao = some ⟨b, off, none⟩ ∧ b < W.heap.size ∧ W.cell? ⟨b, off + j, none⟩ = some (.int .u8 (bs.getD j 0))) ∧ (∀ z ∈ bs, 0 ≤ z ∧ z < 256)
theorem Bys.keep {W W' : World} {v : Value} {bs : List Int} (h : Bys W v bs) (hb : Below W.heap.size W W') : Bys W' v bs := by
  obtain ⟨ao, cap, e, hl, hc, hz⟩ := h
  refine ⟨ao, cap, e, hl, fun j hj => ?_, hz⟩
  obtain ⟨b, off, e1, h1, h2⟩ := hc j hj
  exact ⟨b, off, e1, Nat.lt_of_lt_of_le h1 hb.size, (hb.cell h1).trans h2⟩
theorem Bys.of_row {W : World} {g : Nat} {l : List Int} {t : TypeId} (hg : W.heap[g]? = some (.cells (irow .u8 l) t (0, 0))) (hl : l.length ≤ 9223372036854775807) (hz : ∀ z ∈ l, 0 ≤ z ∧ z < 256) (cap : Nat) : Bys W (.slice (some ⟨g, 0, none⟩) l.length cap) l := by
  refine ⟨_, cap, rfl, hl, fun j hj => ⟨g, 0, rfl, lt_of_row hg, ?_⟩, hz⟩
  rw [Nat.zero_add]
  exact irow_cell hg hj
end Go.Proofs.YtjofbnilhkmpeaaDoor

namespace Go.Proofs.YtjofbnilhkmpeaaDoor
set_option maxRecDepth 100000
open Go Go.RowKit Go.Sort Go.ChangeMaps Go.MapKept

/-! Maps as lists of keys and values, in the order in which they were put. -/
/-- What a type of keys must answer: keys are told apart by asking. -/
structure Kty (P : Program) (k : TypeId) {κ : Type} [DecidableEq κ] (enc : κ → Value) (ok : κ → Prop) : Prop where
  chk : ∀ (w : World) (em : Bool) (x : κ), ok x → (Instr.checkKey em 10000 k (enc x)).run P w = .ok () w
  eql : ∀ (w : World) (x y : κ), ok x → ok y → (Op.equalIn 10000 k (enc x) (enc y)).run P w = .ok (decide (x = y)) w
  now : ∃ d, P.underlying k = some d ∧ ∀ a b, Instr.sameNow d a b = none
/-- Block b is a map with these keys and values. -/
def MapIs (W : World) (b : Nat) {κ : Type} (enc : κ → Value) (l : List (κ × Value)) : Prop := ∃ es c, W.heap[b]? = some (.map es c) ∧ es.toList.map (fun e => (e.key, e.val)) = l.map (fun x => (enc x.1, x.2))
/-- A key's place. -/
def plc {κ : Type} [DecidableEq κ] (x : κ) : List κ → Option Nat
  | [] => none
  | y :: r => if x = y then some 0 else (plc x r).map (· + 1)
/-- What is bound to a key. -/
def aget {κ : Type} [DecidableEq κ] (l : List (κ × Value)) (x : κ) : Option Value := (plc x (l.map (·.1))).bind fun i => (l.map (·.2))[i]?
section
variable {P : Program} {k : TypeId} {κ : Type} [DecidableEq κ] {enc : κ → Value} {ok : κ → Prop}
theorem plc_lt (x : κ) : ∀ (l : List κ) (i : Nat), plc x l = some i → i < l.length ∧ l[i]? = some x
  | [], _, h => by simp [plc] at h
  | y :: r, i, h => by
    unfold plc at h
    split at h
    · rename_i e; cases h; exact ⟨by simp, by simp [e]⟩
    · cases h2 : plc x r with
      | none => rw [h2] at h; cases h
      | some j =>
        rw [h2] at h
        cases h
        have := plc_lt x r j h2
        exact ⟨by simp; omega, by simpa using this.2⟩
theorem plc_none (x : κ) : ∀ (l : List κ), plc x l = none ↔ x ∉ l
  | [] => by simp [plc]
  | y :: r => by
    unfold plc
    split
    · rename_i e; simp [e]
    · rename_i e
      have := plc_none x r
      cases h2 : plc x r with
      | none => simp [h2] at this; simp [e, this]
      | some j => simp [h2] at this; simp [this]
theorem run_ask (K : Kty P k enc ok) (w : World) (x : κ) (hx : ok x) : ∀ (es : List MapEntry) (l : List (κ × Value)) (i : Nat), (∀ y ∈ l, ok y.1) → es.map (fun e => (e.key, e.val)) = l.map (fun y => (enc y.1, y.2)) →
    (Instr.findAsking k (enc x) es i).run P w = .ok ((plc x (l.map (·.1))).bind fun j => ((l.map (·.2))[j]?).map fun v => (i + j, v)) w
  | [], l, i, _, h => by
    cases l with
    | nil => simp [Instr.findAsking, plc]
    | cons _ _ => simp at h
  | e :: es, l, i, hl, h => by
    cases l with
    | nil => simp at h
    | cons y r =>
      simp only [List.map_cons, List.cons.injEq, Prod.mk.injEq] at h
      obtain ⟨⟨h1, h2⟩, h3⟩ := h
      have hy := hl y (by simp)
      simp only [Instr.findAsking, Sem.run_bind, Op.equal, Op.maxDepth, h1, K.eql w x y.1 hx hy, Result.andThen_ok, List.map_cons, plc]
      by_cases e1 : x = y.1
      · simp [e1, h2]
      · have ih := run_ask K w x hx es r (i + 1) (fun z hz => hl z (by simp [hz])) h3
        simp only [e1, decide_false, Bool.false_eq_true, if_false]
        rw [ih]
        cases h4 : plc x (r.map (·.1)) with
        | none => simp
        | some j => simp [Nat.add_assoc, Nat.add_comm 1 j]
theorem run_fndk (K : Kty P k enc ok) (w : World) (x : κ) (hx : ok x) (es : List MapEntry) (l : List (κ × Value)) (hl : ∀ y ∈ l, ok y.1) (h : es.map (fun e => (e.key, e.val)) = l.map (fun y => (enc y.1, y.2))) :
    (Instr.findKey k (enc x) es).run P w = .ok ((plc x (l.map (·.1))).bind fun j => ((l.map (·.2))[j]?).map fun v => (j, v)) w := by
  obtain ⟨d, hd, hn⟩ := K.now
  simp only [Instr.findKey, Sem.run_bind, run_underlying hd, Result.andThen_ok]
  cases es with
  | nil =>
    cases l with
    | nil => simp [Instr.findNow, plc]
    | cons _ _ => simp at h
  | cons e es =>
    have : Instr.findNow d (enc x) (e :: es) 0 = none := by simp [Instr.findNow, hn]
    rw [this]
    have := run_ask K w x hx (e :: es) l 0 hl h
    simpa using this
theorem run_lookm (K : Kty P k enc ok) {t e : TypeId} (ht : P.underlying t = some (.map k e)) (w : World) {z : Value} (hz : (zeroValue e).run P w = .ok z w) (b : Nat) (l : List (κ × Value)) (hm : MapIs w b enc l) (hl : ∀ y ∈ l, ok y.1) (x : κ) (hx : ok x) (c : Bool) :
    (Instr.lookup t (.map (some b)) (enc x) c).run P w = .ok (if c then .tuple #[(aget l x).getD z, .bool (aget l x).isSome] else (aget l x).getD z) w := by
  obtain ⟨es, cl, hb, he⟩ := hm
  have hf := run_fndk K w x hx es.toList l hl he
  unfold aget
  cases h : plc x (l.map (·.1)) with
  | none =>
    rw [h] at hf
    simp only [Option.bind_none] at hf
    simp [Instr.lookup, run_underlying ht, MapKept.run_getObj_map hb, K.chk w _ x hx, hf, hz, Result.andThen]
  | some i =>
    have hi := (plc_lt x _ i h).1
    simp only [List.length_map] at hi
    rw [h] at hf
    simp only [Option.bind_some, List.getElem?_map, List.getElem?_eq_getElem hi, Option.map_some] at hf
    simp [Instr.lookup, run_underlying ht, MapKept.run_getObj_map hb, K.chk w _ x hx, hf, Result.andThen, List.getElem?_eq_getElem hi]
theorem run_updm (K : Kty P k enc ok) {t e : TypeId} (ht : P.underlying t = some (.map k e)) (w : World) (b : Nat) (l : List (κ × Value)) (hm : MapIs w b enc l) (hl : ∀ y ∈ l, ok y.1) (x : κ) (hx : ok x) (v : Value) (hn : x ∉ l.map (·.1)) :
    ∃ o, (Instr.mapUpdate t (.map (some b)) (enc x) v).run P w = .ok () (setBlock w b o) ∧ MapIs (setBlock w b o) b enc (l ++ [(x, v)]) := by
  obtain ⟨es, cl, hb, he⟩ := hm
  have hf := run_fndk K w x hx es.toList l hl he
  rw [(plc_none x _).2 hn] at hf
  simp only [Option.bind_none] at hf
  refine ⟨.map (es.push { key := enc x, val := v, born := cl }) (cl + 1), ?_, _, _, heap_setBlock_same hb _, ?_⟩
  · simp [Instr.mapUpdate, run_underlying ht, MapKept.run_getObj_map hb, K.chk w _ x hx, hf, MapKept.run_setObj_map _ hb, Result.andThen, setBlock]
  · simp [he]
theorem run_delm (K : Kty P k enc ok) {t e : TypeId} (ht : P.underlying t = some (.map k e)) (ty : TypeId) (w : World) (b : Nat) (l : List (κ × Value)) (hm : MapIs w b enc l) (hl : ∀ y ∈ l, ok y.1) (x : κ) (hx : ok x) (i : Nat) (hi : plc x (l.map (·.1)) = some i) :
    ∃ o, (Builtin.delete_ #[t, k] ty #[.map (some b), enc x]).run P w = .ok (.tuple #[]) (setBlock w b o) ∧ MapIs (setBlock w b o) b enc (l.eraseIdx i) := by
  obtain ⟨es, cl, hb, he⟩ := hm
  have hf := run_fndk K w x hx es.toList l hl he
  have hil := (plc_lt x _ i hi).1
  simp only [List.length_map] at hil
  have hes : es.size = l.length := by have := congrArg List.length he; simpa using this
  rw [hi] at hf
  simp only [Option.bind_some, List.getElem?_map, List.getElem?_eq_getElem hil, Option.map_some] at hf
  have hsub : (es.eraseIdxIfInBounds i).toList = es.toList.eraseIdx i := by
    unfold Array.eraseIdxIfInBounds
    rw [dif_pos (by omega)]
    simp
  refine ⟨.map (es.eraseIdxIfInBounds i) cl, ?_, _, _, heap_setBlock_same hb _, ?_⟩
  · simp [Builtin.delete_, run_underlying ht, MapKept.run_getObj_map hb, K.chk w _ x hx, hf, MapKept.run_setObj_map _ hb, Result.andThen, setBlock]
  · rw [hsub, map_eraseIdx, map_eraseIdx, he]
end
theorem MapIs.row {κ : Type} {enc : κ → Value} {W W' : World} {b : Nat} {l : List (κ × Value)} (h : MapIs W b enc l) (hb : ∀ o, W.heap[b]? = some o → W'.heap[b]? = some o) : MapIs W' b enc l := by
  obtain ⟨es, c, h1, h2⟩ := h
  exact ⟨es, c, hb _ h1, h2⟩
theorem MapIs.lt {κ : Type} {enc : κ → Value} {W : World} {b : Nat} {l : List (κ × Value)} (h : MapIs W b enc l) : b < W.heap.size := by
  obtain ⟨es, c, h1, h2⟩ := h
  exact lt_of_row h1
end Go.Proofs.YtjofbnilhkmpeaaDoor

namespace Go.Proofs.YtjofbnilhkmpeaaDoor
set_option maxRecDepth 100000
open Go Go.RowKit Go.Sort Go.ChangeMaps Go.MapKept

/-! A spare, a label: their cells. -/
structure Sr where
  h : List Int
  n : Int
  m : List Int
deriving DecidableEq
def Sr.ok (s : Sr) : Prop := s.h.length = 32 ∧ s.m.length = 32
abbrev Lb := List Int × Int
def Sr.lb (s : Sr) : Lb := (s.h, s.n)
/-- A label's cells. -/
def chc (key : List Int) (n : Int) : Array Value := ((key.map (Value.int .u8)) ++ [Value.int .u32 n]).toArray
/-- A spare's cells. -/
def srl (s : Sr) : List Value := s.h.map (Value.int .u8) ++ Value.int .u32 s.n :: s.m.map (Value.int .u8)
def srow (s : Sr) : Array Value := (srl s).toArray
def lenc (x : Lb) : Value := .agg (chc x.1 x.2)
def lok (x : Lb) : Prop := x.1.length = 32
def kenc (x : List Int) : Value := .agg (irow .u8 x)
def kok (x : List Int) : Prop := x.length = 32
theorem len32 (l : List Int) (h : l.length = 32) : ∃ x0 x1 x2 x3 x4 x5 x6 x7 x8 x9 x10 x11 x12 x13 x14 x15 x16 x17 x18 x19 x20 x21 x22 x23 x24 x25 x26 x27 x28 x29 x30 x31, l = [x0, x1, x2, x3, x4, x5, x6, x7, x8, x9, x10, x11, x12, x13, x14, x15, x16, x17, x18, x19, x20, x21, x22, x23, x24, x25, x26, x27, x28, x29, x30, x31] := by
  match l, h with
  | [x0, x1, x2, x3, x4, x5, x6, x7, x8, x9, x10, x11, x12, x13, x14, x15, x16, x17, x18, x19, x20, x21, x22, x23, x24, x25, x26, x27, x28, x29, x30, x31], _ => exact ⟨x0, x1, x2, x3, x4, x5, x6, x7, x8, x9, x10, x11, x12, x13, x14, x15, x16, x17, x18, x19, x20, x21, x22, x23, x24, x25, x26, x27, x28, x29, x30, x31, rfl⟩
theorem chc_size (key : List Int) (hkl : key.length = 32) (n : Int) : (chc key n).size = 33 := by simp [chc, hkl]
theorem chc_one (key : List Int) (n : Int) : (chc key n).all (·.oneCell') = true := by
  simp [chc, Value.oneCell']
theorem chc_key (key : List Int) (hkl : key.length = 32) (n : Int) : (chc key n).extract 0 (0 + (irow .u8 key).size) = irow .u8 key := by
  apply Array.ext'
  simp [chc, irow, hkl]
theorem chc_n (key : List Int) (hkl : key.length = 32) (n : Int) : (chc key n)[32]? = some (.int .u32 n) := by
  simp [chc, hkl]
theorem srl_len {s : Sr} (h : s.ok) : (srl s).length = 65 := by simp [srl, h.1, h.2]
theorem srow_size {s : Sr} (h : s.ok) : (srow s).size = 65 := by simp [srow, srl_len h]
theorem srl_one (s : Sr) : ∀ u ∈ srl s, u.oneCell' = true := by
  intro u hu
  simp only [srl, List.mem_append, List.mem_cons, List.mem_map] at hu
  rcases hu with ⟨z, _, rfl⟩ | rfl | ⟨z, _, rfl⟩ <;> rfl
theorem srow_one (s : Sr) : (srow s).all (·.oneCell') = true := by
  rw [srow, List.all_toArray, List.all_eq_true]
  exact srl_one s
theorem srow_h {s : Sr} (h : s.ok) : (srow s).extract 0 (0 + (irow .u8 s.h).size) = irow .u8 s.h := by
  apply Array.ext'
  simp [srow, srl, irow, h.1]
theorem srow_n {s : Sr} (h : s.ok) : (srow s)[32]? = some (.int .u32 s.n) := by
  simp [srow, srl, h.1]
theorem srow_m {s : Sr} (h : s.ok) : (srow s).extract 33 (33 + (irow .u8 s.m).size) = irow .u8 s.m := by
  apply Array.ext'
  have e : srl s = (s.h.map (Value.int .u8) ++ [Value.int .u32 s.n]) ++ s.m.map (Value.int .u8) := by simp [srl]
  have e2 : (s.h.map (Value.int .u8) ++ [Value.int .u32 s.n]).length = 33 := by simp [h.1]
  simp only [srow, e, Array.toList_extract, irow, List.size_toArray, List.length_map]
  rw [← e2, List.extract_eq_take_drop, List.drop_left]
  simp
  exact List.take_of_length_le (by simp)
theorem infok8 (key : List Int) (hkl : key.length = 32) : (Tryd.prog.info? 23).map (·.size) = some (irow .u8 key).size := by
  rw [irow_size, hkl]; kernel_rfl
theorem fit32 (a b : List Int) (ha : a.length = 32) (hb : b.length = 32) : (irow .u8 a).size = (irow .u8 b).size := by rw [irow_size, irow_size, ha, hb]
theorem infoL (key : List Int) (hkl : key.length = 32) (n : Int) : (Tryd.prog.info? 77).map (·.size) = some (chc key n).size := by
  rw [chc_size key hkl]; kernel_rfl
theorem infoS {s : Sr} (h : s.ok) : (Tryd.prog.info? 52).map (·.size) = some (srow s).size := by
  rw [srow_size h]; kernel_rfl
theorem infoSl {s : Sr} (h : s.ok) : (Tryd.prog.info? 52).map (·.size) = some (srl s).length := by
  rw [srl_len h]; kernel_rfl
theorem builtL (key : List Int) (hkl : key.length = 32) (n : Int) : Tryd.prog.built 77 [(0, .agg (irow .u8 key)), (1, .int .u32 n)] = some (chc key n) := by
  obtain ⟨x0, x1, x2, x3, x4, x5, x6, x7, x8, x9, x10, x11, x12, x13, x14, x15, x16, x17, x18, x19, x20, x21, x22, x23, x24, x25, x26, x27, x28, x29, x30, x31, rfl⟩ := len32 key hkl
  kernel_rfl
theorem builtS (s : Sr) (h : s.ok) : Tryd.prog.built 52 [(0, .agg (irow .u8 s.h)), (1, .int .u32 s.n), (2, .agg (irow .u8 s.m))] = some (srow s) := by
  obtain ⟨sh, sn, sm⟩ := s
  obtain ⟨h1, h2⟩ := h
  dsimp only at h1 h2
  obtain ⟨x0, x1, x2, x3, x4, x5, x6, x7, x8, x9, x10, x11, x12, x13, x14, x15, x16, x17, x18, x19, x20, x21, x22, x23, x24, x25, x26, x27, x28, x29, x30, x31, rfl⟩ := len32 sh h1
  obtain ⟨y0, y1, y2, y3, y4, y5, y6, y7, y8, y9, y10, y11, y12, y13, y14, y15, y16, y17, y18, y19, y20, y21, y22, y23, y24, y25, y26, y27, y28, y29, y30, y31, rfl⟩ := len32 sm h2
  kernel_rfl
def zsr : Sr := ⟨zr 32, 0, zr 32⟩
theorem zsr_ok : zsr.ok := ⟨rfl, rfl⟩
theorem zlb (W : World) : (Instr.alloc 77 true (.tuple #[])).run Tryd.prog W = .ok (.pointer (some ⟨W.heap.size, 0, none⟩)) (W.alloc (.cells (chc (zr 32) 0) 77)) := by kernel_rfl
theorem zsp (W : World) : (Instr.alloc 52 true (.tuple #[])).run Tryd.prog W = .ok (.pointer (some ⟨W.heap.size, 0, none⟩)) (W.alloc (.cells (srow zsr) 52)) := by kernel_rfl
theorem bLb (cs : Array Value) (W : World) : (Instr.box 77 (.agg cs)).run Tryd.prog W = .ok (.pointer (some ⟨W.heap.size, 0, none⟩)) (W.alloc (.cells cs 77)) := by kernel_rfl
theorem bSp (cs : Array Value) (W : World) : (Instr.box 52 (.agg cs)).run Tryd.prog W = .ok (.pointer (some ⟨W.heap.size, 0, none⟩)) (W.alloc (.cells cs 52)) := by kernel_rfl
theorem bKy (cs : Array Value) (W : World) : (Instr.box 23 (.agg cs)).run Tryd.prog W = .ok (.pointer (some ⟨W.heap.size, 0, none⟩)) (W.alloc (.cells cs 23)) := by kernel_rfl
theorem Tryd.infoU8 : ∃ i, Tryd.prog.info? 5 = some i := by
  cases h : Tryd.prog.info? 5 with
  | some i => exact ⟨i, rfl⟩
  | none => exact absurd (show (Tryd.prog.info? 5).isSome = true by kernel_rfl) (by rw [h]; decide)
theorem Tryd.cellsU8 : Tryd.prog.cellsOf 5 = 1 := by kernel_rfl
/-! Equality. -/
theorem eq_key (d : Nat) (x y : List Int) (hx : x.length = 32) (hy : y.length = 32) (W : World) : (Op.equalIn (d + 2) 23 (.agg (irow .u8 x)) (.agg (irow .u8 y))).run Tryd.prog W = .ok (decide (x = y)) W := by
  obtain ⟨i0, hi⟩ := Tryd.infoU8
  unfold irow
  rw [run_equalIn_array W (d + 1) _ _ Tryd.underlying23 hi, Tryd.cellsU8, run_eqItems_int d W Tryd.underlying5 hi x y (List.range 32) (fun i h => by simp at h; omega)]
  congr 1
  rw [Bool.eq_iff_iff]
  simp only [List.all_eq_true, List.mem_range, beq_iff_eq, decide_eq_true_eq]
  constructor
  · intro h
    apply List.ext_getElem (by omega)
    intro i h1 h2
    have := h i (by omega)
    simpa [h1, h2] using this
  · rintro rfl i _
    rfl
theorem part_key {cs : Array Value} {x : List Int} {o : Nat} (hx : x.length = 32) (h : cs.extract o (o + (irow .u8 x).size) = irow .u8 x) (W : World) : (part 23 cs o).run Tryd.prog W = .ok (.agg (irow .u8 x)) W := by
  have ha : (isAgg 23).run Tryd.prog W = .ok true W := by
    unfold isAgg
    rw [Sem.run_bind, run_underlying Tryd.underlying23 W]
    rfl
  rw [irow_size, hx] at h
  simp [part, Sem.run_bind, ha, h]
theorem part_n {cs : Array Value} {n : Int} {o : Nat} (h : cs[o]? = some (.int .u32 n)) (W : World) : (part 35 cs o).run Tryd.prog W = .ok (.int .u32 n) W := by
  have ha : (isAgg 35).run Tryd.prog W = .ok false W := by
    unfold isAgg
    rw [Sem.run_bind, run_underlying Tryd.underlying35 W]
    rfl
  simp [part, Sem.run_bind, ha, h]
theorem strL : Tryd.prog.underlying 77 = some (.struct (Tryd.prog.fieldsOf 77)) := by kernel_rfl
theorem stoL : Tryd.prog.stoodInHeld 77 = false := by kernel_rfl
theorem fldL : ∃ f1 f2, (Tryd.prog.fieldsOf 77).toList = [f1, f2] ∧ f1.name ≠ "_" ∧ f1.type = 23 ∧ f1.offset = 0 ∧ f2.name ≠ "_" ∧ f2.type = 35 ∧ f2.offset = 32 := ⟨_, _, rfl, by decide, rfl, rfl, by decide, rfl, rfl⟩
theorem strS : Tryd.prog.underlying 52 = some (.struct (Tryd.prog.fieldsOf 52)) := by kernel_rfl
theorem stoS : Tryd.prog.stoodInHeld 52 = false := by kernel_rfl
theorem fldS : ∃ f1 f2 f3, (Tryd.prog.fieldsOf 52).toList = [f1, f2, f3] ∧ f1.name ≠ "_" ∧ f1.type = 23 ∧ f1.offset = 0 ∧ f2.name ≠ "_" ∧ f2.type = 35 ∧ f2.offset = 32 ∧ f3.name ≠ "_" ∧ f3.type = 23 ∧ f3.offset = 33 := ⟨_, _, _, rfl, by decide, rfl, rfl, by decide, rfl, rfl, by decide, rfl, rfl⟩
theorem eqf_cons {P : Program} {W : World} {d : Nat} {xs ys : Array Value} {f : Field} {fs : List Field} {a b : Value} {r : Bool} (hn : f.name ≠ "_") (ha : (part f.type xs f.offset).run P W = .ok a W) (hb : (part f.type ys f.offset).run P W = .ok b W) (he : (Op.equalIn d f.type a b).run P W = .ok r W) :
    (Op.eqFields d xs ys (f :: fs)).run P W = if r = true then (Op.eqFields d xs ys fs).run P W else .ok false W := by
  rw [Op.eqFields, if_pos hn, Sem.run_bind, ha, Result.andThen_ok, Sem.run_bind, hb, Result.andThen_ok, Sem.run_bind, he, Result.andThen_ok]
  cases r <;> simp
theorem eqf_nil {P : Program} {W : World} {d : Nat} {xs ys : Array Value} : (Op.eqFields d xs ys []).run P W = .ok true W := by
  rw [Op.eqFields, Sem.run_pure]
theorem eq_lab_d (d : Nat) (x y : Lb) (hx : lok x) (hy : lok y) (W : World) : (Op.equalIn (d + 3) 77 (lenc x) (lenc y)).run Tryd.prog W = .ok (decide (x = y)) W := by
  obtain ⟨f1, f2, hf, n1, t1, o1, n2, t2, o2⟩ := fldL
  unfold lenc
  rw [run_equalIn_struct W (d + 2) 77 _ _ strL stoL, hf]
  have p1 := part_key hx (chc_key x.1 hx x.2) W
  have p2 := part_key hy (chc_key y.1 hy y.2) W
  have q1 := part_n (chc_n x.1 hx x.2) W
  have q2 := part_n (chc_n y.1 hy y.2) W
  have e0 := eq_key d x.1 y.1 hx hy W
  have i0 := run_equalIn_int W (P := Tryd.prog) (d + 1) 35 .u32 .u32 x.2 y.2 Tryd.underlying35
  rw [eqf_cons n1 (by rw [t1, o1]; exact p1) (by rw [t1, o1]; exact p2) (by rw [t1]; exact e0), eqf_cons n2 (by rw [t2, o2]; exact q1) (by rw [t2, o2]; exact q2) (by rw [t2]; exact i0), eqf_nil]
  obtain ⟨xh, xn⟩ := x
  obtain ⟨yh, yn⟩ := y
  by_cases e1 : xh = yh
  · by_cases e2 : xn = yn <;> simp [e1, e2]
  · simp [e1]
theorem eq_lab (x y : Lb) (hx : lok x) (hy : lok y) (W : World) : (Op.equalIn 10000 77 (lenc x) (lenc y)).run Tryd.prog W = .ok (decide (x = y)) W := eq_lab_d 9997 x y hx hy W
theorem eq_spr_d (d : Nat) (x y : Sr) (hx : x.ok) (hy : y.ok) (W : World) : (Op.equalIn (d + 3) 52 (.agg (srow x)) (.agg (srow y))).run Tryd.prog W = .ok (decide (x = y)) W := by
  obtain ⟨f1, f2, f3, hf, n1, t1, o1, n2, t2, o2, n3, t3, o3⟩ := fldS
  rw [run_equalIn_struct W (d + 2) 52 _ _ strS stoS, hf]
  have p1 := part_key hx.1 (srow_h hx) W
  have p2 := part_key hy.1 (srow_h hy) W
  have q1 := part_n (srow_n hx) W
  have q2 := part_n (srow_n hy) W
  have r1 := part_key hx.2 (srow_m hx) W
  have r2 := part_key hy.2 (srow_m hy) W
  have e0 := eq_key d x.h y.h hx.1 hy.1 W
  have m0 := eq_key d x.m y.m hx.2 hy.2 W
  have i0 := run_equalIn_int W (P := Tryd.prog) (d + 1) 35 .u32 .u32 x.n y.n Tryd.underlying35
  rw [eqf_cons n1 (by rw [t1, o1]; exact p1) (by rw [t1, o1]; exact p2) (by rw [t1]; exact e0), eqf_cons n2 (by rw [t2, o2]; exact q1) (by rw [t2, o2]; exact q2) (by rw [t2]; exact i0), eqf_cons n3 (by rw [t3, o3]; exact r1) (by rw [t3, o3]; exact r2) (by rw [t3]; exact m0), eqf_nil]
  obtain ⟨xh, xn, xm⟩ := x
  obtain ⟨yh, yn, ym⟩ := y
  by_cases e1 : xh = yh
  · by_cases e2 : xn = yn
    · by_cases e3 : xm = ym <;> simp [e1, e2, e3]
    · simp [e1, e2]
  · simp [e1]
theorem eq_spr (x y : Sr) (hx : x.ok) (hy : y.ok) (W : World) : (Op.equalIn 10000 52 (.agg (srow x)) (.agg (srow y))).run Tryd.prog W = .ok (decide (x = y)) W := eq_spr_d 9997 x y hx hy W
theorem chk_lab (w : World) (em : Bool) (x : Lb) (hx : lok x) : (Instr.checkKey em 10000 77 (lenc x)).run Tryd.prog w = .ok () w := by
  obtain ⟨h, n⟩ := x
  obtain ⟨x0, x1, x2, x3, x4, x5, x6, x7, x8, x9, x10, x11, x12, x13, x14, x15, x16, x17, x18, x19, x20, x21, x22, x23, x24, x25, x26, x27, x28, x29, x30, x31, rfl⟩ := len32 h hx
  kernel_rfl
theorem chk_key (w : World) (em : Bool) (x : List Int) (hx : kok x) : (Instr.checkKey em 10000 23 (kenc x)).run Tryd.prog w = .ok () w := by
  obtain ⟨x0, x1, x2, x3, x4, x5, x6, x7, x8, x9, x10, x11, x12, x13, x14, x15, x16, x17, x18, x19, x20, x21, x22, x23, x24, x25, x26, x27, x28, x29, x30, x31, rfl⟩ := len32 x hx
  kernel_rfl
theorem kLb : Kty Tryd.prog 77 lenc lok := ⟨chk_lab, fun w x y hx hy => eq_lab x y hx hy w, ⟨_, Tryd.underlying77, fun a b => by cases a <;> rfl⟩⟩
theorem kKy : Kty Tryd.prog 23 kenc kok := ⟨chk_key, fun w x y hx hy => eq_key 9998 x y hx hy w, ⟨_, Tryd.underlying23, fun a b => by cases a <;> rfl⟩⟩
end Go.Proofs.YtjofbnilhkmpeaaDoor

namespace Go.Proofs.YtjofbnilhkmpeaaDoor
set_option maxRecDepth 100000
open Go Go.RowKit Go.Sort Go.ChangeMaps Go.MapKept

/-- v' lies where v lay, or in a new block. -/
def Nx (w : World) (v v' : Value) : Prop := v'.ownBlock = v.ownBlock ∨ ∃ k, v'.ownBlock = some k ∧ w.heap.size ≤ k
theorem Nx.refl (w : World) (v : Value) : Nx w v v := .inl rfl
theorem Nx.trans {w W : World} {v s s' : Value} (h : Nx w v s) (hs : w.heap.size ≤ W.heap.size) (h2 : Nx W s s') : Nx w v s' := by
  rcases h2 with e | ⟨k, e, hk⟩
  · rcases h with e2 | ⟨k, e2, hk⟩
    · exact .inl (e.trans e2)
    · exact .inr ⟨k, e.trans e2, hk⟩
  · exact .inr ⟨k, e, by omega⟩
theorem Nx.unalloc {W : World} {o : Obj} {s s' : Value} (h : Nx (W.alloc o) s s') : Nx W s s' := by
  rcases h with e | ⟨k, e, hk⟩
  · exact .inl e
  · exact .inr ⟨k, e, by rw [size_alloc1] at hk; omega⟩
theorem Nx.ne {w : World} {v s : Value} (h : Nx w v s) {k : Nat} (hk : k < w.heap.size) (hv : v.ownBlock ≠ some k) : s.ownBlock ≠ some k := by
  rcases h with e | ⟨k', e, hk'⟩
  · rw [e]; exact hv
  · rw [e]; intro e2; cases e2; omega
theorem wp_append_nx {P : Program} {w : World} {o : Oper} {a : Act} {K : Act → World → Prop} {Q : Exit → Act → World → Prop} (s x : Operand) (t : TypeId)
    (ho : o.op = .call { callee := .builtin .append, args := #[s, x], argTypes := #[t, t] })
    (base : Nat) (e : TypeId) (i : TypeInfo) (z : Value) (size bytes : Nat) (ht : P.underlying t = some (.slice e)) (hi : P.info? e = some i) (hz : i.zero = some z)
    (hsize : i.size = size) (hby : i.bytes = bytes) (hzs : z.cells.size = size) (hsz : 0 < size)
    (v : Value) (n : Nat) (xs : List Value) (hs : a.eval s = v) (hown : w.ownsRow base e size v n xs)
    (ad : Addr) (m c : Nat) (news : List Value) (hx : a.eval x = .slice (some ad) m c) (hl : news.length = m * size) (hnews : ∀ j u, news[j]? = some u → w.cell? (ad.add j) = some u) (h1 : ∀ u ∈ news, u.oneCell' = true)
    (h63 : n + m ≤ maxLen) (hbytes : (n + m) * bytes ≤ 140737488355328) (hbase : base ≤ w.heap.size)
    (h : ∀ v' w', w'.ownsRow base e size v' (n + m) (xs ++ news) → w.grownBy w' v.ownBlock → Nx w v v' → K (a.put o.dst v') w') : o.wp P a w K Q := by
  obtain ⟨v', w', hr, h2, h3, h4⟩ := run_append_own (P := P) w base t o.type e i z size bytes ht hi hz hsize hby hzs hsz _ n xs hown ad m c news hl hnews h1 h63 hbytes hbase
  have key : Nx w v v' := by
    rcases hown.2 with ⟨rfl, hn0⟩ | ⟨g1, cap1, cur, rfl, hbg, hg, hnc, hcm, hcs, htake⟩
    · have hown2 : w.ownsRow w.heap.size e size (.slice none 0 0) n xs := ⟨hown.1, .inl ⟨rfl, hn0⟩⟩
      obtain ⟨v2, w2, hr2, g2, _, g4⟩ := run_append_own (P := P) w w.heap.size t o.type e i z size bytes ht hi hz hsize hby hzs hsz _ n xs hown2 ad m c news hl hnews h1 h63 hbytes (Nat.le_refl _)
      have he := hr.symm.trans hr2
      injection he with e1 e2
      subst e1
      rcases g2.2 with ⟨hv, _⟩ | ⟨g, cap, _, hv, hbg, _⟩
      · exact .inl (by rw [hv])
      · exact .inr ⟨g, by rw [hv]; rfl, hbg⟩
    · by_cases hroom : n + m ≤ cap1
      · have hr2 := run_append_room (P := P) w t o.type e i ht hi g1 n cap1 cur hg ad m c news (by rw [hsize]; exact hl) hnews h1 hroom (by rw [hsize, hl, hcs, ← Nat.add_mul]; exact Nat.mul_le_mul_right _ hroom)
        have he := hr.symm.trans hr2
        injection he with e1 e2
        exact .inl (by rw [e1]; rfl)
      · have holds : ∀ j u, xs[j]? = some u → w.cell? ((⟨g1, 0, none⟩ : Addr).add j) = some u := hown.cells (g := g1) rfl
        have hr2 := run_append_grow (P := P) w t o.type e i z ht hi hz ⟨g1, 0, none⟩ n cap1 xs (by rw [hsize]; exact hown.1) holds ad m c news (by rw [hsize]; exact hl) hnews (by omega) (by simp only [maxLen] at h63; omega) (growslice_fits (by omega) (by rw [hby]; exact hbytes))
        have he := hr.symm.trans hr2
        injection he with e1 e2
        exact .inr ⟨w.heap.size, by rw [e1]; rfl, Nat.le_refl _⟩
  unfold Oper.wp execOp
  simp only [ho, resolve, invoke, builtin, Sem.run_bind, Sem.run_pure, Result.andThen_ok, List.map_toArray, List.map_cons, List.map_nil, hs, hx, hr]
  exact h v' w' h2 h3 key
/-- All blocks stay but those of X. -/
structure Fr (X : Nat → Prop) (w w' : World) : Prop where
  os : w'.os = w.os
  tape : w'.tape = w.tape
  output : w'.output = w.output
  size : w.heap.size ≤ w'.heap.size
  block : ∀ k, k < w.heap.size → ¬ X k → w'.heap[k]? = w.heap[k]?
theorem Fr.refl (X : Nat → Prop) (w : World) : Fr X w w := ⟨rfl, rfl, rfl, Nat.le_refl _, fun _ _ _ => rfl⟩
theorem Fr.trans {X : Nat → Prop} {a b c : World} (h : Fr X a b) (k : Fr X b c) : Fr X a c := ⟨k.os.trans h.os, k.tape.trans h.tape, k.output.trans h.output, Nat.le_trans h.size k.size, fun j hj hx => (k.block j (Nat.lt_of_lt_of_le hj h.size) hx).trans (h.block j hj hx)⟩
theorem Fr.of {X : Nat → Prop} {w w' : World} (h : Below w.heap.size w w') : Fr X w w' := ⟨h.os, h.tape, h.output, h.size, fun k hk _ => h.block k hk⟩
theorem Fr.grown {X : Nat → Prop} {g : Nat} {w w' : World} (h : w.grownBy w' (some g)) (hg : X g) : Fr X w w' := ⟨h.os, h.tape, h.output, h.size, fun k hk hx => h.block k hk (fun e => hx (by cases e; exact hg))⟩
theorem Fr.row {X : Nat → Prop} {w w' : World} (h : Fr X w w') {k : Nat} {o : Obj} (hk : w.heap[k]? = some o) (hx : ¬ X k) : w'.heap[k]? = some o := (h.block k (lt_of_row hk) hx).trans hk
theorem Fr.below {X : Nat → Prop} {w w' : World} {B : Nat} (h : Fr X w w') (hX : ∀ k, X k → B ≤ k) (hB : B ≤ w.heap.size) : Below B w w' := ⟨h.os, h.tape, h.output, h.size, fun k hk => h.block k (by omega) (fun hx => by have := hX k hx; omega)⟩

theorem Fr.mono {X Y : Nat → Prop} {w w' : World} (h : Fr X w w') (hXY : ∀ k, k < w.heap.size → X k → Y k) : Fr Y w w' := ⟨h.os, h.tape, h.output, h.size, fun k hk hx => h.block k hk (fun e => hx (hXY k hk e))⟩
theorem Fr.step {X Y : Nat → Prop} {a b c : World} (h : Fr X a b) (k : Fr Y b c) (hXY : ∀ j, j < a.heap.size → Y j → X j) : Fr X a c := ⟨k.os.trans h.os, k.tape.trans h.tape, k.output.trans h.output, Nat.le_trans h.size k.size, fun j hj hx => (k.block j (Nat.lt_of_lt_of_le hj h.size) (fun e => hx (hXY j hj e))).trans (h.block j hj hx)⟩
theorem Fr.setBlock {X : Nat → Prop} {w w' : World} (h : Fr X w w') {b : Nat} (hb : X b) (o : Obj) : Fr X w (setBlock w' b o) := ⟨h.os, h.tape, h.output, by simpa [ChangeMaps.setBlock] using h.size, fun k hk hx => by
  rw [← h.block k hk hx]
  simp only [ChangeMaps.setBlock]
  exact Array.getElem?_setIfInBounds_ne (fun e => hx (by rw [← e]; exact hb))⟩
theorem Fr.setCell {X : Nat → Prop} {w w' : World} (h : Fr X w w') {b o : Nat} (hb : X b) (v : Value) : Fr X w (w'.setCell ⟨b, o, none⟩ v) := ⟨h.os, h.tape, h.output, by simpa using h.size, fun k hk hx => by
  rw [← h.block k hk hx]
  exact heap_setCell_other _ _ _ _ (fun e => hx (e ▸ hb))⟩
theorem Fr.setRow {X : Nat → Prop} {w w' : World} (h : Fr X w w') {b : Nat} (hb : X b) (cs : Array Value) : Fr X w (w'.setRow b cs) := ⟨h.os, h.tape, h.output, by rw [size_setRow]; exact h.size, fun k hk hx => by
  rw [← h.block k hk hx]
  exact setRow_other _ _ _ _ (fun e => hx (e ▸ hb))⟩

/-! Lists. -/
def gs (l : List Sr) (i : Nat) : Sr := l.getD i zsr
def AllOk (l : List Sr) : Prop := ∀ s ∈ l, s.ok
theorem gs_mem {l : List Sr} {i : Nat} (h : i < l.length) : gs l i ∈ l := by
  rw [gs, List.getD_eq_getElem?_getD, List.getElem?_eq_getElem h]
  exact List.getElem_mem h
theorem gs_get {l : List Sr} {i : Nat} (h : i < l.length) : l[i]? = some (gs l i) := by
  rw [gs, List.getD_eq_getElem?_getD, List.getElem?_eq_getElem h]; rfl
theorem AllOk.at {l : List Sr} (h : AllOk l) {i : Nat} (hi : i < l.length) : (gs l i).ok := h _ (gs_mem hi)
theorem take_snocS (l : List Sr) (k : Nat) (h : k < l.length) : l.take (k + 1) = l.take k ++ [gs l k] := by
  rw [List.take_succ_eq_append_getElem h, gs, List.getD_eq_getElem?_getD, List.getElem?_eq_getElem h]; rfl
theorem AllOk.take {l : List Sr} (h : AllOk l) (k : Nat) : AllOk (l.take k) := fun s hs => h s (List.mem_of_mem_take hs)
theorem AllOk.app {l r : List Sr} (h : AllOk l) (k : AllOk r) : AllOk (l ++ r) := fun s hs => by
  rcases List.mem_append.1 hs with q | q
  · exact h s q
  · exact k s q
theorem AllOk.one {s : Sr} (h : s.ok) : AllOk [s] := fun x hx => by
  rw [List.mem_singleton] at hx
  rw [hx]; exact h
theorem AllOk.nil : AllOk [] := fun s hs => by cases hs
/-- Their cells, one behind the other. -/
def sps (l : List Sr) : List Value := l.flatMap srl
def lbl (s : Sr) : List Value := (chc s.h s.n).toList
def lbs (l : List Sr) : List Value := l.flatMap lbl
theorem lbl_len {s : Sr} (h : s.ok) : (lbl s).length = 33 := by rw [lbl, Array.length_toList, chc_size s.h h.1]
theorem flat_len {f : Sr → List Value} {n : Nat} : ∀ (l : List Sr), (∀ s ∈ l, (f s).length = n) → (l.flatMap f).length = l.length * n
  | [], _ => by simp
  | s :: r, h => by
    rw [List.flatMap_cons, List.length_append, flat_len r (fun x hx => h x (by simp [hx])), h s (by simp), List.length_cons, Nat.add_mul]
    omega
theorem flat_at {f : Sr → List Value} {n : Nat} : ∀ (l : List Sr), (∀ s ∈ l, (f s).length = n) → ∀ i j, i < l.length → j < n → (l.flatMap f)[i * n + j]? = (f (gs l i))[j]?
  | [], _, i, _, hi, _ => by simp at hi
  | s :: r, h, 0, j, _, hj => by
    rw [List.flatMap_cons, Nat.zero_mul, Nat.zero_add, List.getElem?_append_left (by rw [h s (by simp)]; exact hj)]
    rfl
  | s :: r, h, i + 1, j, hi, hj => by
    have e := h s (by simp)
    rw [List.flatMap_cons, List.getElem?_append_right (by rw [e, Nat.add_mul]; omega)]
    have : (i + 1) * n + j - (f s).length = i * n + j := by rw [e, Nat.add_mul]; omega
    rw [this, flat_at r (fun x hx => h x (by simp [hx])) i j (by simpa using hi) hj]
    rfl
theorem sps_len {l : List Sr} (h : AllOk l) : (sps l).length = l.length * 65 := flat_len l (fun s hs => srl_len (h s hs))
theorem lbs_len {l : List Sr} (h : AllOk l) : (lbs l).length = l.length * 33 := flat_len l (fun s hs => lbl_len (h s hs))
theorem sps_app (a b : List Sr) : sps (a ++ b) = sps a ++ sps b := by simp [sps]
theorem lbs_app (a b : List Sr) : lbs (a ++ b) = lbs a ++ lbs b := by simp [lbs]
theorem sps_one (s : Sr) : sps [s] = srl s := by simp [sps]
theorem lbs_one (s : Sr) : lbs [s] = lbl s := by simp [lbs]
theorem sps_ones (l : List Sr) : ∀ u ∈ sps l, u.oneCell' = true := by
  intro u hu
  obtain ⟨s, _, h⟩ := List.mem_flatMap.1 hu
  exact srl_one s u h
theorem lbl_one (s : Sr) : ∀ u ∈ lbl s, u.oneCell' = true := fun u hu => (Array.all_eq_true_iff_forall_mem.1 (chc_one s.h s.n)) u (by simpa [lbl] using hu)
theorem lbs_ones (l : List Sr) : ∀ u ∈ lbs l, u.oneCell' = true := by
  intro u hu
  obtain ⟨s, _, h⟩ := List.mem_flatMap.1 hu
  exact lbl_one s u h
/-- A part of a row, from a place on. -/
theorem range_own {W : World} {base g cap : Nat} {T : TypeId} {n k m : Nat} {xs ys : List Value} (h : W.ownsRow base T n (.slice (some ⟨g, 0, none⟩) m cap) m xs) (hk : ∀ j x, ys[j]? = some x → xs[k + j]? = some x) : W.rangeAt g k ys := by
  intro j x hx
  have := h.cells (g := g) rfl (k + j) x (hk j x hx)
  rw [addr_add, Nat.zero_add] at this
  exact this
theorem flat_mem {f : Sr → List Value} {n : Nat} {l : List Sr} (h : ∀ s ∈ l, (f s).length = n) {i : Nat} (hi : i < l.length) : ∀ j x, (f (gs l i))[j]? = some x → (l.flatMap f)[i * n + j]? = some x := by
  intro j x hx
  have hj : j < n := by have := (List.getElem?_eq_some_iff.1 hx).1; rw [h _ (gs_mem hi)] at this; exact this
  rw [flat_at l h i j hi hj]
  exact hx
/-- Spares handed in. -/
def SpL (W : World) (v : Value) (l : List Sr) : Prop := ∃ ao cap, v = .slice ao l.length cap ∧ l.length ≤ 2069668946341 ∧ l.length ≤ cap ∧ (ao = none → cap = 0) ∧ AllOk l ∧ ∀ i, i < l.length → ∃ b off, ao = some ⟨b, off, none⟩ ∧ b < W.heap.size ∧ W.rangeAt b (off + i * 65) (srl (gs l i))
theorem rangeAt_keep {W V : World} {b o : Nat} {cs : List Value} (h : W.rangeAt b o cs) (hb : V.heap[b]? = W.heap[b]?) : V.rangeAt b o cs := by
  intro j x hx
  have := h j x hx
  simp only [World.cell?] at this ⊢
  rw [hb]
  exact this
theorem SpL.keepN {W V : World} {v : Value} {l : List Sr} (h : SpL W v l) (hs : W.heap.size ≤ V.heap.size) (hb : ∀ b off, v = .slice (some ⟨b, off, none⟩) l.length (match v with | .slice _ _ c => c | _ => 0) → b < W.heap.size → V.heap[b]? = W.heap[b]?) : SpL V v l := by
  obtain ⟨ao, cap, rfl, h1, h2, h3, h4, h5⟩ := h
  refine ⟨ao, cap, rfl, h1, h2, h3, h4, fun i hi => ?_⟩
  obtain ⟨b, off, rfl, hb1, hr⟩ := h5 i hi
  exact ⟨b, off, rfl, by omega, rangeAt_keep hr (hb b off rfl hb1)⟩
theorem SpL.keep {W V : World} {v : Value} {l : List Sr} (h : SpL W v l) (hb : Below W.heap.size W V) : SpL V v l := h.keepN hb.size (fun b _ _ h1 => hb.block b h1)
theorem SpL.form {W : World} {v : Value} {l : List Sr} (h : SpL W v l) : ∃ ao cap, v = .slice ao l.length cap := by
  obtain ⟨ao, cap, e, _⟩ := h
  exact ⟨ao, cap, e⟩
theorem SpL.len {W : World} {v : Value} {l : List Sr} (h : SpL W v l) : l.length ≤ 2069668946341 := by
  obtain ⟨_, _, _, h, _⟩ := h
  exact h
theorem SpL.ok {W : World} {v : Value} {l : List Sr} (h : SpL W v l) : AllOk l := by
  obtain ⟨_, _, _, _, _, _, h, _⟩ := h
  exact h
theorem SpL.at {W : World} {ao : Option Addr} {k cap : Nat} {l : List Sr} (h : SpL W (.slice ao k cap) l) {i : Nat} (hi : i < l.length) : ∃ b off, ao = some ⟨b, off, none⟩ ∧ b < W.heap.size ∧ W.rangeAt b (off + i * 65) (srl (gs l i)) := by
  obtain ⟨ao', cap', e, _, _, _, _, hc⟩ := h
  cases e
  exact hc i hi
/-- Spares in a row of one's own. -/
def OwnS (W : World) (base : Nat) (v : Value) (l : List Sr) : Prop := W.ownsRow base 52 65 v l.length (sps l) ∧ AllOk l
theorem own_move {W W' : World} {b : Nat} {T : TypeId} {z n : Nat} {v : Value} {xs : List Value} (h : W.ownsRow b T z v n xs) (hm : ∀ g, v.ownBlock = some g → W'.heap[g]? = W.heap[g]?) : W'.ownsRow b T z v n xs := by
  obtain ⟨h1, h2⟩ := h
  refine ⟨h1, ?_⟩
  rcases h2 with h2 | ⟨g, cap, cur, rfl, hb, hg, rest⟩
  · exact .inl h2
  · exact .inr ⟨g, cap, cur, rfl, hb, (hm g rfl).trans hg, rest⟩
theorem own_keep {W W' : World} {b : Nat} {T : TypeId} {z n : Nat} {v : Value} {xs : List Value} (h : W.ownsRow b T z v n xs) (hb : Below W.heap.size W W') : W'.ownsRow b T z v n xs := own_move h (fun g e => hb.block g (h.lt g e).2)
theorem own_down {W : World} {b c : Nat} {T : TypeId} {z n : Nat} {v : Value} {xs : List Value} (h : W.ownsRow b T z v n xs) (hc : c ≤ b) : W.ownsRow c T z v n xs := by
  obtain ⟨h1, h2⟩ := h
  refine ⟨h1, ?_⟩
  rcases h2 with h2 | ⟨g, cap, cur, rfl, hb, rest⟩
  · exact .inl h2
  · exact .inr ⟨g, cap, cur, rfl, by omega, rest⟩
theorem slen_own {W : World} {b : Nat} {T : TypeId} {sz : Nat} {v : Value} {n : Nat} {xs : List Value} (h : W.ownsRow b T sz v n xs) : ∃ ao cap, v = .slice ao n cap := by
  obtain ⟨_, ⟨rfl, rfl⟩ | ⟨g, cap, cur, rfl, _⟩⟩ := h
  · exact ⟨_, _, rfl⟩
  · exact ⟨_, _, rfl⟩
theorem OwnS.keep {W V : World} {b : Nat} {v : Value} {l : List Sr} (h : OwnS W b v l) (hb : Below W.heap.size W V) : OwnS V b v l := ⟨own_keep h.1 hb, h.2⟩
theorem OwnS.spl {W : World} {b : Nat} {v : Value} {l : List Sr} (h : OwnS W b v l) (hl : l.length ≤ 2069668946341) : SpL W v l := by
  obtain ⟨h1, h2⟩ := h
  have h0 := h1
  obtain ⟨_, ⟨rfl, h3⟩ | ⟨g, cap, cur, rfl, hb, hg, hn, hm, hs, ht⟩⟩ := h0
  · exact ⟨none, 0, by rw [h3], hl, by omega, fun _ => rfl, h2, fun i hi => by omega⟩
  · refine ⟨_, cap, rfl, hl, hn, (fun e => by cases e), h2, fun i hi => ⟨g, 0, rfl, lt_of_row hg, ?_⟩⟩
    rw [Nat.zero_add]
    exact range_own h1 (flat_mem (fun s hs => srl_len (h2 s hs)) hi)
theorem own_nilS (W : World) (b : Nat) : OwnS W b (.slice none 0 0) [] := ⟨⟨rfl, .inl ⟨rfl, rfl⟩⟩, AllOk.nil⟩
theorem own_empS (W : World) : OwnS (W.alloc (.cells #[] 52)) W.heap.size (.slice (some ⟨W.heap.size, 0, none⟩) 0 0) [] := ⟨⟨rfl, .inr ⟨W.heap.size, 0, #[], rfl, Nat.le_refl _, hp1_0 _ _, Nat.le_refl _, by decide, rfl, rfl⟩⟩, AllOk.nil⟩

/-! Stores. -/
/-- The blocks of a store. -/
def own3 (g b : Nat) (v : Value) (k : Nat) : Prop := k = g ∨ k = b ∨ v.ownBlock = some k
def ents (l : List Sr) : List (Lb × Value) := l.map fun s => (s.lb, .agg (irow .u8 s.m))
structure Sto (W : World) (base g b : Nat) (v : Value) (most : Int) (l : List Sr) : Prop where
  row : W.heap[g]? = some (.cells #[.int .i64 most, v, .map (some b)] 63 (0, 0))
  own : W.ownsRow base 77 33 v l.length (lbs l)
  map : MapIs W b lenc (ents l)
  ok : AllOk l
  nod : (l.map Sr.lb).Nodup
  most0 : 0 ≤ most ∧ most ≤ 2000
  len : (l.length : Int) ≤ most
  bg : base ≤ g
  bb : base ≤ b
  ne : v.ownBlock ≠ some g
theorem ents_ok {l : List Sr} (h : AllOk l) : ∀ y ∈ ents l, lok y.1 := by
  intro y hy
  obtain ⟨s, hs, rfl⟩ := List.mem_map.1 hy
  exact (h s hs).1
theorem ents_keys (l : List Sr) : (ents l).map (·.1) = l.map Sr.lb := by
  rw [ents, List.map_map]; rfl
theorem ents_vals (l : List Sr) : (ents l).map (·.2) = l.map (fun s => Value.agg (irow .u8 s.m)) := by
  rw [ents, List.map_map]; rfl
theorem Sto.mapb {W : World} {base g b : Nat} {v : Value} {most : Int} {l : List Sr} (h : Sto W base g b v most l) : b ≠ g ∧ v.ownBlock ≠ some b := by
  obtain ⟨es, c, h1, _⟩ := h.map
  refine ⟨fun e => ?_, fun e => ?_⟩
  · subst e
    have := h.row
    rw [h1] at this
    cases this
  · rcases h.own.2 with ⟨rfl, _⟩ | ⟨g1, cap, cur, rfl, hb, hg, _⟩
    · cases e
    · cases e
      rw [h1] at hg
      cases hg
theorem Sto.low {W : World} {base g b : Nat} {v : Value} {most : Int} {l : List Sr} (h : Sto W base g b v most l) : ∀ k, own3 g b v k → base ≤ k ∧ k < W.heap.size := by
  rintro k (rfl | rfl | e)
  · exact ⟨h.bg, lt_of_row h.row⟩
  · exact ⟨h.bb, h.map.lt⟩
  · exact h.own.lt k e
theorem Sto.move {W V : World} {base g b : Nat} {v : Value} {most : Int} {l : List Sr} (h : Sto W base g b v most l) (hm : ∀ k, own3 g b v k → V.heap[k]? = W.heap[k]?) : Sto V base g b v most l :=
  ⟨(hm g (.inl rfl)).trans h.row, own_move h.own (fun k e => hm k (.inr (.inr e))), h.map.row (fun _ ho => (hm b (.inr (.inl rfl))).trans ho), h.ok, h.nod, h.most0, h.len, h.bg, h.bb, h.ne⟩
theorem Sto.keep {W V : World} {base g b : Nat} {v : Value} {most : Int} {l : List Sr} (h : Sto W base g b v most l) (hb : Below W.heap.size W V) : Sto V base g b v most l := h.move (fun k e => hb.block k (h.low k e).2)
theorem Sto.below {W V : World} {base g b : Nat} {v : Value} {most : Int} {l : List Sr} (h : Sto W base g b v most l) (hf : Fr (own3 g b v) W V) (hbs : base ≤ W.heap.size) : Below base W V := hf.below (fun k e => (h.low k e).1) hbs
end Go.Proofs.YtjofbnilhkmpeaaDoor
