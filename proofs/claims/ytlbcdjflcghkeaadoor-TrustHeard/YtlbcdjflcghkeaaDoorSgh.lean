import Derived.Test.YtlbcdjflcghkeaaDoorProg
import Derived.WalkKit
import Derived.WalkSpells
import Derived.WalkLawsBesides
import Derived.Lib.QuietBelow
import Derived.BigQuiet
import Derived.Test.YtlbcdjflcghkeaaDoorKa
import Derived.Test.YtlbcdjflcghkeaaDoorKim
import Derived.ChangeKeysEq
import Derived.Laws.StructEq
import Derived.Deep.OwnRows
import Derived.Laws.CopyOwn
import Derived.OwnWalk
namespace Go.Proofs.YtlbcdjflcghkeaaDoor
set_option maxRecDepth 100000
open Go Go.RowKit Go.Sort

/-! Two arrays of integers, held against each other. -/
section
variable {P : Program}

theorem run_part_int {e : TypeId} {k : IntKind} {i0 : TypeInfo} (w : World) (hu : P.underlying e = some (.int k)) (_hi : P.info? e = some i0) (l : List Int) (i : Nat) (h : i < l.length) :
    (part e (l.map (Value.int k)).toArray i).run P w = .ok (.int k l[i]) w := by
  have hagg : (isAgg e).run P w = .ok false w := by
    unfold isAgg
    rw [Sem.run_bind, run_underlying hu w]
    rfl
  simp [part, Sem.run_bind, hagg, h]

theorem run_eqItems_int {e : TypeId} {k : IntKind} {i0 : TypeInfo} (d : Nat) (w : World) (hu : P.underlying e = some (.int k)) (hi : P.info? e = some i0) (l l' : List Int) : ∀ (is : List Nat), (∀ i ∈ is, i < l.length ∧ i < l'.length) →
    (Op.eqItems (d + 1) e 1 (l.map (Value.int k)).toArray (l'.map (Value.int k)).toArray is).run P w = .ok (is.all fun i => l.getD i 0 == l'.getD i 0) w
  | [], _ => by simp [Op.eqItems]
  | i :: is, h => by
    have h1 := h i (by simp)
    have h2 := run_eqItems_int d w hu hi l l' is (fun j hj => h j (by simp [hj]))
    have e1 : l.getD i 0 = l[i]'h1.1 := by simp [h1.1]
    have e2 : l'.getD i 0 = l'[i]'h1.2 := by simp [h1.2]
    simp only [Op.eqItems, Sem.run_bind, Nat.mul_one, run_part_int w hu hi l i h1.1, run_part_int w hu hi l' i h1.2, Result.andThen_ok, run_equalIn_int w d e k k _ _ hu, List.all_cons, e1, e2]
    cases hb : (l[i]'h1.1 == l'[i]'h1.2)
    · simp
    · simpa using h2

theorem run_equal_ints {t e : TypeId} {k : IntKind} {i0 : TypeInfo} {n : Nat} (w : World) (ht : P.underlying t = some (.array n e)) (hu : P.underlying e = some (.int k)) (hi : P.info? e = some i0) (hc : P.cellsOf e = 1)
    (l l' : List Int) (hl : l.length = n) (hl' : l'.length = n) :
    (Op.equalIn 10000 t (.agg (l.map (Value.int k)).toArray) (.agg (l'.map (Value.int k)).toArray)).run P w = .ok (decide (l = l')) w := by
  rw [run_equalIn_array w 9999 _ _ ht hi, hc, run_eqItems_int 9998 w hu hi l l' (List.range n) (fun i h => by simp at h; omega)]
  congr 1
  rw [Bool.eq_iff_iff]
  simp only [List.all_eq_true, List.mem_range, beq_iff_eq, decide_eq_true_eq]
  constructor
  · intro h
    apply List.ext_getElem (by omega)
    intro i h1 h2
    have := h i (by omega)
    simpa [h1, h2] using this
  · rintro rfl i _
    rfl

end

/-! Calls by contract; what stays. -/
/-- In whatever world it is called, a function answers v and leaves what was there. -/
def Gives (f : FuncId) (args : Array Value) (v : Value) : Prop := ∀ W, Calls Tryd.prog f args W fun e w' => e = .returned v ∧ Below W.heap.size W w'
theorem Gives.at {f : FuncId} {args : Array Value} {v : Value} (h : Gives f args v) (W : World) : Calls Tryd.prog f args W fun e w' => e = .returned v ∧ Below W.heap.size W w' := h W
theorem Gives.re {f : FuncId} {args : Array Value} {v : Value} (h : Gives f args v) {w : World} {d : Nat} {os : Array Obj} : Calls Tryd.prog f args (grow (redrawn w d) os) fun e w'' => e = .returned v ∧ ∃ p : Regrown, w'' = grow (redrawn w p.d) p.os := Calls.regrown_of (h _)
theorem hide {p : Prop} (h : p) : Hid p := h
theorem Hid.out {p : Prop} (h : Hid p) : p := h
theorem keep {w W : World} (hb : Below w.heap.size w W) {g : Nat} {o : Obj} (h : w.heap[g]? = some o) : W.heap[g]? = some o :=
  (hb.block _ (Array.getElem?_eq_some_iff.1 h).1).trans h
theorem keepr {w : World} {g : Nat} {o : Obj} (h : w.heap[g]? = some o) : Hid (∀ W, (∃ p : Regrown, W = grow (redrawn w p.d) p.os) → W.heap[g]? = some o) := by
  rintro _ ⟨p, rfl⟩; exact keep (below_regrown w p.d p.os) h
theorem lt_of_row {w : World} {g : Nat} {o : Obj} (h : w.heap[g]? = some o) : g < w.heap.size := (Array.getElem?_eq_some_iff.1 h).1
theorem Below.after {w w1 w2 : World} (h : Below w.heap.size w w1) (hb : Below w1.heap.size w1 w2) : Below w.heap.size w w2 := h.trans (hb.mono h.size)
/-- A whole row read in an ordered region, under a guard that says yes. -/
theorem wpList_load_want {P : Program} {ops : Array Oper} {rest : List Oper} {o : Oper} {a : Act} {w : World} {Q : Exit → Act → World → Prop} (hw : Region.wanted o (yielded ops a.tmps) = true) (ty : TypeId) (x : Operand) (ho : o.op = .load ty x)
    (g : Nat) (hx : a.eval x = .pointer (some ⟨g, 0, none⟩)) (t : TypeId) (cs : Array Value) (fr : Nat × Nat) (d : TypeDesc) (hg : w.heap[g]? = some (.cells cs t fr))
    (hu : P.underlying ty = some d) (hd : (match d with | .struct _ | .array _ _ => true | _ => false) = true) (hi : (P.info? ty).map (·.size) = some cs.size)
    (h : wpList P ops Q rest (a.put o.dst (.agg cs)) w) : wpList P ops Q (o :: rest) a w :=
  BigFrame.wpList_want hw fun _ hK => wp_load_row ty x ho g hx t cs fr d hg hu hd hi (hK _ _ h)
/-- A block laid, its zeros by their name. -/
theorem wpList_alloc {P : Program} {ops : Array Oper} {rest : List Oper} {o : Oper} {a : Act} {w : World} {Q : Exit → Act → World → Prop} (hw : Region.wanted o (yielded ops a.tmps) = true) (ty : TypeId) (ho : o.op = .alloc ty) (cs : Array Value)
    (hz : ∀ W, (Instr.alloc ty true (.tuple #[])).run P W = .ok (.pointer (some ⟨W.heap.size, 0, none⟩)) (W.alloc (.cells cs ty)))
    (h : wpList P ops Q rest (a.put o.dst (.pointer (some ⟨w.heap.size, 0, none⟩))) (w.alloc (.cells cs ty))) : wpList P ops Q (o :: rest) a w := by
  refine BigFrame.wpList_want hw fun _ hK => wp_world_op _ _ ?_ (hK _ _ h)
  unfold execOp
  simp only [ho, Sem.run_bind, Sem.run_pure, hz, Result.andThen_ok]
/-- A parameter laid into a block of its own. -/
theorem wpList_box {P : Program} {ops : Array Oper} {rest : List Oper} {o : Oper} {a : Act} {w : World} {Q : Exit → Act → World → Prop} (hw : Region.wanted o (yielded ops a.tmps) = true) (ty : TypeId) (x : Operand) (ho : o.op = .box ty x) (cs : Array Value) (hx : a.eval x = .agg cs)
    (hz : ∀ W, (Instr.box ty (.agg cs)).run P W = .ok (.pointer (some ⟨W.heap.size, 0, none⟩)) (W.alloc (.cells cs ty)))
    (h : wpList P ops Q rest (a.put o.dst (.pointer (some ⟨w.heap.size, 0, none⟩))) (w.alloc (.cells cs ty))) : wpList P ops Q (o :: rest) a w := by
  refine BigFrame.wpList_want hw fun _ hK => wp_world_op _ _ ?_ (hK _ _ h)
  unfold execOp
  simp only [ho, hx, Sem.run_bind, Sem.run_pure, hz, Result.andThen_ok]
theorem size_alloc1 (w : World) (o : Obj) : (w.alloc o).heap.size = w.heap.size + 1 := Array.size_push ..
theorem addr_add (b off j : Nat) : (⟨b, off, none⟩ : Addr).add j = ⟨b, off + j, none⟩ := by
  unfold Addr.add
  split
  · rename_i h; rw [h]; rfl
  · rfl

/-! Rows of integers. -/
def irow (k : IntKind) (l : List Int) : Array Value := (l.map (Value.int k)).toArray
theorem irow_size (k : IntKind) (l : List Int) : (irow k l).size = l.length := by simp [irow]
theorem irow_one (k : IntKind) (l : List Int) : (irow k l).all (·.oneCell') = true := by
  simp only [irow, List.all_toArray, List.all_map, List.all_eq_true]
  intro x _; rfl
theorem irow_get (k : IntKind) (l : List Int) (j : Nat) (hj : j < l.length) : (irow k l)[j]? = some (.int k (l.getD j 0)) := by
  simp [irow, List.getElem?_eq_getElem hj, List.getD_eq_getElem?_getD]
theorem irow_cell {W : World} {g : Nat} {k : IntKind} {l : List Int} {t : TypeId} (hg : W.heap[g]? = some (.cells (irow k l) t (0, 0))) {j : Nat} (hj : j < l.length) : W.cell? ⟨g, j, none⟩ = some (.int k (l.getD j 0)) := by
  simp only [World.cell?, hg]
  simpa using irow_get k l j hj
theorem row_frozen {W : World} {g : Nat} {cs : Array Value} {t : TypeId} (hg : W.heap[g]? = some (.cells cs t (0, 0))) (j : Nat) : W.frozen? ⟨g, j, none⟩ = false := by
  simp [World.frozen?, hg]
theorem irow_set {W : World} {g : Nat} {k : IntKind} {l : List Int} {t : TypeId} (hg : W.heap[g]? = some (.cells (irow k l) t (0, 0))) (j : Nat) (z : Int) : (W.setCell ⟨g, j, none⟩ (.int k z)).heap[g]? = some (.cells (irow k (l.set j z)) t (0, 0)) := by
  rw [heap_setCell_same W g j _ t _ hg]
  simp [irow, List.map_set]
theorem heap_other {W : World} {g g' j : Nat} {v : Value} {o : Obj} (h : W.heap[g']? = some o) (hne : g' ≠ g) : (W.setCell ⟨g, j, none⟩ v).heap[g']? = some o := by
  rw [← h]
  exact heap_setCell_other W ⟨g, j, none⟩ g' v hne
theorem ints_one (k : IntKind) (l : List Int) : ∀ u ∈ l.map (Value.int k), u.oneCell' = true := by
  intro u hu
  obtain ⟨z, _, rfl⟩ := List.mem_map.1 hu
  rfl
/-- Zeros. -/
def zr (k : Nat) : List Int := List.replicate k 0
theorem zr_len (k : Nat) : (zr k).length = k := by simp [zr]

/-! Blocks of zeros, by their types. -/
theorem z57 (W : World) : (Instr.alloc 126 true (.tuple #[])).run Tryd.prog W = .ok (.pointer (some ⟨W.heap.size, 0, none⟩)) (W.alloc (.cells (irow .u32 (zr 64)) 126)) := by kernel_rfl
theorem z23 (W : World) : (Instr.alloc 112 true (.tuple #[])).run Tryd.prog W = .ok (.pointer (some ⟨W.heap.size, 0, none⟩)) (W.alloc (.cells (irow .u32 (zr 8)) 112)) := by kernel_rfl
theorem z24 (W : World) : (Instr.alloc 113 true (.tuple #[])).run Tryd.prog W = .ok (.pointer (some ⟨W.heap.size, 0, none⟩)) (W.alloc (.cells (irow .u8 (zr 64)) 113)) := by kernel_rfl
theorem zkey (W : World) : (Instr.alloc 23 true (.tuple #[])).run Tryd.prog W = .ok (.pointer (some ⟨W.heap.size, 0, none⟩)) (W.alloc (.cells (irow .u8 (zr 32)) 23)) := by kernel_rfl
theorem b23 (cs : Array Value) (W : World) : (Instr.box 112 (.agg cs)).run Tryd.prog W = .ok (.pointer (some ⟨W.heap.size, 0, none⟩)) (W.alloc (.cells cs 112)) := by kernel_rfl
theorem b24 (cs : Array Value) (W : World) : (Instr.box 113 (.agg cs)).run Tryd.prog W = .ok (.pointer (some ⟨W.heap.size, 0, none⟩)) (W.alloc (.cells cs 113)) := by kernel_rfl
theorem b57 (cs : Array Value) (W : World) : (Instr.box 126 (.agg cs)).run Tryd.prog W = .ok (.pointer (some ⟨W.heap.size, 0, none⟩)) (W.alloc (.cells cs 126)) := by kernel_rfl
/-- What a slice of bytes says in a world. -/
def Bys (W : World) (v : Value) (bs : List Int) : Prop := ∃ ao cap, v = .slice ao bs.length cap ∧ bs.length ≤ 9223372036854775807 ∧ (∀ j, j < bs.length → ∃ b off, ao = some ⟨b, off, none⟩ ∧ b < W.heap.size ∧ W.cell? ⟨b, off + j, none⟩ = some (.int .u8 (bs.getD j 0))) ∧ (∀ z ∈ bs, 0 ≤ z ∧ z < 256)
theorem Bys.keep {W W' : World} {v : Value} {bs : List Int} (h : Bys W v bs) (hb : Below W.heap.size W W') : Bys W' v bs := by
  obtain ⟨ao, cap, e, hl, hc, hz⟩ := h
  refine ⟨ao, cap, e, hl, fun j hj => ?_, hz⟩
  obtain ⟨b, off, e1, h1, h2⟩ := hc j hj
  exact ⟨b, off, e1, Nat.lt_of_lt_of_le h1 hb.size, (hb.cell h1).trans h2⟩
theorem Bys.of_row {W : World} {g : Nat} {l : List Int} {t : TypeId} (hg : W.heap[g]? = some (.cells (irow .u8 l) t (0, 0))) (hl : l.length ≤ 9223372036854775807) (hz : ∀ z ∈ l, 0 ≤ z ∧ z < 256) (cap : Nat) : Bys W (.slice (some ⟨g, 0, none⟩) l.length cap) l := by
  refine ⟨_, cap, rfl, hl, fun j hj => ⟨g, 0, rfl, lt_of_row hg, ?_⟩, hz⟩
  rw [Nat.zero_add]
  exact irow_cell hg hj
end Go.Proofs.YtlbcdjflcghkeaaDoor

namespace Go.Proofs.YtlbcdjflcghkeaaDoor
set_option maxRecDepth 100000
open Go Go.RowKit Go.Sort
attribute [local go_sem] setCell_drewN alloc_drewN

/-! What a block comes to, on lists of numbers. -/
/-- x turned to the right. -/
def rot (x : Int) (n : Nat) : Int := bits .or .u32 (x / 2 ^ n) (x * 2 ^ (32 - n) % 4294967296)
def lo0 (x : Int) : Int := bits .xor .u32 (bits .xor .u32 (rot x 7) (rot x 18)) (x / 8)
def lo1 (x : Int) : Int := bits .xor .u32 (bits .xor .u32 (rot x 17) (rot x 19)) (x / 1024)
def up0 (x : Int) : Int := bits .xor .u32 (bits .xor .u32 (rot x 2) (rot x 13)) (rot x 22)
def up1 (x : Int) : Int := bits .xor .u32 (bits .xor .u32 (rot x 6) (rot x 11)) (rot x 25)
theorem or_comm (x y : Int) : bits .or .u32 x y = bits .or .u32 y x := by
  unfold bits
  simp only [BitVec.or_comm]
theorem and31 : ∀ n : Nat, n < 32 → 0 < n → bits .and .u64 ((-(n : Int)) % 18446744073709551616) 31 = ((32 - n : Nat) : Int) := by decide +kernel
theorem shr_rot (m n : Nat) (h : m + n = 32) (x : Int) : bits .or .u32 (x * 2 ^ m % 4294967296) (x / 2 ^ n) = rot x n := by
  rw [or_comm, rot, show 32 - n = m by omega]
set_option maxHeartbeats 1000000 in
theorem a_rotate (x : Int) (n : Nat) (h0 : 0 < n) (h1 : n < 32) : Gives 95 #[.int .u32 x, .int .i64 (-(n : Int))] (.int .u32 (rot x n)) := by
  intro w
  have ha : bits .and .u64 (IntKind.u64.wrap (-(n : Int))) 31 = ((32 - n : Nat) : Int) := by rw [IntKind.wrap_u64]; exact and31 n h1 h0
  have hn : 32 - n < 32 := by omega
  have hm : (32 - n) + n = 32 := by omega
  generalize 32 - n = m at *
  go_enter Tryd.func95, Tryd.ntmps95
  go_wp2_with (simp only [ha])
  go_ret
  refine ⟨?_, Below.refl _ _⟩
  rw [← shr_rot m n hm, show 32 - m = n by omega]
  rfl
set_option maxHeartbeats 1000000 in
theorem a_right (x : Int) (n : Nat) (h0 : 0 < n) (h1 : n < 32) : Gives 87 #[.int .u32 x, .int .i64 (n : Int)] (.int .u32 (rot x n)) := by
  intro w
  have hc := a_rotate x n h0 h1
  generalize rot x n = r at *
  go_enter Tryd.func87, Tryd.ntmps87
  go_wp2_with (fail)
  refine (hc.at _).mono ?_
  rintro e w1 ⟨rfl, hb⟩
  go_wp2
  go_ret
  exact ⟨rfl, hb⟩
end Go.Proofs.YtlbcdjflcghkeaaDoor
