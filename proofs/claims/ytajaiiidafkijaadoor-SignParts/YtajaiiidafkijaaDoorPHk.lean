import Derived.Test.YtajaiiidafkijaaDoorProg
import Derived.WalkKit
import Derived.WalkSpells
import Derived.WalkLawsBesides
import Derived.Lib.QuietBelow
import Derived.BigQuiet
import Derived.Test.YtajaiiidafkijaaDoorPKa
import Derived.Test.YtajaiiidafkijaaDoorPEc
import Derived.Test.YtajaiiidafkijaaDoorPDsi
import Derived.ChangeKeysEq
import Derived.Laws.StructEq
import Derived.Deep.OwnRows
import Derived.Laws.CopyOwn
import Derived.OwnWalk
import Derived.Laws.Bits64b
namespace Go.Proofs.YtajaiiidafkijaaDoor.Wi
open Go Go.RowKit Go.Sort
/-! Two arrays of integers, held against each other. -/
section
variable {P : Program}
theorem run_part_int {e : TypeId} {k : IntKind} {i0 : TypeInfo} (w : World) (hu : P.underlying e = some (.int k)) (_hi : P.info? e = some i0) (l : List Int) (i : Nat) (h : i < l.length) :
 (part e (l.map (Value.int k)).toArray i).run P w = .ok (.int k l[i]) w := by
 have hagg : (isAgg e).run P w = .ok false w := by
  unfold isAgg
  rw [Sem.run_bind, run_underlying hu w]
  rfl
 simp [part, Sem.run_bind, hagg, h]
theorem run_eqItems_int {e : TypeId} {k : IntKind} {i0 : TypeInfo} (d : Nat) (w : World) (hu : P.underlying e = some (.int k)) (hi : P.info? e = some i0) (l l' : List Int) : ∀ (is : List Nat), (∀ i ∈ is, i < l.length ∧ i < l'.length) →
 (Op.eqItems (d + 1) e 1 (l.map (Value.int k)).toArray (l'.map (Value.int k)).toArray is).run P w = .ok (is.all fun i => l.getD i 0 == l'.getD i 0) w
 | [], _ => by simp [Op.eqItems]
 | i :: is, h => by
  have h1 := h i (by simp)
  have h2 := run_eqItems_int d w hu hi l l' is (fun j hj => h j (by simp [hj]))
  have e1 : l.getD i 0 = l[i]'h1.1 := by simp [h1.1]
  have e2 : l'.getD i 0 = l'[i]'h1.2 := by simp [h1.2]
  simp only [Op.eqItems, Sem.run_bind, Nat.mul_one, run_part_int w hu hi l i h1.1, run_part_int w hu hi l' i h1.2, Result.andThen_ok, run_equalIn_int w d e k k _ _ hu, List.all_cons, e1, e2]
  cases hb : (l[i]'h1.1 == l'[i]'h1.2)
  ·simp
  ·simpa using h2
theorem run_equal_ints {t e : TypeId} {k : IntKind} {i0 : TypeInfo} {n : Nat} (w : World) (ht : P.underlying t = some (.array n e)) (hu : P.underlying e = some (.int k)) (hi : P.info? e = some i0) (hc : P.cellsOf e = 1)
 (l l' : List Int) (hl : l.length = n) (hl' : l'.length = n) :
 (Op.equalIn 10000 t (.agg (l.map (Value.int k)).toArray) (.agg (l'.map (Value.int k)).toArray)).run P w = .ok (decide (l = l')) w := by
 rw [run_equalIn_array w 9999 _ _ ht hi, hc, run_eqItems_int 9998 w hu hi l l' (List.range n) (fun i h => by simp at h; omega)]
 congr 1
 rw [Bool.eq_iff_iff]
 simp only [List.all_eq_true, List.mem_range, beq_iff_eq, decide_eq_true_eq]
 constructor
 ·intro h
  apply List.ext_getElem (by omega)
  intro i h1 h2
  have := h i (by omega)
  simpa [h1, h2] using this
 ·rintro rfl i _
  rfl
end
/-! Calls by contract; what stays. -/
def Gives (f : FuncId) (args : Array Value) (v : Value) : Prop := ∀ W, Calls Tryd.prog f args W fun e w' => e = .returned v ∧ Below W.heap.size W w'
theorem Gives.at {f : FuncId} {args : Array Value} {v : Value} (h : Gives f args v) (W : World) : Calls Tryd.prog f args W fun e w' => e = .returned v ∧ Below W.heap.size W w' := h W
theorem Gives.re {f : FuncId} {args : Array Value} {v : Value} (h : Gives f args v) {w : World} {d : Nat} {os : Array Obj} : Calls Tryd.prog f args (grow (redrawn w d) os) fun e w'' => e = .returned v ∧ ∃ p : Regrown, w'' = grow (redrawn w p.d) p.os := Calls.regrown_of (h _)
theorem hide {p : Prop} (h : p) : Hid p := h
theorem Hid.out {p : Prop} (h : Hid p) : p := h
theorem keep {w W : World} (hb : Below w.heap.size w W) {g : Nat} {o : Obj} (h : w.heap[g]? = some o) : W.heap[g]? = some o :=
 (hb.block _ (Array.getElem?_eq_some_iff.1 h).1).trans h
theorem keepr {w : World} {g : Nat} {o : Obj} (h : w.heap[g]? = some o) : Hid (∀ W, (∃ p : Regrown, W = grow (redrawn w p.d) p.os) → W.heap[g]? = some o) := by
 rintro _ ⟨p, rfl⟩; exact keep (below_regrown w p.d p.os) h
theorem lt_of_row {w : World} {g : Nat} {o : Obj} (h : w.heap[g]? = some o) : g < w.heap.size := (Array.getElem?_eq_some_iff.1 h).1
theorem Below.after {w w1 w2 : World} (h : Below w.heap.size w w1) (hb : Below w1.heap.size w1 w2) : Below w.heap.size w w2 := h.trans (hb.mono h.size)
theorem wpList_load_want {P : Program} {ops : Array Oper} {rest : List Oper} {o : Oper} {a : Act} {w : World} {Q : Exit → Act → World → Prop} (hw : Region.wanted o (yielded ops a.tmps) = true) (ty : TypeId) (x : Operand) (ho : o.op = .load ty x)
 (g : Nat) (hx : a.eval x = .pointer (some ⟨g, 0, none⟩)) (t : TypeId) (cs : Array Value) (fr : Nat × Nat) (d : TypeDesc) (hg : w.heap[g]? = some (.cells cs t fr))
 (hu : P.underlying ty = some d) (hd : (match d with | .struct _ | .array _ _ => true | _ => false) = true) (hi : (P.info? ty).map (·.size) = some cs.size)
 (h : wpList P ops Q rest (a.put o.dst (.agg cs)) w) : wpList P ops Q (o :: rest) a w :=
 BigFrame.wpList_want hw fun _ hK => wp_load_row ty x ho g hx t cs fr d hg hu hd hi (hK _ _ h)
theorem wpList_alloc {P : Program} {ops : Array Oper} {rest : List Oper} {o : Oper} {a : Act} {w : World} {Q : Exit → Act → World → Prop} (hw : Region.wanted o (yielded ops a.tmps) = true) (ty : TypeId) (ho : o.op = .alloc ty) (cs : Array Value)
 (hz : ∀ W, (Instr.alloc ty true (.tuple #[])).run P W = .ok (.pointer (some ⟨W.heap.size, 0, none⟩)) (W.alloc (.cells cs ty)))
 (h : wpList P ops Q rest (a.put o.dst (.pointer (some ⟨w.heap.size, 0, none⟩))) (w.alloc (.cells cs ty))) : wpList P ops Q (o :: rest) a w := by
 refine BigFrame.wpList_want hw fun _ hK => wp_world_op _ _ ?_ (hK _ _ h)
 unfold execOp
 simp only [ho, Sem.run_bind, Sem.run_pure, hz, Result.andThen_ok]
theorem wpList_box {P : Program} {ops : Array Oper} {rest : List Oper} {o : Oper} {a : Act} {w : World} {Q : Exit → Act → World → Prop} (hw : Region.wanted o (yielded ops a.tmps) = true) (ty : TypeId) (x : Operand) (ho : o.op = .box ty x) (cs : Array Value) (hx : a.eval x = .agg cs)
 (hz : ∀ W, (Instr.box ty (.agg cs)).run P W = .ok (.pointer (some ⟨W.heap.size, 0, none⟩)) (W.alloc (.cells cs ty)))
 (h : wpList P ops Q rest (a.put o.dst (.pointer (some ⟨w.heap.size, 0, none⟩))) (w.alloc (.cells cs ty))) : wpList P ops Q (o :: rest) a w := by
 refine BigFrame.wpList_want hw fun _ hK => wp_world_op _ _ ?_ (hK _ _ h)
 unfold execOp
 simp only [ho, hx, Sem.run_bind, Sem.run_pure, hz, Result.andThen_ok]
theorem size_alloc1 (w : World) (o : Obj) : (w.alloc o).heap.size = w.heap.size + 1 := Array.size_push ..
theorem addr_add (b off j : Nat) : (⟨b, off, none⟩ : Addr).add j = ⟨b, off + j, none⟩ := by
 unfold Addr.add
 split
 ·rename_i h; rw [h]; rfl
 ·rfl
/-! Rows of integers. -/
def irow (k : IntKind) (l : List Int) : Array Value := (l.map (Value.int k)).toArray
theorem irow_size (k : IntKind) (l : List Int) : (irow k l).size = l.length := by simp [irow]
theorem irow_one (k : IntKind) (l : List Int) : (irow k l).all (·.oneCell') = true := by
 simp only [irow, List.all_toArray, List.all_map, List.all_eq_true]
 intro x _; rfl
theorem irow_get (k : IntKind) (l : List Int) (j : Nat) (hj : j < l.length) : (irow k l)[j]? = some (.int k (l.getD j 0)) := by
 simp [irow, List.getElem?_eq_getElem hj, List.getD_eq_getElem?_getD]
theorem irow_cell {W : World} {g : Nat} {k : IntKind} {l : List Int} {t : TypeId} (hg : W.heap[g]? = some (.cells (irow k l) t (0, 0))) {j : Nat} (hj : j < l.length) : W.cell? ⟨g, j, none⟩ = some (.int k (l.getD j 0)) := by
 simp only [World.cell?, hg]
 simpa using irow_get k l j hj
theorem row_frozen {W : World} {g : Nat} {cs : Array Value} {t : TypeId} (hg : W.heap[g]? = some (.cells cs t (0, 0))) (j : Nat) : W.frozen? ⟨g, j, none⟩ = false := by
 simp [World.frozen?, hg]
theorem irow_set {W : World} {g : Nat} {k : IntKind} {l : List Int} {t : TypeId} (hg : W.heap[g]? = some (.cells (irow k l) t (0, 0))) (j : Nat) (z : Int) : (W.setCell ⟨g, j, none⟩ (.int k z)).heap[g]? = some (.cells (irow k (l.set j z)) t (0, 0)) := by
 rw [heap_setCell_same W g j _ t _ hg]
 simp [irow, List.map_set]
theorem heap_other {W : World} {g g' j : Nat} {v : Value} {o : Obj} (h : W.heap[g']? = some o) (hne : g' ≠ g) : (W.setCell ⟨g, j, none⟩ v).heap[g']? = some o := by
 rw [← h]
 exact heap_setCell_other W ⟨g, j, none⟩ g' v hne
theorem ints_one (k : IntKind) (l : List Int) : ∀ u ∈ l.map (Value.int k), u.oneCell' = true := by
 intro u hu
 obtain ⟨z, _, rfl⟩ := List.mem_map.1 hu
 rfl
def zr (k : Nat) : List Int := List.replicate k 0
theorem zr_len (k : Nat) : (zr k).length = k := by simp [zr]
/-! Blocks of zeros, by their types. -/
theorem b24 (cs : Array Value) (W : World) : (Instr.box 29 (.agg cs)).run Tryd.prog W = .ok (.pointer (some ⟨W.heap.size, 0, none⟩)) (W.alloc (.cells cs 29)) := by kernel_rfl
def Bys (W : World) (v : Value) (bs : List Int) : Prop := ∃ ao cap, v = .slice ao bs.length cap ∧ bs.length ≤ 9223372036854775807 ∧ (∀ j, j < bs.length → ∃ b off, ao = some ⟨b, off, none⟩ ∧ b < W.heap.size ∧ W.cell? ⟨b, off + j, none⟩ = some (.int .u8 (bs.getD j 0))) ∧ (∀ z ∈ bs, 0 ≤ z ∧ z < 256)
theorem Bys.keep {W W' : World} {v : Value} {bs : List Int} (h : Bys W v bs) (hb : Below W.heap.size W W') : Bys W' v bs := by
 obtain ⟨ao, cap, e, hl, hc, hz⟩ := h
 refine ⟨ao, cap, e, hl, fun j hj => ?_, hz⟩
 obtain ⟨b, off, e1, h1, h2⟩ := hc j hj
 exact ⟨b, off, e1, Nat.lt_of_lt_of_le h1 hb.size, (hb.cell h1).trans h2⟩
theorem Bys.of_row {W : World} {g : Nat} {l : List Int} {t : TypeId} (hg : W.heap[g]? = some (.cells (irow .u8 l) t (0, 0))) (hl : l.length ≤ 9223372036854775807) (hz : ∀ z ∈ l, 0 ≤ z ∧ z < 256) (cap : Nat) : Bys W (.slice (some ⟨g, 0, none⟩) l.length cap) l := by
 refine ⟨_, cap, rfl, hl, fun j hj => ⟨g, 0, rfl, lt_of_row hg, ?_⟩, hz⟩
 rw [Nat.zero_add]
 exact irow_cell hg hj
end Go.Proofs.YtajaiiidafkijaaDoor.Wi
namespace Go.Proofs.YtajaiiidafkijaaDoor.Wi
open Go Go.RowKit Go.Sort
attribute [local go_sem] setCell_drewN alloc_drewN
theorem zw80 (W : World) : (Instr.alloc 168 true (.tuple #[])).run Tryd.prog W = .ok (.pointer (some ⟨W.heap.size, 0, none⟩)) (W.alloc (.cells (irow .u64 (zr 80)) 168)) := by kernel_rfl
theorem zw8 (W : World) : (Instr.alloc 135 true (.tuple #[])).run Tryd.prog W = .ok (.pointer (some ⟨W.heap.size, 0, none⟩)) (W.alloc (.cells (irow .u64 (zr 8)) 135)) := by kernel_rfl
theorem zwide (W : World) : (Instr.alloc 37 true (.tuple #[])).run Tryd.prog W = .ok (.pointer (some ⟨W.heap.size, 0, none⟩)) (W.alloc (.cells (irow .u8 (zr 64)) 37)) := by kernel_rfl
theorem bw80 (cs : Array Value) (W : World) : (Instr.box 168 (.agg cs)).run Tryd.prog W = .ok (.pointer (some ⟨W.heap.size, 0, none⟩)) (W.alloc (.cells cs 168)) := by kernel_rfl
theorem bw8 (cs : Array Value) (W : World) : (Instr.box 135 (.agg cs)).run Tryd.prog W = .ok (.pointer (some ⟨W.heap.size, 0, none⟩)) (W.alloc (.cells cs 135)) := by kernel_rfl
theorem bp128 (cs : Array Value) (W : World) : (Instr.box 137 (.agg cs)).run Tryd.prog W = .ok (.pointer (some ⟨W.heap.size, 0, none⟩)) (W.alloc (.cells cs 137)) := by kernel_rfl
/-! What a block comes to, on lists of numbers. -/
def rot (x : Int) (n : Nat) : Int := bits .or .u64 (x / 2 ^ n) (x * 2 ^ (64 - n) % 18446744073709551616)
def lo0 (x : Int) : Int := bits .xor .u64 (bits .xor .u64 (rot x 1) (rot x 8)) (x / 128)
def lo1 (x : Int) : Int := bits .xor .u64 (bits .xor .u64 (rot x 19) (rot x 61)) (x / 64)
def up0 (x : Int) : Int := bits .xor .u64 (bits .xor .u64 (rot x 28) (rot x 34)) (rot x 39)
def up1 (x : Int) : Int := bits .xor .u64 (bits .xor .u64 (rot x 14) (rot x 18)) (rot x 41)
theorem or_comm (x y : Int) : bits .or .u64 x y = bits .or .u64 y x := by
 unfold bits
 simp only [BitVec.or_comm]
theorem and63 : ∀ n : Nat, n < 64 → 0 < n → bits .and .u64 ((-(n : Int)) % 18446744073709551616) 63 = ((64 - n : Nat) : Int) := by decide +kernel
theorem shr_rot (m n : Nat) (h : m + n = 64) (x : Int) : bits .or .u64 (x * 2 ^ m % 18446744073709551616) (x / 2 ^ n) = rot x n := by
 rw [or_comm, rot, show 64 - n = m by omega]
set_option maxHeartbeats 1000000 in
theorem a_rotate (x : Int) (n : Nat) (h0 : 0 < n) (h1 : n < 64) : Gives 156 #[.int .u64 x, .int .i64 (-(n : Int))] (.int .u64 (rot x n)) := by
 intro w
 have ha : bits .and .u64 (IntKind.u64.wrap (-(n : Int))) 63 = ((64 - n : Nat) : Int) := by rw [IntKind.wrap_u64]; exact and63 n h1 h0
 have hn : 64 - n < 64 := by omega
 have hm : (64 - n) + n = 64 := by omega
 generalize 64 - n = m at *
 go_enter Tryd.func156, Tryd.ntmps156
 go_wp2_with (simp only [ha])
 go_ret
 refine ⟨?_, Below.refl _ _⟩
 rw [← shr_rot m n hm, show 64 - m = n by omega]
 rfl
set_option maxHeartbeats 1000000 in
theorem a_right (x : Int) (n : Nat) (h0 : 0 < n) (h1 : n < 64) : Gives 153 #[.int .u64 x, .int .i64 (n : Int)] (.int .u64 (rot x n)) := by
 intro w
 have hc := a_rotate x n h0 h1
 generalize rot x n = r at *
 go_enter Tryd.func153, Tryd.ntmps153
 go_wp2_with (fail)
 refine (hc.at _).mono ?_
 rintro e w1 ⟨rfl, hb⟩
 go_wp2
 go_ret
 exact ⟨rfl, hb⟩
end Go.Proofs.YtajaiiidafkijaaDoor.Wi
namespace Go.Proofs.YtajaiiidafkijaaDoor.Wi
open Go Go.RowKit Go.Sort
attribute [local go_sem] setCell_drewN alloc_drewN
def hor (l : List Int) (o : Nat) : Nat → Int
 | 0 => 0
 | j + 1 => hor l o j * 256 + l.getD (o + j) 0
theorem getD_bd {bs : List Int} (hz : ∀ z ∈ bs, 0 ≤ z ∧ z < 256) (j : Nat) : 0 ≤ bs.getD j 0 ∧ bs.getD j 0 < 256 := by
 rw [List.getD_eq_getElem?_getD]
 by_cases h : j < bs.length
 ·rw [List.getElem?_eq_getElem h]; exact hz _ (List.getElem_mem _)
 ·rw [List.getElem?_eq_none (by omega)]; exact ⟨by decide, by decide⟩
theorem hor_bd {l : List Int} (hz : ∀ z ∈ l, 0 ≤ z ∧ z < 256) (o : Nat) : ∀ j, 0 ≤ hor l o j ∧ hor l o j < 256 ^ j
 | 0 => by rw [hor]; decide
 | j + 1 => by
  have h := hor_bd hz o j
  have hb := getD_bd hz (o + j)
  rw [hor, Int.pow_succ]
  omega
theorem hor_small {l : List Int} (hz : ∀ z ∈ l, 0 ≤ z ∧ z < 256) (o j : Nat) (hj : j < 8) : 0 ≤ hor l o j ∧ hor l o j < 72057594037927936 := by
 have h := hor_bd hz o j
 have h2 : (256 : Int) ^ j ≤ 72057594037927936 := by
  have : ∀ j : Nat, j < 8 → (256 : Int) ^ j ≤ 72057594037927936 := by decide
  exact this j hj
 omega
theorem or_byte (a b : Int) (ha : 0 ≤ a ∧ a < 72057594037927936) (hb : 0 ≤ b ∧ b < 256) : bits .or .u64 (a * 256) b = a * 256 + b := by
 obtain ⟨a, rfl⟩ := Int.eq_ofNat_of_zero_le ha.1
 obtain ⟨b, rfl⟩ := Int.eq_ofNat_of_zero_le hb.1
 have e : (a : Int) * 256 = ((a * 256 : Nat) : Int) := by omega
 rw [e, bits_or_u64_nat _ _ (by omega) (by omega)]
 have h := Nat.shiftLeft_add_eq_or_of_lt (i := 8) (b := b) (by omega) a
 rw [Nat.shiftLeft_eq] at h
 rw [show a * 256 ||| b = a * 2 ^ 8 ||| b from rfl, ← h]
 omega
def wrd (b : List Int) (t : Nat) : Int := hor b (8 * t) 8
def wds (b : List Int) (t : Nat) : Int := if t < 16 then wrd b t else IntKind.u64.wrap (IntKind.u64.wrap (IntKind.u64.wrap (lo1 (wds b (t - 2)) + wds b (t - 7)) + lo0 (wds b (t - 15))) + wds b (t - 16))
termination_by t
theorem wds_lo (b : List Int) {t : Nat} (h : t < 16) : wds b t = wrd b t := by rw [wds, if_pos h]
theorem wds_hi (b : List Int) {t : Nat} (h : ¬ t < 16) : wds b t = IntKind.u64.wrap (IntKind.u64.wrap (IntKind.u64.wrap (lo1 (wds b (t - 2)) + wds b (t - 7)) + lo0 (wds b (t - 15))) + wds b (t - 16)) := by rw [wds, if_neg h]
theorem wrap_bd (x : Int) : 0 ≤ IntKind.u64.wrap x ∧ IntKind.u64.wrap x < 18446744073709551616 := by rw [IntKind.wrap_u64]; omega
def prt (W : Nat → Int) (t : Nat) : List Int := (List.range 80).map fun j => if j < t then W j else 0
theorem prt_len (W : Nat → Int) (t : Nat) : (prt W t).length = 80 := by simp [prt]
theorem prt_get (W : Nat → Int) (t : Nat) {j : Nat} (h : j < t) (h2 : j < 80) : (prt W t).getD j 0 = W j := by
 simp [prt, List.getD_eq_getElem?_getD, h2, h]
theorem prt_set (W : Nat → Int) (t : Nat) (h : t < 80) : (prt W t).set t (W t) = prt W (t + 1) := by
 apply List.ext_getElem?
 intro j
 rw [List.getElem?_set]
 by_cases e : t = j
 ·subst e
  rw [if_pos rfl, if_pos (by rw [prt_len]; exact h)]
  simp [prt, h]
 ·rw [if_neg e]
  simp only [prt, List.getElem?_map]
  by_cases hj : j < 80
  ·simp only [List.getElem?_range hj, Option.map_some]
   by_cases h1 : j < t
   ·rw [if_pos h1, if_pos (by omega)]
   ·rw [if_neg h1, if_neg (by omega)]
  ·rw [List.getElem?_eq_none (by simp; omega)]; rfl
theorem prt_zero (W : Nat → Int) : prt W 0 = zr 80 := rfl
set_option maxHeartbeats 1000000 in
theorem a_word (g off cap : Nat) (l : List Int) (t : TypeId) (W : World) (hg : W.heap[g]? = some (.cells (irow .u8 l) t (0, 0))) (hl : off + 8 ≤ l.length) (hz : ∀ z ∈ l, 0 ≤ z ∧ z < 256) : Calls Tryd.prog 154 #[.slice (some ⟨g, off, none⟩) 8 cap] W fun e w' => e = .returned (.int .u64 (hor l off 8)) ∧ Below W.heap.size W w' := by
 go_enter Tryd.func154, Tryd.ntmps154
 go_wp2
 go_loopw [3, 8] (fun v i wr => ∃ k : Nat, k ≤ 8 ∧ v = .int .u64 (hor l off k) ∧ i = .int .i64 k ∧ wr = W) (fun _ i _ => 8 - (intOf i).toNat)
 case atStart => exact ⟨0, by omega, rfl, rfl, rfl⟩
 case round =>
  obtain ⟨k, hk, rfl, rfl, rfl⟩ := hrel
  by_cases hlt : k < 8
  ·have hd : decide ((k : Int) < 8) = true := by simp; omega
   have c := irow_cell hg (j := off + k) (by omega)
   have hs := hor_small hz off k hlt
   have hb := getD_bd hz (off + k)
   have ho := or_byte _ _ hs hb
   have hn : hor l off (k + 1) = hor l off k * 256 + l.getD (off + k) 0 := rfl
   rw [← hn] at ho
   generalize hn1 : hor l off (k + 1) = h1 at *
   replace hn1 := hide hn1
   generalize hor l off k = h0 at *
   generalize l.getD (off + k) 0 = z at *
   clear hn
   go_wp2
   refine ⟨⟨k + 1, by omega, ?_, by go_num, trivial⟩, ?_⟩
   ·rw [hn1.out]
   ·simp [intOf]; omega
  ·obtain rfl : k = 8 := by omega
   have hd : decide ((8 : Int) < 8) = false := by decide
   go_wp2
   go_ret
   exact ⟨rfl, Below.refl _ _⟩
theorem slice8 (g k : Nat) (hk : k < 16) (W : World) : (Instr.sliceAt 137 (.pointer (some ⟨g, 0, none⟩)) (some (.int .i64 (8 * (k : Int)))) (some (.int .i64 (8 * (k : Int) + 8))) (some (.int .i64 (8 * (k : Int) + 8)))).run Tryd.prog W = .ok (.slice (some ⟨g, 8 * k, none⟩) 8 8) W := by
 have ht : Tryd.prog.underlying 137 = some (.array (Tryd.prog.arrayLen 137) (Tryd.prog.elem 137)) := by kernel_rfl
 have hn : Tryd.prog.arrayLen 137 = 128 := by kernel_rfl
 have hs : (sizeOf (Tryd.prog.elem 137)).run Tryd.prog W = .ok 1 W := by kernel_rfl
 rw [run_sliceAt_array_lhm W _ _ ht .i64 .i64 .i64 _ _ _ (by omega) (by omega) (by omega) (by rw [hn]; omega), hs]
 show Result.ok (slicedAt _ _ _ _ 1) W = _
 have e1 : (8 * (k : Int)).toNat = 8 * k := by omega
 have e2 : (8 * (k : Int) + 8).toNat = 8 * k + 8 := by omega
 rw [e1, e2, slicedAt, if_neg (by omega), addr_add]
 simp
theorem info57 (W : Nat → Int) (t : Nat) : (Tryd.prog.info? 168).map (·.size) = some (irow .u64 (prt W t)).size := by
 rw [irow_size, prt_len]; kernel_rfl
theorem fit57 (W V : Nat → Int) (t u : Nat) : (irow .u64 (prt W t)).size = (irow .u64 (prt V u)).size := by
 rw [irow_size, irow_size, prt_len, prt_len]
set_option maxRecDepth 100000 in
set_option maxHeartbeats 4000000 in
theorem a_spread (l : List Int) (hl : l.length = 128) (hz : ∀ z ∈ l, 0 ≤ z ∧ z < 256) : Gives 139 #[.agg (irow .u8 l)] (.agg (irow .u64 (prt (wds l) 80))) := by
 intro w
 have R0 := hp3_0 w (.cells (irow .u8 l) 137) (.cells (irow .u64 (zr 80)) 168) (.cells (irow .u64 (zr 80)) 168)
 have R1 := hp3_1 w (.cells (irow .u8 l) 137) (.cells (irow .u64 (zr 80)) 168) (.cells (irow .u64 (zr 80)) 168)
 have R2 := hp3_2 w (.cells (irow .u8 l) 137) (.cells (irow .u64 (zr 80)) 168) (.cells (irow .u64 (zr 80)) 168)
 have HW : Below w.heap.size w (((w.alloc (.cells (irow .u8 l) 137)).alloc (.cells (irow .u64 (zr 80)) 168)).alloc (.cells (irow .u64 (zr 80)) 168)) := ((((Below.refl _ _).alloc (Nat.le_refl _) _).alloc (by simp) _).alloc (by simp; omega) _)
 go_enter Tryd.func139, Tryd.ntmps139
 go_wp2_with (first | (refine wpList_box rfl 137 _ rfl _ rfl (bp128 _) ?_) | (refine wpList_alloc rfl 168 rfl (irow .u64 (zr 80)) zw80 ?_) | fail)
 generalize (((w.alloc (.cells (irow .u8 l) 137)).alloc (.cells (irow .u64 (zr 80)) 168)).alloc (.cells (irow .u64 (zr 80)) 168)) = w0 at *
 rw [← prt_zero (wds l)] at R1 R2
 go_loopw [10] (fun i wr => ∃ k : Nat, k ≤ 16 ∧ i = .int .i64 k ∧ wr.heap[w.heap.size]? = some (.cells (irow .u8 l) 137 (0, 0)) ∧ wr.heap[w.heap.size + 1]? = some (.cells (irow .u64 (prt (wds l) 0)) 168 (0, 0)) ∧ wr.heap[w.heap.size + 1 + 1]? = some (.cells (irow .u64 (prt (wds l) k)) 168 (0, 0)) ∧ Below w.heap.size w wr) (fun i _ => 16 - (intOf i).toNat)
 case atStart => exact ⟨0, by omega, rfl, R0, R1, R2, HW⟩
 case round =>
  clear R0 R1 R2 HW
  obtain ⟨k, hk, rfl, r0, r1, r2, hw⟩ := hrel
  by_cases hlt : k < 16
  ·have hd : decide ((k : Int) < 16) = true := by simp; omega
   have hsl := slice8 w.heap.size k hlt wr
   have hcall := fun cap => a_word _ (8 * k) cap l _ wr r0 (by omega) hz
   have e : hor l (8 * k) 8 = wds l k := by rw [wds_lo _ hlt]; rfl
   rw [e] at hcall
   clear e
   have hset := prt_set (wds l) k (by omega)
   have hpl := prt_len (wds l) k
   generalize wds l k = z at *
   go_wp2_with (fail)
   refine (hcall _).mono ?_
   rintro e w1 ⟨rfl, hb⟩
   replace r0 := keep hb r0
   replace r1 := keep hb r1
   replace r2 := keep hb r2
   replace hw := Below.after hw hb
   have cz := irow_cell r2 (j := k) (by omega)
   have hf := row_frozen r2 k
   clear hcall hb
   go_wp2
   go_roundw
   case rel => exact ⟨k + 1, by omega, by go_num, heap_other r0 (by omega), heap_other r1 (by omega), by rw [← hset]; exact irow_set r2 k z, hw.setCell (show w.heap.size ≤ w.heap.size + 1 + 1 by omega) _⟩
   case measure => simp [intOf]; omega
  ·obtain rfl : k = 16 := by omega
   have hd : decide ((16 : Int) < 16) = false := by decide
   go_wp2
   go_loopw [5] (fun i wr => ∃ k : Nat, 16 ≤ k ∧ k ≤ 80 ∧ i = .int .i64 k ∧ wr.heap[w.heap.size]? = some (.cells (irow .u8 l) 137 (0, 0)) ∧ wr.heap[w.heap.size + 1]? = some (.cells (irow .u64 (prt (wds l) 0)) 168 (0, 0)) ∧ wr.heap[w.heap.size + 1 + 1]? = some (.cells (irow .u64 (prt (wds l) k)) 168 (0, 0)) ∧ Below w.heap.size w wr) (fun i _ => 80 - (intOf i).toNat)
   case atStart => exact ⟨16, by omega, by omega, rfl, r0, r1, r2, hw⟩
   case round =>
    clear r0 r1 r2 hw hd
    obtain ⟨k, hk0, hk, rfl, r0, r1, r2, hw⟩ := hrel
    by_cases hlt : k < 80
    ·have hd : decide ((k : Int) < 80) = true := by simp; omega
     have d15 := irow_cell r2 (j := k - 15) (by rw [prt_len]; omega)
     have d2 := irow_cell r2 (j := k - 2) (by rw [prt_len]; omega)
     rw [prt_get _ _ (by omega) (by omega)] at d15 d2
     have c7 := a_right (wds l (k - 15)) 1 (by decide) (by decide)
     have c18 := a_right (wds l (k - 15)) 8 (by decide) (by decide)
     have c17 := a_right (wds l (k - 2)) 19 (by decide) (by decide)
     have c19 := a_right (wds l (k - 2)) 61 (by decide) (by decide)
     have hset := prt_set (wds l) k (by omega)
     have hpl := prt_len (wds l) k
     have e := wds_hi l (t := k) (by omega)
     have e7 := prt_get (wds l) k (j := k - 7) (by omega) (by omega)
     have e16 := prt_get (wds l) k (j := k - 16) (by omega) (by omega)
     unfold lo0 lo1 at e
     generalize rot (wds l (k - 15)) 1 = q7 at *
     generalize rot (wds l (k - 15)) 8 = q18 at *
     generalize rot (wds l (k - 2)) 19 = q17 at *
     generalize rot (wds l (k - 2)) 61 = q19 at *
     generalize wds l (k - 15) = x15 at *
     generalize wds l (k - 2) = x2 at *
     generalize wds l (k - 7) = x7 at *
     generalize wds l (k - 16) = x16 at *
     generalize wds l k = z at *
     replace e := hide e
     replace hset := hide hset
     go_wp2
     have k15 : ∀ p : Regrown, (grow (redrawn wr p.d) p.os).cell? ⟨w.heap.size + 1 + 1, k - 15, none⟩ = some (.int .u64 x15) := fun p => cell_regrown (d15) p.d p.os
     have k2 : ∀ p : Regrown, (grow (redrawn wr p.d) p.os).cell? ⟨w.heap.size + 1 + 1, k - 2, none⟩ = some (.int .u64 x2) := fun p => cell_regrown (d2) p.d p.os
     refine wp_region_quiet_below (by kernel_rfl) (by kernel_rfl) ?_
     go_big_quiet_step (fail)
     go_big_quiet_step (fail)
     go_big_quiet_step (fail)
     go_big_quiet_step (fail)
     go_big_quiet_step (fail)
     go_big_quiet_step (fail)
     go_big_quiet_step (fail)
     go_big_quiet_step (fail)
     go_big_quiet_step (fail)
     go_big_quiet_step (fail)
     refine wpQuiet_nil ?_
     rintro _ ⟨p, rfl⟩
     have hb := below_regrown wr p.d p.os
     generalize grow (redrawn wr p.d) p.os = w1 at *
     clear k15 k2
     replace r0 := keep hb r0
     replace r1 := keep hb r1
     replace r2 := keep hb r2
     replace hw := Below.after hw hb
     clear hb
     go_wp2_with (fail)
     refine (c7.at _).mono ?_
     rintro e_ w2 ⟨rfl, hb⟩
     replace r0 := keep hb r0
     replace r1 := keep hb r1
     replace r2 := keep hb r2
     replace hw := Below.after hw hb
     clear hb
     go_wp2_with (fail)
     refine (c18.at _).mono ?_
     rintro e_ w3 ⟨rfl, hb⟩
     replace r0 := keep hb r0
     replace r1 := keep hb r1
     replace r2 := keep hb r2
     replace hw := Below.after hw hb
     clear hb
     go_wp2_with (fail)
     refine (c17.at _).mono ?_
     rintro e_ w4_ ⟨rfl, hb⟩
     replace r0 := keep hb r0
     replace r1 := keep hb r1
     replace r2 := keep hb r2
     replace hw := Below.after hw hb
     clear hb
     go_wp2_with (fail)
     refine (c19.at _).mono ?_
     rintro e_ w5 ⟨rfl, hb⟩
     replace r0 := keep hb r0
     replace r1 := keep hb r1
     replace r2 := keep hb r2
     replace hw := Below.after hw hb
     clear hb
     have d7 := irow_cell r2 (j := k - 7) (by omega)
     have d16 := irow_cell r2 (j := k - 16) (by omega)
     rw [e7] at d7
     rw [e16] at d16
     clear e7 e16
     go_wp2
     have k7 : ∀ p : Regrown, (grow (redrawn w5 p.d) p.os).cell? ⟨w.heap.size + 1 + 1, k - 7, none⟩ = some (.int .u64 x7) := fun p => cell_regrown (d7) p.d p.os
     have k16 : ∀ p : Regrown, (grow (redrawn w5 p.d) p.os).cell? ⟨w.heap.size + 1 + 1, k - 16, none⟩ = some (.int .u64 x16) := fun p => cell_regrown (d16) p.d p.os
     refine wp_region_tail (C := fun w' => ∃ p : Regrown, w' = grow (redrawn w5 p.d) p.os) 15 _ rfl rfl rfl (by kernel_rfl) (by kernel_rfl) (by kernel_rfl) (by kernel_rfl) ⟨⟨w5.drawn + 1, #[]⟩, by rw [grow_empty]; rfl⟩ ?_
     dsimp only [List.set, idle]
     go_big_quiet_step (fail)
     go_big_quiet_step (fail)
     go_big_quiet_step (fail)
     go_big_quiet_step (fail)
     go_big_quiet_step (fail)
     go_big_quiet_step (fail)
     go_big_quiet_step (fail)
     go_big_quiet_step (fail)
     go_big_quiet_step (fail)
     go_big_quiet_step (fail)
     go_big_quiet_step (fail)
     go_big_quiet_step (fail)
     go_big_quiet_step (fail)
     go_big_quiet_step (fail)
     go_big_quiet_step (fail)
     refine wpQuiet_idle rfl rfl rfl ?_
     rintro _ ⟨p, rfl⟩
     have hb := below_regrown w5 p.d p.os
     generalize grow (redrawn w5 p.d) p.os = w6 at *
     clear k7 k16
     replace r0 := keep hb r0
     replace r1 := keep hb r1
     replace r2 := keep hb r2
     replace hw := Below.after hw hb
     clear hb
     have cz := irow_cell r2 (j := k) (by omega)
     have hf := row_frozen r2 k
     go_wp2
     refine ⟨?_, ?measure⟩
     apply Exists.intro
     apply Exists.intro
     repeat apply Exists.intro
     refine ⟨?rel, rfl⟩
     case rel => exact ⟨k + 1, by omega, by omega, by go_num, heap_other r0 (by omega), heap_other r1 (by omega), by rw [← hset.out, e.out]; exact irow_set r2 k _, hw.setCell (show w.heap.size ≤ w.heap.size + 1 + 1 by omega) _⟩
     case measure => simp [intOf]; omega
    ·obtain rfl : k = 80 := by omega
     have hd : decide ((80 : Int) < 80) = false := by decide
     go_wp2_with (first | (refine wpList_load_want rfl 168 _ rfl (w.heap.size + 1 + 1) rfl 168 (irow .u64 (prt (wds l) 80)) (0, 0) _ r2 Tryd.underlying168 rfl (info57 _ _) ?_) | (refine wpList_store_row rfl 168 _ _ rfl (w.heap.size + 1) (irow .u64 (prt (wds l) 80)) rfl rfl 168 _ r1 (info57 _ _) (fit57 _ _ _ _) (irow_one _ _) ?_) | fail)
     replace r1 := setRow_heap wr (w.heap.size + 1) _ (irow .u64 (prt (wds l) 80)) _ _ r1
     replace hw := below_setRow hw (show w.heap.size ≤ w.heap.size + 1 by omega) (irow .u64 (prt (wds l) 80))
     generalize wr.setRow (w.heap.size + 1) (irow .u64 (prt (wds l) 80)) = w9 at *
     exact bodyPost_ret (v := .agg (irow .u64 (prt (wds l) 80))) (results_cell_row Tryd.results139 _ _ (w.heap.size + 1) _ _ _ _ rfl r1 Tryd.underlying168 rfl (info57 _ _)) rfl ⟨rfl, hw⟩
end Go.Proofs.YtajaiiidafkijaaDoor.Wi
namespace Go.Proofs.YtajaiiidafkijaaDoor.Wi
open Go Go.RowKit Go.Sort
attribute [local go_sem] setCell_drewN alloc_drewN
def kl : List Int := [4794697086780616226, 8158064640168781261, 13096744586834688815, 16840607885511220156, 4131703408338449720, 6480981068601479193, 10538285296894168987, 12329834152419229976, 15566598209576043074, 1334009975649890238, 2608012711638119052, 6128411473006802146, 8268148722764581231, 9286055187155687089, 11230858885718282805, 13951009754708518548, 16472876342353939154, 17275323862435702243, 1135362057144423861, 2597628984639134821, 3308224258029322869, 5365058923640841347, 6679025012923562964, 8573033837759648693, 10970295158949994411, 12119686244451234320, 12683024718118986047, 13788192230050041572, 14330467153632333762, 15395433587784984357, 489312712824947311, 1452737877330783856, 2861767655752347644, 3322285676063803686, 5560940570517711597, 5996557281743188959, 7280758554555802590, 8532644243296465576, 9350256976987008742, 10552545826968843579, 11727347734174303076, 12113106623233404929, 14000437183269869457, 14369950271660146224, 15101387698204529176, 15463397548674623760, 17586052441742319658, 1182934255886127544, 1847814050463011016, 2177327727835720531, 2830643537854262169, 3796741975233480872, 4115178125766777443, 5681478168544905931, 6601373596472566643, 7507060721942968483, 8399075790359081724, 8693463985226723168, 9568029438360202098, 10144078919501101548, 10430055236837252648, 11840083180663258601, 13761210420658862357, 14299343276471374635, 14566680578165727644, 15097957966210449927, 16922976911328602910, 17689382322260857208, 500013540394364858, 748580250866718886, 1242879168328830382, 1977374033974150939, 2944078676154940804, 3659926193048069267, 4368137639120453308, 4836135668995329356, 5532061633213252278, 6448918945643986474, 6902733635092675308, 7801388544844847127]
def sl : List Int := [7640891576956012808, 13503953896175478587, 4354685564936845355, 11912009170470909681, 5840696475078001361, 11170449401992604703, 2270897969802886507, 6620516959819538809]
theorem info23 (l : List Int) (hl : l.length = 8) : (Tryd.prog.info? 135).map (·.size) = some (irow .u64 l).size := by
 rw [irow_size, hl]; kernel_rfl
theorem info24 (l : List Int) (hl : l.length = 128) : (Tryd.prog.info? 137).map (·.size) = some (irow .u8 l).size := by
 rw [irow_size, hl]; kernel_rfl
theorem fit8 (l m : List Int) (hl : l.length = 8) (hm : m.length = 8) : (irow .u64 l).size = (irow .u64 m).size := by
 rw [irow_size, irow_size, hl, hm]
def kvals (l : List Int) : Nat → List (Nat × Value) := fun n => (List.range n).map fun i => (i, .int .u64 (l.getD i 0))
theorem kbuilt : Tryd.prog.built 168 (kvals kl 80) = some (irow .u64 kl) := by kernel_rfl
theorem sbuilt : Tryd.prog.built 135 (kvals sl 8) = some (irow .u64 sl) := by kernel_rfl
theorem infok : (Tryd.prog.info? 168).map (·.size) = some (irow .u64 kl).size := by kernel_rfl
set_option maxRecDepth 100000 in
set_option maxHeartbeats 4000000 in
theorem a_constants : Gives 152 #[] (.agg (irow .u64 kl)) := by
 intro w
 have R0 := hp1_0 w (.cells (irow .u64 (zr 80)) 168)
 have HW : Below w.heap.size w (w.alloc (.cells (irow .u64 (zr 80)) 168)) := ((Below.refl _ _).alloc (Nat.le_refl _) _)
 go_enter Tryd.func152, Tryd.ntmps152
 go_wp2_with (first | (refine wpList_alloc rfl 168 rfl (irow .u64 (zr 80)) zw80 ?_) | (refine wpList_build_as rfl 168 _ rfl (kvals kl 80) (by kernel_rfl) (irow .u64 kl) kbuilt ?_) | (refine wpList_store_row rfl 168 _ _ rfl (w.heap.size) (irow .u64 kl) rfl rfl 168 _ R0 infok rfl (irow_one _ _) ?_) | fail)
 replace R0 := setRow_heap (w.alloc (.cells (irow .u64 (zr 80)) 168)) (w.heap.size) _ (irow .u64 kl) _ _ R0
 replace HW := below_setRow HW (show w.heap.size ≤ w.heap.size by omega) (irow .u64 kl)
 generalize (w.alloc (.cells (irow .u64 (zr 80)) 168)).setRow (w.heap.size) (irow .u64 kl) = w9 at *
 exact bodyPost_ret (v := .agg (irow .u64 kl)) (results_cell_row Tryd.results152 _ _ (w.heap.size) _ _ _ _ rfl R0 Tryd.underlying168 rfl infok) rfl ⟨rfl, HW⟩
set_option maxRecDepth 100000 in
set_option maxHeartbeats 4000000 in
theorem a_start : Gives 107 #[] (.agg (irow .u64 sl)) := by
 intro w
 have R0 := hp1_0 w (.cells (irow .u64 (zr 8)) 135)
 have HW : Below w.heap.size w (w.alloc (.cells (irow .u64 (zr 8)) 135)) := ((Below.refl _ _).alloc (Nat.le_refl _) _)
 go_enter Tryd.func107, Tryd.ntmps107
 go_wp2_with (first | (refine wpList_alloc rfl 135 rfl (irow .u64 (zr 8)) zw8 ?_) | (refine wpList_build_as rfl 135 _ rfl (kvals sl 8) (by kernel_rfl) (irow .u64 sl) sbuilt ?_) | (refine wpList_store_row rfl 135 _ _ rfl (w.heap.size) (irow .u64 sl) rfl rfl 135 _ R0 (info23 sl rfl) rfl (irow_one _ _) ?_) | fail)
 replace R0 := setRow_heap (w.alloc (.cells (irow .u64 (zr 8)) 135)) (w.heap.size) _ (irow .u64 sl) _ _ R0
 replace HW := below_setRow HW (show w.heap.size ≤ w.heap.size by omega) (irow .u64 sl)
 generalize (w.alloc (.cells (irow .u64 (zr 8)) 135)).setRow (w.heap.size) (irow .u64 sl) = w9 at *
 exact bodyPost_ret (v := .agg (irow .u64 sl)) (results_cell_row Tryd.results107 _ _ (w.heap.size) _ _ _ _ rfl R0 Tryd.underlying135 rfl (info23 sl rfl)) rfl ⟨rfl, HW⟩
structure St8 where
 (a b c d e f g h : Int)
def notx (x : Int) : Int := bits .xor .u64 IntKind.u64.max x
def wp (x : Int) : Int := IntKind.u64.wrap x
def one1 (k w : Int) (s : St8) : Int := IntKind.u64.wrap (IntKind.u64.wrap (IntKind.u64.wrap (IntKind.u64.wrap (s.h + up1 s.e) + bits .xor .u64 (bits .and .u64 s.e s.f) (bits .and .u64 (notx s.e) s.g)) + k) + w)
def two2 (s : St8) : Int := IntKind.u64.wrap (up0 s.a + bits .xor .u64 (bits .xor .u64 (bits .and .u64 s.a s.b) (bits .and .u64 s.a s.c)) (bits .and .u64 s.b s.c))
def rnd (k w : Int) (s : St8) : St8 := ⟨IntKind.u64.wrap (one1 k w s + two2 s), s.a, s.b, s.c, IntKind.u64.wrap (s.d + one1 k w s), s.e, s.f, s.g⟩
def st0 (h : List Int) : St8 := ⟨h.getD 0 0, h.getD 1 0, h.getD 2 0, h.getD 3 0, h.getD 4 0, h.getD 5 0, h.getD 6 0, h.getD 7 0⟩
def rs (h : List Int) (W : Nat → Int) : Nat → St8
 | 0 => st0 h
 | t + 1 => rnd (kl.getD t 0) (W t) (rs h W t)
def St8.list (s : St8) : List Int := [s.a, s.b, s.c, s.d, s.e, s.f, s.g, s.h]
def St8.ok (s : St8) : Prop := ∀ x ∈ s.list, 0 ≤ x ∧ x < 18446744073709551616
set_option maxRecDepth 100000 in
set_option maxHeartbeats 4000000 in
theorem a_mixed (h : List Int) (hl : h.length = 8) (W : Nat → Int) : Gives 138 #[.agg (irow .u64 h), .agg (irow .u64 (prt W 80))] (.agg (irow .u64 (rs h W 80).list)) := by
 intro w
 have cK := a_constants
 have R0 := hp3_0 w (.cells (irow .u64 h) 135) (.cells (irow .u64 (prt W 80)) 168) (.cells (irow .u64 (zr 8)) 135)
 have R1 := hp3_1 w (.cells (irow .u64 h) 135) (.cells (irow .u64 (prt W 80)) 168) (.cells (irow .u64 (zr 8)) 135)
 have R2 := hp3_2 w (.cells (irow .u64 h) 135) (.cells (irow .u64 (prt W 80)) 168) (.cells (irow .u64 (zr 8)) 135)
 have HW : Below w.heap.size w (((w.alloc (.cells (irow .u64 h) 135)).alloc (.cells (irow .u64 (prt W 80)) 168)).alloc (.cells (irow .u64 (zr 8)) 135)) := ((((Below.refl _ _).alloc (Nat.le_refl _) _).alloc (by simp) _).alloc (by simp; omega) _)
 go_enter Tryd.func138, Tryd.ntmps138
 go_wp2_with (first | (refine wpList_box rfl 135 _ rfl _ rfl (bw8 _) ?_) | (refine wpList_box rfl 168 _ rfl _ rfl (bw80 _) ?_) | (refine wpList_alloc rfl 135 rfl (irow .u64 (zr 8)) zw8 ?_) | fail)
 try simp only [size_alloc1, Act.put, List.setIfInBounds_toArray, List.set_cons_succ, List.set_cons_zero]
 generalize (((w.alloc (.cells (irow .u64 h) 135)).alloc (.cells (irow .u64 (prt W 80)) 168)).alloc (.cells (irow .u64 (zr 8)) 135)) = w0 at *
 refine (cK.at _).mono ?_
 rintro e_ w1 ⟨rfl, hb⟩
 replace R0 := keep hb R0
 replace R1 := keep hb R1
 replace R2 := keep hb R2
 replace HW := Below.after HW hb
 clear hb
 go_wp2_with (first | (refine wpList_alloc rfl 168 rfl (irow .u64 (zr 80)) zw80 ?_) | (refine wpList_store_row rfl 168 _ _ rfl (w1.heap.size) (irow .u64 kl) rfl rfl 168 _ (hp1_0 w1 _) infok rfl (irow_one _ _) ?_; rw [setRow_alloc_new _ _ _ _ _ _ rfl]) | fail)
 have rk := hp1_0 w1 (.cells (irow .u64 kl) 168)
 have hB : Below w1.heap.size w1 (w1.alloc (.cells (irow .u64 kl) 168)) := (Below.refl _ _).alloc (Nat.le_refl _) _
 have yk := lt_of_row R2
 replace R0 := keep hB R0
 replace R1 := keep hB R1
 replace R2 := keep hB R2
 replace HW := Below.after HW hB
 clear hB cK
 try simp only [Act.put, ZPd, ZPe, ZPf]
 generalize w1.alloc (.cells (irow .u64 kl) 168) = w2 at *
 generalize w1.heap.size = gK at *
 have d0 := irow_cell R0 (j := 0) (by omega)
 have d1 := irow_cell R0 (j := 1) (by omega)
 have d2 := irow_cell R0 (j := 2) (by omega)
 have d3 := irow_cell R0 (j := 3) (by omega)
 have d4 := irow_cell R0 (j := 4) (by omega)
 have d5 := irow_cell R0 (j := 5) (by omega)
 have d6 := irow_cell R0 (j := 6) (by omega)
 have d7 := irow_cell R0 (j := 7) (by omega)
 have hst : rs h W 0 = st0 h := rfl
 unfold st0 at hst
 generalize h.getD 0 0 = z0 at *
 generalize h.getD 1 0 = z1 at *
 generalize h.getD 2 0 = z2 at *
 generalize h.getD 3 0 = z3 at *
 generalize h.getD 4 0 = z4 at *
 generalize h.getD 5 0 = z5 at *
 generalize h.getD 6 0 = z6 at *
 generalize h.getD 7 0 = z7 at *
 replace hst := hide hst
 have k0 : ∀ p : Regrown, (grow (redrawn w2 p.d) p.os).cell? ⟨w.heap.size, 0, none⟩ = some (.int .u64 z0) := fun p => cell_regrown (d0) p.d p.os
 have k1 : ∀ p : Regrown, (grow (redrawn w2 p.d) p.os).cell? ⟨w.heap.size, 1, none⟩ = some (.int .u64 z1) := fun p => cell_regrown (d1) p.d p.os
 have k2 : ∀ p : Regrown, (grow (redrawn w2 p.d) p.os).cell? ⟨w.heap.size, 2, none⟩ = some (.int .u64 z2) := fun p => cell_regrown (d2) p.d p.os
 have k3 : ∀ p : Regrown, (grow (redrawn w2 p.d) p.os).cell? ⟨w.heap.size, 3, none⟩ = some (.int .u64 z3) := fun p => cell_regrown (d3) p.d p.os
 have k4 : ∀ p : Regrown, (grow (redrawn w2 p.d) p.os).cell? ⟨w.heap.size, 4, none⟩ = some (.int .u64 z4) := fun p => cell_regrown (d4) p.d p.os
 have k5 : ∀ p : Regrown, (grow (redrawn w2 p.d) p.os).cell? ⟨w.heap.size, 5, none⟩ = some (.int .u64 z5) := fun p => cell_regrown (d5) p.d p.os
 have k6 : ∀ p : Regrown, (grow (redrawn w2 p.d) p.os).cell? ⟨w.heap.size, 6, none⟩ = some (.int .u64 z6) := fun p => cell_regrown (d6) p.d p.os
 have k7 : ∀ p : Regrown, (grow (redrawn w2 p.d) p.os).cell? ⟨w.heap.size, 7, none⟩ = some (.int .u64 z7) := fun p => cell_regrown (d7) p.d p.os
 refine wp_region_quiet_below (by kernel_rfl) (by kernel_rfl) ?_
 go_big_quiet_step (fail)
 go_big_quiet_step (fail)
 go_big_quiet_step (fail)
 go_big_quiet_step (fail)
 go_big_quiet_step (fail)
 go_big_quiet_step (fail)
 go_big_quiet_step (fail)
 go_big_quiet_step (fail)
 go_big_quiet_step (fail)
 go_big_quiet_step (fail)
 go_big_quiet_step (fail)
 go_big_quiet_step (fail)
 go_big_quiet_step (fail)
 go_big_quiet_step (fail)
 go_big_quiet_step (fail)
 go_big_quiet_step (fail)
 go_big_quiet_step (fail)
 go_big_quiet_step (fail)
 go_big_quiet_step (fail)
 go_big_quiet_step (fail)
 go_big_quiet_step (fail)
 go_big_quiet_step (fail)
 go_big_quiet_step (fail)
 go_big_quiet_step (fail)
 refine wpQuiet_nil ?_
 rintro _ ⟨p, rfl⟩
 have hb := below_regrown w2 p.d p.os
 generalize grow (redrawn w2 p.d) p.os = w3 at *
 clear k0 k1 k2 k3 k4 k5 k6 k7
 replace R1 := keep hb R1
 replace R2 := keep hb R2
 replace rk := keep hb rk
 replace HW := Below.after HW hb
 clear hb
 clear d0 d1 d2 d3 d4 d5 d6 d7 R0
 go_wp2
 go_loopw [6, 7, 8, 9, 10, 11, 12, 13, 36] (fun va vb vc vd ve vf vg vh i wr => ∃ k : Nat, k ≤ 80 ∧ i = .int .i64 k ∧ va = .int .u64 (rs h W k).a ∧ vb = .int .u64 (rs h W k).b ∧ vc = .int .u64 (rs h W k).c ∧ vd = .int .u64 (rs h W k).d ∧ ve = .int .u64 (rs h W k).e ∧ vf = .int .u64 (rs h W k).f ∧ vg = .int .u64 (rs h W k).g ∧ vh = .int .u64 (rs h W k).h ∧ wr.heap[w.heap.size + 1]? = some (.cells (irow .u64 (prt W 80)) 168 (0, 0)) ∧ wr.heap[w.heap.size + 1 + 1]? = some (.cells (irow .u64 (zr 8)) 135 (0, 0)) ∧ wr.heap[gK]? = some (.cells (irow .u64 kl) 168 (0, 0)) ∧ Below w.heap.size w wr) (fun _ _ _ _ _ _ _ _ i _ => 80 - (intOf i).toNat)
 case atStart => exact ⟨0, by omega, rfl, by rw [hst.out], by rw [hst.out], by rw [hst.out], by rw [hst.out], by rw [hst.out], by rw [hst.out], by rw [hst.out], by rw [hst.out], R1, R2, rk, HW⟩
 case round =>
  clear R1 R2 HW rk hst
  obtain ⟨k, hk, rfl, rfl, rfl, rfl, rfl, rfl, rfl, rfl, rfl, r1, r2, rk, hw⟩ := hrel
  by_cases hlt : k < 80
  ·have hd : decide ((k : Int) < 80) = true := by simp; omega
   have hn : rs h W (k + 1) = rnd (kl.getD k 0) (W k) (rs h W k) := rfl
   generalize rs h W k = sk at *
   obtain ⟨a, b, c, d, e, f, g, x⟩ := sk
   dsimp only at *
   have c6 := a_right e 14 (by decide) (by decide)
   have c11 := a_right e 18 (by decide) (by decide)
   have c25 := a_right e 41 (by decide) (by decide)
   have c2 := a_right a 28 (by decide) (by decide)
   have c13 := a_right a 34 (by decide) (by decide)
   have c22 := a_right a 39 (by decide) (by decide)
   simp only [rnd, one1, two2, up0, up1, notx] at hn
   generalize rot e 14 = q14 at *
   generalize rot e 18 = q18 at *
   generalize rot e 41 = q41 at *
   generalize rot a 28 = q28 at *
   generalize rot a 34 = q34 at *
   generalize rot a 39 = q39 at *
   replace hn := hide hn
   go_wp2_with (fail)
   refine (c6.at _).mono ?_
   rintro e_ w2 ⟨rfl, hb⟩
   replace r1 := keep hb r1
   replace r2 := keep hb r2
   replace rk := keep hb rk
   replace hw := Below.after hw hb
   clear hb
   go_wp2_with (fail)
   refine (c11.at _).mono ?_
   rintro e_ w3 ⟨rfl, hb⟩
   replace r1 := keep hb r1
   replace r2 := keep hb r2
   replace rk := keep hb rk
   replace hw := Below.after hw hb
   clear hb
   go_wp2_with (fail)
   refine (c25.at _).mono ?_
   rintro e_ w4_ ⟨rfl, hb⟩
   replace r1 := keep hb r1
   replace r2 := keep hb r2
   replace rk := keep hb rk
   replace hw := Below.after hw hb
   clear hb
   have dk := irow_cell rk (j := k) hlt
   have dw := irow_cell r1 (j := k) (by rw [prt_len]; omega)
   rw [prt_get _ _ hlt hlt] at dw
   generalize kl.getD k 0 = K at *
   generalize W k = wk at *
   go_wp2
   have k0 : ∀ p : Regrown, (grow (redrawn w4_ p.d) p.os).cell? ⟨gK, k, none⟩ = some (.int .u64 K) := fun p => cell_regrown (dk) p.d p.os
   have k1 : ∀ p : Regrown, (grow (redrawn w4_ p.d) p.os).cell? ⟨w.heap.size + 1, k, none⟩ = some (.int .u64 wk) := fun p => cell_regrown (dw) p.d p.os
   refine wp_region_quiet_below (by kernel_rfl) (by kernel_rfl) ?_
   go_big_quiet_step (fail)
   go_big_quiet_step (fail)
   go_big_quiet_step (fail)
   go_big_quiet_step (fail)
   go_big_quiet_step (fail)
   go_big_quiet_step (fail)
   go_big_quiet_step (fail)
   go_big_quiet_step (fail)
   go_big_quiet_step (fail)
   go_big_quiet_step (fail)
   go_big_quiet_step (fail)
   go_big_quiet_step (fail)
   go_big_quiet_step (fail)
   go_big_quiet_step (fail)
   go_big_quiet_step (fail)
   go_big_quiet_step (fail)
   go_big_quiet_step (fail)
   go_big_quiet_step (fail)
   go_big_quiet_step (fail)
   go_big_quiet_step (fail)
   go_big_quiet_step (fail)
   refine wpQuiet_nil ?_
   rintro _ ⟨p, rfl⟩
   have hb := below_regrown w4_ p.d p.os
   generalize grow (redrawn w4_ p.d) p.os = w5 at *
   clear k0 k1
   replace r1 := keep hb r1
   replace r2 := keep hb r2
   replace rk := keep hb rk
   replace hw := Below.after hw hb
   clear hb
   clear dk dw
   go_wp2_with (fail)
   refine (c2.at _).mono ?_
   rintro e_ w6 ⟨rfl, hb⟩
   replace r1 := keep hb r1
   replace r2 := keep hb r2
   replace rk := keep hb rk
   replace hw := Below.after hw hb
   clear hb
   go_wp2_with (fail)
   refine (c13.at _).mono ?_
   rintro e_ w7 ⟨rfl, hb⟩
   replace r1 := keep hb r1
   replace r2 := keep hb r2
   replace rk := keep hb rk
   replace hw := Below.after hw hb
   clear hb
   go_wp2_with (fail)
   refine (c22.at _).mono ?_
   rintro e_ w8 ⟨rfl, hb⟩
   replace r1 := keep hb r1
   replace r2 := keep hb r2
   replace rk := keep hb rk
   replace hw := Below.after hw hb
   clear hb
   go_wp2
   refine ⟨?rel, ?measure⟩
   case rel =>
    refine ⟨k + 1, by omega, by go_num, ?_, ?_, ?_, ?_, ?_, ?_, ?_, ?_, r1, r2, rk, hw⟩
    all_goals (rw [hn.out])
   case measure => simp [intOf]; omega
  ·obtain rfl : k = 80 := by omega
   have hd : decide ((80 : Int) < 80) = false := by decide
   have hfin : irow .u64 (rs h W 80).list = (irow .u64 [(rs h W 80).a, (rs h W 80).b, (rs h W 80).c, (rs h W 80).d, (rs h W 80).e, (rs h W 80).f, (rs h W 80).g, (rs h W 80).h]) := rfl
   have hi8 : (Tryd.prog.info? 135).map (·.size) = some ((irow .u64 [(rs h W 80).a, (rs h W 80).b, (rs h W 80).c, (rs h W 80).d, (rs h W 80).e, (rs h W 80).f, (rs h W 80).g, (rs h W 80).h]) : Array Value).size := by kernel_rfl
   generalize (rs h W 80).a = za at *
   generalize (rs h W 80).b = zb at *
   generalize (rs h W 80).c = zc at *
   generalize (rs h W 80).d = zd at *
   generalize (rs h W 80).e = ze at *
   generalize (rs h W 80).f = zf at *
   generalize (rs h W 80).g = zg at *
   generalize (rs h W 80).h = zh at *
   replace hfin := hide hfin
   go_wp2_with (first | (refine wpList_store_row rfl 135 _ _ rfl (w.heap.size + 1 + 1) (irow .u64 [za, zb, zc, zd, ze, zf, zg, zh]) rfl rfl 135 _ r2 hi8 (by rw [irow_size, irow_size]; rfl) (irow_one _ _) ?_) | fail)
   replace r2 := setRow_heap wr (w.heap.size + 1 + 1) _ (irow .u64 [za, zb, zc, zd, ze, zf, zg, zh]) _ _ r2
   replace hw := below_setRow hw (show w.heap.size ≤ w.heap.size + 1 + 1 by omega) (irow .u64 [za, zb, zc, zd, ze, zf, zg, zh])
   generalize wr.setRow (w.heap.size + 1 + 1) (irow .u64 [za, zb, zc, zd, ze, zf, zg, zh]) = w9 at *
   exact bodyPost_ret (v := .agg (irow .u64 [za, zb, zc, zd, ze, zf, zg, zh])) (results_cell_row Tryd.results138 _ _ (w.heap.size + 1 + 1) _ _ _ _ rfl r2 Tryd.underlying135 rfl hi8) rfl ⟨by rw [hfin.out], hw⟩
end Go.Proofs.YtajaiiidafkijaaDoor.Wi
namespace Go.Proofs.YtajaiiidafkijaaDoor.Wi
open Go Go.RowKit Go.Sort
attribute [local go_sem] setCell_drewN alloc_drewN
def sums (h e : List Int) (k : Nat) : List Int := (List.range 8).map fun j => if j < k then IntKind.u64.wrap (h.getD j 0 + e.getD j 0) else h.getD j 0
theorem sums_len (h e : List Int) (k : Nat) : (sums h e k).length = 8 := by simp [sums]
theorem sums_zero (h e : List Int) (hl : h.length = 8) : sums h e 0 = h := by
 apply List.ext_getElem
 ·rw [sums_len, hl]
 ·intro i h1 h2
  simp [sums, h2]
theorem sums_get (h e : List Int) (k : Nat) (hk : k < 8) : (sums h e k).getD k 0 = h.getD k 0 := by
 simp [sums, List.getD_eq_getElem?_getD, hk]
theorem sums_set (h e : List Int) (k : Nat) (hk : k < 8) : (sums h e k).set k (IntKind.u64.wrap (h.getD k 0 + e.getD k 0)) = sums h e (k + 1) := by
 apply List.ext_getElem?
 intro j
 rw [List.getElem?_set]
 by_cases c : k = j
 ·subst c
  rw [if_pos rfl, if_pos (by rw [sums_len]; exact hk)]
  simp [sums, hk]
 ·rw [if_neg c]
  simp only [sums, List.getElem?_map]
  by_cases hj : j < 8
  ·simp only [List.getElem?_range hj, Option.map_some]
   by_cases h1 : j < k
   ·rw [if_pos h1, if_pos (by omega)]
   ·rw [if_neg h1, if_neg (by omega)]
  ·rw [List.getElem?_eq_none (by simp; omega)]; rfl
def blk (h b : List Int) : List Int := sums h (rs h (wds b) 80).list 8
theorem blk_len (h b : List Int) : (blk h b).length = 8 := sums_len _ _ _
theorem sums_bd (h e : List Int) (x : Int) (hx : x ∈ sums h e 8) : 0 ≤ x ∧ x < 18446744073709551616 := by
 simp only [sums, List.mem_map, List.mem_range] at hx
 obtain ⟨j, hj, rfl⟩ := hx
 rw [if_pos hj]
 exact wrap_bd _
theorem list_len (s : St8) : s.list.length = 8 := rfl
set_option maxRecDepth 100000 in
set_option maxHeartbeats 4000000 in
theorem a_block (h b : List Int) (hl : h.length = 8) (hb : b.length = 128) (hz : ∀ z ∈ b, 0 ≤ z ∧ z < 256) : Gives 108 #[.agg (irow .u64 h), .agg (irow .u8 b)] (.agg (irow .u64 (blk h b))) := by
 intro w
 have cS := a_spread b hb hz
 have cM := a_mixed h hl (wds b)
 have ib := info24 b hb
 clear hz
 have r0 := hp3_0 w (.cells (irow .u64 h) 135) (.cells (irow .u8 b) 137) (.cells (irow .u64 (zr 8)) 135)
 have r1 := hp3_1 w (.cells (irow .u64 h) 135) (.cells (irow .u8 b) 137) (.cells (irow .u64 (zr 8)) 135)
 have r2 := hp3_2 w (.cells (irow .u64 h) 135) (.cells (irow .u8 b) 137) (.cells (irow .u64 (zr 8)) 135)
 have hw : Below w.heap.size w (((w.alloc (.cells (irow .u64 h) 135)).alloc (.cells (irow .u8 b) 137)).alloc (.cells (irow .u64 (zr 8)) 135)) := ((((Below.refl _ _).alloc (Nat.le_refl _) _).alloc (by simp) _).alloc (by simp; omega) _)
 go_enter Tryd.func108, Tryd.ntmps108
 go_wp2_with (first | (refine wpList_box rfl 135 _ rfl _ rfl (bw8 _) ?_) | (refine wpList_box rfl 137 _ rfl _ rfl (bp128 _) ?_) | (refine wpList_alloc rfl 135 rfl (irow .u64 (zr 8)) zw8 ?_) | fail)
 try simp only [size_alloc1, Act.put, List.setIfInBounds_toArray, List.set_cons_succ, List.set_cons_zero]
 generalize (((w.alloc (.cells (irow .u64 h) 135)).alloc (.cells (irow .u8 b) 137)).alloc (.cells (irow .u64 (zr 8)) 135)) = w0 at *
 have hfin : blk h b = sums h (rs h (wds b) 80).list 8 := rfl
 have he := list_len (rs h (wds b) 80)
 generalize (rs h (wds b) 80).list = e at *
 refine wp_region_alloc_ex 4 5 [5] (fun _ => .cells (irow .u64 (zr 8)) 135 (0, 0)) (by kernel_rfl) (by decide) (by decide) (by kernel_rfl) (by kernel_rfl) (by kernel_rfl) (by kernel_rfl) (by kernel_rfl) (by kernel_rfl) (by kernel_rfl) (by kernel_rfl) (by decide) (by decide) ?_ ?_
 ·intro s l u
  obtain rfl : s = 4 := by omega
  exact ⟨_, _, rfl, rfl, rfl, rfl, fun a w => by kernel_rfl⟩
 apply Exists.intro
 constructor
 ·intro v_ hb
  have Hr0 := keepr (keep hb r0)
  have Hr1 := keepr (keep hb r1)
  have Hr2 := keepr (keep hb r2)
  clear hb; dsimp only [List.take]
  refine wpQuiet_load_row rfl 135 _ rfl (w.heap.size) rfl 135 (irow .u64 h) (0, 0) _ Hr0.out Tryd.underlying135 rfl (info23 _ hl) ?_
  simp only [Act.put, ZPd, ZPe, ZPf]
  refine wpQuiet_load_row rfl 137 _ rfl (w.heap.size + 1) rfl 137 (irow .u8 b) (0, 0) _ Hr1.out Tryd.underlying137 rfl ib ?_
  simp only [Act.put, ZPd, ZPe, ZPf]
  go_big_quiet_step (exact cS.re)
  go_big_quiet_step (exact cM.re)
  refine wpQuiet_nil ?_
  rfl
 intro w1 g_ hb hg hd_
 obtain ⟨lg, rg⟩ := hg 5 (by simp)
 replace rg : w1.heap[g_ 5]? = some (.cells (irow .u64 (zr 8)) 135 (0, 0)) := rg
 simp only [List.drop, puts, ptrs, List.map, List.foldl, Act.put, List.setIfInBounds_toArray, List.set_cons_succ, List.set_cons_zero]
 clear hg hd_
 generalize g_ 5 = gE at *
 have lr0 := lt_of_row r0
 have lr1 := lt_of_row r1
 have lr2 := lt_of_row r2
 have hs := hw.size
 replace r0 := keep hb r0
 replace r1 := keep hb r1
 replace r2 := keep hb r2
 replace hw := Below.after hw hb
 clear hb
 refine wpList_store_row rfl 135 _ _ rfl (gE) (irow .u64 e) rfl rfl 135 _ rg (info23 _ he) (fit8 _ _ (zr_len 8) he) (irow_one _ _) ?_
 simp only [Act.put]
 replace r0 := (setRow_other w1 (gE) (w.heap.size) (irow .u64 e) (by omega)).trans r0
 replace r1 := (setRow_other w1 (gE) (w.heap.size + 1) (irow .u64 e) (by omega)).trans r1
 replace r2 := (setRow_other w1 (gE) (w.heap.size + 1 + 1) (irow .u64 e) (by omega)).trans r2
 replace rg := setRow_heap w1 (gE) _ (irow .u64 e) _ _ rg
 replace hw := below_setRow hw (show w.heap.size ≤ gE by omega) (irow .u64 e)
 generalize w1.setRow (gE) (irow .u64 e) = w2 at *
 have y0 : w.heap.size + 1 + 1 < gE := by omega
 clear hs lr0 lr1 lr2 lg r1 cS cM
 rw [← sums_zero h e hl] at r0
 go_wp2
 go_loopw [11] (fun i wr => ∃ k : Nat, k ≤ 8 ∧ i = .int .i64 k ∧ wr.heap[w.heap.size]? = some (.cells (irow .u64 (sums h e k)) 135 (0, 0)) ∧ wr.heap[w.heap.size + 1 + 1]? = some (.cells (irow .u64 (zr 8)) 135 (0, 0)) ∧ wr.heap[gE]? = some (.cells (irow .u64 e) 135 (0, 0)) ∧ Below w.heap.size w wr) (fun i _ => 8 - (intOf i).toNat)
 case atStart => exact ⟨0, by omega, rfl, r0, r2, rg, hw⟩
 case round =>
  clear r0 r2 rg hw
  obtain ⟨k, hk, rfl, r0, r2, rg, hw⟩ := hrel
  by_cases hlt : k < 8
  ·have hd : decide ((k : Int) < 8) = true := by simp; omega
   have dh := irow_cell r0 (j := k) (by rw [sums_len]; exact hlt)
   have de := irow_cell rg (j := k) (by rw [he]; exact hlt)
   rw [sums_get _ _ _ hlt] at dh
   have hset := sums_set h e k hlt
   have hpl := sums_len h e k
   generalize h.getD k 0 = x at *
   generalize e.getD k 0 = y at *
   replace hset := hide hset
   go_wp2
   have k0 : ∀ p : Regrown, (grow (redrawn wr p.d) p.os).cell? ⟨w.heap.size, k, none⟩ = some (.int .u64 x) := fun p => cell_regrown (dh) p.d p.os
   have k1 : ∀ p : Regrown, (grow (redrawn wr p.d) p.os).cell? ⟨gE, k, none⟩ = some (.int .u64 y) := fun p => cell_regrown (de) p.d p.os
   refine wp_region_tail (C := fun w' => ∃ p : Regrown, w' = grow (redrawn wr p.d) p.os) 8 _ rfl rfl rfl (by kernel_rfl) (by kernel_rfl) (by kernel_rfl) (by kernel_rfl) ⟨⟨wr.drawn + 1, #[]⟩, by rw [grow_empty]; rfl⟩ ?_
   dsimp only [List.set, idle]
   go_big_quiet_step (fail)
   go_big_quiet_step (fail)
   go_big_quiet_step (fail)
   go_big_quiet_step (fail)
   go_big_quiet_step (fail)
   go_big_quiet_step (fail)
   go_big_quiet_step (fail)
   go_big_quiet_step (fail)
   refine wpQuiet_idle rfl rfl rfl ?_
   rintro _ ⟨p, rfl⟩
   have hb := below_regrown wr p.d p.os
   generalize grow (redrawn wr p.d) p.os = w3 at *
   clear k0 k1
   replace r0 := keep hb r0
   replace r2 := keep hb r2
   replace rg := keep hb rg
   replace hw := Below.after hw hb
   clear hb
   have cz := irow_cell r0 (j := k) (by omega)
   have hf := row_frozen r0 k
   clear dh de
   go_wp2
   go_roundw
   case rel => exact ⟨k + 1, by omega, by go_num, by rw [← hset.out]; exact irow_set r0 k _, heap_other r2 (by omega), heap_other rg (by omega), hw.setCell (show w.heap.size ≤ w.heap.size by omega) _⟩
   case measure => simp [intOf]; omega
  ·obtain rfl : k = 8 := by omega
   have hd : decide ((8 : Int) < 8) = false := by decide
   have hq := sums_len h e 8
   rw [← hfin] at r0 hq
   go_wp2_with (first | (refine wpList_load_want rfl 135 _ rfl (w.heap.size) rfl 135 (irow .u64 (blk h b)) (0, 0) _ r0 Tryd.underlying135 rfl (info23 _ hq) ?_) | (refine wpList_store_row rfl 135 _ _ rfl (w.heap.size + 1 + 1) (irow .u64 (blk h b)) rfl rfl 135 _ r2 (info23 _ hq) (fit8 _ _ (zr_len 8) hq) (irow_one _ _) ?_) | fail)
   replace r2 := setRow_heap wr (w.heap.size + 1 + 1) _ (irow .u64 (blk h b)) _ _ r2
   replace hw := below_setRow hw (show w.heap.size ≤ w.heap.size + 1 + 1 by omega) (irow .u64 (blk h b))
   generalize wr.setRow (w.heap.size + 1 + 1) (irow .u64 (blk h b)) = w9 at *
   exact bodyPost_ret (v := .agg (irow .u64 (blk h b))) (results_cell_row Tryd.results108 _ _ (w.heap.size + 1 + 1) _ _ _ _ rfl r2 Tryd.underlying135 rfl (info23 _ hq)) rfl ⟨rfl, hw⟩
end Go.Proofs.YtajaiiidafkijaaDoor.Wi

