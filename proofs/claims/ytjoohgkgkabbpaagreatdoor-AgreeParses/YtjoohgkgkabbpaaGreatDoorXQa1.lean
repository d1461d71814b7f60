import Derived.Test.YtjoohgkgkabbpaaGreatDoorXOpen
import Derived.Deep.MidRow
import Derived.RegionTactic
import Derived.Test.YtjoohgkgkabbpaaGreatDoorProg
import Derived.WalkKit
import Derived.WalkSpells
import Derived.WalkLawsBesides
import Derived.Lib.QuietBelow
import Derived.BigQuiet
import Derived.ChangeKeysEq
import Derived.Laws.StructEq
import Derived.Deep.OwnRows
import Derived.Laws.CopyOwn
import Derived.OwnWalk
import Derived.OrdersHeld
import Derived.Deep.RegionHeld3
import Derived.Deep.DeepAppendRoom
import Derived.Lib.Tables
import Derived.Laws.BitsAllLaws
import Derived.WalkMore
namespace Go.Proofs.YtjoohgkgkabbpaaGreatDoor
set_option maxRecDepth 100000
open Go Go.RowKit Go.Sort
def ovw : Array Value → Nat → List Value → Array Value
 | cs, _, [] => cs
 | cs, o, v :: r => ovw (cs.setIfInBounds o v) (o + 1) r
theorem world_eq {w v : World} (h : w.heap = v.heap) (h1 : w.tape = v.tape) (h2 : w.drawn = v.drawn) (h3 : w.os = v.os) (h4 : w.output = v.output) : w = v := by
 cases w; cases v; simp_all
theorem setRow_same {w : World} {g : Nat} {cs : Array Value} {t : TypeId} {fr : Nat × Nat} (h : w.heap[g]? = some (.cells cs t fr)) : w.setRow g cs = w := by
 refine world_eq ?_ rfl rfl rfl rfl
 apply Array.ext_getElem?
 intro k
 by_cases hk : k = g
 ·subst hk; rw [setRow_heap w k cs cs t fr h, h]
 ·rw [setRow_other w g k cs hk]
theorem setRow_setRow {w : World} {g : Nat} {cs : Array Value} {t : TypeId} {fr : Nat × Nat} (h : w.heap[g]? = some (.cells cs t fr)) (a b : Array Value) : (w.setRow g a).setRow g b = w.setRow g b := by
 refine world_eq ?_ rfl rfl rfl rfl
 apply Array.ext_getElem?
 intro k
 by_cases hk : k = g
 ·subst hk; rw [setRow_heap _ k a b t fr (setRow_heap w k cs a t fr h), setRow_heap w k cs b t fr h]
 ·rw [setRow_other _ g k b hk, setRow_other w g k a hk, setRow_other w g k b hk]
theorem setCells_eq {g : Nat} {t : TypeId} {fr : Nat × Nat} : ∀ (vs : List Value) (o : Nat) (w : World) (cs : Array Value), w.heap[g]? = some (.cells cs t fr) → w.setCells g o vs = w.setRow g (ovw cs o vs)
 | [], _, w, cs, h => (setRow_same h).symm
 | v :: r, o, w, cs, h => by
  have h1 : w.setCell ⟨g, o, none⟩ v = w.setRow g (cs.setIfInBounds o v) := setCell_eq_setRow w g o cs t fr v h
  rw [World.setCells, h1, setCells_eq r (o + 1) _ (cs.setIfInBounds o v) (setRow_heap w g cs _ t fr h), setRow_setRow h]
  rfl
theorem there_row {w : World} {g : Nat} {cs : Array Value} {t : TypeId} (h : w.heap[g]? = some (.cells cs t (0, 0))) {o n : Nat} (hn : o + n ≤ cs.size) : w.there g o n := by
 intro j hj
 refine ⟨?_, ?_⟩
 ·rw [cell_of_row w g (o + j) cs t (0, 0) h, Array.getElem?_eq_getElem (by omega)]; rfl
 ·simp [World.frozen?, h]
theorem wpList_load_part {P : Program} {ops : Array Oper} {rest : List Oper} {o : Oper} {a : Act} {w : World} {Q : Exit → Act → World → Prop} (hw : Region.wanted o (yielded ops a.tmps) = true) (ty : TypeId) (x : Operand) (ho : o.op = .load ty x)
 (g off : Nat) (hx : a.eval x = .pointer (some ⟨g, off, none⟩)) (t : TypeId) (cs : Array Value) (fr : Nat × Nat) (part : Array Value) (d : TypeDesc) (hg : w.heap[g]? = some (.cells cs t fr)) (hp : cs.extract off (off + part.size) = part)
 (hu : P.underlying ty = some d) (hd : d.isRow = true) (hi : (P.info? ty).map (·.size) = some part.size)
 (h : wpList P ops Q rest (a.put o.dst (.agg part)) w) : wpList P ops Q (o :: rest) a w := by
 refine BigFrame.wpList_want hw fun _ hK => ?_
 have hr := World.rangeAt_of_block hg off part.size
 rw [hp] at hr
 exact wp_load_mid ty x ho g off hx part.toList d hr hu hd (by simpa using hi) (hK _ _ (by simpa using h))
theorem five {r : Array Value} (h : r.size = 5) : ∃ a b c d e, r = #[a, b, c, d, e] := by
 obtain ⟨l⟩ := r
 match l, h with
 | [a, b, c, d, e], _ => exact ⟨a, b, c, d, e, rfl⟩
def r4 (a b c d : Array Value) : Array Value := (a.toList ++ (b.toList ++ (c.toList ++ d.toList))).toArray
end Go.Proofs.YtjoohgkgkabbpaaGreatDoor
namespace Go.Proofs.YtjoohgkgkabbpaaGreatDoor
set_option maxRecDepth 100000
open Go Go.RowKit Go.Sort
theorem wp_world_op {P : Program} {o : Oper} {a : Act} {w : World} {K : Act → World → Prop} {Q : Exit → Act → World → Prop} (v : Value) (w' : World) (hx : (execOp a.eval o).run P w = .ok (.value v) w') (h : K (a.put o.dst v) w') : o.wp P a w K Q := by
 unfold Oper.wp
 rw [hx, Oper.upon_value]
 exact h
end Go.Proofs.YtjoohgkgkabbpaaGreatDoor
namespace Go.Proofs.YtjoohgkgkabbpaaGreatDoor
set_option maxRecDepth 100000
open Go Go.RowKit Go.Sort
/-! Two arrays of integers, held against each other. -/
section
variable {P : Program}
theorem run_part_int {e : TypeId} {k : IntKind} {i0 : TypeInfo} (w : World) (hu : P.underlying e = some (.int k)) (_hi : P.info? e = some i0) (l : List Int) (i : Nat) (h : i < l.length) :
 (part e (l.map (Value.int k)).toArray i).run P w = .ok (.int k l[i]) w := by
 have hagg : (isAgg e).run P w = .ok false w := by
  unfold isAgg
  rw [Sem.run_bind, run_underlying hu w]
  rfl
 simp [part, Sem.run_bind, hagg, h]
theorem run_eqItems_int {e : TypeId} {k : IntKind} {i0 : TypeInfo} (d : Nat) (w : World) (hu : P.underlying e = some (.int k)) (hi : P.info? e = some i0) (l l' : List Int) : ∀ (is : List Nat), (∀ i ∈ is, i < l.length ∧ i < l'.length) →
 (Op.eqItems (d + 1) e 1 (l.map (Value.int k)).toArray (l'.map (Value.int k)).toArray is).run P w = .ok (is.all fun i => l.getD i 0 == l'.getD i 0) w
 | [], _ => by simp [Op.eqItems]
 | i :: is, h => by
  have h1 := h i (by simp)
  have h2 := run_eqItems_int d w hu hi l l' is (fun j hj => h j (by simp [hj]))
  have e1 : l.getD i 0 = l[i]'h1.1 := by simp [h1.1]
  have e2 : l'.getD i 0 = l'[i]'h1.2 := by simp [h1.2]
  simp only [Op.eqItems, Sem.run_bind, Nat.mul_one, run_part_int w hu hi l i h1.1, run_part_int w hu hi l' i h1.2, Result.andThen_ok, run_equalIn_int w d e k k _ _ hu, List.all_cons, e1, e2]
  cases hb : (l[i]'h1.1 == l'[i]'h1.2)
  ·simp
  ·simpa using h2
theorem run_equal_ints {t e : TypeId} {k : IntKind} {i0 : TypeInfo} {n : Nat} (w : World) (ht : P.underlying t = some (.array n e)) (hu : P.underlying e = some (.int k)) (hi : P.info? e = some i0) (hc : P.cellsOf e = 1)
 (l l' : List Int) (hl : l.length = n) (hl' : l'.length = n) :
 (Op.equalIn 10000 t (.agg (l.map (Value.int k)).toArray) (.agg (l'.map (Value.int k)).toArray)).run P w = .ok (decide (l = l')) w := by
 rw [run_equalIn_array w 9999 _ _ ht hi, hc, run_eqItems_int 9998 w hu hi l l' (List.range n) (fun i h => by simp at h; omega)]
 congr 1
 rw [Bool.eq_iff_iff]
 simp only [List.all_eq_true, List.mem_range, beq_iff_eq, decide_eq_true_eq]
 constructor
 ·intro h
  apply List.ext_getElem (by omega)
  intro i h1 h2
  have := h i (by omega)
  simpa [h1, h2] using this
 ·rintro rfl i _
  rfl
end
/-! Calls by contract; what stays. -/
def Gives (f : FuncId) (args : Array Value) (v : Value) : Prop := ∀ W, Calls Tryz.prog f args W fun e w' => e = .returned v ∧ Below W.heap.size W w'
theorem Gives.at {f : FuncId} {args : Array Value} {v : Value} (h : Gives f args v) (W : World) : Calls Tryz.prog f args W fun e w' => e = .returned v ∧ Below W.heap.size W w' := h W
theorem Gives.re {f : FuncId} {args : Array Value} {v : Value} (h : Gives f args v) {w : World} {d : Nat} {os : Array Obj} : Calls Tryz.prog f args (grow (redrawn w d) os) fun e w'' => e = .returned v ∧ ∃ p : Regrown, w'' = grow (redrawn w p.d) p.os := Calls.regrown_of (h _)
theorem hide {p : Prop} (h : p) : Hid p := h
theorem Hid.out {p : Prop} (h : Hid p) : p := h
theorem keep {w W : World} (hb : Below w.heap.size w W) {g : Nat} {o : Obj} (h : w.heap[g]? = some o) : W.heap[g]? = some o :=
 (hb.block _ (Array.getElem?_eq_some_iff.1 h).1).trans h
theorem lt_of_row {w : World} {g : Nat} {o : Obj} (h : w.heap[g]? = some o) : g < w.heap.size := (Array.getElem?_eq_some_iff.1 h).1
theorem Below.after {w w1 w2 : World} (h : Below w.heap.size w w1) (hb : Below w1.heap.size w1 w2) : Below w.heap.size w w2 := h.trans (hb.mono h.size)
theorem wpList_load_want {P : Program} {ops : Array Oper} {rest : List Oper} {o : Oper} {a : Act} {w : World} {Q : Exit → Act → World → Prop} (hw : Region.wanted o (yielded ops a.tmps) = true) (ty : TypeId) (x : Operand) (ho : o.op = .load ty x)
 (g : Nat) (hx : a.eval x = .pointer (some ⟨g, 0, none⟩)) (t : TypeId) (cs : Array Value) (fr : Nat × Nat) (d : TypeDesc) (hg : w.heap[g]? = some (.cells cs t fr))
 (hu : P.underlying ty = some d) (hd : (match d with | .struct _ | .array _ _ => true | _ => false) = true) (hi : (P.info? ty).map (·.size) = some cs.size)
 (h : wpList P ops Q rest (a.put o.dst (.agg cs)) w) : wpList P ops Q (o :: rest) a w :=
 BigFrame.wpList_want hw fun _ hK => wp_load_row ty x ho g hx t cs fr d hg hu hd hi (hK _ _ h)
theorem wpList_alloc {P : Program} {ops : Array Oper} {rest : List Oper} {o : Oper} {a : Act} {w : World} {Q : Exit → Act → World → Prop} (hw : Region.wanted o (yielded ops a.tmps) = true) (ty : TypeId) (ho : o.op = .alloc ty) (cs : Array Value)
 (hz : ∀ W, (Instr.alloc ty true (.tuple #[])).run P W = .ok (.pointer (some ⟨W.heap.size, 0, none⟩)) (W.alloc (.cells cs ty)))
 (h : wpList P ops Q rest (a.put o.dst (.pointer (some ⟨w.heap.size, 0, none⟩))) (w.alloc (.cells cs ty))) : wpList P ops Q (o :: rest) a w := by
 refine BigFrame.wpList_want hw fun _ hK => wp_world_op _ _ ?_ (hK _ _ h)
 unfold execOp
 simp only [ho, Sem.run_bind, Sem.run_pure, hz, Result.andThen_ok]
theorem wpList_box {P : Program} {ops : Array Oper} {rest : List Oper} {o : Oper} {a : Act} {w : World} {Q : Exit → Act → World → Prop} (hw : Region.wanted o (yielded ops a.tmps) = true) (ty : TypeId) (x : Operand) (ho : o.op = .box ty x) (cs : Array Value) (hx : a.eval x = .agg cs)
 (hz : ∀ W, (Instr.box ty (.agg cs)).run P W = .ok (.pointer (some ⟨W.heap.size, 0, none⟩)) (W.alloc (.cells cs ty)))
 (h : wpList P ops Q rest (a.put o.dst (.pointer (some ⟨w.heap.size, 0, none⟩))) (w.alloc (.cells cs ty))) : wpList P ops Q (o :: rest) a w := by
 refine BigFrame.wpList_want hw fun _ hK => wp_world_op _ _ ?_ (hK _ _ h)
 unfold execOp
 simp only [ho, hx, Sem.run_bind, Sem.run_pure, hz, Result.andThen_ok]
theorem size_alloc1 (w : World) (o : Obj) : (w.alloc o).heap.size = w.heap.size + 1 := Array.size_push ..
theorem addr_add (b off j : Nat) : (⟨b, off, none⟩ : Addr).add j = ⟨b, off + j, none⟩ := by
 unfold Addr.add
 split
 ·rename_i h; rw [h]; rfl
 ·rfl
/-! Rows of integers. -/
def irow (k : IntKind) (l : List Int) : Array Value := (l.map (Value.int k)).toArray
theorem irow_size (k : IntKind) (l : List Int) : (irow k l).size = l.length := by simp [irow]
theorem irow_one (k : IntKind) (l : List Int) : (irow k l).all (·.oneCell') = true := by
 simp only [irow, List.all_toArray, List.all_map, List.all_eq_true]
 intro x _; rfl
theorem irow_get (k : IntKind) (l : List Int) (j : Nat) (hj : j < l.length) : (irow k l)[j]? = some (.int k (l.getD j 0)) := by
 simp [irow, List.getElem?_eq_getElem hj, List.getD_eq_getElem?_getD]
theorem irow_cell {W : World} {g : Nat} {k : IntKind} {l : List Int} {t : TypeId} (hg : W.heap[g]? = some (.cells (irow k l) t (0, 0))) {j : Nat} (hj : j < l.length) : W.cell? ⟨g, j, none⟩ = some (.int k (l.getD j 0)) := by
 simp only [World.cell?, hg]
 simpa using irow_get k l j hj
theorem row_frozen {W : World} {g : Nat} {cs : Array Value} {t : TypeId} (hg : W.heap[g]? = some (.cells cs t (0, 0))) (j : Nat) : W.frozen? ⟨g, j, none⟩ = false := by
 simp [World.frozen?, hg]
theorem irow_set {W : World} {g : Nat} {k : IntKind} {l : List Int} {t : TypeId} (hg : W.heap[g]? = some (.cells (irow k l) t (0, 0))) (j : Nat) (z : Int) : (W.setCell ⟨g, j, none⟩ (.int k z)).heap[g]? = some (.cells (irow k (l.set j z)) t (0, 0)) := by
 rw [heap_setCell_same W g j _ t _ hg]
 simp [irow, List.map_set]
theorem heap_other {W : World} {g g' j : Nat} {v : Value} {o : Obj} (h : W.heap[g']? = some o) (hne : g' ≠ g) : (W.setCell ⟨g, j, none⟩ v).heap[g']? = some o := by
 rw [← h]
 exact heap_setCell_other W ⟨g, j, none⟩ g' v hne
theorem ints_one (k : IntKind) (l : List Int) : ∀ u ∈ l.map (Value.int k), u.oneCell' = true := by
 intro u hu
 obtain ⟨z, _, rfl⟩ := List.mem_map.1 hu
 rfl
def zr (k : Nat) : List Int := List.replicate k 0
theorem zr_len (k : Nat) : (zr k).length = k := by simp [zr]
/-! Blocks of zeros, by their types. -/
def Bys (W : World) (v : Value) (bs : List Int) : Prop := ∃ ao cap, v = .slice ao bs.length cap ∧ bs.length ≤ 9223372036854775807 ∧ (∀ j, j < bs.length → ∃ b off, ao = some ⟨b, off, none⟩ ∧ b < W.heap.size ∧ W.cell? ⟨b, off + j, none⟩ = some (.int .u8 (bs.getD j 0))) ∧ (∀ z ∈ bs, 0 ≤ z ∧ z < 256)
theorem Bys.keep {W W' : World} {v : Value} {bs : List Int} (h : Bys W v bs) (hb : Below W.heap.size W W') : Bys W' v bs := by
 obtain ⟨ao, cap, e, hl, hc, hz⟩ := h
 refine ⟨ao, cap, e, hl, fun j hj => ?_, hz⟩
 obtain ⟨b, off, e1, h1, h2⟩ := hc j hj
 exact ⟨b, off, e1, Nat.lt_of_lt_of_le h1 hb.size, (hb.cell h1).trans h2⟩
end Go.Proofs.YtjoohgkgkabbpaaGreatDoor
namespace Go.Proofs.YtjoohgkgkabbpaaGreatDoor
set_option maxRecDepth 100000
/-! Numbers in their one form, on lists of bytes. -/
abbrev B := BitVec 8
def en (n : Nat) : List B := if n < 128 then [BitVec.ofNat 8 n] else BitVec.ofNat 8 (n % 128 + 128) :: en (n / 128)
termination_by n
decreasing_by omega
theorem en_lo {n : Nat} (h : n < 128) : en n = [BitVec.ofNat 8 n] := by rw [en, if_pos h]
theorem en_hi {n : Nat} (h : ¬ n < 128) : en n = BitVec.ofNat 8 (n % 128 + 128) :: en (n / 128) := by rw [en, if_neg h]
inductive RN where
 | er (e : Int)
 | ok (v n : Nat)
def rd : Nat → List B → RN
 | _, [] => .er 73
 | i, x :: l => if 128 ≤ x.toNat then (if i = 9 then .er 70 else match rd (i + 1) l with
  | .ok v n => .ok (v * 128 + (x.toNat - 128)) (n + 1)
  | .er e => .er e) else if (i = 9 ∧ 1 < x.toNat) ∨ (0 < i ∧ x.toNat = 0) then .er 70 else .ok x.toNat 1
theorem b_of (n : Nat) (h : n < 256) : (BitVec.ofNat 8 n).toNat = n := by rw [BitVec.toNat_ofNat]; omega
theorem two_split (i : Nat) (h : i ≤ 8) : 2 ^ (64 - 7 * i) = 128 * 2 ^ (64 - 7 * (i + 1)) := by
 rw [show 64 - 7 * i = 7 + (64 - 7 * (i + 1)) by omega, Nat.pow_add]
theorem rd_en (n : Nat) : ∀ i r, i ≤ 9 → n < 2 ^ (64 - 7 * i) → (0 < i → 0 < n) → rd i (en n ++ r) = .ok n (en n).length := by
 induction n using Nat.strongRecOn with
 | ind n ih =>
  intro i r hi hn h0
  by_cases h : n < 128
  ·rw [en_lo h, List.cons_append, rd, b_of n (by omega), if_neg (by omega), if_neg]
   ·rfl
   ·rintro (⟨rfl, h1⟩ | ⟨h1, h2⟩)
    ·have : (2 : Nat) ^ (64 - 7 * 9) = 2 := by decide
     omega
    ·have := h0 h1; omega
  ·have hi8 : i ≤ 8 := by
    rcases Nat.lt_or_ge i 9 with q | q
    ·omega
    ·obtain rfl : i = 9 := by omega
     have : (2 : Nat) ^ (64 - 7 * 9) = 2 := by decide
     omega
   have e := ih (n / 128) (by omega) (i + 1) r (by omega) (by have := two_split i hi8; omega) (by omega)
   rw [en_hi h, List.cons_append, rd, b_of _ (by omega), if_pos (by omega), if_neg (by omega), e]
   have h9 : n / 128 * 128 + (n % 128 + 128 - 128) = n := by omega
   simp only [h9, List.length_cons]
theorem rd_ok : ∀ (l : List B) (i v n : Nat), i ≤ 9 → rd i l = .ok v n → (∃ r, l = en v ++ r) ∧ n = (en v).length ∧ v < 2 ^ (64 - 7 * i) ∧ (0 < i → 0 < v)
 | [], _, _, _, _, h => by simp [rd] at h
 | x :: l, i, v, n, hi, h => by
  rw [rd] at h
  split at h
  ·rename_i hx
   split at h
   ·cases h
   ·rename_i hi9
    split at h
    ·rename_i v' n' e
     injection h with h1 h2
     obtain ⟨⟨r, hr⟩, hn, hv, h0⟩ := rd_ok l (i + 1) v' n' (by omega) e
     have hv0 := h0 (by omega)
     have hxl := x.isLt
     have hge : ¬ v < 128 := by omega
     have hd : v / 128 = v' := by omega
     have hm : v % 128 + 128 = x.toNat := by omega
     have he : en v = x :: en v' := by rw [en_hi hge, hd, hm, BitVec.ofNat_toNat, BitVec.setWidth_eq]
     have := two_split i (by omega)
     exact ⟨⟨r, by rw [he, hr, List.cons_append]⟩, by rw [he, List.length_cons]; omega, by omega, fun _ => by omega⟩
    ·cases h
  ·rename_i hx
   split at h
   ·cases h
   ·rename_i hc
    injection h with h1 h2
    subst h1; subst h2
    have he : en x.toNat = [x] := by rw [en_lo (by omega), BitVec.ofNat_toNat, BitVec.setWidth_eq]
    refine ⟨⟨l, by rw [he]; rfl⟩, by rw [he]; rfl, ?_, fun h0 => ?_⟩
    ·rcases Nat.lt_or_ge i 9 with q | q
     ·have : 2 ^ 7 ≤ 2 ^ (64 - 7 * i) := Nat.pow_le_pow_right (by decide) (by omega)
      omega
     ·obtain rfl : i = 9 := by omega
      have : (2 : Nat) ^ (64 - 7 * 9) = 2 := by decide
      omega
    ·omega
theorem rd_er : ∀ (l : List B) (i : Nat) (e : Int), rd i l = .er e → e = 70 ∨ e = 73
 | [], _, e, h => by rw [rd] at h; injection h with h; exact .inr h.symm
 | x :: l, i, e, h => by
  rw [rd] at h
  split at h
  ·split at h
   ·injection h with h; exact .inl h.symm
   ·split at h
    ·cases h
    ·rename_i e' he
     injection h with h
     subst h
     exact rd_er l (i + 1) _ he
  ·split at h
   ·injection h with h; exact .inl h.symm
   ·cases h
theorem en_pos (n : Nat) : 0 < (en n).length := by
 by_cases h : n < 128
 ·rw [en_lo h]; simp
 ·rw [en_hi h]; simp
theorem en_len (n : Nat) : ∀ k, 0 < k → ((en n).length ≤ k ↔ n < 2 ^ (7 * k)) := by
 induction n using Nat.strongRecOn with
 | ind n ih =>
  intro k hk
  by_cases h : n < 128
  ·rw [en_lo h, List.length_singleton]
   have : 2 ^ 7 ≤ 2 ^ (7 * k) := Nat.pow_le_pow_right (by decide) (by omega)
   omega
  ·rw [en_hi h, List.length_cons]
   rcases Nat.lt_or_ge 1 k with q | q
   ·have e := ih (n / 128) (by omega) (k - 1) (by omega)
    have : 2 ^ (7 * k) = 128 * 2 ^ (7 * (k - 1)) := by rw [show 7 * k = 7 + 7 * (k - 1) by omega, Nat.pow_add]
    omega
   ·obtain rfl : k = 1 := by omega
    have := en_pos (n / 128)
    omega
theorem en_ten {n : Nat} (h : n < 18446744073709551616) : (en n).length ≤ 10 := (en_len n 10 (by decide)).2 (by omega)
theorem rd0_ok {l : List B} {v n : Nat} (h : rd 0 l = .ok v n) : (∃ r, l = en v ++ r) ∧ n = (en v).length ∧ v < 18446744073709551616 := by
 obtain ⟨h1, h2, h3, _⟩ := rd_ok l 0 v n (by decide) h
 exact ⟨h1, h2, by simpa using h3⟩
theorem rd0_len {l : List B} {v n : Nat} (h : rd 0 l = .ok v n) : 0 < n ∧ n ≤ l.length ∧ n ≤ 10 := by
 obtain ⟨⟨r, h1⟩, h2, h3⟩ := rd0_ok h
 have := en_pos v
 have := en_ten h3
 rw [h1, List.length_append]
 omega
theorem en_bits {n L : Nat} (_h0 : 0 < L) (h1 : 2 ^ (L - 1) ≤ n ∨ (n = 0 ∧ L = 1)) (h2 : n < 2 ^ L) : (en n).length = (L + 6) / 7 := by
 have hk : 0 < (L + 6) / 7 := by omega
 have hle : (en n).length ≤ (L + 6) / 7 := (en_len n _ hk).2 (Nat.lt_of_lt_of_le h2 (Nat.pow_le_pow_right (by decide) (by omega)))
 rcases Nat.lt_or_ge ((L + 6) / 7) 2 with q | q
 ·have := en_pos n; omega
 ·have hge : ¬ (en n).length ≤ (L + 6) / 7 - 1 := by
   intro hc
   have h3 := (en_len n _ (by omega)).1 hc
   have : 2 ^ (7 * ((L + 6) / 7 - 1)) ≤ 2 ^ (L - 1) := Nat.pow_le_pow_right (by decide) (by omega)
   omega
  omega
end Go.Proofs.YtjoohgkgkabbpaaGreatDoor
namespace Go.Proofs.YtjoohgkgkabbpaaGreatDoor
set_option maxRecDepth 100000
open Go Go.RowKit Go.Sort
attribute [local go_sem] setCell_drewN alloc_drewN
def bv (a : B) : Int := (a.toNat : Int)
theorem bnd (a : B) : 0 ≤ bv a ∧ bv a < 256 := by
 have := a.isLt
 unfold bv
 omega
theorem bv_inj {a b : B} : bv a = bv b ↔ a = b := by
 constructor
 ·intro h; apply BitVec.eq_of_toNat_eq; unfold bv at h; omega
 ·rintro rfl; rfl
def bl (l : List B) : List Int := l.map bv
theorem bl_len (l : List B) : (bl l).length = l.length := by simp [bl]
theorem bl_get (l : List B) (j : Nat) : (bl l).getD j 0 = bv (l.getD j 0#8) := by
 simp only [bl, List.getD_eq_getElem?_getD, List.getElem?_map]
 cases l[j]? <;> rfl
theorem bl_bnd (l : List B) : ∀ z ∈ bl l, 0 ≤ z ∧ z < 256 := by
 intro z h
 obtain ⟨b, _, rfl⟩ := List.mem_map.1 h
 exact bnd b
theorem brow_at (l : List B) (j : Nat) (hj : j < l.length) : (irow .u8 (bl l))[j]? = some (.int .u8 (bv (l.getD j 0#8))) := by
 rw [← bl_get]; exact irow_get .u8 _ j (by rw [bl_len]; exact hj)
theorem bl_app (a b : List B) : bl (a ++ b) = bl a ++ bl b := by simp [bl]
theorem bl_inj {a b : List B} (h : bl a = bl b) : a = b := by
 induction a generalizing b with
 | nil => cases b with
  | nil => rfl
  | cons y b => simp [bl] at h
 | cons x a ih => cases b with
  | nil => simp [bl] at h
  | cons y b =>
   simp only [bl, List.map_cons, List.cons.injEq] at h
   rw [bv_inj.1 h.1, ih h.2]
theorem slen_own {W : World} {b : Nat} {T : TypeId} {sz : Nat} {v : Value} {n : Nat} {xs : List Value} (h : W.ownsRow b T sz v n xs) : ∃ ao cap, v = .slice ao n cap := by
 obtain ⟨_, ⟨rfl, rfl⟩ | ⟨g, cap, cur, rfl, _⟩⟩ := h
 ·exact ⟨_, _, rfl⟩
 ·exact ⟨_, _, rfl⟩
set_option maxRecDepth 100000 in
theorem info8 : ∃ i, Tryz.prog.info? 5 = some i ∧ i.zero = some (.int .u8 0) ∧ i.size = 1 ∧ i.bytes = 1 := ⟨_, rfl, rfl, rfl, rfl⟩
def marks (k : Nat) : List Int := (List.range k).map fun (i : Nat) => 171 + ((i % 60 : Nat) : Int)
def BysB (W : World) (v : Value) (bs : List B) : Prop := Bys W v (bl bs) ∧ bs.length ≤ 140737488355000 ∧ (∀ a l c, v = .slice a l c → a = none → c = 0)
theorem BysB.keep {W W' : World} {v : Value} {bs : List B} (h : BysB W v bs) (hb : Below W.heap.size W W') : BysB W' v bs := ⟨h.1.keep hb, h.2⟩
def Own (W : World) (b : Nat) (v : Value) (d : List B) : Prop := W.ownsRow b 5 1 v d.length ((bl d).map (Value.int .u8))
def gb (l : List B) (i : Nat) : B := l.getD i 0#8
theorem trow_cell {W : World} {g : Nat} {l : List B} {T : Array Value} {t : TypeId} (hg : W.heap[g]? = some (.cells ((irow .u8 (bl (l))) ++ T) t (0, 0))) {j : Nat} (hj : j < l.length) : W.cell? ⟨g, j, none⟩ = some (.int .u8 (bv (gb l j))) := by
 rw [cell_of_row W g j _ t (0, 0) hg, Array.getElem?_append_left (by rw [irow_size, bl_len]; exact hj)]
 exact brow_at l j hj
theorem own_row {W : World} {b : Nat} {v : Value} {d : List B} (h : Own W b v d) (hd : 0 < d.length) : ∃ g cap T, v = .slice (some ⟨g, 0, none⟩) d.length cap ∧ b ≤ g ∧ W.heap[g]? = some (.cells ((irow .u8 (bl (d))) ++ T) 5 (0, 0)) ∧ d.length ≤ cap ∧ cap ≤ maxLen ∧ ((irow .u8 (bl (d))) ++ T).size = cap := by
 obtain ⟨hx, ⟨rfl, h0⟩ | ⟨g, cap, cur, rfl, hb, hg, hn, hm, hs, ht⟩⟩ := h
 ·omega
 ·simp only [Nat.mul_one] at hs ht
  have hcur : cur = (irow .u8 (bl (d))) ++ (cur.toList.drop d.length).toArray := by
   apply Array.ext'
   rw [Array.toList_append, List.toList_toArray]
   conv => lhs; rw [← List.take_append_drop d.length cur.toList]
   rw [ht]
   simp [irow]
  refine ⟨g, cap, (cur.toList.drop d.length).toArray, rfl, hb, by rw [← hcur]; exact hg, hn, hm, by rw [← hcur]; exact hs⟩
theorem Own.keep {W V : World} {b : Nat} {v : Value} {d : List B} (h : Own W b v d) (hb : Below W.heap.size W V) : Own V b v d := by
 obtain ⟨h1, h2 | ⟨g, cap, cur, rfl, hb2, hg, h3⟩⟩ := h
 ·exact ⟨h1, .inl h2⟩
 ·exact ⟨h1, .inr ⟨g, cap, cur, rfl, hb2, Go.Proofs.YtjoohgkgkabbpaaGreatDoor.keep hb hg, h3⟩⟩
theorem Own.bys {W : World} {b : Nat} {v : Value} {d : List B} (h : Own W b v d) : Bys W v (bl d) := by
 rcases Nat.eq_zero_or_pos d.length with h0 | h0
 ·obtain rfl : d = [] := List.length_eq_zero_iff.1 h0
  obtain ⟨ao, cap, rfl⟩ := slen_own h
  exact ⟨ao, cap, rfl, by decide, fun j hj => by simp [bl] at hj, bl_bnd _⟩
 ·obtain ⟨g, cap, T, rfl, _, hg, hn, hm, _⟩ := own_row h h0
  refine ⟨some ⟨g, 0, none⟩, cap, by rw [bl_len], by rw [bl_len]; unfold maxLen at hm; omega, fun j hj => ?_, bl_bnd _⟩
  rw [bl_len] at hj
  refine ⟨g, 0, rfl, lt_of_row hg, ?_⟩
  rw [Nat.zero_add, bl_get]
  exact trow_cell hg hj
theorem Own.block {W : World} {b : Nat} {v : Value} {d : List B} (h : Own W b v d) (hv : v ≠ .slice none 0 0) : ∃ g cap cur, v = .slice (some ⟨g, 0, none⟩) d.length cap ∧ b ≤ g ∧ W.heap[g]? = some (.cells cur 5 (0, 0)) ∧ d.length ≤ cap ∧ cap ≤ maxLen ∧ cur.size = cap := by
 obtain ⟨h1, ⟨h2, _⟩ | ⟨g, cap, cur, rfl, hb2, hg, hn, hm, hs, _⟩⟩ := h
 ·exact absurd h2 hv
 ·exact ⟨g, cap, cur, rfl, hb2, hg, hn, hm, by rw [hs, Nat.mul_one]⟩
theorem Own.low {W : World} {b : Nat} {v : Value} {d : List B} (h : Own W b v d) : ∀ g l c, v = .slice (some ⟨g, 0, none⟩) l c → g < W.heap.size := by
 intro g l c hv
 obtain ⟨h1, ⟨rfl, _⟩ | ⟨g', cap, cur, rfl, hb2, hr, h3⟩⟩ := h
 ·cases hv
 ·cases hv; exact lt_of_row hr
theorem Own.grown {W V : World} {b gx : Nat} {v : Value} {d : List B} (h : Own W b v d) (hg : W.grownBy V (some gx)) (hx : ∀ g l c, v = .slice (some ⟨g, 0, none⟩) l c → g ≠ gx) : Own V b v d := by
 obtain ⟨h1, h2 | ⟨g, cap, cur, rfl, hb2, hr, h3⟩⟩ := h
 ·exact ⟨h1, .inl h2⟩
 ·exact ⟨h1, .inr ⟨g, cap, cur, rfl, hb2, (hg.block g (lt_of_row hr) (fun e => hx g _ _ rfl (Option.some.inj e))).trans hr, h3⟩⟩
theorem own_low {W : World} {b : Nat} {v : Value} {d : List B} (h : Own W b v d) : ∀ k, v.ownBlock = some k → b ≤ k := by
 obtain ⟨h1, ⟨rfl, _⟩ | ⟨g, cap, cur, rfl, hb, _⟩⟩ := h
 ·intro k hk; cases hk
 ·intro k hk
  have : g = k := by simpa [Value.ownBlock] using hk
  omega
theorem Own.bysB {W : World} {b : Nat} {v : Value} {d : List B} (h : Own W b v d) (hl : d.length ≤ 140737488355000) : BysB W v d := by
 refine ⟨h.bys, hl, fun a l c hv hn => ?_⟩
 obtain ⟨h1, ⟨rfl, _⟩ | ⟨g, cap, cur, rfl, hb, _⟩⟩ := h
 ·cases hv; rfl
 ·cases hv; cases hn
theorem own_high {W : World} {b : Nat} {v : Value} {d : List B} (h : Own W b v d) : ∀ k, v.ownBlock = some k → k < W.heap.size := by
 obtain ⟨h1, ⟨rfl, _⟩ | ⟨g, cap, cur, rfl, hb, hg, _⟩⟩ := h
 ·intro k hk; cases hk
 ·intro k hk
  have : g = k := by simpa [Value.ownBlock] using hk
  have := lt_of_row hg
  omega
theorem Own.grown2 {W V : World} {b : Nat} {v : Value} {d : List B} {ob : Option Nat} (h : Own W b v d) (hg : W.grownBy V ob) (hx : ∀ k, ob = some k → k < b) : Own V b v d := by
 obtain ⟨h1, h2 | ⟨g, cap, cur, rfl, hb2, hr, h3⟩⟩ := h
 ·exact ⟨h1, .inl h2⟩
 ·exact ⟨h1, .inr ⟨g, cap, cur, rfl, hb2, (hg.block g (lt_of_row hr) (fun e => by have := hx g e.symm; omega)).trans hr, h3⟩⟩
theorem bys_one (W : World) (x : B) : BysB (W.alloc (.cells #[.int .u8 (bv x)] 5)) (.slice (some ⟨W.heap.size, 0, none⟩) 1 1) [x] := by
 have hr : (W.alloc (.cells #[.int .u8 (bv x)] 5)).heap[W.heap.size]? = some (.cells #[.int .u8 (bv x)] 5 (0, 0)) := hp1_0 W _
 refine ⟨⟨some ⟨W.heap.size, 0, none⟩, 1, rfl, by simp [bl], fun j hj => ⟨W.heap.size, 0, rfl, lt_of_row hr, ?_⟩, bl_bnd _⟩, by simp, fun a l c h h2 => by cases h; cases h2⟩
 obtain rfl : j = 0 := by rw [bl_len, List.length_singleton] at hj; omega
 rw [cell_of_row _ W.heap.size _ _ 5 (0, 0) hr]
 rfl
theorem own_nil (W : World) : Own (W.alloc (.cells #[] 5)) W.heap.size (.slice (some ⟨W.heap.size, 0, none⟩) 0 0) [] := ⟨rfl, .inr ⟨W.heap.size, 0, #[], rfl, Nat.le_refl _, hp1_0 _ _, Nat.le_refl _, by decide, rfl, by simp [bl]⟩⟩
section
variable {P : Program} {ops : Array Oper} {Q : Exit → Act → World → Prop} {md : Region.Mode} {S : World → Prop}
theorem wpAnyH_one {k : Nat} {o : Oper} {fuel : Nat} {listed : Array Bool} {a : Act} {w : World} (hr : Region.ready md ops listed = [k]) (hi : ops[k]? = some o) (hw : Region.wanted o (yielded ops a.tmps) = true)
 (h : ∀ K : Act → World → Prop, (∀ a' w', S w' → wpAnyH P md ops Q S fuel (listed.setIfInBounds k true) a' w' → K a' w') → o.wp P a w K Q) : wpAnyH P md ops Q S (fuel + 1) listed a w := by
 refine wpAnyH_all hr (by simp) (fun i hi' => ?_)
 obtain rfl : i = k := by simpa using hi'
 unfold wpOp
 simp only [hi, hw, if_true]
 exact .inl (h _ (fun a' w' hS hn => ⟨hS, hn⟩))
theorem wp_append_bytes {o : Oper} {a : Act} {w : World} {K : Act → World → Prop} {Q : Exit → Act → World → Prop} (s x : Operand) (ho : o.op = .call { callee := .builtin .append, args := #[s, x], argTypes := #[22, 22] }) (base : Nat) (v : Value) (d : List B) (hs : a.eval s = v) (hO : Own w base v d) (y : Value) (e : List B) (hx : a.eval x = y) (hE : BysB w y e) (hlen : d.length + e.length ≤ 140737488355328) (hbase : base ≤ w.heap.size)
 (h : ∀ v' w', Own w' base v' (d ++ e) → w.grownBy w' v.ownBlock → K (a.put o.dst v') w') : o.wp Tryz.prog a w K Q := by
 obtain ⟨i0, hi, hz0, hz1, hz2⟩ := info8
 obtain ⟨⟨ao, cap, rfl, _, hc, _⟩, _, hnil⟩ := hE
 rw [bl_len] at hx hnil hc
 have hfin : ∀ v' w', w'.ownsRow base 5 1 v' (d.length + e.length) ((bl d).map (Value.int .u8) ++ (bl e).map (Value.int .u8)) → w.grownBy w' v.ownBlock → K (a.put o.dst v') w' := fun v' w' h1 h2 => h v' w' (by
  unfold Own
  rw [List.length_append, bl, List.map_append, List.map_append]
  exact h1) h2
 cases ao with
 | some ad =>
  refine wp_append_own w s x 22 ho base 5 i0 (.int .u8 0) 1 1 Tryz.underlying22 hi hz0 hz1 hz2 rfl (by decide) v d.length ((bl d).map (Value.int .u8)) hs hO ad e.length cap ((bl e).map (Value.int .u8)) hx (by rw [List.length_map, bl_len, Nat.mul_one]) (fun j u hu => ?_) (ints_one .u8 _) (by unfold maxLen; omega) (by omega) hbase (fun v' w' h2 h3 _ => hfin v' w' h2 h3)
  rw [List.getElem?_map] at hu
  obtain ⟨z, hz, rfl⟩ := Option.map_eq_some_iff.1 hu
  have hj : j < e.length := by have := (List.getElem?_eq_some_iff.1 hz).1; rwa [bl_len] at this
  obtain ⟨b, off, he, _, hcell⟩ := hc j hj
  obtain rfl := Option.some.inj he
  rw [addr_add, hcell, List.getD_eq_getElem?_getD, hz]
  rfl
 | none =>
  have hn0 : e.length = 0 := Nat.eq_zero_of_not_pos (fun h0 => by obtain ⟨b, off, he, _⟩ := hc 0 h0; cases he)
  obtain rfl := hnil _ _ _ rfl rfl
  have he0 : e = [] := List.length_eq_zero_iff.1 hn0
  subst he0
  have hrun := run_append_owned_none (P := Tryz.prog) w base 22 o.type 5 i0 1 Tryz.underlying22 hi _ d.length _ hO
  unfold Oper.wp
  simp [execOp, ho, resolve, invoke, builtin, hs, hx, hrun, Result.andThen]
  have h_ := hfin v w (by simpa [bl, Own] using hO) (World.grownBy.refl _ _)
  exact h_
end
theorem wpList_append_B {ops : Array Oper} {rest : List Oper} {o : Oper} {a : Act} {w : World} {Q : Exit → Act → World → Prop} (hgd : o.guard = none) (s x : Operand) (ho : o.op = .call { callee := .builtin .append, args := #[s, x], argTypes := #[22, 22] }) (base : Nat) (v : Value) (d : List B) (hs : a.eval s = v) (hO : Own w base v d) (y : Value) (e : List B) (hx : a.eval x = y) (hE : BysB w y e) (hlen : d.length + e.length ≤ 140737488355328) (hbase : base ≤ w.heap.size)
 (h : ∀ v' w', Own w' base v' (d ++ e) → w.grownBy w' v.ownBlock → wpList Tryz.prog ops Q rest (a.put o.dst v') w') : wpList Tryz.prog ops Q (o :: rest) a w :=
 wpList_plain hgd fun _ hK => wp_append_bytes s x ho base v d hs hO y e hx hE hlen hbase (fun v' w' h1 h2 => hK _ _ (h v' w' h1 h2))
theorem own_down {W : World} {b c : Nat} {v : Value} {d : List B} (h : Own W b v d) (hc : c ≤ b) : Own W c v d := by
 obtain ⟨q1, q2 | ⟨g1, cap1, cur, hv, hbg, hq⟩⟩ := h
 ·exact ⟨q1, .inl q2⟩
 ·exact ⟨q1, .inr ⟨g1, cap1, cur, hv, Nat.le_trans hc hbg, hq⟩⟩
set_option maxHeartbeats 2000000 in
theorem a_clone2 (d : List B) (w : World) (v : Value) (hB : BysB w v d) : Calls Tryz.prog 81 #[v] w fun e w' => ∃ u, e = .returned u ∧ (Own w' w.heap.size u d ∧ (∀ ad l c, v = .slice (some ad) l c → u ≠ .slice none 0 0)) ∧ Below w.heap.size w w' := by
 obtain ⟨⟨ao, cap, rfl, hl, hc, hz⟩, hlen, hnil⟩ := hB
 obtain ⟨i0, hi, hz0, hz1, hz2⟩ := info8
 rw [bl_len] at *
 cases ao with
 | none =>
  obtain rfl := hnil none _ _ rfl rfl
  have h0 : d.length = 0 := by
   rcases Nat.eq_zero_or_pos d.length with h | h
   ·exact h
   ·obtain ⟨b, off, e, _⟩ := hc 0 h
    cases e
  obtain rfl : d = [] := List.length_eq_zero_iff.1 h0
  clear hc
  have heq : ∀ W : World, (binOp .eql 22 (.slice none 0 0) (.slice none 0 0)).run Tryz.prog W = .ok (.bool true) W := fun W => by kernel_rfl
  go_enter Tryz.func81, Tryz.ntmps81
  go_wp2
  go_ret
  exact ⟨_, rfl, ⟨⟨rfl, .inl ⟨rfl, rfl⟩⟩, fun ad l c h => by cases h⟩, Below.refl _ _⟩
 | some ad =>
  have heq : ∀ W : World, (binOp .eql 22 (.slice (some ad) d.length cap) (.slice none 0 0)).run Tryz.prog W = .ok (.bool false) W := fun W => by kernel_rfl
  have hcell : ∀ W : World, Below w.heap.size w W → ∀ j u, ((bl d).map (Value.int .u8))[j]? = some u → W.cell? (ad.add j) = some u := fun W hW j u hu => by
   have hj : j < d.length := by
    have := (List.getElem?_eq_some_iff.1 hu).1
    simpa [bl_len] using this
   obtain ⟨b, off, e', hb, hcl⟩ := hc j hj
   obtain rfl : ad = ⟨b, off, none⟩ := Option.some.inj e'
   have : u = .int .u8 ((bl d).getD j 0) := by
    have hj' : j < (bl d).length := by rw [bl_len]; exact hj
    simp only [List.getElem?_map, List.getElem?_eq_getElem hj', Option.map_some, Option.some.injEq] at hu
    rw [← hu, List.getD_eq_getElem?_getD, List.getElem?_eq_getElem hj']; rfl
   rw [this, addr_add]
   exact (hW.cell hb).trans hcl
  replace hcell := hide hcell
  clear hc
  go_enter Tryz.func81, Tryz.ntmps81
  have hb0 : Below w.heap.size w (w.alloc (.cells #[] 5)) := (Below.refl _ _).alloc (Nat.le_refl _) _
  have hown0 : (w.alloc (.cells #[] 5)).ownsRow w.heap.size 5 1 (.slice (some ⟨w.heap.size, 0, none⟩) 0 0) 0 [] := ⟨rfl, .inr ⟨w.heap.size, 0, #[], rfl, Nat.le_refl _, hp1_0 w _, Nat.le_refl _, by decide, rfl, rfl⟩⟩
  go_wp2_with (at_builtin; refine wpList_append_own _ rfl (.tmp 5) (.tmp 6) 22 rfl w.heap.size 5 i0 (.int .u8 0) 1 1 Tryz.underlying22 hi hz0 hz1 hz2 rfl (by decide) (.slice (some ⟨w.heap.size, 0, none⟩) 0 0) 0 [] rfl hown0 ad d.length cap ((bl d).map (Value.int .u8)) rfl (by simp [bl_len]) (hcell.out _ hb0) (ints_one .u8 _) (by unfold maxLen; omega) (by omega) hb0.size ?_)
  intro v' w1 hown2 hgrow hnn
  have hn2 : Hid (v' ≠ .slice none 0 0) := hide hnn
  clear hnn
  have hw := hb0.grown hgrow hb0.size (fun k h => (hown0.lt k h).1)
  clear hgrow
  obtain ⟨ao', cap', rfl⟩ := slen_own hown2
  go_wp2
  go_ret
  refine ⟨_, rfl, ⟨?_, fun _ _ _ _ => hn2.out⟩, hw⟩
  unfold Own
  simpa using hown2
theorem a_clone (d : List B) (w : World) (v : Value) (hB : BysB w v d) : Calls Tryz.prog 81 #[v] w fun e w' => ∃ u, e = .returned u ∧ Own w' w.heap.size u d ∧ Below w.heap.size w w' := (a_clone2 d w v hB).mono fun _ _ ⟨u, h1, h2, h3⟩ => ⟨u, h1, h2.1, h3⟩
theorem bv_of {z : Int} (h : 0 ≤ z ∧ z < 256) : ∃ x : B, z = bv x := by
 obtain ⟨n, rfl⟩ := Int.eq_ofNat_of_zero_le h.1
 exact ⟨BitVec.ofNat 8 n, by unfold bv; rw [BitVec.toNat_ofNat]; omega⟩
theorem bl_of : ∀ (l : List Int), (∀ z ∈ l, 0 ≤ z ∧ z < 256) → ∃ bs : List B, l = bl bs ∧ bs.length = l.length
 | [], _ => ⟨[], rfl, rfl⟩
 | z :: r, h => by
  obtain ⟨x, rfl⟩ := bv_of (h z (by simp))
  obtain ⟨bs, rfl, e⟩ := bl_of r (fun y hy => h y (by simp [hy]))
  exact ⟨x :: bs, rfl, by simp [e]⟩
end Go.Proofs.YtjoohgkgkabbpaaGreatDoor
namespace Go.Proofs.YtjoohgkgkabbpaaGreatDoor
set_option maxRecDepth 100000
open Go Go.RowKit Go.Sort
attribute [local go_sem] setCell_drewN alloc_drewN
theorem len8_ok : ∀ y : Fin 256, 0 < y.val → 0 < (Go.Lib.len8 (y.val : Int)).toNat ∧ (Go.Lib.len8 (y.val : Int)).toNat ≤ 8 ∧ 2 ^ ((Go.Lib.len8 (y.val : Int)).toNat - 1) ≤ y.val ∧ y.val < 2 ^ (Go.Lib.len8 (y.val : Int)).toNat ∧ Go.Lib.len8 (y.val : Int) = ((Go.Lib.len8 (y.val : Int)).toNat : Int) := by decide +kernel
theorem len8_at (y : Nat) (h : y < 256) (h0 : 0 < y) : ∃ t : Nat, 0 < t ∧ t ≤ 8 ∧ 2 ^ (t - 1) ≤ y ∧ y < 2 ^ t ∧ Go.Lib.len8 (y : Int) = (t : Int) := by
 obtain ⟨h1, h2, h3, h4, h5⟩ := len8_ok ⟨y, h⟩ h0
 exact ⟨_, h1, h2, h3, h4, h5⟩
theorem len_up {x y s t : Nat} (hy : y = x / 2 ^ s) (h1 : 2 ^ (t - 1) ≤ y) (h2 : y < 2 ^ t) (h0 : 0 < t) : 2 ^ (s + t - 1) ≤ x ∧ x < 2 ^ (s + t) := by
 have hp : 0 < 2 ^ s := Nat.pow_pos (by decide)
 subst hy
 refine ⟨?_, ?_⟩
 ·rw [show s + t - 1 = (t - 1) + s by omega, Nat.pow_add]
  exact (Nat.le_div_iff_mul_le hp).1 h1
 ·rw [Nat.add_comm, Nat.pow_add]
  exact (Nat.div_lt_iff_lt_mul hp).1 h2
set_option maxRecDepth 100000 in
set_option maxHeartbeats 4000000 in
theorem a_len64_0 (x : Nat) (h0 : 1 ≤ x) (hx : x < 256) : ∃ L : Nat, 0 < L ∧ L ≤ 64 ∧ 2 ^ (L - 1) ≤ x ∧ x < 2 ^ L ∧ Gives 82 #[.int .u64 (x : Int)] (.int .i64 (L : Int)) := by
 obtain ⟨t, h1, h2, h3, h4, h5⟩ := len8_at (x / 2 ^ 0) (by omega) (by omega)
 obtain ⟨h6, h7⟩ := len_up (x := x) rfl h3 h4 h1
 refine ⟨0 + t, by omega, by omega, h6, h7, fun w => ?_⟩
 clear h3 h4 h6 h7
 have d1 : decide ((x : Int) ≥ 4294967296) = false := by simp; omega
 have d2 : decide ((x : Int) ≥ 65536) = false := by simp; omega
 have d3 : decide ((x : Int) ≥ 256) = false := by simp; omega
 have e1 : (x : Int) = ((x / 2 ^ 0 : Nat) : Int) := by omega
 have hix : ∀ W : World, (Instr.index 9 (.string Go.Lib.len8tab) (.int .u8 ((x : Int)))).run Tryz.prog W = .ok (.int .u8 (t : Int)) W := fun W => by
  rw [e1, Go.Lib.run_index_len8tab W _ _ _ Tryz.underlying9 (by omega) (by omega), h5]
 clear e1 h5
 go_enter Tryz.func82, Tryz.ntmps82
 go_wp2
 go_ret
 refine ⟨?_, Below.refl _ _⟩
 rw [Nat.zero_add]; rfl
set_option maxRecDepth 100000 in
set_option maxHeartbeats 4000000 in
theorem a_len64_8 (x : Nat) (h0 : 256 ≤ x) (hx : x < 65536) : ∃ L : Nat, 0 < L ∧ L ≤ 64 ∧ 2 ^ (L - 1) ≤ x ∧ x < 2 ^ L ∧ Gives 82 #[.int .u64 (x : Int)] (.int .i64 (L : Int)) := by
 obtain ⟨t, h1, h2, h3, h4, h5⟩ := len8_at (x / 2 ^ 8) (by omega) (by omega)
 obtain ⟨h6, h7⟩ := len_up (x := x) rfl h3 h4 h1
 refine ⟨8 + t, by omega, by omega, h6, h7, fun w => ?_⟩
 clear h3 h4 h6 h7
 have d1 : decide ((x : Int) ≥ 4294967296) = false := by simp; omega
 have d2 : decide ((x : Int) ≥ 65536) = false := by simp; omega
 have d3 : decide ((x : Int) ≥ 256) = true := by simp; omega
 have e1 : ((x : Int) / 256) = ((x / 2 ^ 8 : Nat) : Int) := by omega
 have hix : ∀ W : World, (Instr.index 9 (.string Go.Lib.len8tab) (.int .u8 (((x : Int) / 256)))).run Tryz.prog W = .ok (.int .u8 (t : Int)) W := fun W => by
  rw [e1, Go.Lib.run_index_len8tab W _ _ _ Tryz.underlying9 (by omega) (by omega), h5]
 clear e1 h5
 go_enter Tryz.func82, Tryz.ntmps82
 go_wp2
 go_ret
 refine ⟨?_, Below.refl _ _⟩
 congr 2
set_option maxRecDepth 100000 in
set_option maxHeartbeats 4000000 in
theorem a_len64_16 (x : Nat) (h0 : 65536 ≤ x) (hx : x < 16777216) : ∃ L : Nat, 0 < L ∧ L ≤ 64 ∧ 2 ^ (L - 1) ≤ x ∧ x < 2 ^ L ∧ Gives 82 #[.int .u64 (x : Int)] (.int .i64 (L : Int)) := by
 obtain ⟨t, h1, h2, h3, h4, h5⟩ := len8_at (x / 2 ^ 16) (by omega) (by omega)
 obtain ⟨h6, h7⟩ := len_up (x := x) rfl h3 h4 h1
 refine ⟨16 + t, by omega, by omega, h6, h7, fun w => ?_⟩
 clear h3 h4 h6 h7
 have d1 : decide ((x : Int) ≥ 4294967296) = false := by simp; omega
 have d2 : decide ((x : Int) ≥ 65536) = true := by simp; omega
 have d3 : decide (((x : Int) / 65536) ≥ 256) = false := by simp; omega
 have e1 : ((x : Int) / 65536) = ((x / 2 ^ 16 : Nat) : Int) := by omega
 have hix : ∀ W : World, (Instr.index 9 (.string Go.Lib.len8tab) (.int .u8 (((x : Int) / 65536)))).run Tryz.prog W = .ok (.int .u8 (t : Int)) W := fun W => by
  rw [e1, Go.Lib.run_index_len8tab W _ _ _ Tryz.underlying9 (by omega) (by omega), h5]
 clear e1 h5
 go_enter Tryz.func82, Tryz.ntmps82
 go_wp2
 go_ret
 refine ⟨?_, Below.refl _ _⟩
 congr 2
set_option maxRecDepth 100000 in
set_option maxHeartbeats 4000000 in
theorem a_len64_24 (x : Nat) (h0 : 16777216 ≤ x) (hx : x < 4294967296) : ∃ L : Nat, 0 < L ∧ L ≤ 64 ∧ 2 ^ (L - 1) ≤ x ∧ x < 2 ^ L ∧ Gives 82 #[.int .u64 (x : Int)] (.int .i64 (L : Int)) := by
 obtain ⟨t, h1, h2, h3, h4, h5⟩ := len8_at (x / 2 ^ 24) (by omega) (by omega)
 obtain ⟨h6, h7⟩ := len_up (x := x) rfl h3 h4 h1
 refine ⟨24 + t, by omega, by omega, h6, h7, fun w => ?_⟩
 clear h3 h4 h6 h7
 have d1 : decide ((x : Int) ≥ 4294967296) = false := by simp; omega
 have d2 : decide ((x : Int) ≥ 65536) = true := by simp; omega
 have d3 : decide (((x : Int) / 65536) ≥ 256) = true := by simp; omega
 have e1 : (((x : Int) / 65536) / 256) = ((x / 2 ^ 24 : Nat) : Int) := by omega
 have hix : ∀ W : World, (Instr.index 9 (.string Go.Lib.len8tab) (.int .u8 ((((x : Int) / 65536) / 256)))).run Tryz.prog W = .ok (.int .u8 (t : Int)) W := fun W => by
  rw [e1, Go.Lib.run_index_len8tab W _ _ _ Tryz.underlying9 (by omega) (by omega), h5]
 clear e1 h5
 go_enter Tryz.func82, Tryz.ntmps82
 go_wp2
 go_ret
 refine ⟨?_, Below.refl _ _⟩
 congr 2
set_option maxRecDepth 100000 in
set_option maxHeartbeats 4000000 in
theorem a_len64_32 (x : Nat) (h0 : 4294967296 ≤ x) (hx : x < 1099511627776) : ∃ L : Nat, 0 < L ∧ L ≤ 64 ∧ 2 ^ (L - 1) ≤ x ∧ x < 2 ^ L ∧ Gives 82 #[.int .u64 (x : Int)] (.int .i64 (L : Int)) := by
 obtain ⟨t, h1, h2, h3, h4, h5⟩ := len8_at (x / 2 ^ 32) (by omega) (by omega)
 obtain ⟨h6, h7⟩ := len_up (x := x) rfl h3 h4 h1
 refine ⟨32 + t, by omega, by omega, h6, h7, fun w => ?_⟩
 clear h3 h4 h6 h7
 have d1 : decide ((x : Int) ≥ 4294967296) = true := by simp; omega
 have d2 : decide (((x : Int) / 4294967296) ≥ 65536) = false := by simp; omega
 have d3 : decide (((x : Int) / 4294967296) ≥ 256) = false := by simp; omega
 have e1 : ((x : Int) / 4294967296) = ((x / 2 ^ 32 : Nat) : Int) := by omega
 have hix : ∀ W : World, (Instr.index 9 (.string Go.Lib.len8tab) (.int .u8 (((x : Int) / 4294967296)))).run Tryz.prog W = .ok (.int .u8 (t : Int)) W := fun W => by
  rw [e1, Go.Lib.run_index_len8tab W _ _ _ Tryz.underlying9 (by omega) (by omega), h5]
 clear e1 h5
 go_enter Tryz.func82, Tryz.ntmps82
 go_wp2
 go_ret
 refine ⟨?_, Below.refl _ _⟩
 congr 2
set_option maxRecDepth 100000 in
set_option maxHeartbeats 4000000 in
theorem a_len64_40 (x : Nat) (h0 : 1099511627776 ≤ x) (hx : x < 281474976710656) : ∃ L : Nat, 0 < L ∧ L ≤ 64 ∧ 2 ^ (L - 1) ≤ x ∧ x < 2 ^ L ∧ Gives 82 #[.int .u64 (x : Int)] (.int .i64 (L : Int)) := by
 obtain ⟨t, h1, h2, h3, h4, h5⟩ := len8_at (x / 2 ^ 40) (by omega) (by omega)
 obtain ⟨h6, h7⟩ := len_up (x := x) rfl h3 h4 h1
 refine ⟨40 + t, by omega, by omega, h6, h7, fun w => ?_⟩
 clear h3 h4 h6 h7
 have d1 : decide ((x : Int) ≥ 4294967296) = true := by simp; omega
 have d2 : decide (((x : Int) / 4294967296) ≥ 65536) = false := by simp; omega
 have d3 : decide (((x : Int) / 4294967296) ≥ 256) = true := by simp; omega
 have e1 : (((x : Int) / 4294967296) / 256) = ((x / 2 ^ 40 : Nat) : Int) := by omega
 have hix : ∀ W : World, (Instr.index 9 (.string Go.Lib.len8tab) (.int .u8 ((((x : Int) / 4294967296) / 256)))).run Tryz.prog W = .ok (.int .u8 (t : Int)) W := fun W => by
  rw [e1, Go.Lib.run_index_len8tab W _ _ _ Tryz.underlying9 (by omega) (by omega), h5]
 clear e1 h5
 go_enter Tryz.func82, Tryz.ntmps82
 go_wp2
 go_ret
 refine ⟨?_, Below.refl _ _⟩
 congr 2
set_option maxRecDepth 100000 in
set_option maxHeartbeats 4000000 in
theorem a_len64_48 (x : Nat) (h0 : 281474976710656 ≤ x) (hx : x < 72057594037927936) : ∃ L : Nat, 0 < L ∧ L ≤ 64 ∧ 2 ^ (L - 1) ≤ x ∧ x < 2 ^ L ∧ Gives 82 #[.int .u64 (x : Int)] (.int .i64 (L : Int)) := by
 obtain ⟨t, h1, h2, h3, h4, h5⟩ := len8_at (x / 2 ^ 48) (by omega) (by omega)
 obtain ⟨h6, h7⟩ := len_up (x := x) rfl h3 h4 h1
 refine ⟨48 + t, by omega, by omega, h6, h7, fun w => ?_⟩
 clear h3 h4 h6 h7
 have d1 : decide ((x : Int) ≥ 4294967296) = true := by simp; omega
 have d2 : decide (((x : Int) / 4294967296) ≥ 65536) = true := by simp; omega
 have d3 : decide ((((x : Int) / 4294967296) / 65536) ≥ 256) = false := by simp; omega
 have e1 : (((x : Int) / 4294967296) / 65536) = ((x / 2 ^ 48 : Nat) : Int) := by omega
 have hix : ∀ W : World, (Instr.index 9 (.string Go.Lib.len8tab) (.int .u8 ((((x : Int) / 4294967296) / 65536)))).run Tryz.prog W = .ok (.int .u8 (t : Int)) W := fun W => by
  rw [e1, Go.Lib.run_index_len8tab W _ _ _ Tryz.underlying9 (by omega) (by omega), h5]
 clear e1 h5
 go_enter Tryz.func82, Tryz.ntmps82
 go_wp2
 go_ret
 refine ⟨?_, Below.refl _ _⟩
 congr 2
set_option maxRecDepth 100000 in
set_option maxHeartbeats 4000000 in
theorem a_len64_56 (x : Nat) (h0 : 72057594037927936 ≤ x) (hx : x < 18446744073709551616) : ∃ L : Nat, 0 < L ∧ L ≤ 64 ∧ 2 ^ (L - 1) ≤ x ∧ x < 2 ^ L ∧ Gives 82 #[.int .u64 (x : Int)] (.int .i64 (L : Int)) := by
 obtain ⟨t, h1, h2, h3, h4, h5⟩ := len8_at (x / 2 ^ 56) (by omega) (by omega)
 obtain ⟨h6, h7⟩ := len_up (x := x) rfl h3 h4 h1
 refine ⟨56 + t, by omega, by omega, h6, h7, fun w => ?_⟩
 clear h3 h4 h6 h7
 have d1 : decide ((x : Int) ≥ 4294967296) = true := by simp; omega
 have d2 : decide (((x : Int) / 4294967296) ≥ 65536) = true := by simp; omega
 have d3 : decide ((((x : Int) / 4294967296) / 65536) ≥ 256) = true := by simp; omega
 have e1 : ((((x : Int) / 4294967296) / 65536) / 256) = ((x / 2 ^ 56 : Nat) : Int) := by omega
 have hix : ∀ W : World, (Instr.index 9 (.string Go.Lib.len8tab) (.int .u8 (((((x : Int) / 4294967296) / 65536) / 256)))).run Tryz.prog W = .ok (.int .u8 (t : Int)) W := fun W => by
  rw [e1, Go.Lib.run_index_len8tab W _ _ _ Tryz.underlying9 (by omega) (by omega), h5]
 clear e1 h5
 go_enter Tryz.func82, Tryz.ntmps82
 go_wp2
 go_ret
 refine ⟨?_, Below.refl _ _⟩
 congr 2
theorem a_len64 (x : Nat) (h0 : 0 < x) (hx : x < 18446744073709551616) : ∃ L : Nat, 0 < L ∧ L ≤ 64 ∧ 2 ^ (L - 1) ≤ x ∧ x < 2 ^ L ∧ Gives 82 #[.int .u64 (x : Int)] (.int .i64 (L : Int)) := by
 rcases (by omega : x < 256 ∨ (256 ≤ x ∧ x < 65536) ∨ (65536 ≤ x ∧ x < 16777216) ∨ (16777216 ≤ x ∧ x < 4294967296) ∨ (4294967296 ≤ x ∧ x < 1099511627776) ∨ (1099511627776 ≤ x ∧ x < 281474976710656) ∨ (281474976710656 ≤ x ∧ x < 72057594037927936) ∨ (72057594037927936 ≤ x ∧ x < 18446744073709551616)) with h | h | h | h | h | h | h | h
 ·exact a_len64_0 x (by omega) h
 ·exact a_len64_8 x h.1 h.2
 ·exact a_len64_16 x h.1 h.2
 ·exact a_len64_24 x h.1 h.2
 ·exact a_len64_32 x h.1 h.2
 ·exact a_len64_40 x h.1 h.2
 ·exact a_len64_48 x h.1 h.2
 ·exact a_len64_56 x h.1 h.2
end Go.Proofs.YtjoohgkgkabbpaaGreatDoor
namespace Go.Proofs.YtjoohgkgkabbpaaGreatDoor
set_option maxRecDepth 100000
open Go Go.RowKit Go.Sort
attribute [local go_sem] setCell_drewN alloc_drewN
theorem or_one (n : Nat) : n ||| 1 = n / 2 * 2 + 1 := by
 have h := Nat.shiftLeft_add_eq_or_of_lt (i := 1) (b := 1) (by decide) (n / 2)
 rw [Nat.shiftLeft_eq, Nat.pow_one] at h
 rw [h]
 rcases Nat.mod_two_eq_zero_or_one n with e | e
 ·rw [show n / 2 * 2 = n by omega]
 ·have h2 : n / 2 * 2 ||| 1 = n := by omega
  conv => lhs; rw [← h2]
  rw [Nat.or_assoc, Nat.or_self]
set_option maxHeartbeats 1000000 in
theorem a_size (n : Nat) (hn : n < 18446744073709551616) : Gives 54 #[.int .u64 (n : Int)] (.int .i64 ((en n).length : Int)) := by
 intro w
 have e1 : bits .or .u64 (n : Int) 1 = ((n / 2 * 2 + 1 : Nat) : Int) := by
  have := u64_or_nat n 1 hn (by decide)
  rw [or_one] at this
  exact this
 obtain ⟨L, h0, h1, h2, h3, h4⟩ := a_len64 (n / 2 * 2 + 1) (by omega) (by omega)
 have hl : (en n).length = (L + 6) / 7 := by
  refine en_bits h0 ?_ (by omega)
  rcases Nat.lt_or_ge 1 L with q | q
  ·left
   have : 2 ^ (L - 1) = 2 * 2 ^ (L - 2) := by rw [show L - 1 = (L - 2) + 1 by omega, Nat.pow_succ, Nat.mul_comm]
   omega
  ·obtain rfl : L = 1 := by omega
   rcases Nat.eq_zero_or_pos n with e | e
   ·exact .inr ⟨e, rfl⟩
   ·exact .inl e
 have e2 : ((L : Int) + 7 - 1) / 7 = ((en n).length : Int) := by rw [hl]; omega
 generalize (en n).length = len at *
 generalize n / 2 * 2 + 1 = m at *
 clear h2 h3 hl
 go_enter Tryz.func54, Tryz.ntmps54
 go_wp2_with (first | (simp only [e1]) | fail)
 refine (h4.at _).mono ?_
 rintro e_ w1 ⟨rfl, hb⟩
 go_wp2
 go_ret
 exact ⟨congrArg _ (congrArg _ e2), hb⟩
def nres (p : Nat) : RN → Value
 | .ok v n => .tuple #[.int .u64 (v : Int), .int .i64 ((p + n : Nat) : Int), .int .i64 0]
 | .er e => .tuple #[.int .u64 0, .int .i64 0, .int .i64 e]
def shr (k a : Nat) : RN → RN
 | .ok v n => .ok (a + 2 ^ (7 * k) * v) (n + k)
 | .er e => .er e
theorem BysB.cellAt {W : World} {ao : Option Addr} {l cap : Nat} {bs : List B} (h : BysB W (.slice ao l cap) bs) {j : Nat} (hj : j < bs.length) : ∃ b off, ao = some ⟨b, off, none⟩ ∧ b < W.heap.size ∧ W.cell? ⟨b, off + j, none⟩ = some (.int .u8 (bv (gb bs j))) := by
 obtain ⟨⟨ao', cap', e, _, hc, _⟩, _, _⟩ := h
 cases e
 obtain ⟨b, off, h1, h2, h3⟩ := hc j (by rw [bl_len]; exact hj)
 exact ⟨b, off, h1, h2, by rw [h3, bl_get]; rfl⟩
theorem BysB.form {W : World} {v : Value} {bs : List B} (h : BysB W v bs) : ∃ ao cap, v = .slice ao bs.length cap := by
 obtain ⟨⟨ao, cap, e, _⟩, _⟩ := h
 rw [bl_len] at e
 exact ⟨ao, cap, e⟩
theorem drop_at (bs : List B) (j : Nat) (h : j < bs.length) : bs.drop j = gb bs j :: bs.drop (j + 1) := by
 rw [List.drop_eq_getElem_cons h, gb, List.getD_eq_getElem?_getD, List.getElem?_eq_getElem h]
 rfl
theorem num_lt {a s z : Nat} (ha : a < 2 ^ s) : a + z % 128 * 2 ^ s < 2 ^ (s + 7) := by
 rw [Nat.pow_add]
 have h1 : z % 128 * 2 ^ s ≤ 127 * 2 ^ s := Nat.mul_le_mul_right _ (by omega)
 omega
theorem num_64 {a s : Nat} {x : B} (ha : a < 2 ^ s) (hs : s ≤ 63) (h : ¬ (57 < s ∧ 1 < x.toNat)) : a + x.toNat % 128 * 2 ^ s < 18446744073709551616 := by
 rcases Nat.lt_or_ge 57 s with q | q
 ·have h1 : x.toNat % 128 * 2 ^ s ≤ 1 * 2 ^ s := Nat.mul_le_mul_right _ (by omega)
  have h2 : 2 ^ s ≤ 2 ^ 63 := Nat.pow_le_pow_right (by decide) hs
  omega
 ·have h1 := num_lt (z := x.toNat) ha
  have h2 : 2 ^ (s + 7) ≤ 2 ^ 64 := Nat.pow_le_pow_right (by decide) (by omega)
  omega
theorem num_or {a s : Nat} {x : B} (ha : a < 2 ^ s) (hs : s ≤ 63) (h : ¬ (57 < s ∧ 1 < x.toNat)) : bits .or .u64 (a : Int) (IntKind.u64.wrap (bv x % 128 * 2 ^ min s 64)) = ((a + x.toNat % 128 * 2 ^ s : Nat) : Int) := by
 have h6 := num_64 ha hs h
 have e1 : bv x % 128 * 2 ^ min s 64 = ((x.toNat % 128 * 2 ^ s : Nat) : Int) := by
  rw [Nat.min_eq_left (by omega)]
  simp [bv]
 rw [e1, IntKind.wrap_u64, Int.emod_eq_of_lt (by omega) (by omega), u64_or_nat _ _ (by omega) (by omega)]
 congr 1
 have := Nat.shiftLeft_add_eq_or_of_lt ha (x.toNat % 128)
 rw [Nat.shiftLeft_eq] at this
 rw [Nat.or_comm, ← this, Nat.add_comm]
set_option maxRecDepth 100000 in
set_option maxHeartbeats 8000000 in
theorem a_number (bs : List B) (p : Nat) (hp : p ≤ bs.length) (w : World) (v : Value) (hB : BysB w v bs) : Calls Tryz.prog 110 #[v, .int .i64 (p : Int)] w fun e w' => e = .returned (nres p (rd 0 (bs.drop p))) ∧ Below w.heap.size w w' := by
 obtain ⟨ao, cap, rfl⟩ := hB.form
 have hlen := hB.2.1
 have d1 : decide ((p : Int) < 0) = false := by simp
 have d2 : decide ((p : Int) > (bs.length : Int)) = false := by simp; omega
 go_enter Tryz.func110, Tryz.ntmps110
 go_wp2
 go_step3
 go_wp2
 go_step3
 go_wp2
 go_loopw [7, 8, 9] (fun n e s wr => ∃ k a : Nat, k ≤ 9 ∧ p + k ≤ bs.length ∧ n = .int .u64 (a : Int) ∧ e = .int .i64 ((p + k : Nat) : Int) ∧ s = .int .i64 ((7 * k : Nat) : Int) ∧ a < 2 ^ (7 * k) ∧ rd 0 (bs.drop p) = shr k a (rd k (bs.drop (p + k))) ∧ wr = w) (fun _ _ s _ => 64 - (intOf s).toNat)
 case atStart => exact ⟨0, 0, by omega, by omega, rfl, rfl, rfl, by decide, by simp only [Nat.add_zero]; cases rd 0 (bs.drop p) <;> simp [shr], rfl⟩
 case round =>
  obtain ⟨k, a, hk, hpk, rfl, rfl, rfl, ha, hR, rfl⟩ := hrel
  clear hp d1 d2
  generalize hq : p + k = q at *
  generalize hs : 7 * k = s at *
  replace hq := hide hq
  replace hs := hide hs
  by_cases hc : q = bs.length
  ·have d3 : ((q : Int) == (bs.length : Int)) = true := by simp; omega
   rw [List.drop_of_length_le (i := q) (l := bs) (by omega), rd, shr] at hR
   have hfin : Hid (nres p (rd 0 (bs.drop p)) = .tuple #[.int .u64 0, .int .i64 0, .int .i64 73]) := hide (by rw [hR]; rfl)
   clear hc hpk hR
   go_wp2
   rw [Exit.noGoto_ret]
   go_ret3
   exact ⟨by rw [hfin.out]; rfl, Below.refl _ _⟩
  ·have d3 : ((q : Int) == (bs.length : Int)) = false := by simp; omega
   obtain ⟨b, off, rfl, hbl, hcl⟩ := hB.cellAt (j := q) (by omega)
   rw [drop_at bs q (by omega), rd] at hR
   generalize gb bs q = x at *
   have hx := bnd x
   have hxv : Hid (bv x = (x.toNat : Int)) := hide rfl
   have hqi : 0 ≤ (q : Int) ∧ (q : Int) < (bs.length : Int) := by omega
   have hsl : s ≤ 63 := by have := hs.out; omega
   replace hc := hide hc
   clear hB
   by_cases c1 : 57 < s ∧ 1 < x.toNat
   ·have d4 : decide ((s : Int) > 57) = true := by simp; omega
    have d5 : decide (bv x > 1) = true := by have : bv x = (x.toNat : Int) := rfl; simp; omega
    have hfin : Hid (nres p (rd 0 (bs.drop p)) = .tuple #[.int .u64 0, .int .i64 0, .int .i64 70]) := hide (by
     have := hs.out
     have h9 : k = 9 := by omega
     have h10 : k = 9 ∧ 1 < x.toNat ∨ 0 < k ∧ x.toNat = 0 := .inl ⟨h9, c1.2⟩
     rw [hR, if_pos h9, if_pos h10]
     split <;> rfl)
    replace c1 := hide c1
    clear hR
    go_wp2
    rw [Exit.noGoto_ret]
    go_ret3
    exact ⟨by rw [hfin.out]; rfl, Below.refl _ _⟩
   ·by_cases c2 : x.toNat = 0 ∧ 0 < s
    ·have d4 : ((bv x) == 0) = true := by have : bv x = (x.toNat : Int) := rfl; simp; omega
     have hs0 : 0 < s := c2.2
     have d7 : decide (bv x > 1) = false := by have : bv x = (x.toNat : Int) := rfl; simp; omega
     have hfin : Hid (nres p (rd 0 (bs.drop p)) = .tuple #[.int .u64 0, .int .i64 0, .int .i64 70]) := hide (by
      have := hs.out
      have h10 : k = 9 ∧ 1 < x.toNat ∨ 0 < k ∧ x.toNat = 0 := .inr ⟨by omega, c2.1⟩
      rw [hR, if_neg (by omega), if_pos h10]
      rfl)
     replace c1 := hide c1
     replace c2 := hide c2
     clear hR
     rcases Nat.lt_or_ge 57 s with q1 | q1
     ·have d8 : decide ((s : Int) > 57) = true := by simp; omega
      go_wp2
      rw [Exit.noGoto_ret]
      go_ret3
      exact ⟨by rw [hfin.out]; rfl, Below.refl _ _⟩
     ·have d8 : decide ((s : Int) > 57) = false := by simp; omega
      go_wp2
      rw [Exit.noGoto_ret]
      go_ret3
      exact ⟨by rw [hfin.out]; rfl, Below.refl _ _⟩
    ·have hv : Hid (bits .or .u64 (a : Int) (IntKind.u64.wrap (bv x % 128 * 2 ^ min s 64)) = ((a + x.toNat % 128 * 2 ^ s : Nat) : Int)) := hide (num_or ha hsl (by omega))
     have hvB : Hid (bits .or .u64 (a : Int) (IntKind.u64.wrap (bv x % 128 * 2 ^ s)) = ((a + x.toNat % 128 * 2 ^ s : Nat) : Int)) := hide (by have := hv.out; rwa [Nat.min_eq_left (by omega)] at this)
     have hv2 : Hid (a + x.toNat % 128 * 2 ^ s < 2 ^ (s + 7)) := hide (num_lt ha)
     have d9 : Hid ((57 < s → x.toNat ≤ 1) ∧ (0 < s → x.toNat ≠ 0)) := hide (by omega)
     have h10 : ¬ (k = 9 ∧ 1 < x.toNat ∨ 0 < k ∧ x.toNat = 0) := by have := hs.out; omega
     by_cases c3 : x.toNat < 128
     ·have d11 : decide (bv x < 128) = true := by have : bv x = (x.toNat : Int) := rfl; simp; omega
      have hfin : Hid (nres p (rd 0 (bs.drop p)) = .tuple #[.int .u64 ((a + x.toNat % 128 * 2 ^ s : Nat) : Int), .int .i64 ((q : Int) + 1), .int .i64 0]) := hide (by
       have h1 := hs.out
       have h2 := hq.out
       have h3 : p + (1 + k) = q + 1 := by omega
       rw [hR, if_neg (by omega), if_neg h10, shr, nres, h1, Nat.mod_eq_of_lt c3, Nat.mul_comm, h3]
       rfl)
      replace c1 := hide c1
      replace c2 := hide c2
      replace h10 := hide h10
      clear hR
      rcases Nat.lt_or_ge 57 s with q1 | q1
      ·have d8 : decide ((s : Int) > 57) = true := by simp; omega
       have d7 : decide (bv x > 1) = false := by have : bv x = (x.toNat : Int) := rfl; have := d9.out.1 q1; simp; omega
       have d6 : ((bv x) == 0) = false := by have : bv x = (x.toNat : Int) := rfl; have := d9.out.2 (by omega); simp; omega
       go_wp2
       rw [Exit.noGoto_ret]
       go_ret3
       refine ⟨?_, Below.refl _ _⟩
       rw [hfin.out]
       show Ending.returned (.tuple #[.int .u64 _, .int .i64 _, .int .i64 _]) = _
       first | rw [hv.out] | rw [hvB.out]
      ·have d8 : decide ((s : Int) > 57) = false := by simp; omega
       rcases Nat.eq_zero_or_pos s with q2 | q2
       ·have hs0 : ¬ 0 < s := by omega
        replace q2 := hide q2
        rcases Nat.eq_zero_or_pos x.toNat with q3 | q3
        ·have d6 : ((bv x) == 0) = true := by have : bv x = (x.toNat : Int) := rfl; simp; omega
         replace q3 := hide q3
         go_wp2
         rw [Exit.noGoto_ret]
         go_ret3
         refine ⟨?_, Below.refl _ _⟩
         rw [hfin.out]
         show Ending.returned (.tuple #[.int .u64 _, .int .i64 _, .int .i64 _]) = _
         first | rw [hv.out] | rw [hvB.out]
        ·have d6 : ((bv x) == 0) = false := by have : bv x = (x.toNat : Int) := rfl; simp; omega
         replace q3 := hide q3
         go_wp2
         rw [Exit.noGoto_ret]
         go_ret3
         refine ⟨?_, Below.refl _ _⟩
         rw [hfin.out]
         show Ending.returned (.tuple #[.int .u64 _, .int .i64 _, .int .i64 _]) = _
         first | rw [hv.out] | rw [hvB.out]
       ·have hs0 : 0 < s := q2
        have d6 : ((bv x) == 0) = false := by have : bv x = (x.toNat : Int) := rfl; have := d9.out.2 (by omega); simp; omega
        replace q2 := hide q2
        go_wp2
        rw [Exit.noGoto_ret]
        go_ret3
        refine ⟨?_, Below.refl _ _⟩
        rw [hfin.out]
        show Ending.returned (.tuple #[.int .u64 _, .int .i64 _, .int .i64 _]) = _
        first | rw [hv.out] | rw [hvB.out]
     ·have d11 : decide (bv x < 128) = false := by have : bv x = (x.toNat : Int) := rfl; simp; omega
      have d6 : ((bv x) == 0) = false := by have : bv x = (x.toNat : Int) := rfl; simp; omega
      have d8 : decide ((s : Int) > 57) = false := by have : bv x = (x.toNat : Int) := rfl; have := d9.out.1; simp; omega
      have hk8 : k ≤ 8 := by have := hs.out; have := d9.out.1; omega
      have hnext : Hid (rd 0 (bs.drop p) = shr (k + 1) (a + x.toNat % 128 * 2 ^ s) (rd (k + 1) (bs.drop (q + 1)))) := hide (by
       have h1 := hs.out
       rw [hR, if_pos (by omega), if_neg (by omega)]
       cases hh : rd (k + 1) (bs.drop (q + 1)) with
       | er e => rfl
       | ok v n =>
        have hx2 := x.isLt
        simp only [shr]
        congr 1
        ·rw [← h1, show 7 * (k + 1) = 7 * k + 7 by omega, Nat.pow_add, show x.toNat % 128 = x.toNat - 128 by omega, Nat.mul_add, Nat.mul_comm (x.toNat - 128), Nat.mul_assoc, Nat.mul_comm v 128, show (2 : Nat) ^ 7 = 128 from rfl]
         omega
        ·omega)
      replace c1 := hide c1
      replace c2 := hide c2
      replace h10 := hide h10
      clear hR
      go_wp2
      refine ⟨⟨k + 1, a + x.toNat % 128 * 2 ^ s, by omega, by have := hq.out; have := hc.out; omega, by first | rw [hv.out] | rw [hvB.out], by have := hq.out; congr 1; omega, by have := hs.out; congr 1; omega, by have := hv2.out; have := hs.out; rwa [show 7 * (k + 1) = s + 7 by omega], by have := hq.out; rw [show p + (k + 1) = q + 1 by omega]; exact hnext.out, trivial⟩, ?_⟩
      simp [intOf]; omega
theorem by_lo {n : Nat} (_h : n < 128) : (n : Int) % 256 = bv (BitVec.ofNat 8 n) := by
 rw [bv, BitVec.toNat_ofNat]; omega
theorem by_lo' {n : Nat} (h : n < 128) : (n : Int) = bv (BitVec.ofNat 8 n) := by
 rw [bv, BitVec.toNat_ofNat]; omega
theorem by_hi2 (n : Nat) : ((n : Int) % 128 + 128) = bv (BitVec.ofNat 8 (n % 128 + 128)) := by
 rw [bv, BitVec.toNat_ofNat]; omega
theorem own_alloc {W : World} {b : Nat} {v : Value} {d : List B} (h : Own W b v d) (o : Obj) : Own (W.alloc o) b v d := World.ownsRow.alloc h o
end Go.Proofs.YtjoohgkgkabbpaaGreatDoor
namespace Go.Proofs.YtjoohgkgkabbpaaGreatDoor
set_option maxRecDepth 100000
open Go Go.RowKit Go.Sort
attribute [local go_sem] setCell_drewN alloc_drewN
set_option maxRecDepth 100000 in
set_option maxHeartbeats 4000000 in
theorem r_put (bs : List B) (n : Nat) (hn : n < 18446744073709551616) (w : World) (v : Value) (hB : BysB w v bs) : Calls Tryz.prog 129 #[v, .int .u64 (n : Int)] w fun e w' => ∃ u, e = .returned u ∧ Own w' w.heap.size u (bs ++ en n) ∧ Below w.heap.size w w' := by
 have hten := en_ten hn
 have hlen := hB.2.1
 obtain ⟨ao, cap, rfl⟩ := hB.form
 have hb0 : Below w.heap.size w (w.alloc (.cells #[] 5)) := (Below.refl _ _).alloc (Nat.le_refl _) _
 go_enter Tryz.func129, Tryz.ntmps129
 go_wp2_with (at_builtin; refine wpList_append_B rfl (.tmp 6) (.tmp 7) rfl w.heap.size _ [] rfl (own_nil w) _ bs rfl (hB.keep hb0) (by simp only [List.length_nil]; omega) hb0.size ?_)
 intro v1 w1 hO1 hgr
 have hw1 := hb0.grown hgr hb0.size (own_low (own_nil w))
 obtain ⟨ao1, ac1, rfl⟩ := slen_own hO1
 clear hgr hb0
 go_wp2
 go_loopw [1, 5] (fun m s wr => ∃ (k : Nat) (c : List B) (ao : Option Addr) (ac : Nat), m = .int .u64 (k : Int) ∧ k ≤ n ∧ en n = c ++ en k ∧ s = .slice ao (bs ++ c).length ac ∧ Own wr w.heap.size (.slice ao (bs ++ c).length ac) (bs ++ c) ∧ Below w.heap.size w wr) (fun m _ _ => (intOf m).toNat)
 case atStart => exact ⟨n, [], ao1, ac1, rfl, Nat.le_refl _, rfl, by simp, by simpa using hO1, hw1⟩
 case round =>
  clear hO1 hw1
  obtain ⟨k, c, ao1, ac1, rfl, hkn, he, rfl, hO, hw⟩ := hrel
  have hws := hw.size
  have hcl : (bs ++ c).length + (en k).length ≤ bs.length + 10 := by
   have := congrArg List.length he
   rw [List.length_append] at *
   omega
  by_cases h : 128 ≤ k
  ·have hd : decide ((k : Int) ≥ 128) = true := by simp; omega
   have hek := en_hi (n := k) (by omega)
   rw [hek, List.length_cons] at hcl
   rw [hek] at he
   replace he := hide he
   generalize hL : bs ++ c = L at *
   go_wp2_with (at_builtin; refine wpList_append_B rfl (.tmp 11) (.tmp 16) rfl w.heap.size _ L rfl (own_alloc hO _) _ [BitVec.ofNat 8 (k % 128 + 128)] rfl ?hE (by simp only [List.length_singleton]; omega) (by rw [size_alloc1]; omega) ?_)
   case hE =>
    rw [by_hi2]
    exact bys_one _ _
   intro v2 w2 hO2 hgr
   have hw2 : Below w.heap.size w w2 := (hw.alloc (by omega) _).grown hgr (by rw [size_alloc1]; omega) (own_low hO)
   obtain ⟨ao2, ac2, rfl⟩ := slen_own hO2
   clear hgr hO hw hek
   go_wp2
   refine ⟨⟨k / 128, c ++ [BitVec.ofNat 8 (k % 128 + 128)], ao2, ac2, by congr 1, by omega, by rw [he.out]; simp, by rw [← List.append_assoc, hL], by rw [← List.append_assoc, hL]; exact hO2, hw2⟩, ?_⟩
   simp [intOf]; omega
  ·have hd : decide ((k : Int) ≥ 128) = false := by simp; omega
   have hek := en_lo (n := k) (by omega)
   rw [hek, List.length_singleton] at hcl
   rw [hek] at he
   replace he := hide he
   generalize hL : bs ++ c = L at *
   go_wp2_with (at_builtin; refine wpList_append_B rfl (.tmp 20) (.tmp 23) rfl w.heap.size _ L rfl (own_alloc hO _) _ [BitVec.ofNat 8 k] rfl ?hE (by simp only [List.length_singleton]; omega) (by rw [size_alloc1]; omega) ?_)
   case hE =>
    first | rw [by_lo (by omega)] | rw [by_lo' (by omega)]
    exact bys_one _ _
   intro v2 w2 hO2 hgr
   have hw2 : Below w.heap.size w w2 := (hw.alloc (by omega) _).grown hgr (by rw [size_alloc1]; omega) (own_low hO)
   obtain ⟨ao2, ac2, rfl⟩ := slen_own hO2
   clear hgr hO hw hek
   go_wp2
   go_ret
   exact ⟨_, rfl, by rw [he.out, ← List.append_assoc, hL]; exact hO2, hw2⟩
theorem bys_nil (W : World) : BysB W (.slice none 0 0) [] := ⟨⟨none, 0, rfl, by simp [bl], fun j hj => by simp [bl] at hj, bl_bnd _⟩, by simp, fun _ _ _ h _ => by cases h; rfl⟩
set_option maxHeartbeats 1000000 in
theorem r_size (n : Nat) (hn : n < 18446744073709551616) : Gives 117 #[.int .u64 (n : Int)] (.int .i64 ((en n).length : Int)) := by
 intro w
 have hP := r_put [] n hn w _ (bys_nil w)
 go_enter Tryz.func117, Tryz.ntmps117
 go_wp2_with (fail)
 refine hP.mono ?_
 rintro e_ w1 ⟨u, rfl, hO, hb⟩
 obtain ⟨ao, ac, rfl⟩ := slen_own hO
 rw [List.nil_append]
 go_wp2
 go_ret
 exact ⟨rfl, hb⟩
end Go.Proofs.YtjoohgkgkabbpaaGreatDoor
namespace Go.Proofs.YtjoohgkgkabbpaaGreatDoor
set_option maxRecDepth 100000
open Go Go.RowKit Go.Sort
attribute [local go_sem] setCell_drewN alloc_drewN
def hv : List B → Nat → Nat
 | [], x => x
 | h :: t, x => hv t x * 128 + (h.toNat - 128)
theorem hv_nil (x : Nat) : hv [] x = x := rfl
theorem hv_cons (h : B) (t : List B) (x : Nat) : hv (h :: t) x = hv t x * 128 + (h.toNat - 128) := rfl
def bad (n x : Nat) : Prop := (n = 9 ∧ 1 < x) ∨ (0 < n ∧ x = 0)
theorem rd_hv : ∀ (hs : List B) (i : Nat) (x : B) (r : List B), (∀ h ∈ hs, 128 ≤ h.toNat) → x.toNat < 128 → i + hs.length ≤ 9 → ¬ bad (i + hs.length) x.toNat → rd i (hs ++ x :: r) = .ok (hv hs x.toNat) (hs.length + 1)
 | [], i, x, r, _, hx, hi, hb => by
  have hb' : ¬ ((i = 9 ∧ 1 < x.toNat) ∨ (0 < i ∧ x.toNat = 0)) := hb
  rw [List.nil_append, rd, if_neg (by omega), if_neg hb']; rfl
 | h :: t, i, x, r, hh, hx, hi, hb => by
  rw [List.length_cons] at hi hb
  rw [List.cons_append, rd, if_pos (hh h (by simp)), if_neg (by omega), rd_hv t (i + 1) x r (fun a ha => hh a (by simp [ha])) hx (by omega) (by rwa [show i + 1 + t.length = i + (t.length + 1) by omega])]
  rfl
theorem rd_bad : ∀ (hs : List B) (i : Nat) (x : B) (r : List B), (∀ h ∈ hs, 128 ≤ h.toNat) → x.toNat < 128 → i + hs.length ≤ 9 → bad (i + hs.length) x.toNat → rd i (hs ++ x :: r) = .er 70
 | [], i, x, r, _, hx, hi, hb => by
  have hb' : (i = 9 ∧ 1 < x.toNat) ∨ (0 < i ∧ x.toNat = 0) := hb
  rw [List.nil_append, rd, if_neg (by omega), if_pos hb']
 | h :: t, i, x, r, hh, hx, hi, hb => by
  rw [List.length_cons] at hi hb
  rw [List.cons_append, rd, if_pos (hh h (by simp)), if_neg (by omega), rd_bad t (i + 1) x r (fun a ha => hh a (by simp [ha])) hx (by omega) (by rwa [show i + 1 + t.length = i + (t.length + 1) by omega])]
theorem rd_cut : ∀ (hs : List B) (i : Nat), (∀ h ∈ hs, 128 ≤ h.toNat) → i + hs.length ≤ 9 → rd i hs = .er 73
 | [], i, _, _ => by rw [rd]
 | h :: t, i, hh, hi => by
  rw [List.length_cons] at hi
  rw [rd, if_pos (hh h (by simp)), if_neg (by omega), rd_cut t (i + 1) (fun a ha => hh a (by simp [ha])) (by omega)]
theorem rd_ten : ∀ (hs : List B) (i : Nat) (r : List B), (∀ h ∈ hs, 128 ≤ h.toNat) → i + hs.length = 10 → 0 < hs.length → rd i (hs ++ r) = .er 70
 | [], i, _, _, _, h0 => by simp at h0
 | h :: t, i, r, hh, hi, _ => by
  rw [List.length_cons] at hi
  rw [List.cons_append, rd, if_pos (hh h (by simp))]
  by_cases h9 : i = 9
  ·rw [if_pos h9]
  ·have h1 : i + 1 + t.length = 10 := by omega
   have h2 : 0 < t.length := by omega
   rw [if_neg h9, rd_ten t (i + 1) r (fun a ha => hh a (by simp [ha])) h1 h2]
theorem hv_drop (hs : List B) (j x : Nat) (h : j < hs.length) : hv (hs.drop j) x = hv (hs.drop (j + 1)) x * 128 + ((gb hs j).toNat - 128) := by
 rw [drop_at hs j h, hv_cons]
theorem hv_lt (hs : List B) (x : B) (j : Nat) (hj : j ≤ hs.length) (hh : ∀ h ∈ hs, 128 ≤ h.toNat) (hx : x.toNat < 128) (hi : hs.length ≤ 9) (hb : ¬ bad hs.length x.toNat) : hv (hs.drop j) x.toNat < 2 ^ (64 - 7 * j) := by
 have h1 := rd_hv (hs.drop j) j x [] (fun a ha => hh a (List.mem_of_mem_drop ha)) hx (by rw [List.length_drop]; omega) (by rwa [List.length_drop, show j + (hs.length - j) = hs.length by omega])
 exact (rd_ok _ _ _ _ (by omega) h1).2.2.1
theorem take_hi {bs : List B} {p k : Nat} (h : ∀ i, i < k → 128 ≤ (gb bs (p + i)).toNat) : ∀ a ∈ (bs.drop p).take k, 128 ≤ a.toNat := by
 intro a ha
 obtain ⟨i, hi, rfl⟩ := List.mem_take_iff_getElem.1 ha
 rw [List.length_drop] at hi
 rw [List.getElem_drop]
 have := h i (by omega)
 rwa [gb, List.getD_eq_getElem?_getD, List.getElem?_eq_getElem (by omega)] at this
theorem gb_take (bs : List B) (p k i : Nat) (hi : i < k) (_hk : p + k ≤ bs.length) : gb ((bs.drop p).take k) i = gb bs (p + i) := by
 rw [gb, gb, List.getD_eq_getElem?_getD, List.getElem?_take_of_lt hi, List.getElem?_drop, List.getD_eq_getElem?_getD]
theorem bv8 (x : B) : bv x = (x.toNat : Int) := rfl
set_option maxRecDepth 100000 in
set_option maxHeartbeats 8000000 in
theorem r_number (bs : List B) (p : Nat) (hp : p ≤ bs.length) (w : World) (v : Value) (hB : BysB w v bs) : Calls Tryz.prog 133 #[v, .int .i64 (p : Int)] w fun e w' => e = .returned (nres p (rd 0 (bs.drop p))) ∧ Below w.heap.size w w' := by
 obtain ⟨ao, cap, rfl⟩ := hB.form
 have hlen := hB.2.1
 have d1 : decide ((p : Int) < 0) = false := by simp
 have d2 : decide ((p : Int) > (bs.length : Int)) = false := by simp; omega
 go_enter Tryz.func133, Tryz.ntmps133
 go_wp2
 clear d1 d2
 go_loopw [7] (fun n wr => ∃ k : Nat, n = .int .i64 (k : Int) ∧ k ≤ 10 ∧ p + k ≤ bs.length ∧ (∀ i, i < k → 128 ≤ (gb bs (p + i)).toNat) ∧ wr = w) (fun n _ => 10 - (intOf n).toNat)
 case atStart => exact ⟨0, rfl, by omega, by omega, by intro i hi; omega, rfl⟩
 case round =>
  obtain ⟨k, rfl, hk, hpk, hhi, rfl⟩ := hrel
  by_cases c1 : k < 10 ∧ p + k < bs.length ∧ 128 ≤ (gb bs (p + k)).toNat
  ·obtain ⟨c1, c2, c3⟩ := c1
   have d3 : decide ((k : Int) < 10) = true := by simp; omega
   have d4 : decide ((p : Int) + (k : Int) < (bs.length : Int)) = true := by simp; omega
   obtain ⟨b, off, rfl, hbl, hcl⟩ := hB.cellAt (j := p + k) c2
   have hh2 : ∀ i, i < k + 1 → 128 ≤ (gb bs (p + i)).toNat := fun i hi => by
    rcases Nat.lt_or_ge i k with q | q
    ·exact hhi i q
    ·obtain rfl : i = k := by omega
     exact c3
   replace hh2 := hide hh2
   have d5 : decide (bv (gb bs (p + k)) ≥ 128) = true := by rw [bv8]; simp; omega
   clear hhi
   generalize gb bs (p + k) = x at *
   clear hB
   go_wp2
   refine ⟨⟨k + 1, by go_num, by omega, by omega, hh2.out, trivial⟩, ?_⟩
   simp [intOf]; omega
  ·replace hhi := hide hhi
   obtain ⟨hs, hhs⟩ : ∃ hs, (bs.drop p).take k = hs := ⟨_, rfl⟩
   have hsl : hs.length = k := by rw [← hhs, List.length_take, List.length_drop]; omega
   have hall := take_hi hhi.out
   rw [hhs] at hall
   replace hall := hide hall
   by_cases c2 : k < 10 ∧ p + k < bs.length
   ·-- the last digit
    obtain ⟨b, off, rfl, hbl, hcl⟩ := hB.cellAt (j := p + k) c2.2
    have hxs := bnd (gb bs (p + k))
    have hspl : bs.drop p = hs ++ gb bs (p + k) :: bs.drop (p + k + 1) := by
     rw [← drop_at bs (p + k) c2.2, ← hhs, ← List.drop_drop, List.take_append_drop]
    replace hspl := hide hspl
    have d3 : decide ((k : Int) < 10) = true := by simp; omega
    have d4 : decide ((p : Int) + (k : Int) < (bs.length : Int)) = true := by simp; omega
    have d5 : decide (bv (gb bs (p + k)) ≥ 128) = false := by rw [bv8]; simp; omega
    have d6 : ((k : Int) == 10) = false := by simp; omega
    have d7 : ((p : Int) + (k : Int) == (bs.length : Int)) = false := by simp; omega
    have hxl : (gb bs (p + k)).toNat < 128 := by omega
    have hqi : 0 ≤ (p : Int) + (k : Int) ∧ (p : Int) + (k : Int) < (bs.length : Int) := by omega
    have hcells : Hid (∀ i, i < k → wr.cell? ⟨b, off + (p + i), none⟩ = some (.int .u8 (bv (gb hs i)))) := hide (fun i hi => by
     obtain ⟨b', off', e, _, hc⟩ := hB.cellAt (j := p + i) (by omega)
     cases e
     rw [hc, ← hhs, gb_take bs p k i hi hpk])
    have hhs2 : Hid (∀ i, i < k → 128 ≤ (gb hs i).toNat) := hide (fun i hi => by rw [← hhs, gb_take bs p k i hi hpk]; exact hhi.out i hi)
    generalize gb bs (p + k) = x at *
    clear hB hhi
    replace hhs := hide hhs
    by_cases c3 : bad k x.toNat
    ·have hfin : Hid (nres p (rd 0 (bs.drop p)) = .tuple #[.int .u64 0, .int .i64 0, .int .i64 70]) := hide (by
      rw [hspl.out, rd_bad hs 0 x _ hall.out hxl (by omega) (by rwa [Nat.zero_add, hsl])]; rfl)
     by_cases c4 : k = 9 ∧ 1 < x.toNat
     ·have d8 : ((k : Int) == 9) = true := by simp; omega
      have d9 : decide (bv x > 1) = true := by rw [bv8]; simp; omega
      replace c1 := hide c1
      replace c2 := hide c2
      replace c3 := hide c3
      replace c4 := hide c4
      clear hhs2 hcells hsl
      go_wp2
      go_ret3
      exact ⟨by rw [hfin.out]; rfl, Below.refl _ _⟩
     ·have c5 : 0 < k ∧ x.toNat = 0 := by unfold bad at c3; omega
      have d9 : decide (bv x > 1) = false := by rw [bv8]; simp; omega
      have d10 : (bv x == 0) = true := by rw [bv8]; simp; omega
      have hk0 : 0 < k := c5.1
      replace c1 := hide c1
      replace c2 := hide c2
      replace c3 := hide c3
      replace c4 := hide c4
      replace c5 := hide c5
      clear hhs2 hcells hsl
      by_cases c6 : k = 9
      ·have d8 : ((k : Int) == 9) = true := by simp; omega
       replace c6 := hide c6
       go_wp2
       go_ret3
       exact ⟨by rw [hfin.out]; rfl, Below.refl _ _⟩
      ·have d8 : ((k : Int) == 9) = false := by simp; omega
       replace c6 := hide c6
       go_wp2
       go_ret3
       exact ⟨by rw [hfin.out]; rfl, Below.refl _ _⟩
    ·have hk9 : k ≤ 9 := by omega
     have hfin : Hid (nres p (rd 0 (bs.drop p)) = .tuple #[.int .u64 ((hv hs x.toNat : Nat) : Int), .int .i64 ((p + k + 1 : Nat) : Int), .int .i64 0]) := hide (by
      rw [hspl.out, rd_hv hs 0 x _ hall.out hxl (by omega) (by rwa [Nat.zero_add, hsl])]
      rw [nres, hsl]
      congr 1)
     have hlt : Hid (∀ j, j ≤ k → hv (hs.drop j) x.toNat < 2 ^ (64 - 7 * j)) := hide (fun j hj => hv_lt hs x j (by omega) hall.out hxl (by omega) (by rwa [hsl]))
     have hhv : Hid (hv (hs.drop k) x.toNat = x.toNat) := hide (by rw [List.drop_of_length_le (by omega), hv_nil])
     have hstep : Hid (∀ j, j < k → hv (hs.drop j) x.toNat = hv (hs.drop (j + 1)) x.toNat * 128 + ((gb hs j).toNat - 128)) := hide (fun j hj => hv_drop hs j _ (by omega))
     have hbx : Hid (bv x = (x.toNat : Int)) := hide rfl
     have hh0 : Hid (hv (hs.drop 0) x.toNat = hv hs x.toNat) := hide (by rw [List.drop_zero])
     generalize hF : (fun j => hv (hs.drop j) x.toNat) = F
     have hF' : ∀ j, hv (hs.drop j) x.toNat = F j := fun j => by rw [← hF]
     replace hF := hide hF
     simp only [hF'] at hlt hhv hstep hh0
     clear hF'
     have hkb : ¬ bad k x.toNat := c3
     replace c1 := hide c1
     replace c2 := hide c2
     replace c3 := hide c3
     replace hsl := hide hsl
     by_cases q9 : k = 9
     ·have d8 : ((k : Int) == 9) = true := by simp; omega
      have d9 : decide (bv x > 1) = false := by unfold bad at hkb; rw [bv8]; simp; omega
      have d10 : (bv x == 0) = false := by unfold bad at hkb; rw [bv8]; simp; omega
      have hk0 : 0 < k := by omega
      replace q9 := hide q9
      replace hkb := hide hkb
      go_wp2
      go_loopw [9, 10] (fun m i wr2 => ∃ j : Nat, j ≤ k ∧ m = .int .u64 ((F j : Nat) : Int) ∧ i = .int .i64 ((j : Int) - 1) ∧ wr2 = wr) (fun _ i _ => (intOf i + 1).toNat)
      case atStart => exact ⟨k, Nat.le_refl _, by rw [hhv.out]; rfl, rfl, rfl⟩
      case round =>
       obtain ⟨j, hj, rfl, rfl, rfl⟩ := hrel
       by_cases hj0 : j = 0
       ·subst hj0
        have dj : decide (((0 : Nat) : Int) - 1 ≥ 0) = false := by decide
        go_wp2
        go_ret3
        exact ⟨by rw [hfin.out, ← hh0.out]; rfl, Below.refl _ _⟩
       ·obtain ⟨i, rfl⟩ : ∃ i, j = i + 1 := ⟨j - 1, by omega⟩
        rw [show ((i + 1 : Nat) : Int) - 1 = (i : Int) by omega]
        have hcj := hcells.out i (by omega)
        have hhj := hhs2.out i (by omega)
        have hsj := hstep.out i (by omega)
        have hl0 := hlt.out i (by omega)
        have hl1 : 2 ^ (64 - 7 * i) ≤ 2 ^ 64 := Nat.pow_le_pow_right (by decide) (by omega)
        have hqj : 0 ≤ (p : Int) + (i : Int) ∧ (p : Int) + (i : Int) < (bs.length : Int) := by omega
        have hyb := bnd (gb hs i)
        have ey : Hid (bv (gb hs i) = ((gb hs i).toNat : Int)) := hide rfl
        have hy8 : 128 ≤ bv (gb hs i) := by rw [ey.out]; omega
        have hF64 : F i < 18446744073709551616 := by omega
        have hmul : (F (i + 1) : Int) * 128 < 18446744073709551616 := by omega
        have hnew : (F (i + 1) : Int) * 128 + (bv (gb hs i) - 128) = ((F i : Nat) : Int) := by rw [ey.out]; omega
        have hsum : (F (i + 1) : Int) * 128 + (bv (gb hs i) - 128) < 18446744073709551616 := by omega
        replace hnew := hide hnew
        clear hsj hl0 hl1 hF64 hhj hj0
        generalize gb hs i = y at *
        generalize hf1 : F (i + 1) = f1 at *
        go_wp2
        refine ⟨⟨i, by omega, by rw [← hnew.out], rfl, trivial⟩, ?_⟩
        simp [intOf]
     ·have d8 : ((k : Int) == 9) = false := by simp; omega
      by_cases q0 : k = 0
      ·have hk0 : ¬ 0 < k := by omega
       replace q9 := hide q9
       replace q0 := hide q0
       replace hkb := hide hkb
       go_wp2
       go_loopw [9, 10] (fun m i wr2 => ∃ j : Nat, j ≤ k ∧ m = .int .u64 ((F j : Nat) : Int) ∧ i = .int .i64 ((j : Int) - 1) ∧ wr2 = wr) (fun _ i _ => (intOf i + 1).toNat)
       case atStart => exact ⟨k, Nat.le_refl _, by rw [hhv.out]; rfl, rfl, rfl⟩
       case round =>
        obtain ⟨j, hj, rfl, rfl, rfl⟩ := hrel
        by_cases hj0 : j = 0
        ·subst hj0
         have dj : decide (((0 : Nat) : Int) - 1 ≥ 0) = false := by decide
         go_wp2
         go_ret3
         exact ⟨by rw [hfin.out, ← hh0.out]; rfl, Below.refl _ _⟩
        ·obtain ⟨i, rfl⟩ : ∃ i, j = i + 1 := ⟨j - 1, by omega⟩
         rw [show ((i + 1 : Nat) : Int) - 1 = (i : Int) by omega]
         have hcj := hcells.out i (by omega)
         have hhj := hhs2.out i (by omega)
         have hsj := hstep.out i (by omega)
         have hl0 := hlt.out i (by omega)
         have hl1 : 2 ^ (64 - 7 * i) ≤ 2 ^ 64 := Nat.pow_le_pow_right (by decide) (by omega)
         have hqj : 0 ≤ (p : Int) + (i : Int) ∧ (p : Int) + (i : Int) < (bs.length : Int) := by omega
         have hyb := bnd (gb hs i)
         have ey : Hid (bv (gb hs i) = ((gb hs i).toNat : Int)) := hide rfl
         have hy8 : 128 ≤ bv (gb hs i) := by rw [ey.out]; omega
         have hF64 : F i < 18446744073709551616 := by omega
         have hmul : (F (i + 1) : Int) * 128 < 18446744073709551616 := by omega
         have hnew : (F (i + 1) : Int) * 128 + (bv (gb hs i) - 128) = ((F i : Nat) : Int) := by rw [ey.out]; omega
         have hsum : (F (i + 1) : Int) * 128 + (bv (gb hs i) - 128) < 18446744073709551616 := by omega
         replace hnew := hide hnew
         clear hsj hl0 hl1 hF64 hhj hj0
         generalize gb hs i = y at *
         generalize hf1 : F (i + 1) = f1 at *
         go_wp2
         refine ⟨⟨i, by omega, by rw [← hnew.out], rfl, trivial⟩, ?_⟩
         simp [intOf]
      ·have d10 : (bv x == 0) = false := by unfold bad at hkb; rw [bv8]; simp; omega
       have hk0 : 0 < k := by omega
       replace q9 := hide q9
       replace q0 := hide q0
       replace hkb := hide hkb
       go_wp2
       go_loopw [9, 10] (fun m i wr2 => ∃ j : Nat, j ≤ k ∧ m = .int .u64 ((F j : Nat) : Int) ∧ i = .int .i64 ((j : Int) - 1) ∧ wr2 = wr) (fun _ i _ => (intOf i + 1).toNat)
       case atStart => exact ⟨k, Nat.le_refl _, by rw [hhv.out]; rfl, rfl, rfl⟩
       case round =>
        obtain ⟨j, hj, rfl, rfl, rfl⟩ := hrel
        by_cases hj0 : j = 0
        ·subst hj0
         have dj : decide (((0 : Nat) : Int) - 1 ≥ 0) = false := by decide
         go_wp2
         go_ret3
         exact ⟨by rw [hfin.out, ← hh0.out]; rfl, Below.refl _ _⟩
        ·obtain ⟨i, rfl⟩ : ∃ i, j = i + 1 := ⟨j - 1, by omega⟩
         rw [show ((i + 1 : Nat) : Int) - 1 = (i : Int) by omega]
         have hcj := hcells.out i (by omega)
         have hhj := hhs2.out i (by omega)
         have hsj := hstep.out i (by omega)
         have hl0 := hlt.out i (by omega)
         have hl1 : 2 ^ (64 - 7 * i) ≤ 2 ^ 64 := Nat.pow_le_pow_right (by decide) (by omega)
         have hqj : 0 ≤ (p : Int) + (i : Int) ∧ (p : Int) + (i : Int) < (bs.length : Int) := by omega
         have hyb := bnd (gb hs i)
         have ey : Hid (bv (gb hs i) = ((gb hs i).toNat : Int)) := hide rfl
         have hy8 : 128 ≤ bv (gb hs i) := by rw [ey.out]; omega
         have hF64 : F i < 18446744073709551616 := by omega
         have hmul : (F (i + 1) : Int) * 128 < 18446744073709551616 := by omega
         have hnew : (F (i + 1) : Int) * 128 + (bv (gb hs i) - 128) = ((F i : Nat) : Int) := by rw [ey.out]; omega
         have hsum : (F (i + 1) : Int) * 128 + (bv (gb hs i) - 128) < 18446744073709551616 := by omega
         replace hnew := hide hnew
         clear hsj hl0 hl1 hF64 hhj hj0
         generalize gb hs i = y at *
         generalize hf1 : F (i + 1) = f1 at *
         go_wp2
         refine ⟨⟨i, by omega, by rw [← hnew.out], rfl, trivial⟩, ?_⟩
         simp [intOf]
   ·have hfin : Hid (nres p (rd 0 (bs.drop p)) = .tuple #[.int .u64 0, .int .i64 0, .int .i64 (if k = 10 then 70 else 73)]) := hide (by
     by_cases h10 : k = 10
     ·have hspl : bs.drop p = hs ++ bs.drop (p + k) := by rw [← hhs, ← List.drop_drop, List.take_append_drop]
      rw [hspl, rd_ten hs 0 _ hall.out (by omega) (by omega), if_pos h10]; rfl
     ·have hspl : bs.drop p = hs := by rw [← hhs, List.take_of_length_le (by rw [List.length_drop]; omega)]
      rw [hspl, rd_cut hs 0 hall.out (by omega), if_neg h10]; rfl)
    clear hB hall hhs
    by_cases h10 : k = 10
    ·rw [if_pos h10] at hfin
     subst h10
     replace c1 := hide c1
     replace c2 := hide c2
     replace hsl := hide hsl
     go_wp2
     go_ret3
     exact ⟨by rw [hfin.out]; rfl, Below.refl _ _⟩
    ·rw [if_neg h10] at hfin
     have d3 : decide ((k : Int) < 10) = true := by simp; omega
     have d4 : decide ((p : Int) + (k : Int) < (bs.length : Int)) = false := by simp; omega
     have d6 : ((k : Int) == 10) = false := by simp; omega
     have d7 : ((p : Int) + (k : Int) == (bs.length : Int)) = true := by simp; omega
     replace c1 := hide c1
     replace c2 := hide c2
     replace hsl := hide hsl
     replace h10 := hide h10
     go_wp2
     go_ret3
     exact ⟨by rw [hfin.out]; rfl, Below.refl _ _⟩
end Go.Proofs.YtjoohgkgkabbpaaGreatDoor
namespace Go.Proofs.YtjoohgkgkabbpaaGreatDoor
set_option maxRecDepth 100000
open Go Go.RowKit Go.Sort
attribute [local go_sem] setCell_drewN alloc_drewN
end Go.Proofs.YtjoohgkgkabbpaaGreatDoor
namespace Go.Proofs.YtjoohgkgkabbpaaGreatDoor
set_option maxRecDepth 100000
open Go Go.RowKit Go.Sort
attribute [local go_sem] setCell_drewN alloc_drewN
def GivesB (w : World) (f : FuncId) (args : Array Value) (v : Value) : Prop := ∀ W, Below w.heap.size w W → Calls Tryz.prog f args W fun e w' => e = .returned v ∧ Below W.heap.size W w'
theorem GivesB.keep {w W : World} {f : FuncId} {args : Array Value} {v : Value} (h : GivesB w f args v) (hb : Below w.heap.size w W) : GivesB W f args v := fun V hV => h V (Below.after hb hV)
theorem GivesB.re {w : World} {f : FuncId} {args : Array Value} {v : Value} (h : GivesB w f args v) {d : Nat} {os : Array Obj} : Calls Tryz.prog f args (grow (redrawn w d) os) fun e w'' => e = .returned v ∧ ∃ p : Regrown, w'' = grow (redrawn w p.d) p.os := Calls.regrown_of (h _ (below_regrown w d os))
theorem GivesB.at {w : World} {f : FuncId} {args : Array Value} {v : Value} (h : GivesB w f args v) : Calls Tryz.prog f args w fun e w' => e = .returned v ∧ Below w.heap.size w w' := h w (Below.refl _ _)
def itm (p : List B) : List B := en p.length ++ p
theorem itm_len (p : List B) : (itm p).length = (en p.length).length + p.length := by rw [itm, List.length_append]
def gp (ps : List (List B)) (i : Nat) : List B := ps.getD i []
def PcB (W : World) (v : Value) (ps : List (List B)) : Prop := ∃ ao cap, v = .slice ao ps.length cap ∧ ps.length ≤ 5864062014634 ∧ (ao = none → cap = 0) ∧ ∀ i, i < ps.length → ∃ b off u, ao = some ⟨b, off, none⟩ ∧ b < W.heap.size ∧ W.cell? ⟨b, off + i, none⟩ = some u ∧ BysB W u (gp ps i) ∧ (gp ps i).length ≤ 140737488351232
theorem PcB.keep {W V : World} {v : Value} {ps : List (List B)} (h : PcB W v ps) (hb : Below W.heap.size W V) : PcB V v ps := by
 obtain ⟨ao, cap, e, hl, hn, hc⟩ := h
 refine ⟨ao, cap, e, hl, hn, fun i hi => ?_⟩
 obtain ⟨b, off, u, e1, h1, h2, h3, h4⟩ := hc i hi
 exact ⟨b, off, u, e1, Nat.lt_of_lt_of_le h1 hb.size, (hb.cell h1).trans h2, h3.keep hb, h4⟩
theorem PcB.form {W : World} {v : Value} {ps : List (List B)} (h : PcB W v ps) : ∃ ao cap, v = .slice ao ps.length cap := by
 obtain ⟨ao, cap, e, _⟩ := h
 exact ⟨ao, cap, e⟩
theorem PcB.at {W : World} {ao : Option Addr} {l cap : Nat} {ps : List (List B)} (h : PcB W (.slice ao l cap) ps) {i : Nat} (hi : i < ps.length) : ∃ b off u uc, ao = some ⟨b, off, none⟩ ∧ b < W.heap.size ∧ W.cell? ⟨b, off + i, none⟩ = some (.slice u (gp ps i).length uc) ∧ BysB W (.slice u (gp ps i).length uc) (gp ps i) ∧ (gp ps i).length ≤ 140737488351232 := by
 obtain ⟨ao', cap', e, _, _, hc⟩ := h
 cases e
 obtain ⟨b, off, u, e1, h1, h2, h3, h4⟩ := hc i hi
 obtain ⟨uo, uc, rfl⟩ := h3.form
 exact ⟨b, off, uo, uc, e1, h1, h2, h3, h4⟩
theorem PcB.len {W : World} {v : Value} {ps : List (List B)} (h : PcB W v ps) : ps.length ≤ 5864062014634 := by
 obtain ⟨_, _, _, hl, _⟩ := h
 exact hl
theorem own_none (W : World) (b : Nat) : Own W b (.slice none 0 0) [] := ⟨rfl, .inl ⟨rfl, rfl⟩⟩
end Go.Proofs.YtjoohgkgkabbpaaGreatDoor

