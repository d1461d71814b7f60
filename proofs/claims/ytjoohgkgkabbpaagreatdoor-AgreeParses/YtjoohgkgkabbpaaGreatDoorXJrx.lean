import Derived.Test.YtjoohgkgkabbpaaGreatDoorProg
import Derived.WalkKit
import Derived.WalkSpells
import Derived.WalkLawsBesides
import Derived.Lib.QuietBelow
import Derived.BigQuiet
import Derived.OrdersHeld
import Derived.Deep.RegionHeld3
import Derived.OwnWalk
import Derived.Test.YtjoohgkgkabbpaaGreatDoorXOpen
import Derived.Test.YtjoohgkgkabbpaaGreatDoorXQa1
import Derived.Test.YtjoohgkgkabbpaaGreatDoorXQb9
import Derived.Deep.Slices
import Derived.ChangeSlices
import Derived.SizedLaws
import Derived.Test.YtjoohgkgkabbpaaGreatDoorXJrf
import Derived.Deep.Cut
namespace Go.Proofs.YtjoohgkgkabbpaaGreatDoor
set_option maxRecDepth 100000
open Go Go.RowKit Go.Sort
attribute [local go_sem] setCell_drewN alloc_drewN
def k8 (l : List Int) : List Value := l.map (Value.int .u8)
theorem k8_len (l : List Int) : (k8 l).length = l.length := by simp [k8]
theorem extr (A B C : List Value) (n m : Nat) (hn : A.length = n) (hm : B.length = m) : ((A ++ (B ++ C)).toArray).extract n (n + m) = B.toArray := by
 subst hn hm
 apply Array.ext'
 simp only [Array.toList_extract, List.extract_eq_take_drop, List.drop_left]
 simp
theorem getx (A B C : List Value) (n j : Nat) (hn : A.length = n) (hj : j < B.length) : ((A ++ (B ++ C)).toArray)[n + j]? = B[j]? := by
 subst hn
 rw [List.getElem?_toArray, List.getElem?_append_right (by omega), Nat.add_sub_cancel_left, List.getElem?_append_left hj]
theorem k8_one (l : List Int) : ∀ u ∈ k8 l, u.oneCell' = true := by
 intro u hu
 obtain ⟨z, _, rfl⟩ := List.mem_map.1 hu
 rfl
theorem len32 (l : List Int) (h : l.length = 32) : ∃ x0 x1 x2 x3 x4 x5 x6 x7 x8 x9 x10 x11 x12 x13 x14 x15 x16 x17 x18 x19 x20 x21 x22 x23 x24 x25 x26 x27 x28 x29 x30 x31, l = [x0, x1, x2, x3, x4, x5, x6, x7, x8, x9, x10, x11, x12, x13, x14, x15, x16, x17, x18, x19, x20, x21, x22, x23, x24, x25, x26, x27, x28, x29, x30, x31] := by
 match l, h with
 | [x0, x1, x2, x3, x4, x5, x6, x7, x8, x9, x10, x11, x12, x13, x14, x15, x16, x17, x18, x19, x20, x21, x22, x23, x24, x25, x26, x27, x28, x29, x30, x31], _ => exact ⟨x0, x1, x2, x3, x4, x5, x6, x7, x8, x9, x10, x11, x12, x13, x14, x15, x16, x17, x18, x19, x20, x21, x22, x23, x24, x25, x26, x27, x28, x29, x30, x31, rfl⟩
theorem infoKy (l : List Int) (hl : l.length = 32) : (Tryz.prog.info? 25).map (·.size) = some (irow .u8 l).size := by
 rw [irow_size, hl]; kernel_rfl
theorem iU8g : ∃ i, Tryz.prog.info? 5 = some i := by
 cases h : Tryz.prog.info? 5 with
 | some i => exact ⟨i, rfl⟩
 | none => exact absurd (show (Tryz.prog.info? 5).isSome = true by kernel_rfl) (by rw [h]; decide)
theorem cU8g : Tryz.prog.cellsOf 5 = 1 := by kernel_rfl
theorem eq_key (d : Nat) (x y : List Int) (hx : x.length = 32) (hy : y.length = 32) (W : World) : (Op.equalIn (d + 2) 25 (.agg (irow .u8 x)) (.agg (irow .u8 y))).run Tryz.prog W = .ok (decide (x = y)) W := by
 obtain ⟨i0, hi⟩ := iU8g
 unfold irow
 rw [run_equalIn_array W (d + 1) _ _ Tryz.underlying25 hi, cU8g, run_eqItems_int d W Tryz.underlying5 hi x y (List.range 32) (fun i h => by simp at h; omega)]
 congr 1
 rw [Bool.eq_iff_iff]
 simp only [List.all_eq_true, List.mem_range, beq_iff_eq, decide_eq_true_eq]
 constructor
 ·intro h
  apply List.ext_getElem (by omega)
  intro i h1 h2
  have := h i (by omega)
  simpa [h1, h2] using this
 ·rintro rfl i _
  rfl
theorem part_key {cs : Array Value} {x : List Int} {o : Nat} (hx : x.length = 32) (h : cs.extract o (o + (irow .u8 x).size) = irow .u8 x) (W : World) : (part 25 cs o).run Tryz.prog W = .ok (.agg (irow .u8 x)) W := by
 have ha : (isAgg 25).run Tryz.prog W = .ok true W := by
  unfold isAgg
  rw [Sem.run_bind, run_underlying Tryz.underlying25 W]
  rfl
 rw [irow_size, hx] at h
 simp [part, Sem.run_bind, ha, h]
theorem eqf_cons {P : Program} {W : World} {d : Nat} {xs ys : Array Value} {f : Field} {fs : List Field} {a b : Value} {r : Bool} (hn : f.name ≠ "_") (ha : (part f.type xs f.offset).run P W = .ok a W) (hb : (part f.type ys f.offset).run P W = .ok b W) (he : (Op.equalIn d f.type a b).run P W = .ok r W) :
 (Op.eqFields d xs ys (f :: fs)).run P W = if r = true then (Op.eqFields d xs ys fs).run P W else .ok false W := by
 rw [Op.eqFields, if_pos hn, Sem.run_bind, ha, Result.andThen_ok, Sem.run_bind, hb, Result.andThen_ok, Sem.run_bind, he, Result.andThen_ok]
 cases r <;> simp
theorem eqf_nil {P : Program} {W : World} {d : Nat} {xs ys : Array Value} : (Op.eqFields d xs ys []).run P W = .ok true W := by
 rw [Op.eqFields, Sem.run_pure]
def prow (a b : List Int) : Array Value := (k8 a ++ (k8 b ++ [])).toArray
theorem prow_one (a b : List Int) : (prow a b).all (·.oneCell') = true := by
 rw [prow, List.all_toArray, List.all_eq_true]
 intro u hu
 simp only [List.mem_append, List.not_mem_nil, or_false] at hu
 rcases hu with hu | hu <;> exact k8_one _ _ hu
theorem builtZk : Tryz.prog.built 25 [] = some (irow .u8 (zr 32)) := by kernel_rfl
theorem eq_k (x y : List Int) (hx : x.length = 32) (hy : y.length = 32) (W : World) : (Op.equalIn 10000 25 (.agg (irow .u8 x)) (.agg (irow .u8 y))).run Tryz.prog W = .ok (decide (x = y)) W := eq_key 9998 x y hx hy W
theorem wpList_build_want {P : Program} {ops : Array Oper} {rest : List Oper} {o : Oper} {a : Act} {w : World} {Q : Exit → Act → World → Prop} (hw : Region.wanted o (yielded ops a.tmps) = true) (t : TypeId) (parts : Array (Nat × Operand)) (ho : o.op = .build t parts)
 (vals : List (Nat × Value)) (hv : parts.toList.map (fun (i, x) => (i, a.eval x)) = vals) (cells : Array Value) (hb : P.built t vals = some cells)
 (h : wpList P ops Q rest (a.put o.dst (.agg cells)) w) : wpList P ops Q (o :: rest) a w := by
 rw [← Array.toList_map] at hv
 subst hv
 refine BigFrame.wpList_want hw fun _ hK => ?_
 unfold Oper.wp execOp
 simp only [ho, Sem.run_bind, run_build w t _ cells hb, Result.andThen_ok]
 exact hK _ _ h
def brow (i : List Int) (s : List Int) (o : List Int) (h : Bool) : Array Value := (k8 i ++ (k8 s ++ (k8 o ++ ([Value.bool h] ++ [])))).toArray
theorem brow_size (i : List Int) (s : List Int) (o : List Int) (h : Bool) (hi : i.length = 32) (hs : s.length = 32) (ho : o.length = 32) : (brow i s o h).size = 97 := by simp [brow, k8_len, hi, hs, ho]
theorem brow_one (i : List Int) (s : List Int) (o : List Int) (h : Bool) : (brow i s o h).all (·.oneCell') = true := by
 rw [brow, List.all_toArray, List.all_eq_true]
 intro u hu
 simp only [List.mem_append, List.mem_cons, List.not_mem_nil, or_false] at hu
 rcases hu with hu | hu | hu | rfl
 ·exact k8_one _ _ hu
 ·exact k8_one _ _ hu
 ·exact k8_one _ _ hu
 ·rfl
theorem bn_i (i : List Int) (s : List Int) (o : List Int) (h : Bool) (hi : i.length = 32) : (brow i s o h).extract 0 (0 + (irow .u8 i).size) = irow .u8 i := by
 have e : k8 i ++ (k8 s ++ (k8 o ++ ([Value.bool h] ++ []))) = ([]) ++ (k8 i ++ (k8 s ++ (k8 o ++ ([Value.bool h] ++ [])))) := by simp
 rw [brow, e, irow_size, hi]
 exact extr _ _ _ 0 32 rfl (by simp [k8_len, hi])
theorem bn_s (i : List Int) (s : List Int) (o : List Int) (h : Bool) (hi : i.length = 32) (hs : s.length = 32) : (brow i s o h).extract 32 (32 + (irow .u8 s).size) = irow .u8 s := by
 have e : k8 i ++ (k8 s ++ (k8 o ++ ([Value.bool h] ++ []))) = (k8 i ++ []) ++ (k8 s ++ (k8 o ++ ([Value.bool h] ++ []))) := by simp
 rw [brow, e, irow_size, hs]
 exact extr _ _ _ 32 32 (by simp [k8_len, hi]) (by simp [k8_len, hs])
theorem bn_o (i : List Int) (s : List Int) (o : List Int) (h : Bool) (hi : i.length = 32) (hs : s.length = 32) (ho : o.length = 32) : (brow i s o h).extract 64 (64 + (irow .u8 o).size) = irow .u8 o := by
 have e : k8 i ++ (k8 s ++ (k8 o ++ ([Value.bool h] ++ []))) = (k8 i ++ (k8 s ++ [])) ++ (k8 o ++ ([Value.bool h] ++ [])) := by simp
 rw [brow, e, irow_size, ho]
 exact extr _ _ _ 64 32 (by simp [k8_len, hi, hs]) (by simp [k8_len, ho])
theorem bn_h (i : List Int) (s : List Int) (o : List Int) (h : Bool) (hi : i.length = 32) (hs : s.length = 32) (ho : o.length = 32) : (brow i s o h)[96]? = some (.bool h) := by
 have e : k8 i ++ (k8 s ++ (k8 o ++ ([Value.bool h] ++ []))) = (k8 i ++ (k8 s ++ (k8 o ++ []))) ++ ([Value.bool h] ++ ([])) := by simp
 rw [brow, e]
 exact getx _ _ _ 96 0 (by simp [k8_len, hi, hs, ho]) (by simp)
theorem info_brow (i : List Int) (s : List Int) (o : List Int) (h : Bool) (hi : i.length = 32) (hs : s.length = 32) (ho : o.length = 32) : (Tryz.prog.info? 43).map (·.size) = some (brow i s o h).size := by rw [brow_size i s o h hi hs ho]; kernel_rfl
theorem box_brow (cs : Array Value) (W : World) : (Instr.box 43 (.agg cs)).run Tryz.prog W = .ok (.pointer (some ⟨W.heap.size, 0, none⟩)) (W.alloc (.cells cs 43)) := by kernel_rfl
theorem zBnA (W : World) : (Instr.alloc 43 true (.tuple #[])).run Tryz.prog W = .ok (.pointer (some ⟨W.heap.size, 0, none⟩)) (W.alloc (.cells (brow (zr 32) (zr 32) (zr 32) false) 43)) := by kernel_rfl
theorem strB : Tryz.prog.underlying 43 = some (.struct (Tryz.prog.fieldsOf 43)) := by kernel_rfl
theorem stoB : Tryz.prog.stoodInHeld 43 = false := by kernel_rfl
theorem fldB : ∃ f1 f2 f3 f4, (Tryz.prog.fieldsOf 43).toList = [f1, f2, f3, f4] ∧ f1.name ≠ "_" ∧ f1.type = 25 ∧ f1.offset = 0 ∧ f2.name ≠ "_" ∧ f2.type = 25 ∧ f2.offset = 32 ∧ f3.name ≠ "_" ∧ f3.type = 25 ∧ f3.offset = 64 ∧ f4.name ≠ "_" ∧ f4.type = 4 ∧ f4.offset = 96 := ⟨_, _, _, _, rfl, by decide, rfl, rfl, by decide, rfl, rfl, by decide, rfl, rfl, by decide, rfl, rfl⟩
theorem part_b {cs : Array Value} {b : Bool} {o : Nat} (h : cs[o]? = some (.bool b)) (W : World) : (part 4 cs o).run Tryz.prog W = .ok (.bool b) W := by
 have ha : (isAgg 4).run Tryz.prog W = .ok false W := by
  unfold isAgg
  rw [Sem.run_bind, run_underlying Tryz.underlying4 W]
  rfl
 simp [part, Sem.run_bind, ha, h]
theorem eq_bn (i s o : List Int) (h : Bool) (i' s' o' : List Int) (h' : Bool) (hi : i.length = 32) (hs : s.length = 32) (ho : o.length = 32) (hi' : i'.length = 32) (hs' : s'.length = 32) (ho' : o'.length = 32) (W : World) : (Op.equalIn 10000 43 (.agg (brow i s o h)) (.agg (brow i' s' o' h'))).run Tryz.prog W = .ok (decide (i = i' ∧ s = s' ∧ o = o' ∧ h = h')) W := by
 obtain ⟨f1, f2, f3, f4, hf, n1, t1, o1, n2, t2, o2, n3, t3, o3, n4, t4, o4⟩ := fldB
 rw [run_equalIn_struct W 9999 43 _ _ strB stoB, hf]
 have e4 : (Op.equalIn 9999 4 (.bool h) (.bool h')).run Tryz.prog W = .ok (decide (h = h')) W := by
  cases h <;> cases h' <;> kernel_rfl
 rw [eqf_cons n1 (by rw [t1, o1]; exact part_key hi (bn_i i s o h hi) W) (by rw [t1, o1]; exact part_key hi' (bn_i i' s' o' h' hi') W) (by rw [t1]; exact eq_key 9997 i i' hi hi' W), eqf_cons n2 (by rw [t2, o2]; exact part_key hs (bn_s i s o h hi hs) W) (by rw [t2, o2]; exact part_key hs' (bn_s i' s' o' h' hi' hs') W) (by rw [t2]; exact eq_key 9997 s s' hs hs' W), eqf_cons n3 (by rw [t3, o3]; exact part_key ho (bn_o i s o h hi hs ho) W) (by rw [t3, o3]; exact part_key ho' (bn_o i' s' o' h' hi' hs' ho') W) (by rw [t3]; exact eq_key 9997 o o' ho ho' W), eqf_cons n4 (by rw [t4, o4]; exact part_b (bn_h i s o h hi hs ho) W) (by rw [t4, o4]; exact part_b (bn_h i' s' o' h' hi' hs' ho') W) (by rw [t4]; exact e4), eqf_nil]
 by_cases e1 : i = i'
 ·by_cases e2 : s = s'
  ·by_cases e3 : o = o'
   ·by_cases e4 : h = h' <;> simp [e1, e2, e3, e4]
   ·simp [e1, e2, e3]
  ·simp [e1, e2]
 ·simp [e1]
end Go.Proofs.YtjoohgkgkabbpaaGreatDoor
namespace Go.Proofs.YtjoohgkgkabbpaaGreatDoor
set_option maxRecDepth 100000
open Go Go.RowKit Go.Sort Go.ChangeShapes Go.WideShapes Go.Deep
end Go.Proofs.YtjoohgkgkabbpaaGreatDoor
namespace Go.Proofs.YtjoohgkgkabbpaaGreatDoor
set_option maxRecDepth 100000
open Go Go.RowKit Go.Sort
attribute [local go_sem] setCell_drewN alloc_drewN
section
variable {P : Program}
theorem run_load_part {o : Oper} {a : Act} {w : World} (ty : TypeId) (x : Operand) (ho : o.op = .load ty x) (g off : Nat) (hx : a.eval x = .pointer (some ⟨g, off, none⟩)) (t : TypeId) (cs : Array Value) (fr : Nat × Nat) (part : Array Value) (d : TypeDesc) (hg : w.heap[g]? = some (.cells cs t fr)) (hp : cs.extract off (off + part.size) = part)
 (hu : P.underlying ty = some d) (hd : d.isRow = true) (hi : (P.info? ty).map (·.size) = some part.size) : (execOp a.eval o).run P w = .ok (.value (.agg part)) w := by
 have hr := World.rangeAt_of_block hg off part.size
 rw [hp] at hr
 have hl := run_loadVar_mid (P := P) w g off ty part.toList d hr hu hd (by simpa using hi)
 unfold execOp
 simp only [ho, hx, Instr.loadAt, Instr.sureAddr, Sem.run_bind, Sem.run_pure, Result.andThen_ok, hl]
end
section
variable {P : Program} {ops : Array Oper} {Q : Exit → Act → World → Prop} {md : Region.Mode} {S : World → Prop}
theorem wpAnyH_two {j k : Nat} {oj ok : Oper} {fuel : Nat} {listed : Array Bool} {a : Act} {w : World} (hr : Region.ready md ops listed = [j, k]) (hj : ops[j]? = some oj) (hk : ops[k]? = some ok) (wj : Region.wanted oj (yielded ops a.tmps) = true) (wk : Region.wanted ok (yielded ops a.tmps) = true)
 (h1 : ∀ K : Act → World → Prop, (∀ a' w', S w' → wpAnyH P md ops Q S fuel (listed.setIfInBounds j true) a' w' → K a' w') → oj.wp P a w K Q)
 (h2 : ∀ K : Act → World → Prop, (∀ a' w', S w' → wpAnyH P md ops Q S fuel (listed.setIfInBounds k true) a' w' → K a' w') → ok.wp P a w K Q) : wpAnyH P md ops Q S (fuel + 1) listed a w := by
 refine wpAnyH_all hr (by simp) (fun i hi' => ?_)
 obtain rfl | rfl : i = j ∨ i = k := by simpa using hi'
 ·unfold wpOp
  simp only [hj, wj, if_true]
  exact .inl (h1 _ (fun a' w' hS hn => ⟨hS, hn⟩))
 ·unfold wpOp
  simp only [hk, wk, if_true]
  exact .inl (h2 _ (fun a' w' hS hn => ⟨hS, hn⟩))
end
theorem all_rowB (cs : Array Value) : cs.extract 0 (0 + cs.size) = cs := by simp
def z32 : List B := List.replicate 32 0#8
end Go.Proofs.YtjoohgkgkabbpaaGreatDoor

