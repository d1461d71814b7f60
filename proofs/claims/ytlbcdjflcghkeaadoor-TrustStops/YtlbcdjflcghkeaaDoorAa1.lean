import Derived.Test.YtlbcdjflcghkeaaDoorProg
import Derived.WalkKit
import Derived.WalkSpells
import Derived.WalkLawsBesides
import Derived.Lib.QuietBelow
import Derived.BigQuiet
import Derived.OrdersHeld
import Derived.Deep.RegionHeld3
import Derived.OwnWalk
import Derived.Test.YtlbcdjflcghkeaaDoorKa
import Derived.Test.YtlbcdjflcghkeaaDoorKim
import Derived.Test.YtlbcdjflcghkeaaDoorSgh
import Derived.Test.YtlbcdjflcghkeaaDoorOpen
import Derived.Deep.Slices
import Derived.ChangeSlices
import Derived.SizedLaws
namespace Go.Proofs.YtlbcdjflcghkeaaDoor
set_option maxRecDepth 100000
open Go Go.RowKit Go.Sort
attribute [local go_sem] setCell_drewN alloc_drewN

def k8 (l : List Int) : List Value := l.map (Value.int .u8)
theorem k8_len (l : List Int) : (k8 l).length = l.length := by simp [k8]
theorem k8_irow (l : List Int) : (k8 l).toArray = irow .u8 l := rfl
theorem extr (A B C : List Value) (n m : Nat) (hn : A.length = n) (hm : B.length = m) : ((A ++ (B ++ C)).toArray).extract n (n + m) = B.toArray := by
  subst hn hm
  apply Array.ext'
  simp only [Array.toList_extract, List.extract_eq_take_drop, List.drop_left]
  simp
theorem getx (A B C : List Value) (n j : Nat) (hn : A.length = n) (hj : j < B.length) : ((A ++ (B ++ C)).toArray)[n + j]? = B[j]? := by
  subst hn
  rw [List.getElem?_toArray, List.getElem?_append_right (by omega), Nat.add_sub_cancel_left, List.getElem?_append_left hj]
theorem k8_one (l : List Int) : ∀ u ∈ k8 l, u.oneCell' = true := by
  intro u hu
  obtain ⟨z, _, rfl⟩ := List.mem_map.1 hu
  rfl
theorem len32 (l : List Int) (h : l.length = 32) : ∃ x0 x1 x2 x3 x4 x5 x6 x7 x8 x9 x10 x11 x12 x13 x14 x15 x16 x17 x18 x19 x20 x21 x22 x23 x24 x25 x26 x27 x28 x29 x30 x31, l = [x0, x1, x2, x3, x4, x5, x6, x7, x8, x9, x10, x11, x12, x13, x14, x15, x16, x17, x18, x19, x20, x21, x22, x23, x24, x25, x26, x27, x28, x29, x30, x31] := by
  match l, h with
  | [x0, x1, x2, x3, x4, x5, x6, x7, x8, x9, x10, x11, x12, x13, x14, x15, x16, x17, x18, x19, x20, x21, x22, x23, x24, x25, x26, x27, x28, x29, x30, x31], _ => exact ⟨x0, x1, x2, x3, x4, x5, x6, x7, x8, x9, x10, x11, x12, x13, x14, x15, x16, x17, x18, x19, x20, x21, x22, x23, x24, x25, x26, x27, x28, x29, x30, x31, rfl⟩
theorem infoKy (l : List Int) (hl : l.length = 32) : (Tryd.prog.info? 23).map (·.size) = some (irow .u8 l).size := by
  rw [irow_size, hl]; kernel_rfl
theorem bKy (cs : Array Value) (W : World) : (Instr.box 23 (.agg cs)).run Tryd.prog W = .ok (.pointer (some ⟨W.heap.size, 0, none⟩)) (W.alloc (.cells cs 23)) := by kernel_rfl
theorem iU8g : ∃ i, Tryd.prog.info? 5 = some i := by
  cases h : Tryd.prog.info? 5 with
  | some i => exact ⟨i, rfl⟩
  | none => exact absurd (show (Tryd.prog.info? 5).isSome = true by kernel_rfl) (by rw [h]; decide)
theorem cU8g : Tryd.prog.cellsOf 5 = 1 := by kernel_rfl
theorem eq_key (d : Nat) (x y : List Int) (hx : x.length = 32) (hy : y.length = 32) (W : World) : (Op.equalIn (d + 2) 23 (.agg (irow .u8 x)) (.agg (irow .u8 y))).run Tryd.prog W = .ok (decide (x = y)) W := by
  obtain ⟨i0, hi⟩ := iU8g
  unfold irow
  rw [run_equalIn_array W (d + 1) _ _ Tryd.underlying23 hi, cU8g, run_eqItems_int d W Tryd.underlying5 hi x y (List.range 32) (fun i h => by simp at h; omega)]
  congr 1
  rw [Bool.eq_iff_iff]
  simp only [List.all_eq_true, List.mem_range, beq_iff_eq, decide_eq_true_eq]
  constructor
  · intro h
    apply List.ext_getElem (by omega)
    intro i h1 h2
    have := h i (by omega)
    simpa [h1, h2] using this
  · rintro rfl i _
    rfl
theorem part_key {cs : Array Value} {x : List Int} {o : Nat} (hx : x.length = 32) (h : cs.extract o (o + (irow .u8 x).size) = irow .u8 x) (W : World) : (part 23 cs o).run Tryd.prog W = .ok (.agg (irow .u8 x)) W := by
  have ha : (isAgg 23).run Tryd.prog W = .ok true W := by
    unfold isAgg
    rw [Sem.run_bind, run_underlying Tryd.underlying23 W]
    rfl
  rw [irow_size, hx] at h
  simp [part, Sem.run_bind, ha, h]
theorem eqf_cons {P : Program} {W : World} {d : Nat} {xs ys : Array Value} {f : Field} {fs : List Field} {a b : Value} {r : Bool} (hn : f.name ≠ "_") (ha : (part f.type xs f.offset).run P W = .ok a W) (hb : (part f.type ys f.offset).run P W = .ok b W) (he : (Op.equalIn d f.type a b).run P W = .ok r W) :
    (Op.eqFields d xs ys (f :: fs)).run P W = if r = true then (Op.eqFields d xs ys fs).run P W else .ok false W := by
  rw [Op.eqFields, if_pos hn, Sem.run_bind, ha, Result.andThen_ok, Sem.run_bind, hb, Result.andThen_ok, Sem.run_bind, he, Result.andThen_ok]
  cases r <;> simp
theorem eqf_nil {P : Program} {W : World} {d : Nat} {xs ys : Array Value} : (Op.eqFields d xs ys []).run P W = .ok true W := by
  rw [Op.eqFields, Sem.run_pure]
def prow (a b : List Int) : Array Value := (k8 a ++ (k8 b ++ [])).toArray
theorem prow_size {a b : List Int} (ha : a.length = 32) (hb : b.length = 32) : (prow a b).size = 64 := by simp [prow, k8_len, ha, hb]
theorem prow_one (a b : List Int) : (prow a b).all (·.oneCell') = true := by
  rw [prow, List.all_toArray, List.all_eq_true]
  intro u hu
  simp only [List.mem_append, List.not_mem_nil, or_false] at hu
  rcases hu with hu | hu <;> exact k8_one _ _ hu
theorem pr_a {a b : List Int} (ha : a.length = 32) : (prow a b).extract 0 (0 + (irow .u8 a).size) = irow .u8 a := by
  rw [irow_size, ha]
  exact extr [] (k8 a) (k8 b ++ []) 0 32 rfl (by rw [k8_len, ha])
theorem pr_b {a b : List Int} (ha : a.length = 32) (hb : b.length = 32) : (prow a b).extract 32 (32 + (irow .u8 b).size) = irow .u8 b := by
  rw [irow_size, hb]
  exact extr (k8 a) (k8 b) [] 32 32 (by rw [k8_len, ha]) (by rw [k8_len, hb])
theorem builtZk : Tryd.prog.built 23 [] = some (irow .u8 (zr 32)) := by kernel_rfl
theorem eq_k (x y : List Int) (hx : x.length = 32) (hy : y.length = 32) (W : World) : (Op.equalIn 10000 23 (.agg (irow .u8 x)) (.agg (irow .u8 y))).run Tryd.prog W = .ok (decide (x = y)) W := eq_key 9998 x y hx hy W
theorem wpList_build_want {P : Program} {ops : Array Oper} {rest : List Oper} {o : Oper} {a : Act} {w : World} {Q : Exit → Act → World → Prop} (hw : Region.wanted o (yielded ops a.tmps) = true) (t : TypeId) (parts : Array (Nat × Operand)) (ho : o.op = .build t parts)
    (vals : List (Nat × Value)) (hv : parts.toList.map (fun (i, x) => (i, a.eval x)) = vals) (cells : Array Value) (hb : P.built t vals = some cells)
    (h : wpList P ops Q rest (a.put o.dst (.agg cells)) w) : wpList P ops Q (o :: rest) a w := by
  rw [← Array.toList_map] at hv
  subst hv
  refine BigFrame.wpList_want hw fun _ hK => ?_
  unfold Oper.wp execOp
  simp only [ho, Sem.run_bind, run_build w t _ cells hb, Result.andThen_ok]
  exact hK _ _ h
def WpStay (p : Prop) : Prop := p
theorem wpList_stay {P : Program} {ops : Array Oper} {rest : List Oper} {a : Act} {w : World} {Q : Exit → Act → World → Prop} (h : WpStay (wpList P ops Q rest a w)) : wpList P ops Q rest a w := h
/-- A bundle. -/
def brow (i : List Int) (s : List Int) (o : List Int) (h : Bool) : Array Value := (k8 i ++ (k8 s ++ (k8 o ++ ([Value.bool h] ++ [])))).toArray
theorem brow_size (i : List Int) (s : List Int) (o : List Int) (h : Bool) (hi : i.length = 32) (hs : s.length = 32) (ho : o.length = 32) : (brow i s o h).size = 97 := by simp [brow, k8_len, hi, hs, ho]
theorem brow_one (i : List Int) (s : List Int) (o : List Int) (h : Bool) : (brow i s o h).all (·.oneCell') = true := by
  rw [brow, List.all_toArray, List.all_eq_true]
  intro u hu
  simp only [List.mem_append, List.mem_cons, List.not_mem_nil, or_false] at hu
  rcases hu with hu | hu | hu | rfl
  · exact k8_one _ _ hu
  · exact k8_one _ _ hu
  · exact k8_one _ _ hu
  · rfl
theorem bn_i (i : List Int) (s : List Int) (o : List Int) (h : Bool) (hi : i.length = 32) : (brow i s o h).extract 0 (0 + (irow .u8 i).size) = irow .u8 i := by
  have e : k8 i ++ (k8 s ++ (k8 o ++ ([Value.bool h] ++ []))) = ([]) ++ (k8 i ++ (k8 s ++ (k8 o ++ ([Value.bool h] ++ [])))) := by simp
  rw [brow, e, irow_size, hi]
  exact extr _ _ _ 0 32 rfl (by simp [k8_len, hi])
theorem bn_s (i : List Int) (s : List Int) (o : List Int) (h : Bool) (hi : i.length = 32) (hs : s.length = 32) : (brow i s o h).extract 32 (32 + (irow .u8 s).size) = irow .u8 s := by
  have e : k8 i ++ (k8 s ++ (k8 o ++ ([Value.bool h] ++ []))) = (k8 i ++ []) ++ (k8 s ++ (k8 o ++ ([Value.bool h] ++ []))) := by simp
  rw [brow, e, irow_size, hs]
  exact extr _ _ _ 32 32 (by simp [k8_len, hi]) (by simp [k8_len, hs])
theorem bn_o (i : List Int) (s : List Int) (o : List Int) (h : Bool) (hi : i.length = 32) (hs : s.length = 32) (ho : o.length = 32) : (brow i s o h).extract 64 (64 + (irow .u8 o).size) = irow .u8 o := by
  have e : k8 i ++ (k8 s ++ (k8 o ++ ([Value.bool h] ++ []))) = (k8 i ++ (k8 s ++ [])) ++ (k8 o ++ ([Value.bool h] ++ [])) := by simp
  rw [brow, e, irow_size, ho]
  exact extr _ _ _ 64 32 (by simp [k8_len, hi, hs]) (by simp [k8_len, ho])
theorem bn_h (i : List Int) (s : List Int) (o : List Int) (h : Bool) (hi : i.length = 32) (hs : s.length = 32) (ho : o.length = 32) : (brow i s o h)[96]? = some (.bool h) := by
  have e : k8 i ++ (k8 s ++ (k8 o ++ ([Value.bool h] ++ []))) = (k8 i ++ (k8 s ++ (k8 o ++ []))) ++ ([Value.bool h] ++ ([])) := by simp
  rw [brow, e]
  exact getx _ _ _ 96 0 (by simp [k8_len, hi, hs, ho]) (by simp)
theorem ovw_app : ∀ (vs A B C : List Value), B.length = vs.length → ovw (A ++ (B ++ C)).toArray A.length vs = (A ++ (vs ++ C)).toArray
  | [], A, B, C, h => by
    have : B = [] := List.length_eq_zero_iff.1 h
    subst this
    rfl
  | v :: r, A, [], C, h => by cases h
  | v :: r, A, b :: B, C, h => by
    have e : (A ++ (b :: B ++ C)).toArray.setIfInBounds A.length v = ((A ++ [v]) ++ (B ++ C)).toArray := by
      rw [List.setIfInBounds_toArray, List.set_append_right _ _ (Nat.le_refl _), Nat.sub_self]
      simp
    have e2 : A.length + 1 = (A ++ [v]).length := by simp
    rw [ovw, e, e2, ovw_app r (A ++ [v]) B C (by simpa using h)]
    simp
theorem bn_put (i s o p : List Int) (h : Bool) (hi : i.length = 32) (hs : s.length = 32) (ho : o.length = 32) (hp : p.length = 32) : ovw (brow i s o h) 64 (irow .u8 p).toList = brow i s p h := by
  have e : k8 i ++ (k8 s ++ (k8 o ++ ([Value.bool h] ++ []))) = (k8 i ++ k8 s) ++ (k8 o ++ ([Value.bool h] ++ [])) := by simp
  have l : (k8 i ++ k8 s).length = 64 := by simp [k8_len, hi, hs]
  have q := ovw_app (k8 p) (k8 i ++ k8 s) (k8 o) ([Value.bool h] ++ []) (by rw [k8_len, k8_len, ho, hp])
  rw [l, ← e] at q
  refine q.trans ?_
  rw [brow, List.append_assoc]
theorem part_b {cs : Array Value} {b : Bool} {o : Nat} (h : cs[o]? = some (.bool b)) (W : World) : (part 4 cs o).run Tryd.prog W = .ok (.bool b) W := by
  have ha : (isAgg 4).run Tryd.prog W = .ok false W := by
    unfold isAgg
    rw [Sem.run_bind, run_underlying Tryd.underlying4 W]
    rfl
  simp [part, Sem.run_bind, ha, h]
def psrow (ia : List Int) (ib : List Int) (sa : List Int) (sb : List Int) (oa : List Int) (ob : List Int) (h : Bool) : Array Value := (k8 ia ++ (k8 ib ++ []) ++ (k8 sa ++ (k8 sb ++ []) ++ (k8 oa ++ (k8 ob ++ []) ++ ([Value.bool h] ++ [])))).toArray
theorem psrow_size (ia : List Int) (ib : List Int) (sa : List Int) (sb : List Int) (oa : List Int) (ob : List Int) (h : Bool) (hia : ia.length = 32) (hib : ib.length = 32) (hsa : sa.length = 32) (hsb : sb.length = 32) (hoa : oa.length = 32) (hob : ob.length = 32) : (psrow ia ib sa sb oa ob h).size = 193 := by simp [psrow, k8_len, hia, hib, hsa, hsb, hoa, hob]
theorem psrow_one (ia : List Int) (ib : List Int) (sa : List Int) (sb : List Int) (oa : List Int) (ob : List Int) (h : Bool) : (psrow ia ib sa sb oa ob h).all (·.oneCell') = true := by
  rw [psrow, List.all_toArray, List.all_eq_true]
  intro u hu
  simp only [List.mem_append, List.mem_cons, List.not_mem_nil, or_false] at hu
  rcases hu with (hu | hu) | (hu | hu) | (hu | hu) | rfl
  · exact k8_one _ _ hu
  · exact k8_one _ _ hu
  · exact k8_one _ _ hu
  · exact k8_one _ _ hu
  · exact k8_one _ _ hu
  · exact k8_one _ _ hu
  · rfl
theorem ps_iaib (ia : List Int) (ib : List Int) (sa : List Int) (sb : List Int) (oa : List Int) (ob : List Int) (h : Bool) (hia : ia.length = 32) (hib : ib.length = 32) : (psrow ia ib sa sb oa ob h).extract 0 (0 + (prow ia ib).size) = prow ia ib := by
  have e : k8 ia ++ (k8 ib ++ []) ++ (k8 sa ++ (k8 sb ++ []) ++ (k8 oa ++ (k8 ob ++ []) ++ ([Value.bool h] ++ []))) = ([]) ++ ((k8 ia ++ (k8 ib ++ [])) ++ (k8 sa ++ (k8 sb ++ []) ++ (k8 oa ++ (k8 ob ++ []) ++ ([Value.bool h] ++ [])))) := by simp
  rw [psrow, e, prow_size hia hib]
  exact extr _ _ _ 0 64 rfl (by simp [k8_len, hia, hib])
theorem ps_sasb (ia : List Int) (ib : List Int) (sa : List Int) (sb : List Int) (oa : List Int) (ob : List Int) (h : Bool) (hia : ia.length = 32) (hib : ib.length = 32) (hsa : sa.length = 32) (hsb : sb.length = 32) : (psrow ia ib sa sb oa ob h).extract 64 (64 + (prow sa sb).size) = prow sa sb := by
  have e : k8 ia ++ (k8 ib ++ []) ++ (k8 sa ++ (k8 sb ++ []) ++ (k8 oa ++ (k8 ob ++ []) ++ ([Value.bool h] ++ []))) = (k8 ia ++ (k8 ib ++ []) ++ []) ++ ((k8 sa ++ (k8 sb ++ [])) ++ (k8 oa ++ (k8 ob ++ []) ++ ([Value.bool h] ++ []))) := by simp
  rw [psrow, e, prow_size hsa hsb]
  exact extr _ _ _ 64 64 (by simp [k8_len, hia, hib]) (by simp [k8_len, hsa, hsb])
theorem ps_oaob (ia : List Int) (ib : List Int) (sa : List Int) (sb : List Int) (oa : List Int) (ob : List Int) (h : Bool) (hia : ia.length = 32) (hib : ib.length = 32) (hsa : sa.length = 32) (hsb : sb.length = 32) (hoa : oa.length = 32) (hob : ob.length = 32) : (psrow ia ib sa sb oa ob h).extract 128 (128 + (prow oa ob).size) = prow oa ob := by
  have e : k8 ia ++ (k8 ib ++ []) ++ (k8 sa ++ (k8 sb ++ []) ++ (k8 oa ++ (k8 ob ++ []) ++ ([Value.bool h] ++ []))) = (k8 ia ++ (k8 ib ++ []) ++ (k8 sa ++ (k8 sb ++ []) ++ [])) ++ ((k8 oa ++ (k8 ob ++ [])) ++ ([Value.bool h] ++ [])) := by simp
  rw [psrow, e, prow_size hoa hob]
  exact extr _ _ _ 128 64 (by simp [k8_len, hia, hib, hsa, hsb]) (by simp [k8_len, hoa, hob])
theorem ps_h (ia : List Int) (ib : List Int) (sa : List Int) (sb : List Int) (oa : List Int) (ob : List Int) (h : Bool) (hia : ia.length = 32) (hib : ib.length = 32) (hsa : sa.length = 32) (hsb : sb.length = 32) (hoa : oa.length = 32) (hob : ob.length = 32) : (psrow ia ib sa sb oa ob h)[192]? = some (.bool h) := by
  have e : k8 ia ++ (k8 ib ++ []) ++ (k8 sa ++ (k8 sb ++ []) ++ (k8 oa ++ (k8 ob ++ []) ++ ([Value.bool h] ++ []))) = (k8 ia ++ (k8 ib ++ []) ++ (k8 sa ++ (k8 sb ++ []) ++ (k8 oa ++ (k8 ob ++ []) ++ []))) ++ ([Value.bool h] ++ ([])) := by simp
  rw [psrow, e]
  exact getx _ _ _ 192 0 (by simp [k8_len, hia, hib, hsa, hsb, hoa, hob]) (by simp)
end Go.Proofs.YtlbcdjflcghkeaaDoor

namespace Go.Proofs.YtlbcdjflcghkeaaDoor
set_option maxRecDepth 100000
open Go Go.RowKit Go.Sort Go.ChangeShapes Go.WideShapes Go.Deep

theorem cKeyA : Tryd.prog.cellsOf 23 = 32 := by kernel_rfl
theorem cU8A : Tryd.prog.cellsOf 5 = 1 := by kernel_rfl
def K8 (l : List Int) : Prop := l.length = 32 ∧ ∀ x ∈ l, 0 ≤ x ∧ x < 256
theorem cBoA : Tryd.prog.cellsOf 4 = 1 := by kernel_rfl
theorem cells_k8 {H : Type} {enc : TypeId × Value → H} {W : World} {m : Nat} {cs : List Value} {x : DataW H × List MemPlace} (h : DataW.trod enc Tryd.prog W 0 (fun _ => true) true m 23 cs = some x) : ∃ l : List Int, K8 l ∧ cs = k8 l := by
  obtain ⟨xs, m, _, _, hlen, hn, hel⟩ := DataW.trod_array Tryd.underlying23 h
  rw [cKeyA] at hlen
  obtain ⟨l, hl, hw⟩ := ints_of cs .u8 (fun i hi => by
    have hin : i < 32 := by omega
    have e1 := hel i hin
    rw [cU8A, List.getElem?_eq_getElem (show i < xs.length by omega)] at e1
    obtain ⟨a, q0, _, q2⟩ := DataW.trod_int Tryd.underlying5 e1
    simp only [Nat.mul_one] at q0
    rw [List.drop_eq_getElem_cons hi, List.take_succ_cons, List.take_zero] at q0
    injection q0 with q0 _
    exact ⟨a, q0, q2⟩)
  refine ⟨l, ⟨?_, fun z hz => u8_of_wf (hw z hz)⟩, hl⟩
  have := congrArg List.length hl
  rw [List.length_map, hlen] at this
  omega
theorem glue {cs seg rest : List Value} {o n : Nat} (h1 : (cs.drop o).take n = seg) (h2 : cs.drop (o + n) = rest) : cs.drop o = seg ++ rest := by
  rw [← h1, ← h2, ← List.drop_drop, List.take_append_drop]
end Go.Proofs.YtlbcdjflcghkeaaDoor
