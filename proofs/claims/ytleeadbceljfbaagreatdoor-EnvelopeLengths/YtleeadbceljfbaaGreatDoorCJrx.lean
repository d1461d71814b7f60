import Derived.Test.YtleeadbceljfbaaGreatDoorProg
import Derived.WalkKit
import Derived.WalkSpells
import Derived.WalkLawsBesides
import Derived.Lib.QuietBelow
import Derived.BigQuiet
import Derived.OrdersHeld
import Derived.Deep.RegionHeld3
import Derived.OwnWalk
import Derived.Test.YtleeadbceljfbaaGreatDoorCKa
import Derived.Test.YtleeadbceljfbaaGreatDoorCQa1
import Derived.Test.YtleeadbceljfbaaGreatDoorCQb9
import Derived.ProofKit
import Derived.OpenShut
import Derived.Deep.Slices
import Derived.ChangeSlices
import Derived.SizedLaws
import Derived.Test.YtleeadbceljfbaaGreatDoorCEvc
import Derived.Deep.Cut
namespace Go.Proofs.YtleeadbceljfbaaGreatDoor
set_option maxRecDepth 100000
open Go Go.RowKit Go.Sort
attribute [local go_sem] setCell_drewN alloc_drewN
def k8 (l : List Int) : List Value := l.map (Value.int .u8)
theorem k8_len (l : List Int) : (k8 l).length = l.length := by simp [k8]
theorem k8_irow (l : List Int) : (k8 l).toArray = irow .u8 l := rfl
theorem extr (A B C : List Value) (n m : Nat) (hn : A.length = n) (hm : B.length = m) : ((A ++ (B ++ C)).toArray).extract n (n + m) = B.toArray := by
 subst hn hm
 apply Array.ext'
 simp only [Array.toList_extract, List.extract_eq_take_drop, List.drop_left]
 simp
theorem getx (A B C : List Value) (n j : Nat) (hn : A.length = n) (hj : j < B.length) : ((A ++ (B ++ C)).toArray)[n + j]? = B[j]? := by
 subst hn
 rw [List.getElem?_toArray, List.getElem?_append_right (by omega), Nat.add_sub_cancel_left, List.getElem?_append_left hj]
theorem k8_one (l : List Int) : ∀ u ∈ k8 l, u.oneCell' = true := by
 intro u hu
 obtain ⟨z, _, rfl⟩ := List.mem_map.1 hu
 rfl
theorem len32 (l : List Int) (h : l.length = 32) : ∃ x0 x1 x2 x3 x4 x5 x6 x7 x8 x9 x10 x11 x12 x13 x14 x15 x16 x17 x18 x19 x20 x21 x22 x23 x24 x25 x26 x27 x28 x29 x30 x31, l = [x0, x1, x2, x3, x4, x5, x6, x7, x8, x9, x10, x11, x12, x13, x14, x15, x16, x17, x18, x19, x20, x21, x22, x23, x24, x25, x26, x27, x28, x29, x30, x31] := by
 match l, h with
 | [x0, x1, x2, x3, x4, x5, x6, x7, x8, x9, x10, x11, x12, x13, x14, x15, x16, x17, x18, x19, x20, x21, x22, x23, x24, x25, x26, x27, x28, x29, x30, x31], _ => exact ⟨x0, x1, x2, x3, x4, x5, x6, x7, x8, x9, x10, x11, x12, x13, x14, x15, x16, x17, x18, x19, x20, x21, x22, x23, x24, x25, x26, x27, x28, x29, x30, x31, rfl⟩
theorem infoKy (l : List Int) (hl : l.length = 32) : (Tryz.prog.info? 34).map (·.size) = some (irow .u8 l).size := by
 rw [irow_size, hl]; kernel_rfl
theorem bKy (cs : Array Value) (W : World) : (Instr.box 34 (.agg cs)).run Tryz.prog W = .ok (.pointer (some ⟨W.heap.size, 0, none⟩)) (W.alloc (.cells cs 34)) := by kernel_rfl
theorem iU8g : ∃ i, Tryz.prog.info? 5 = some i := by
 cases h : Tryz.prog.info? 5 with
 | some i => exact ⟨i, rfl⟩
 | none => exact absurd (show (Tryz.prog.info? 5).isSome = true by kernel_rfl) (by rw [h]; decide)
theorem cU8g : Tryz.prog.cellsOf 5 = 1 := by kernel_rfl
theorem eq_key (d : Nat) (x y : List Int) (hx : x.length = 32) (hy : y.length = 32) (W : World) : (Op.equalIn (d + 2) 34 (.agg (irow .u8 x)) (.agg (irow .u8 y))).run Tryz.prog W = .ok (decide (x = y)) W := by
 obtain ⟨i0, hi⟩ := iU8g
 unfold irow
 rw [run_equalIn_array W (d + 1) _ _ Tryz.underlying34 hi, cU8g, run_eqItems_int d W Tryz.underlying5 hi x y (List.range 32) (fun i h => by simp at h; omega)]
 congr 1
 rw [Bool.eq_iff_iff]
 simp only [List.all_eq_true, List.mem_range, beq_iff_eq, decide_eq_true_eq]
 constructor
 · intro h
   apply List.ext_getElem (by omega)
   intro i h1 h2
   have := h i (by omega)
   simpa [h1, h2] using this
 · rintro rfl i _
   rfl
theorem part_key {cs : Array Value} {x : List Int} {o : Nat} (hx : x.length = 32) (h : cs.extract o (o + (irow .u8 x).size) = irow .u8 x) (W : World) : (part 34 cs o).run Tryz.prog W = .ok (.agg (irow .u8 x)) W := by
 have ha : (isAgg 34).run Tryz.prog W = .ok true W := by
   unfold isAgg
   rw [Sem.run_bind, run_underlying Tryz.underlying34 W]
   rfl
 rw [irow_size, hx] at h
 simp [part, Sem.run_bind, ha, h]
theorem eqf_cons {P : Program} {W : World} {d : Nat} {xs ys : Array Value} {f : Field} {fs : List Field} {a b : Value} {r : Bool} (hn : f.name ≠ "_") (ha : (part f.type xs f.offset).run P W = .ok a W) (hb : (part f.type ys f.offset).run P W = .ok b W) (he : (Op.equalIn d f.type a b).run P W = .ok r W) :
   (Op.eqFields d xs ys (f :: fs)).run P W = if r = true then (Op.eqFields d xs ys fs).run P W else .ok false W := by
 rw [Op.eqFields, if_pos hn, Sem.run_bind, ha, Result.andThen_ok, Sem.run_bind, hb, Result.andThen_ok, Sem.run_bind, he, Result.andThen_ok]
 cases r <;> simp
theorem eqf_nil {P : Program} {W : World} {d : Nat} {xs ys : Array Value} : (Op.eqFields d xs ys []).run P W = .ok true W := by
 rw [Op.eqFields, Sem.run_pure]
def prow (a b : List Int) : Array Value := (k8 a ++ (k8 b ++ [])).toArray
theorem prow_size {a b : List Int} (ha : a.length = 32) (hb : b.length = 32) : (prow a b).size = 64 := by simp [prow, k8_len, ha, hb]
theorem prow_one (a b : List Int) : (prow a b).all (·.oneCell') = true := by
 rw [prow, List.all_toArray, List.all_eq_true]
 intro u hu
 simp only [List.mem_append, List.not_mem_nil, or_false] at hu
 rcases hu with hu | hu <;> exact k8_one _ _ hu
theorem pr_a {a b : List Int} (ha : a.length = 32) : (prow a b).extract 0 (0 + (irow .u8 a).size) = irow .u8 a := by
 rw [irow_size, ha]
 exact extr [] (k8 a) (k8 b ++ []) 0 32 rfl (by rw [k8_len, ha])
theorem pr_b {a b : List Int} (ha : a.length = 32) (hb : b.length = 32) : (prow a b).extract 32 (32 + (irow .u8 b).size) = irow .u8 b := by
 rw [irow_size, hb]
 exact extr (k8 a) (k8 b) [] 32 32 (by rw [k8_len, ha]) (by rw [k8_len, hb])
theorem builtZk : Tryz.prog.built 34 [] = some (irow .u8 (zr 32)) := by kernel_rfl
theorem eq_k (x y : List Int) (hx : x.length = 32) (hy : y.length = 32) (W : World) : (Op.equalIn 10000 34 (.agg (irow .u8 x)) (.agg (irow .u8 y))).run Tryz.prog W = .ok (decide (x = y)) W := eq_key 9998 x y hx hy W
theorem wpList_build_want {P : Program} {ops : Array Oper} {rest : List Oper} {o : Oper} {a : Act} {w : World} {Q : Exit → Act → World → Prop} (hw : Region.wanted o (yielded ops a.tmps) = true) (t : TypeId) (parts : Array (Nat × Operand)) (ho : o.op = .build t parts)
   (vals : List (Nat × Value)) (hv : parts.toList.map (fun (i, x) => (i, a.eval x)) = vals) (cells : Array Value) (hb : P.built t vals = some cells)
   (h : wpList P ops Q rest (a.put o.dst (.agg cells)) w) : wpList P ops Q (o :: rest) a w := by
 rw [← Array.toList_map] at hv
 subst hv
 refine BigFrame.wpList_want hw fun _ hK => ?_
 unfold Oper.wp execOp
 simp only [ho, Sem.run_bind, run_build w t _ cells hb, Result.andThen_ok]
 exact hK _ _ h
def brow (i : List Int) (s : List Int) (o : List Int) (h : Bool) : Array Value := (k8 i ++ (k8 s ++ (k8 o ++ ([Value.bool h] ++ [])))).toArray
theorem brow_size (i : List Int) (s : List Int) (o : List Int) (h : Bool) (hi : i.length = 32) (hs : s.length = 32) (ho : o.length = 32) : (brow i s o h).size = 97 := by simp [brow, k8_len, hi, hs, ho]
theorem brow_one (i : List Int) (s : List Int) (o : List Int) (h : Bool) : (brow i s o h).all (·.oneCell') = true := by
 rw [brow, List.all_toArray, List.all_eq_true]
 intro u hu
 simp only [List.mem_append, List.mem_cons, List.not_mem_nil, or_false] at hu
 rcases hu with hu | hu | hu | rfl
 · exact k8_one _ _ hu
 · exact k8_one _ _ hu
 · exact k8_one _ _ hu
 · rfl
theorem bn_i (i : List Int) (s : List Int) (o : List Int) (h : Bool) (hi : i.length = 32) : (brow i s o h).extract 0 (0 + (irow .u8 i).size) = irow .u8 i := by
 have e : k8 i ++ (k8 s ++ (k8 o ++ ([Value.bool h] ++ []))) = ([]) ++ (k8 i ++ (k8 s ++ (k8 o ++ ([Value.bool h] ++ [])))) := by simp
 rw [brow, e, irow_size, hi]
 exact extr _ _ _ 0 32 rfl (by simp [k8_len, hi])
theorem bn_s (i : List Int) (s : List Int) (o : List Int) (h : Bool) (hi : i.length = 32) (hs : s.length = 32) : (brow i s o h).extract 32 (32 + (irow .u8 s).size) = irow .u8 s := by
 have e : k8 i ++ (k8 s ++ (k8 o ++ ([Value.bool h] ++ []))) = (k8 i ++ []) ++ (k8 s ++ (k8 o ++ ([Value.bool h] ++ []))) := by simp
 rw [brow, e, irow_size, hs]
 exact extr _ _ _ 32 32 (by simp [k8_len, hi]) (by simp [k8_len, hs])
theorem bn_o (i : List Int) (s : List Int) (o : List Int) (h : Bool) (hi : i.length = 32) (hs : s.length = 32) (ho : o.length = 32) : (brow i s o h).extract 64 (64 + (irow .u8 o).size) = irow .u8 o := by
 have e : k8 i ++ (k8 s ++ (k8 o ++ ([Value.bool h] ++ []))) = (k8 i ++ (k8 s ++ [])) ++ (k8 o ++ ([Value.bool h] ++ [])) := by simp
 rw [brow, e, irow_size, ho]
 exact extr _ _ _ 64 32 (by simp [k8_len, hi, hs]) (by simp [k8_len, ho])
theorem bn_h (i : List Int) (s : List Int) (o : List Int) (h : Bool) (hi : i.length = 32) (hs : s.length = 32) (ho : o.length = 32) : (brow i s o h)[96]? = some (.bool h) := by
 have e : k8 i ++ (k8 s ++ (k8 o ++ ([Value.bool h] ++ []))) = (k8 i ++ (k8 s ++ (k8 o ++ []))) ++ ([Value.bool h] ++ ([])) := by simp
 rw [brow, e]
 exact getx _ _ _ 96 0 (by simp [k8_len, hi, hs, ho]) (by simp)
theorem ovw_app : ∀ (vs A B C : List Value), B.length = vs.length → ovw (A ++ (B ++ C)).toArray A.length vs = (A ++ (vs ++ C)).toArray
 | [], A, B, C, h => by
   have : B = [] := List.length_eq_zero_iff.1 h
   subst this
   rfl
 | v :: r, A, [], C, h => by cases h
 | v :: r, A, b :: B, C, h => by
   have e : (A ++ (b :: B ++ C)).toArray.setIfInBounds A.length v = ((A ++ [v]) ++ (B ++ C)).toArray := by
     rw [List.setIfInBounds_toArray, List.set_append_right _ _ (Nat.le_refl _), Nat.sub_self]
     simp
   have e2 : A.length + 1 = (A ++ [v]).length := by simp
   rw [ovw, e, e2, ovw_app r (A ++ [v]) B C (by simpa using h)]
   simp
theorem bn_put (i s o p : List Int) (h : Bool) (hi : i.length = 32) (hs : s.length = 32) (ho : o.length = 32) (hp : p.length = 32) : ovw (brow i s o h) 64 (irow .u8 p).toList = brow i s p h := by
 have e : k8 i ++ (k8 s ++ (k8 o ++ ([Value.bool h] ++ []))) = (k8 i ++ k8 s) ++ (k8 o ++ ([Value.bool h] ++ [])) := by simp
 have l : (k8 i ++ k8 s).length = 64 := by simp [k8_len, hi, hs]
 have q := ovw_app (k8 p) (k8 i ++ k8 s) (k8 o) ([Value.bool h] ++ []) (by rw [k8_len, k8_len, ho, hp])
 rw [l, ← e] at q
 refine q.trans ?_
 rw [brow, List.append_assoc]
theorem part_b {cs : Array Value} {b : Bool} {o : Nat} (h : cs[o]? = some (.bool b)) (W : World) : (part 4 cs o).run Tryz.prog W = .ok (.bool b) W := by
 have ha : (isAgg 4).run Tryz.prog W = .ok false W := by
   unfold isAgg
   rw [Sem.run_bind, run_underlying Tryz.underlying4 W]
   rfl
 simp [part, Sem.run_bind, ha, h]
def psrow (ia : List Int) (ib : List Int) (sa : List Int) (sb : List Int) (oa : List Int) (ob : List Int) (h : Bool) : Array Value := (k8 ia ++ (k8 ib ++ []) ++ (k8 sa ++ (k8 sb ++ []) ++ (k8 oa ++ (k8 ob ++ []) ++ ([Value.bool h] ++ [])))).toArray
theorem psrow_size (ia : List Int) (ib : List Int) (sa : List Int) (sb : List Int) (oa : List Int) (ob : List Int) (h : Bool) (hia : ia.length = 32) (hib : ib.length = 32) (hsa : sa.length = 32) (hsb : sb.length = 32) (hoa : oa.length = 32) (hob : ob.length = 32) : (psrow ia ib sa sb oa ob h).size = 193 := by simp [psrow, k8_len, hia, hib, hsa, hsb, hoa, hob]
theorem psrow_one (ia : List Int) (ib : List Int) (sa : List Int) (sb : List Int) (oa : List Int) (ob : List Int) (h : Bool) : (psrow ia ib sa sb oa ob h).all (·.oneCell') = true := by
 rw [psrow, List.all_toArray, List.all_eq_true]
 intro u hu
 simp only [List.mem_append, List.mem_cons, List.not_mem_nil, or_false] at hu
 rcases hu with (hu | hu) | (hu | hu) | (hu | hu) | rfl
 · exact k8_one _ _ hu
 · exact k8_one _ _ hu
 · exact k8_one _ _ hu
 · exact k8_one _ _ hu
 · exact k8_one _ _ hu
 · exact k8_one _ _ hu
 · rfl
theorem ps_iaib (ia : List Int) (ib : List Int) (sa : List Int) (sb : List Int) (oa : List Int) (ob : List Int) (h : Bool) (hia : ia.length = 32) (hib : ib.length = 32) : (psrow ia ib sa sb oa ob h).extract 0 (0 + (prow ia ib).size) = prow ia ib := by
 have e : k8 ia ++ (k8 ib ++ []) ++ (k8 sa ++ (k8 sb ++ []) ++ (k8 oa ++ (k8 ob ++ []) ++ ([Value.bool h] ++ []))) = ([]) ++ ((k8 ia ++ (k8 ib ++ [])) ++ (k8 sa ++ (k8 sb ++ []) ++ (k8 oa ++ (k8 ob ++ []) ++ ([Value.bool h] ++ [])))) := by simp
 rw [psrow, e, prow_size hia hib]
 exact extr _ _ _ 0 64 rfl (by simp [k8_len, hia, hib])
theorem ps_sasb (ia : List Int) (ib : List Int) (sa : List Int) (sb : List Int) (oa : List Int) (ob : List Int) (h : Bool) (hia : ia.length = 32) (hib : ib.length = 32) (hsa : sa.length = 32) (hsb : sb.length = 32) : (psrow ia ib sa sb oa ob h).extract 64 (64 + (prow sa sb).size) = prow sa sb := by
 have e : k8 ia ++ (k8 ib ++ []) ++ (k8 sa ++ (k8 sb ++ []) ++ (k8 oa ++ (k8 ob ++ []) ++ ([Value.bool h] ++ []))) = (k8 ia ++ (k8 ib ++ []) ++ []) ++ ((k8 sa ++ (k8 sb ++ [])) ++ (k8 oa ++ (k8 ob ++ []) ++ ([Value.bool h] ++ []))) := by simp
 rw [psrow, e, prow_size hsa hsb]
 exact extr _ _ _ 64 64 (by simp [k8_len, hia, hib]) (by simp [k8_len, hsa, hsb])
theorem ps_oaob (ia : List Int) (ib : List Int) (sa : List Int) (sb : List Int) (oa : List Int) (ob : List Int) (h : Bool) (hia : ia.length = 32) (hib : ib.length = 32) (hsa : sa.length = 32) (hsb : sb.length = 32) (hoa : oa.length = 32) (hob : ob.length = 32) : (psrow ia ib sa sb oa ob h).extract 128 (128 + (prow oa ob).size) = prow oa ob := by
 have e : k8 ia ++ (k8 ib ++ []) ++ (k8 sa ++ (k8 sb ++ []) ++ (k8 oa ++ (k8 ob ++ []) ++ ([Value.bool h] ++ []))) = (k8 ia ++ (k8 ib ++ []) ++ (k8 sa ++ (k8 sb ++ []) ++ [])) ++ ((k8 oa ++ (k8 ob ++ [])) ++ ([Value.bool h] ++ [])) := by simp
 rw [psrow, e, prow_size hoa hob]
 exact extr _ _ _ 128 64 (by simp [k8_len, hia, hib, hsa, hsb]) (by simp [k8_len, hoa, hob])
theorem ps_h (ia : List Int) (ib : List Int) (sa : List Int) (sb : List Int) (oa : List Int) (ob : List Int) (h : Bool) (hia : ia.length = 32) (hib : ib.length = 32) (hsa : sa.length = 32) (hsb : sb.length = 32) (hoa : oa.length = 32) (hob : ob.length = 32) : (psrow ia ib sa sb oa ob h)[192]? = some (.bool h) := by
 have e : k8 ia ++ (k8 ib ++ []) ++ (k8 sa ++ (k8 sb ++ []) ++ (k8 oa ++ (k8 ob ++ []) ++ ([Value.bool h] ++ []))) = (k8 ia ++ (k8 ib ++ []) ++ (k8 sa ++ (k8 sb ++ []) ++ (k8 oa ++ (k8 ob ++ []) ++ []))) ++ ([Value.bool h] ++ ([])) := by simp
 rw [psrow, e]
 exact getx _ _ _ 192 0 (by simp [k8_len, hia, hib, hsa, hsb, hoa, hob]) (by simp)
end Go.Proofs.YtleeadbceljfbaaGreatDoor
namespace Go.Proofs.YtleeadbceljfbaaGreatDoor
set_option maxRecDepth 100000
open Go Go.ChangeShapes Go.WideShapes Go.ChangeAt Go.RowKit
/-! An array of integers that comes in by value. -/
section
variable {P : Program} {H : Type} {enc : TypeId × Value → H} {w : World}
theorem okWide_array {r : Reach} {base : Nat} {t e : TypeId} {n : Nat} {v : Value} (ht : P.underlying t = some (.array n e)) (h : Value.okWide P w r base t v) : ∃ cs : Array Value, v = .agg cs ∧ cs.size = P.cellsOf t := by
 simp only [Value.okWide, ht] at h
 obtain ⟨cs, h1, h2, _⟩ := h
 exact ⟨cs, h1, h2⟩
theorem ints_of : ∀ (cs : List Value) (k : IntKind) (_ : ∀ i (hi : i < cs.length), ∃ a : Int, cs[i] = .int k a ∧ (Lit.int k a).wf = true), ∃ l : List Int, cs = l.map (Value.int k) ∧ ∀ x ∈ l, (Lit.int k x).wf = true
 | [], _, _ => ⟨[], rfl, by simp⟩
 | c :: cs, k, h => by
   obtain ⟨a, ha, wa⟩ := h 0 (by simp)
   obtain ⟨l, hl, wl⟩ := ints_of cs k (fun i hi => by have h1 := h (i + 1) (Nat.succ_lt_succ hi); simp only [List.getElem_cons_succ] at h1; exact h1)
   refine ⟨a :: l, by simp at ha; simp [ha, hl], ?_⟩
   intro x hx
   rcases List.mem_cons.1 hx with rfl | hx
   · exact wa
   · exact wl x hx
theorem open_array {r : Reach} {b0 base : Nat} {spare : TypeId → Bool} {held : Bool} {t e : TypeId} {n : Nat} {k : IntKind} {v : Value} {d : DataW H} {p : List MemPlace} (ht : P.underlying t = some (.array n e)) (he : P.underlying e = some (.int k)) (hce : P.cellsOf e = 1) (hct : P.cellsOf t = n)
   (hv : Value.okWide P w r b0 t v) (h : DataW.Trod enc P w base spare held t v d p) :
   ∃ l : List Int, l.length = n ∧ v = .agg (l.map (Value.int k)).toArray ∧ ∀ x ∈ l, (Lit.int k x).wf = true := by
 obtain ⟨cs, rfl, hs⟩ := okWide_array ht hv
 obtain ⟨fuel, hf⟩ := h
 obtain ⟨xs, m, _, _, hl, hx, hi⟩ := DataW.trod_array ht hf
 obtain ⟨l, hl', wl⟩ := ints_of cs.toList k (fun i hi' => by
   have hin : i < n := by simp at hi'; omega
   have h1 := hi i hin
   rw [hce] at h1
   have hx' : xs[i]? = some xs[i] := List.getElem?_eq_getElem (by omega)
   rw [hx'] at h1
   obtain ⟨a, e0, _, wa⟩ := DataW.trod_int he h1
   refine ⟨a, ?_, wa⟩
   simp only [Value.cells, Nat.mul_one] at e0
   rw [List.drop_eq_getElem_cons hi'] at e0
   simpa using e0)
 refine ⟨l, ?_, ?_, wl⟩
 · have : cs.toList.length = l.length := by rw [hl']; simp
   simp at this
   omega
 · congr 1
   rw [← hl']
theorem u8_of_wf {x : Int} (h : (Lit.int .u8 x).wf = true) : 0 ≤ x ∧ x < 256 := by
 have := bounds_u8 h
 omega
end
theorem list32 : ∀ (l : List Int), l.length = 32 → ∃ b0 b1 b2 b3 b4 b5 b6 b7 b8 b9 b10 b11 b12 b13 b14 b15 b16 b17 b18 b19 b20 b21 b22 b23 b24 b25 b26 b27 b28 b29 b30 b31 : Int, l = [b0, b1, b2, b3, b4, b5, b6, b7, b8, b9, b10, b11, b12, b13, b14, b15, b16, b17, b18, b19, b20, b21, b22, b23, b24, b25, b26, b27, b28, b29, b30, b31]
 | [b0, b1, b2, b3, b4, b5, b6, b7, b8, b9, b10, b11, b12, b13, b14, b15, b16, b17, b18, b19, b20, b21, b22, b23, b24, b25, b26, b27, b28, b29, b30, b31], _ => ⟨b0, b1, b2, b3, b4, b5, b6, b7, b8, b9, b10, b11, b12, b13, b14, b15, b16, b17, b18, b19, b20, b21, b22, b23, b24, b25, b26, b27, b28, b29, b30, b31, rfl⟩
end Go.Proofs.YtleeadbceljfbaaGreatDoor
namespace Go.Proofs.YtleeadbceljfbaaGreatDoor
set_option maxRecDepth 100000
open Go Go.RowKit Go.Sort Go.ChangeShapes Go.WideShapes Go.Deep
theorem cKeyA : Tryz.prog.cellsOf 34 = 32 := by kernel_rfl
theorem cU8A : Tryz.prog.cellsOf 5 = 1 := by kernel_rfl
def K8 (l : List Int) : Prop := l.length = 32 ∧ ∀ x ∈ l, 0 ≤ x ∧ x < 256
theorem cBoA : Tryz.prog.cellsOf 4 = 1 := by kernel_rfl
theorem cells_k8 {H : Type} {enc : TypeId × Value → H} {W : World} {m : Nat} {cs : List Value} {x : DataW H × List MemPlace} (h : DataW.trod enc Tryz.prog W 0 (fun _ => true) true m 34 cs = some x) : ∃ l : List Int, K8 l ∧ cs = k8 l := by
 obtain ⟨xs, m, _, _, hlen, hn, hel⟩ := DataW.trod_array Tryz.underlying34 h
 rw [cKeyA] at hlen
 obtain ⟨l, hl, hw⟩ := ints_of cs .u8 (fun i hi => by
   have hin : i < 32 := by omega
   have e1 := hel i hin
   rw [cU8A, List.getElem?_eq_getElem (show i < xs.length by omega)] at e1
   obtain ⟨a, q0, _, q2⟩ := DataW.trod_int Tryz.underlying5 e1
   simp only [Nat.mul_one] at q0
   rw [List.drop_eq_getElem_cons hi, List.take_succ_cons, List.take_zero] at q0
   injection q0 with q0 _
   exact ⟨a, q0, q2⟩)
 refine ⟨l, ⟨?_, fun z hz => u8_of_wf (hw z hz)⟩, hl⟩
 have := congrArg List.length hl
 rw [List.length_map, hlen] at this
 omega
theorem glue {cs seg rest : List Value} {o n : Nat} (h1 : (cs.drop o).take n = seg) (h2 : cs.drop (o + n) = rest) : cs.drop o = seg ++ rest := by
 rw [← h1, ← h2, ← List.drop_drop, List.take_append_drop]
end Go.Proofs.YtleeadbceljfbaaGreatDoor
namespace Go.Proofs.YtleeadbceljfbaaGreatDoor
set_option maxRecDepth 100000
open Go Go.RowKit Go.Sort
attribute [local go_sem] setCell_drewN alloc_drewN
section
variable {P : Program}
theorem run_load_part {o : Oper} {a : Act} {w : World} (ty : TypeId) (x : Operand) (ho : o.op = .load ty x) (g off : Nat) (hx : a.eval x = .pointer (some ⟨g, off, none⟩)) (t : TypeId) (cs : Array Value) (fr : Nat × Nat) (part : Array Value) (d : TypeDesc) (hg : w.heap[g]? = some (.cells cs t fr)) (hp : cs.extract off (off + part.size) = part)
   (hu : P.underlying ty = some d) (hd : d.isRow = true) (hi : (P.info? ty).map (·.size) = some part.size) : (execOp a.eval o).run P w = .ok (.value (.agg part)) w := by
 have hr := World.rangeAt_of_block hg off part.size
 rw [hp] at hr
 have hl := run_loadVar_mid (P := P) w g off ty part.toList d hr hu hd (by simpa using hi)
 unfold execOp
 simp only [ho, hx, Instr.loadAt, Instr.sureAddr, Sem.run_bind, Sem.run_pure, Result.andThen_ok, hl]
end
section
variable {P : Program} {ops : Array Oper} {Q : Exit → Act → World → Prop} {md : Region.Mode} {S : World → Prop}
end
theorem slice_ko (g o : Nat) (W : World) : (Instr.sliceAt 34 (.pointer (some ⟨g, o, none⟩)) none none none).run Tryz.prog W = .ok (.slice (some ⟨g, o, none⟩) 32 32) W := by kernel_rfl
theorem all_rowB (cs : Array Value) : cs.extract 0 (0 + cs.size) = cs := by simp
def bfs (i s o : List B) (h : Bool) : List Fd := [⟨1, 2, 0, i⟩, ⟨2, 2, 0, s⟩, ⟨3, 0, if h then 1 else 0, []⟩, ⟨4, 2, 0, o⟩]
def bxs (g g1 fl : Nat) : List VR := [⟨0, some ⟨g, 0, none⟩, 32, 32, none, 0, 0⟩, ⟨0, some ⟨g, 32, none⟩, 32, 32, none, 0, 0⟩, ⟨fl, none, 0, 0, none, 0, 0⟩, ⟨0, some ⟨g1, 0, none⟩, 32, 32, none, 0, 0⟩]
theorem bxs_fdk (g g1 : Nat) (i s o : List B) (h : Bool) : fdk bsl (bxs g g1 (if h then 1 else 0)) [i, s, [], o] 4 = bfs i s o h := rfl
theorem bsl_prt {W : World} {g g1 gp fl : Nat} (hfl : fl < 2) (h : Bx W gp #[.int .u64 0, .slice (some ⟨g, 0, none⟩) 32 32, .slice none 0 0, .int .u64 0, .slice (some ⟨g, 32, none⟩) 32 32, .slice none 0 0, .int .u64 (fl : Int), .slice none 0 0, .slice none 0 0, .int .u64 0, .slice (some ⟨g1, 0, none⟩) 32 32, .slice none 0 0]) : Prt W (.slice (some ⟨gp, 0, none⟩) 4 4) (bxs g g1 fl) := by
 have hlt := h.lt
 obtain ⟨T, h⟩ := h
 refine ⟨some ⟨gp, 0, none⟩, 4, rfl, by show 4 ≤ 4; decide, fun i hi => ?_, fun i hi => ⟨gp, 0, rfl, hlt, fun j v hv => ?_⟩⟩
 · have hi4 : i < 4 := hi
   rcases (by omega : i = 0 ∨ i = 1 ∨ i = 2 ∨ i = 3) with rfl | rfl | rfl | rfl
   · exact ⟨by show 0 < _; decide, by show 32 < _; decide⟩
   · exact ⟨by show 0 < _; decide, by show 32 < _; decide⟩
   · exact ⟨by show fl < _; omega, by show 0 < _; decide⟩
   · exact ⟨by show 0 < _; decide, by show 32 < _; decide⟩
 · have hi4 : i < 4 := hi
   rw [cell_of_row _ _ _ _ _ _ h]
   have hj : j < 3 := by have := (List.getElem?_eq_some_iff.1 hv).1; simpa [vrv, vrw] using this
   rcases (by omega : i = 0 ∨ i = 1 ∨ i = 2 ∨ i = 3) with rfl | rfl | rfl | rfl <;> rcases (by omega : j = 0 ∨ j = 1 ∨ j = 2) with rfl | rfl | rfl <;> exact hv
theorem bsl_ck (g g1 fl : Nat) (hfl : fl < 2) : ckF bsl 0 0 (bxs g g1 fl) 1 = none := by
 rcases (by omega : fl = 0 ∨ fl = 1) with rfl | rfl <;> rfl
theorem mid_bys {W : World} {g off : Nat} {cs : Array Value} {t : TypeId} {fr : Nat × Nat} {l : List B} (hg : W.heap[g]? = some (.cells cs t fr)) (hl : l.length = 32) (he : cs.extract off (off + (irow .u8 (bl l)).size) = irow .u8 (bl l)) : BysB W (.slice (some ⟨g, off, none⟩) 32 32) l := by
 refine ⟨⟨some ⟨g, off, none⟩, 32, ?_, ?_, fun j hj => ?_, bl_bnd _⟩, ?_, fun a l c e1 e2 => ?_⟩
 · rw [bl_len, hl]
 · rw [bl_len, hl]; decide
 · refine ⟨g, off, rfl, lt_of_row hg, ?_⟩
   rw [cell_of_row _ _ _ _ _ _ hg]
   have e := congrArg (fun c : Array Value => c[j]?) he
   simp only [irow_size] at e
   rw [Array.getElem?_extract] at e
   have hk : (irow .u8 (bl l))[j]? = some (.int .u8 ((bl l).getD j 0)) := by simp [irow, List.getD_eq_getElem?_getD, List.getElem?_eq_getElem hj]
   rw [hk] at e
   split at e
   · exact e
   · cases e
 · rw [hl]; decide
 · cases e1; cases e2
def z32 : List B := List.replicate 32 0#8
theorem z32_len : z32.length = 32 := rfl
theorem z32_zr : irow .u8 (zr 32) = irow .u8 (bl z32) := by rw [show zr 32 = bl z32 by decide]
def onc (h : Bool) (o : List B) : List B := match h with
 | true => o
 | false => z32
end Go.Proofs.YtleeadbceljfbaaGreatDoor
namespace Go.Proofs.YtleeadbceljfbaaGreatDoor
set_option maxRecDepth 100000
open Go Go.RowKit Go.Sort
attribute [local go_sem] setCell_drewN alloc_drewN
theorem wpAnyH_skip {P : Program} {ops : Array Oper} {Q : Exit → Act → World → Prop} {md : Region.Mode} {S : World → Prop} {k : Nat} {o : Oper} {fuel : Nat} {listed : Array Bool} {a : Act} {w : World} (hr : Region.ready md ops listed = [k]) (hi : ops[k]? = some o) (hw : Region.wanted o (yielded ops a.tmps) = false) (hS : S w)
   (h : wpAnyH P md ops Q S fuel (listed.setIfInBounds k true) (a.put o.dst undef) w) : wpAnyH P md ops Q S (fuel + 1) listed a w := by
 refine wpAnyH_all hr (by simp) (fun i hi' => ?_)
 obtain rfl : i = k := by simpa using hi'
 unfold wpOp
 simp only [hi, hw, Bool.false_eq_true, if_false]
 exact ⟨hS, h⟩
theorem run_eql_op {P : Program} {o : Oper} {a : Act} {w : World} (t u : TypeId) (x y : Operand) (ho : o.op = .binOp .eql t x y u) (X Y : Array Value) (hx : a.eval x = .agg X) (hy : a.eval y = .agg Y) (hg : P.eqGuardType P.depth t = false) (B : Bool) (he : (Op.equalIn 10000 t (.agg X) (.agg Y)).run P w = .ok B w) : (execOp a.eval o).run P w = .ok (.value (.bool B)) w := by
 unfold execOp
 simp only [ho, hx, hy, Sem.run_bind, Sem.run_pure, Result.andThen_ok, run_eqGuard_agg w .eql t x y X Y hg, run_eql_struct, he]
theorem run_neq_op {P : Program} {o : Oper} {a : Act} {w : World} (t u : TypeId) (x y : Operand) (ho : o.op = .binOp .neq t x y u) (X Y : Array Value) (hx : a.eval x = .agg X) (hy : a.eval y = .agg Y) (hg : P.eqGuardType P.depth t = false) (B : Bool) (he : (Op.equalIn 10000 t (.agg X) (.agg Y)).run P w = .ok B w) : (execOp a.eval o).run P w = .ok (.value (.bool (!B))) w := by
 unfold execOp
 simp only [ho, hx, hy, Sem.run_bind, Sem.run_pure, Result.andThen_ok, run_eqGuard_agg w .neq t x y X Y hg, run_neq_struct, he]
theorem fldFt : ∃ f0 f1 f2, (Tryz.prog.fieldsOf 65).toList = [f0, f1, f2] ∧ f0.name ≠ "_" ∧ f0.type = 3 ∧ f0.offset = 0 ∧ f1.name ≠ "_" ∧ f1.type = 3 ∧ f1.offset = 1 ∧ f2.name ≠ "_" ∧ f2.type = 23 ∧ f2.offset = 2 := ⟨_, _, _, rfl, by decide, rfl, rfl, by decide, rfl, rfl, by decide, rfl, rfl⟩
theorem strFt : Tryz.prog.underlying 65 = some (.struct (Tryz.prog.fieldsOf 65)) := by kernel_rfl
theorem stoFt : Tryz.prog.stoodInHeld 65 = false := by kernel_rfl
theorem part_iF {cs : Array Value} {n : Int} {o : Nat} (h : cs[o]? = some (.int .i64 n)) (W : World) : (part 3 cs o).run Tryz.prog W = .ok (.int .i64 n) W := by
 have ha : (isAgg 3).run Tryz.prog W = .ok false W := by
   unfold isAgg
   rw [Sem.run_bind, run_underlying Tryz.underlying3 W]
   rfl
 simp [part, Sem.run_bind, ha, h]
theorem part_nF {cs : Array Value} {n : Int} {o : Nat} (h : cs[o]? = some (.int .i64 n)) (W : World) : (part 23 cs o).run Tryz.prog W = .ok (.int .i64 n) W := by
 have ha : (isAgg 23).run Tryz.prog W = .ok false W := by
   unfold isAgg
   rw [Sem.run_bind, run_underlying Tryz.underlying23 W]
   rfl
 simp [part, Sem.run_bind, ha, h]
theorem eq_ftr (x : Flt3) (W : World) : (Op.equalIn 10000 65 (.agg (frw x)) (.agg (frw x))).run Tryz.prog W = .ok true W := by
 unfold frw
 obtain ⟨f0, f1, f2, hf, n0, t0, o0, n1, t1, o1, n2, t2, o2⟩ := fldFt
 rw [run_equalIn_struct W 9999 65 _ _ strFt stoFt, hf]
 have i0 := fun p q => run_equalIn_int W (P := Tryz.prog) 9998 3 .i64 .i64 p q Tryz.underlying3
 have i1 := fun p q => run_equalIn_int W (P := Tryz.prog) 9998 23 .i64 .i64 p q Tryz.underlying23
 rw [eqf_cons n0 (by rw [t0, o0]; exact part_iF rfl W) (by rw [t0, o0]; exact part_iF rfl W) (by rw [t0]; exact i0 x.line x.line), eqf_cons n1 (by rw [t1, o1]; exact part_iF rfl W) (by rw [t1, o1]; exact part_iF rfl W) (by rw [t1]; exact i0 x.at_ x.at_), eqf_cons n2 (by rw [t2, o2]; exact part_nF rfl W) (by rw [t2, o2]; exact part_nF rfl W) (by rw [t2]; exact i1 x.why x.why), eqf_nil]
 simp
theorem Ety.keep {w w' : World} {n : Nat} (h : Ety w) (hb : Below n w w') (hn : n = w.heap.size) : Ety w' := by
 subst hn
 unfold Ety at *
 have hl : 0 < w.heap.size := by
   rcases Nat.lt_or_ge 0 w.heap.size with q | q
   · exact q
   · simp [World.cell?, Array.getElem?_eq_none q] at h
 rw [World.cell?_of_block (hb.block _ hl)]
 exact h
theorem bFt (cs : Array Value) (W : World) : (Instr.box 65 (.agg cs)).run Tryz.prog W = .ok (.pointer (some ⟨W.heap.size, 0, none⟩)) (W.alloc (.cells cs 65)) := by kernel_rfl
theorem eql_nilE (W : World) : (binOp .eql 40 .nilIface .nilIface).run Tryz.prog W = .ok (.bool true) W := by kernel_rfl
theorem frw_one (x : Flt3) : (frw x).all (·.oneCell') = true := by simp [frw, Value.oneCell']
theorem as_fault (g k : Nat) (w : World) (hE : Ety w) (hk : w.heap[k]? = some (.cells #[.pointer none] 83 (0, 0))) : Calls Tryz.prog 40 #[.iface 83 (.pointer (some ⟨g, 0, none⟩)), .iface 86 (.pointer (some ⟨k, 0, none⟩))] w fun e w' => e = .returned (.bool true) ∧ w'.heap[k]? = some (.cells #[.pointer (some ⟨g, 0, none⟩)] 83 (0, 0)) ∧ But k w w' := by
 have hl := lt_of_row hk
 refine (as_hit ⟨g, 0, none⟩ ⟨k, 0, none⟩ (.pointer none) w hE (by rw [cell_of_row _ _ _ _ _ _ hk]; rfl) (row_frozen hk 0)).mono ?_
 rintro e w' ⟨rfl, rfl⟩
 have hb : Below w.heap.size w ((((w.alloc (.cells #[.pointer (some ⟨k, 0, none⟩)] 86)).alloc (.cells #[.pointer (some ⟨4, 86, none⟩), .pointer (some ⟨w.heap.size, 0, none⟩), .int .u64 150] 112)).alloc (.cells #[.pointer (some ⟨4, 86, none⟩), .pointer (some ⟨w.heap.size, 0, none⟩), .int .u64 150] 112)).alloc (.cells #[.pointer (some ⟨g, 0, none⟩)] 83)) := ((((Below.refl _ _).alloc (Nat.le_refl _) _).alloc (by simp) _).alloc (by simp; omega) _).alloc (by simp; omega) _
 generalize (((w.alloc (.cells #[.pointer (some ⟨k, 0, none⟩)] 86)).alloc (.cells #[.pointer (some ⟨4, 86, none⟩), .pointer (some ⟨w.heap.size, 0, none⟩), .int .u64 150] 112)).alloc (.cells #[.pointer (some ⟨4, 86, none⟩), .pointer (some ⟨w.heap.size, 0, none⟩), .int .u64 150] 112)).alloc (.cells #[.pointer (some ⟨g, 0, none⟩)] 83) = w4 at *
 exact ⟨rfl, row_set (keep hb hk) 0 _, (But.of hb).trans (But.set w4 _)⟩
theorem infoFrw (x : Flt3) : (Tryz.prog.info? 65).map (·.size) = some (frw x).size := by
 rw [show (frw x).size = 3 from rfl]
 kernel_rfl
set_option maxRecDepth 100000 in
set_option maxHeartbeats 8000000 in
theorem l_faulty_nil (a b : Int) (w : World) : Calls Tryz.prog 29 #[.nilIface, .agg #[.int .i64 a, .int .i64 b, .int .i64 0]] w fun e w' => e = .returned (.bool true) ∧ Below w.heap.size w w' := by
 have h1 := eql_nilE
 have hw : Below w.heap.size w (w.alloc (.cells #[.int .i64 a, .int .i64 b, .int .i64 0] 65)) := (Below.refl _ _).alloc (Nat.le_refl _) _
 replace hw := hide hw
 go_enter Tryz.func29, Tryz.ntmps29
 go_wp2
 go_ret
 exact ⟨rfl, hw.out⟩
set_option maxRecDepth 100000 in
set_option maxHeartbeats 8000000 in
theorem l_faulty_hit (x : Flt3) (hx : x.why ≠ 0) (g : Nat) (w : World) (hE : Ety w) (hg : w.heap[g]? = some (.cells (frw x) 65 (0, 0))) : Calls Tryz.prog 29 #[.iface 83 (.pointer (some ⟨g, 0, none⟩)), .agg (frw x)] w fun e w' => e = .returned (.bool true) ∧ Below w.heap.size w w' := by
 have hgl := lt_of_row hg
 have R0 := hp2_0 w (.cells (frw x) 65) (.cells #[.pointer none] 83)
 have R1 := hp2_1 w (.cells (frw x) 65) (.cells #[.pointer none] 83)
 have hw : Below w.heap.size w ((w.alloc (.cells (frw x) 65)).alloc (.cells #[.pointer none] 83)) := ((Below.refl _ _).alloc (Nat.le_refl _) _).alloc (by simp) _
 replace hg := keep hw hg
 replace hE := hE.keep hw rfl
 have bE : (x.why == 0) = false := by simpa using hx
 have cW : (w.alloc (.cells (frw x) 65)).cell? ⟨w.heap.size, 2, none⟩ = some (.int .i64 x.why) := by rw [cell_of_row _ _ _ _ _ _ (hp1_0 w (.cells (frw x) 65))]; rfl
 replace hx := hide hx
 go_enter Tryz.func29, Tryz.ntmps29
 go_upto_region 4 with (first | (refine wpList_box rfl 65 _ rfl _ rfl (bFt _) ?_) | fail)
 try simp only [size_alloc1, Act.put, List.setIfInBounds_toArray, List.set_cons_succ, List.set_cons_zero]
 generalize ((w.alloc (.cells (frw x) 65)).alloc (.cells #[.pointer none] 83)) = w1 at *
 have hbd : Below w1.heap.size w1 w1.drew := below_drN (Below.refl _ _) 1
 replace R0 := keep hbd R0
 replace R1 := keep hbd R1
 replace hg := keep hbd hg
 replace hE := hE.keep hbd rfl
 replace hw := Below.after hw hbd
 have HS : (fun W : World => W.heap[w.heap.size]? = some (.cells (frw x) 65 (0, 0)) ∧ W.heap[g]? = some (.cells (frw x) 65 (0, 0))) w1.drew := ⟨R0, hg⟩
 clear hbd R0 hg cW
 refine wp_region_noPanic ?_
 refine wp_region_held (S := fun W : World => W.heap[w.heap.size]? = some (.cells (frw x) 65 (0, 0)) ∧ W.heap[g]? = some (.cells (frw x) 65 (0, 0))) (by kernel_rfl) ?_
 change wpAnyH _ _ _ _ _ _ _ _ (World.drew _)
 generalize w1.drew = w2 at *
 refine wpAnyH_take (i := 0) (v := ?v1) rfl (by kernel_rfl) (by kernel_rfl) (by kernel_rfl) (fun _ _ _ h => h) (Or.inl ⟨by rfl, ?y1⟩) HS ?r1
 case y1 =>
   intro w_ hS_
   go_simp
   try with_reducible rfl
 simp only [Act.put, List.getElem_toArray, List.getElem_cons_zero, List.setIfInBounds_toArray, List.set_cons_succ, List.set_cons_zero]
 refine wpAnyH_take (i := 1) (v := .iface 86 (.pointer (some ⟨w.heap.size + 1, 0, none⟩))) rfl (by kernel_rfl) (by kernel_rfl) (by kernel_rfl) (fun _ _ _ h => h) (Or.inl ⟨by rfl, ?y2⟩) HS ?r2
 case y2 =>
   intro w_ hS_
   go_simp
   try with_reducible rfl
 simp only [Act.put, List.getElem_toArray, List.getElem_cons_succ, List.getElem_cons_zero, List.setIfInBounds_toArray, List.set_cons_succ, List.set_cons_zero]
 refine wpAnyH_one (k := 2) (fuel := 12) (by kernel_rfl) rfl (by rfl) (fun K_ hK => ?_)
 refine wp_call_ex (f := 40) (R := fun v w' => v = .bool true ∧ w'.heap[w.heap.size + 1]? = some (.cells #[.pointer (some ⟨g, 0, none⟩)] 83 (0, 0)) ∧ But (w.heap.size + 1) w2 w') (by kernel_rfl) ((as_fault g (w.heap.size + 1) w2 hE R1).mono (fun e w' h => (by obtain ⟨e1, e2⟩ := h; exact ⟨_, e1, rfl, e2⟩ : ∃ v, e = .returned v ∧ v = .bool true ∧ w'.heap[w.heap.size + 1]? = some (.cells #[.pointer (some ⟨g, 0, none⟩)] 83 (0, 0)) ∧ But (w.heap.size + 1) w2 w'))) (fun v_ w3 hX_ => ?_)
 obtain ⟨rfl, R1', hbu⟩ := hX_
 have HS' : (fun W : World => W.heap[w.heap.size]? = some (.cells (frw x) 65 (0, 0)) ∧ W.heap[g]? = some (.cells (frw x) 65 (0, 0))) w3 := ⟨hbu.row HS.1 (by omega), hbu.row HS.2 (by omega)⟩
 replace hw := But.after hw (by omega) hbu
 have cF : w3.cell? ⟨w.heap.size + 1, 0, none⟩ = some (.pointer (some ⟨g, 0, none⟩)) := by rw [cell_of_row _ _ _ _ _ _ R1']; rfl
 clear hbu R1 hE HS
 have HS := HS'
 clear HS'
 refine hK _ _ HS ?_
 simp only [Act.put, List.getElem_toArray, List.getElem_cons_succ, List.getElem_cons_zero, List.setIfInBounds_toArray, List.set_cons_succ, List.set_cons_zero]
 clear hK
 refine wpAnyH_take (i := 3) (v := ?v3) rfl (by kernel_rfl) (by kernel_rfl) (by kernel_rfl) (fun _ _ _ h => h) (Or.inl ⟨by rfl, ?y3⟩) HS ?r3
 case y3 =>
   intro w_ hS_
   go_simp
   try with_reducible rfl
 simp only [Act.put, List.getElem_toArray, List.getElem_cons_succ, List.getElem_cons_zero, List.setIfInBounds_toArray, List.set_cons_succ, List.set_cons_zero]
 refine wpAnyH_one (k := 4) (fuel := 10) (by kernel_rfl) rfl (by rfl) (fun K_ hK => ?_)
 refine wp_val_op (.pointer (some ⟨g, 0, none⟩)) (w' := w3) (by go_simp; try with_reducible rfl) ?_
 refine hK _ _ HS ?_
 simp only [Act.put, List.getElem_toArray, List.getElem_cons_succ, List.getElem_cons_zero, List.setIfInBounds_toArray, List.set_cons_succ, List.set_cons_zero]
 clear hK
 refine wpAnyH_take (i := 5) (v := ?v4) rfl (by kernel_rfl) (by kernel_rfl) (by kernel_rfl) (fun _ _ _ h => h) (Or.inl ⟨by rfl, ?y4⟩) HS ?r4
 case y4 =>
   intro w_ hS_
   go_simp
   try with_reducible rfl
 simp only [Act.put, List.getElem_toArray, List.getElem_cons_succ, List.getElem_cons_zero, List.setIfInBounds_toArray, List.set_cons_succ, List.set_cons_zero]
 refine wpAnyH_take (i := 6) (v := ?v5) rfl (by kernel_rfl) (by kernel_rfl) (by kernel_rfl) (fun _ _ _ h => h) (Or.inl ⟨by rfl, ?y5⟩) HS ?r5
 case y5 =>
   intro w_ hS_
   go_simp
   try with_reducible rfl
 simp only [Act.put, List.getElem_toArray, List.getElem_cons_succ, List.getElem_cons_zero, List.setIfInBounds_toArray, List.set_cons_succ, List.set_cons_zero]
 refine wpAnyH_take (i := 7) (v := ?v6) rfl (by kernel_rfl) (by kernel_rfl) (by kernel_rfl) (fun _ _ _ h => h) (Or.inl ⟨by rfl, ?y6⟩) HS ?r6
 case y6 =>
   intro w_ hS_
   go_simp
   try with_reducible rfl
 simp only [Act.put, List.getElem_toArray, List.getElem_cons_succ, List.getElem_cons_zero, List.setIfInBounds_toArray, List.set_cons_succ, List.set_cons_zero]
 refine wpAnyH_take (i := 11) (v := .agg (frw x)) rfl (by kernel_rfl) (by kernel_rfl) (by kernel_rfl) (fun _ _ _ h => h) (Or.inl ⟨by rfl, ?y7⟩) HS ?r7
 case y7 =>
   intro w_ hS_
   simp only [List.getElem_toArray, List.getElem_cons_succ, List.getElem_cons_zero]
   exact run_load_part 65 _ (by rfl) (w.heap.size) 0 (by rfl) 65 (frw x) (0, 0) (frw x) _ (hS_.1) (all_rowB _) Tryz.underlying65 rfl (infoFrw x)
 simp only [Act.put, List.getElem_toArray, List.getElem_cons_succ, List.getElem_cons_zero, List.setIfInBounds_toArray, List.set_cons_succ, List.set_cons_zero]
 refine wpAnyH_one (k := 8) (fuel := 5) (by kernel_rfl) rfl (by rfl) (fun K_ hK => ?_)
 refine wp_val_op (.pointer (some ⟨g, 0, none⟩)) (w' := w3) (by go_simp; try with_reducible rfl) ?_
 refine hK _ _ HS ?_
 simp only [Act.put, List.getElem_toArray, List.getElem_cons_succ, List.getElem_cons_zero, List.setIfInBounds_toArray, List.set_cons_succ, List.set_cons_zero]
 clear hK
 refine wpAnyH_take (i := 9) (v := ?v8) rfl (by kernel_rfl) (by kernel_rfl) (by kernel_rfl) (fun _ _ _ h => h) (Or.inl ⟨by rfl, ?y8⟩) HS ?r8
 case y8 =>
   intro w_ hS_
   go_simp
   try with_reducible rfl
 simp only [Act.put, List.getElem_toArray, List.getElem_cons_succ, List.getElem_cons_zero, List.setIfInBounds_toArray, List.set_cons_succ, List.set_cons_zero]
 refine wpAnyH_take (i := 10) (v := .agg (frw x)) rfl (by kernel_rfl) (by kernel_rfl) (by kernel_rfl) (fun _ _ _ h => h) (Or.inl ⟨by rfl, ?y9⟩) HS ?r9
 case y9 =>
   intro w_ hS_
   simp only [List.getElem_toArray, List.getElem_cons_succ, List.getElem_cons_zero]
   exact run_load_part 65 _ (by rfl) (g) 0 (by rfl) 65 (frw x) (0, 0) (frw x) _ (hS_.2) (all_rowB _) Tryz.underlying65 rfl (infoFrw x)
 simp only [Act.put, List.getElem_toArray, List.getElem_cons_succ, List.getElem_cons_zero, List.setIfInBounds_toArray, List.set_cons_succ, List.set_cons_zero]
 refine wpAnyH_take (i := 12) (v := (.bool true)) rfl (by kernel_rfl) (by kernel_rfl) (by kernel_rfl) (fun _ _ _ h => h) (Or.inl ⟨by rfl, ?y10⟩) HS ?r10
 case y10 =>
   intro w_ hS_
   simp only [List.getElem_toArray, List.getElem_cons_succ, List.getElem_cons_zero]
   exact run_eql_op 65 65 _ _ (by rfl) (frw x) (frw x) (by rfl) (by rfl) (by kernel_rfl) true (eq_ftr x _)
 simp only [Act.put, List.getElem_toArray, List.getElem_cons_succ, List.getElem_cons_zero, List.setIfInBounds_toArray, List.set_cons_succ, List.set_cons_zero]
 refine wpAnyH_take (i := 13) (v := ?v11) rfl (by kernel_rfl) (by kernel_rfl) (by kernel_rfl) (fun _ _ _ h => h) (Or.inl ⟨by rfl, ?y11⟩) HS ?r11
 case y11 =>
   intro w_ hS_
   go_simp
   try with_reducible rfl
 simp only [Act.put, List.getElem_toArray, List.getElem_cons_succ, List.getElem_cons_zero, List.setIfInBounds_toArray, List.set_cons_succ, List.set_cons_zero]
 refine wpAnyH_take (i := 14) (v := ?v12) rfl (by kernel_rfl) (by kernel_rfl) (by kernel_rfl) (fun _ _ _ h => h) (Or.inl ⟨by rfl, ?y12⟩) HS ?r12
 case y12 =>
   intro w_ hS_
   go_simp
   try with_reducible rfl
 simp only [Act.put, List.getElem_toArray, List.getElem_cons_succ, List.getElem_cons_zero, List.setIfInBounds_toArray, List.set_cons_succ, List.set_cons_zero]
 refine wpAnyH_done (by kernel_rfl) ?_ _
 refine NoPanic.normal ?_
 go_wp2_with (fail)
 go_ret
 exact ⟨rfl, hw⟩
end Go.Proofs.YtleeadbceljfbaaGreatDoor
