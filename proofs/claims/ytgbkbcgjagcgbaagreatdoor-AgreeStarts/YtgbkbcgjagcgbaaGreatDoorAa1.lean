import Derived.Test.YtgbkbcgjagcgbaaGreatDoorProg
import Derived.WalkKit
import Derived.WalkSpells
import Derived.WalkLawsBesides
import Derived.Lib.QuietBelow
import Derived.BigQuiet
import Derived.OrdersHeld
import Derived.Deep.RegionHeld3
import Derived.OwnWalk
import Derived.Test.YtgbkbcgjagcgbaaGreatDoorKa
import Derived.Test.YtgbkbcgjagcgbaaGreatDoorKim
import Derived.Test.YtgbkbcgjagcgbaaGreatDoorSgh
import Derived.Test.YtgbkbcgjagcgbaaGreatDoorOpen
import Derived.Deep.Slices
import Derived.ChangeSlices
import Derived.SizedLaws
namespace Go.Proofs.YtgbkbcgjagcgbaaGreatDoor
set_option maxRecDepth 100000
open Go Go.RowKit Go.Sort
attribute [local go_sem] setCell_drewN alloc_drewN
def k8 (l : List Int) : List Value := l.map (Value.int .u8)
theorem k8_len (l : List Int) : (k8 l).length = l.length := by simp [k8]
theorem extr (A B C : List Value) (n m : Nat) (hn : A.length = n) (hm : B.length = m) : ((A ++ (B ++ C)).toArray).extract n (n + m) = B.toArray := by
 subst hn hm
 apply Array.ext'
 simp only [Array.toList_extract, List.extract_eq_take_drop, List.drop_left]
 simp
theorem getx (A B C : List Value) (n j : Nat) (hn : A.length = n) (hj : j < B.length) : ((A ++ (B ++ C)).toArray)[n + j]? = B[j]? := by
 subst hn
 rw [List.getElem?_toArray, List.getElem?_append_right (by omega), Nat.add_sub_cancel_left, List.getElem?_append_left hj]
theorem k8_one (l : List Int) : ∀ u ∈ k8 l, u.oneCell' = true := by
 intro u hu
 obtain ⟨z, _, rfl⟩ := List.mem_map.1 hu
 rfl
theorem len32 (l : List Int) (h : l.length = 32) : ∃ x0 x1 x2 x3 x4 x5 x6 x7 x8 x9 x10 x11 x12 x13 x14 x15 x16 x17 x18 x19 x20 x21 x22 x23 x24 x25 x26 x27 x28 x29 x30 x31, l = [x0, x1, x2, x3, x4, x5, x6, x7, x8, x9, x10, x11, x12, x13, x14, x15, x16, x17, x18, x19, x20, x21, x22, x23, x24, x25, x26, x27, x28, x29, x30, x31] := by
 match l, h with
 | [x0, x1, x2, x3, x4, x5, x6, x7, x8, x9, x10, x11, x12, x13, x14, x15, x16, x17, x18, x19, x20, x21, x22, x23, x24, x25, x26, x27, x28, x29, x30, x31], _ => exact ⟨x0, x1, x2, x3, x4, x5, x6, x7, x8, x9, x10, x11, x12, x13, x14, x15, x16, x17, x18, x19, x20, x21, x22, x23, x24, x25, x26, x27, x28, x29, x30, x31, rfl⟩
theorem infoKy (l : List Int) (hl : l.length = 32) : (Tryz.prog.info? 23).map (·.size) = some (irow .u8 l).size := by
 rw [irow_size, hl]; kernel_rfl
theorem bKy (cs : Array Value) (W : World) : (Instr.box 23 (.agg cs)).run Tryz.prog W = .ok (.pointer (some ⟨W.heap.size, 0, none⟩)) (W.alloc (.cells cs 23)) := by kernel_rfl
theorem iU8g : ∃ i, Tryz.prog.info? 5 = some i := by
 cases h : Tryz.prog.info? 5 with
 | some i => exact ⟨i, rfl⟩
 | none => exact absurd (show (Tryz.prog.info? 5).isSome = true by kernel_rfl) (by rw [h]; decide)
theorem cU8g : Tryz.prog.cellsOf 5 = 1 := by kernel_rfl
theorem eq_key (d : Nat) (x y : List Int) (hx : x.length = 32) (hy : y.length = 32) (W : World) : (Op.equalIn (d + 2) 23 (.agg (irow .u8 x)) (.agg (irow .u8 y))).run Tryz.prog W = .ok (decide (x = y)) W := by
 obtain ⟨i0, hi⟩ := iU8g
 unfold irow
 rw [run_equalIn_array W (d + 1) _ _ Tryz.underlying23 hi, cU8g, run_eqItems_int d W Tryz.underlying5 hi x y (List.range 32) (fun i h => by simp at h; omega)]
 congr 1
 rw [Bool.eq_iff_iff]
 simp only [List.all_eq_true, List.mem_range, beq_iff_eq, decide_eq_true_eq]
 constructor
 · intro h
   apply List.ext_getElem (by omega)
   intro i h1 h2
   have := h i (by omega)
   simpa [h1, h2] using this
 · rintro rfl i _
   rfl
def prow (a b : List Int) : Array Value := (k8 a ++ (k8 b ++ [])).toArray
theorem prow_size {a b : List Int} (ha : a.length = 32) (hb : b.length = 32) : (prow a b).size = 64 := by simp [prow, k8_len, ha, hb]
theorem infoPr {a b : List Int} (ha : a.length = 32) (hb : b.length = 32) : (Tryz.prog.info? 25).map (·.size) = some (prow a b).size := by rw [prow_size ha hb]; kernel_rfl
theorem bPrA (cs : Array Value) (W : World) : (Instr.box 25 (.agg cs)).run Tryz.prog W = .ok (.pointer (some ⟨W.heap.size, 0, none⟩)) (W.alloc (.cells cs 25)) := by kernel_rfl
theorem builtZk : Tryz.prog.built 23 [] = some (irow .u8 (zr 32)) := by kernel_rfl
theorem eq_k (x y : List Int) (hx : x.length = 32) (hy : y.length = 32) (W : World) : (Op.equalIn 10000 23 (.agg (irow .u8 x)) (.agg (irow .u8 y))).run Tryz.prog W = .ok (decide (x = y)) W := eq_key 9998 x y hx hy W
theorem wpList_build_want {P : Program} {ops : Array Oper} {rest : List Oper} {o : Oper} {a : Act} {w : World} {Q : Exit → Act → World → Prop} (hw : Region.wanted o (yielded ops a.tmps) = true) (t : TypeId) (parts : Array (Nat × Operand)) (ho : o.op = .build t parts)
   (vals : List (Nat × Value)) (hv : parts.toList.map (fun (i, x) => (i, a.eval x)) = vals) (cells : Array Value) (hb : P.built t vals = some cells)
   (h : wpList P ops Q rest (a.put o.dst (.agg cells)) w) : wpList P ops Q (o :: rest) a w := by
 rw [← Array.toList_map] at hv
 subst hv
 refine BigFrame.wpList_want hw fun _ hK => ?_
 unfold Oper.wp execOp
 simp only [ho, Sem.run_bind, run_build w t _ cells hb, Result.andThen_ok]
 exact hK _ _ h
def WpStay (p : Prop) : Prop := p
theorem wpList_stay {P : Program} {ops : Array Oper} {rest : List Oper} {a : Act} {w : World} {Q : Exit → Act → World → Prop} (h : WpStay (wpList P ops Q rest a w)) : wpList P ops Q rest a w := h
def brow (i : List Int) (s : List Int) (o : List Int) (h : Bool) : Array Value := (k8 i ++ (k8 s ++ (k8 o ++ ([Value.bool h] ++ [])))).toArray
theorem brow_size (i : List Int) (s : List Int) (o : List Int) (h : Bool) (hi : i.length = 32) (hs : s.length = 32) (ho : o.length = 32) : (brow i s o h).size = 97 := by simp [brow, k8_len, hi, hs, ho]
theorem bn_i (i : List Int) (s : List Int) (o : List Int) (h : Bool) (hi : i.length = 32) : (brow i s o h).extract 0 (0 + (irow .u8 i).size) = irow .u8 i := by
 have e : k8 i ++ (k8 s ++ (k8 o ++ ([Value.bool h] ++ []))) = ([]) ++ (k8 i ++ (k8 s ++ (k8 o ++ ([Value.bool h] ++ [])))) := by simp
 rw [brow, e, irow_size, hi]
 exact extr _ _ _ 0 32 rfl (by simp [k8_len, hi])
theorem bn_s (i : List Int) (s : List Int) (o : List Int) (h : Bool) (hi : i.length = 32) (hs : s.length = 32) : (brow i s o h).extract 32 (32 + (irow .u8 s).size) = irow .u8 s := by
 have e : k8 i ++ (k8 s ++ (k8 o ++ ([Value.bool h] ++ []))) = (k8 i ++ []) ++ (k8 s ++ (k8 o ++ ([Value.bool h] ++ []))) := by simp
 rw [brow, e, irow_size, hs]
 exact extr _ _ _ 32 32 (by simp [k8_len, hi]) (by simp [k8_len, hs])
theorem bn_o (i : List Int) (s : List Int) (o : List Int) (h : Bool) (hi : i.length = 32) (hs : s.length = 32) (ho : o.length = 32) : (brow i s o h).extract 64 (64 + (irow .u8 o).size) = irow .u8 o := by
 have e : k8 i ++ (k8 s ++ (k8 o ++ ([Value.bool h] ++ []))) = (k8 i ++ (k8 s ++ [])) ++ (k8 o ++ ([Value.bool h] ++ [])) := by simp
 rw [brow, e, irow_size, ho]
 exact extr _ _ _ 64 32 (by simp [k8_len, hi, hs]) (by simp [k8_len, ho])
theorem bn_h (i : List Int) (s : List Int) (o : List Int) (h : Bool) (hi : i.length = 32) (hs : s.length = 32) (ho : o.length = 32) : (brow i s o h)[96]? = some (.bool h) := by
 have e : k8 i ++ (k8 s ++ (k8 o ++ ([Value.bool h] ++ []))) = (k8 i ++ (k8 s ++ (k8 o ++ []))) ++ ([Value.bool h] ++ ([])) := by simp
 rw [brow, e]
 exact getx _ _ _ 96 0 (by simp [k8_len, hi, hs, ho]) (by simp)
theorem info_brow (i : List Int) (s : List Int) (o : List Int) (h : Bool) (hi : i.length = 32) (hs : s.length = 32) (ho : o.length = 32) : (Tryz.prog.info? 27).map (·.size) = some (brow i s o h).size := by rw [brow_size i s o h hi hs ho]; kernel_rfl
theorem box_brow (cs : Array Value) (W : World) : (Instr.box 27 (.agg cs)).run Tryz.prog W = .ok (.pointer (some ⟨W.heap.size, 0, none⟩)) (W.alloc (.cells cs 27)) := by kernel_rfl
def psrow (ia : List Int) (ib : List Int) (sa : List Int) (sb : List Int) (oa : List Int) (ob : List Int) (h : Bool) : Array Value := (k8 ia ++ (k8 ib ++ []) ++ (k8 sa ++ (k8 sb ++ []) ++ (k8 oa ++ (k8 ob ++ []) ++ ([Value.bool h] ++ [])))).toArray
theorem ps_iaib (ia : List Int) (ib : List Int) (sa : List Int) (sb : List Int) (oa : List Int) (ob : List Int) (h : Bool) (hia : ia.length = 32) (hib : ib.length = 32) : (psrow ia ib sa sb oa ob h).extract 0 (0 + (prow ia ib).size) = prow ia ib := by
 have e : k8 ia ++ (k8 ib ++ []) ++ (k8 sa ++ (k8 sb ++ []) ++ (k8 oa ++ (k8 ob ++ []) ++ ([Value.bool h] ++ []))) = ([]) ++ ((k8 ia ++ (k8 ib ++ [])) ++ (k8 sa ++ (k8 sb ++ []) ++ (k8 oa ++ (k8 ob ++ []) ++ ([Value.bool h] ++ [])))) := by simp
 rw [psrow, e, prow_size hia hib]
 exact extr _ _ _ 0 64 rfl (by simp [k8_len, hia, hib])
theorem ps_sasb (ia : List Int) (ib : List Int) (sa : List Int) (sb : List Int) (oa : List Int) (ob : List Int) (h : Bool) (hia : ia.length = 32) (hib : ib.length = 32) (hsa : sa.length = 32) (hsb : sb.length = 32) : (psrow ia ib sa sb oa ob h).extract 64 (64 + (prow sa sb).size) = prow sa sb := by
 have e : k8 ia ++ (k8 ib ++ []) ++ (k8 sa ++ (k8 sb ++ []) ++ (k8 oa ++ (k8 ob ++ []) ++ ([Value.bool h] ++ []))) = (k8 ia ++ (k8 ib ++ []) ++ []) ++ ((k8 sa ++ (k8 sb ++ [])) ++ (k8 oa ++ (k8 ob ++ []) ++ ([Value.bool h] ++ []))) := by simp
 rw [psrow, e, prow_size hsa hsb]
 exact extr _ _ _ 64 64 (by simp [k8_len, hia, hib]) (by simp [k8_len, hsa, hsb])
theorem ps_oaob (ia : List Int) (ib : List Int) (sa : List Int) (sb : List Int) (oa : List Int) (ob : List Int) (h : Bool) (hia : ia.length = 32) (hib : ib.length = 32) (hsa : sa.length = 32) (hsb : sb.length = 32) (hoa : oa.length = 32) (hob : ob.length = 32) : (psrow ia ib sa sb oa ob h).extract 128 (128 + (prow oa ob).size) = prow oa ob := by
 have e : k8 ia ++ (k8 ib ++ []) ++ (k8 sa ++ (k8 sb ++ []) ++ (k8 oa ++ (k8 ob ++ []) ++ ([Value.bool h] ++ []))) = (k8 ia ++ (k8 ib ++ []) ++ (k8 sa ++ (k8 sb ++ []) ++ [])) ++ ((k8 oa ++ (k8 ob ++ [])) ++ ([Value.bool h] ++ [])) := by simp
 rw [psrow, e, prow_size hoa hob]
 exact extr _ _ _ 128 64 (by simp [k8_len, hia, hib, hsa, hsb]) (by simp [k8_len, hoa, hob])
theorem ps_h (ia : List Int) (ib : List Int) (sa : List Int) (sb : List Int) (oa : List Int) (ob : List Int) (h : Bool) (hia : ia.length = 32) (hib : ib.length = 32) (hsa : sa.length = 32) (hsb : sb.length = 32) (hoa : oa.length = 32) (hob : ob.length = 32) : (psrow ia ib sa sb oa ob h)[192]? = some (.bool h) := by
 have e : k8 ia ++ (k8 ib ++ []) ++ (k8 sa ++ (k8 sb ++ []) ++ (k8 oa ++ (k8 ob ++ []) ++ ([Value.bool h] ++ []))) = (k8 ia ++ (k8 ib ++ []) ++ (k8 sa ++ (k8 sb ++ []) ++ (k8 oa ++ (k8 ob ++ []) ++ []))) ++ ([Value.bool h] ++ ([])) := by simp
 rw [psrow, e]
 exact getx _ _ _ 192 0 (by simp [k8_len, hia, hib, hsa, hsb, hoa, hob]) (by simp)
theorem box_psrow (cs : Array Value) (W : World) : (Instr.box 39 (.agg cs)).run Tryz.prog W = .ok (.pointer (some ⟨W.heap.size, 0, none⟩)) (W.alloc (.cells cs 39)) := by kernel_rfl
end Go.Proofs.YtgbkbcgjagcgbaaGreatDoor
namespace Go.Proofs.YtgbkbcgjagcgbaaGreatDoor
set_option maxRecDepth 100000
open Go Go.RowKit Go.Sort Go.ChangeShapes Go.WideShapes Go.Deep
theorem cKeyA : Tryz.prog.cellsOf 23 = 32 := by kernel_rfl
theorem cU8A : Tryz.prog.cellsOf 5 = 1 := by kernel_rfl
def K8 (l : List Int) : Prop := l.length = 32 ∧ ∀ x ∈ l, 0 ≤ x ∧ x < 256
theorem cPrA : Tryz.prog.cellsOf 25 = 64 := by kernel_rfl
theorem cBoA : Tryz.prog.cellsOf 4 = 1 := by kernel_rfl
theorem cells_k8 {H : Type} {enc : TypeId × Value → H} {W : World} {m : Nat} {cs : List Value} {x : DataW H × List MemPlace} (h : DataW.trod enc Tryz.prog W 0 (fun _ => true) true m 23 cs = some x) : ∃ l : List Int, K8 l ∧ cs = k8 l := by
 obtain ⟨xs, m, _, _, hlen, hn, hel⟩ := DataW.trod_array Tryz.underlying23 h
 rw [cKeyA] at hlen
 obtain ⟨l, hl, hw⟩ := ints_of cs .u8 (fun i hi => by
   have hin : i < 32 := by omega
   have e1 := hel i hin
   rw [cU8A, List.getElem?_eq_getElem (show i < xs.length by omega)] at e1
   obtain ⟨a, q0, _, q2⟩ := DataW.trod_int Tryz.underlying5 e1
   simp only [Nat.mul_one] at q0
   rw [List.drop_eq_getElem_cons hi, List.take_succ_cons, List.take_zero] at q0
   injection q0 with q0 _
   exact ⟨a, q0, q2⟩)
 refine ⟨l, ⟨?_, fun z hz => u8_of_wf (hw z hz)⟩, hl⟩
 have := congrArg List.length hl
 rw [List.length_map, hlen] at this
 omega
theorem glue {cs seg rest : List Value} {o n : Nat} (h1 : (cs.drop o).take n = seg) (h2 : cs.drop (o + n) = rest) : cs.drop o = seg ++ rest := by
 rw [← h1, ← h2, ← List.drop_drop, List.take_append_drop]
theorem pr_of_trod {H : Type} {enc : TypeId × Value → H} {W : World} {m : Nat} {cs : List Value} {x : DataW H × List MemPlace} (hf : DataW.trod enc Tryz.prog W 0 (fun _ => true) true m 25 cs = some x) : ∃ a b : List Int, K8 a ∧ K8 b ∧ cs = k8 a ++ (k8 b ++ []) := by
 obtain ⟨xs, n, _, rfl, hl, hlen, hfld⟩ := DataW.trod_struct Tryz.underlying25 hf
 rw [cPrA] at hl
 match xs, hlen with
 | [y0, y1], _ =>
 have f0 : DataW.trod enc Tryz.prog W 0 (fun _ => true) true n 23 ((cs.drop 0).take (Tryz.prog.cellsOf 23)) = some y0 := hfld 0 _ rfl
 have f1 : DataW.trod enc Tryz.prog W 0 (fun _ => true) true n 23 ((cs.drop 32).take (Tryz.prog.cellsOf 23)) = some y1 := hfld 1 _ rfl
 simp only [cKeyA] at f0 f1
 obtain ⟨a, ha, e0⟩ := cells_k8 f0
 obtain ⟨b, hb, e1⟩ := cells_k8 f1
 refine ⟨a, b, ha, hb, ?_⟩
 have z : cs.drop 64 = [] := List.drop_eq_nil_of_le (by omega)
 exact glue e0 (glue e1 z)
theorem cBnA : Tryz.prog.cellsOf 27 = 97 := by kernel_rfl
theorem bn_of_trod {H : Type} {enc : TypeId × Value → H} {W : World} {m : Nat} {cs : List Value} {x : DataW H × List MemPlace} (hf : DataW.trod enc Tryz.prog W 0 (fun _ => true) true m 27 cs = some x) : ∃ (i s o : List Int) (h : Bool), K8 i ∧ K8 s ∧ K8 o ∧ cs = (brow i s o h).toList := by
 obtain ⟨xs, n, _, rfl, hl, hlen, hfld⟩ := DataW.trod_struct Tryz.underlying27 hf
 rw [cBnA] at hl
 match xs, hlen with
 | [y0, y1, y2, y3], _ =>
 have f0 : DataW.trod enc Tryz.prog W 0 (fun _ => true) true n 23 ((cs.drop 0).take (Tryz.prog.cellsOf 23)) = some y0 := hfld 0 _ rfl
 rw [cKeyA] at f0
 have f1 : DataW.trod enc Tryz.prog W 0 (fun _ => true) true n 23 ((cs.drop 32).take (Tryz.prog.cellsOf 23)) = some y1 := hfld 1 _ rfl
 rw [cKeyA] at f1
 have f2 : DataW.trod enc Tryz.prog W 0 (fun _ => true) true n 23 ((cs.drop 64).take (Tryz.prog.cellsOf 23)) = some y2 := hfld 2 _ rfl
 rw [cKeyA] at f2
 have f3 : DataW.trod enc Tryz.prog W 0 (fun _ => true) true n 4 ((cs.drop 96).take (Tryz.prog.cellsOf 4)) = some y3 := hfld 3 _ rfl
 rw [cBoA] at f3
 obtain ⟨i, k_i, e0⟩ := cells_k8 f0
 obtain ⟨s, k_s, e1⟩ := cells_k8 f1
 obtain ⟨o, k_o, e2⟩ := cells_k8 f2
 obtain ⟨h, e3, _⟩ := DataW.trod_bool Tryz.underlying4 f3
 refine ⟨i, s, o, h, k_i, k_s, k_o, ?_⟩
 have z : cs.drop 97 = [] := List.drop_eq_nil_of_le (by omega)
 have a3 := glue e3 z
 have a2 := glue e2 a3
 have a1 := glue e1 a2
 have a0 := glue e0 a1
 rw [List.drop_zero] at a0
 rw [a0]
 simp [brow]
theorem cPsA : Tryz.prog.cellsOf 39 = 193 := by kernel_rfl
theorem ps_of_trod {H : Type} {enc : TypeId × Value → H} {W : World} {m : Nat} {cs : List Value} {x : DataW H × List MemPlace} (hf : DataW.trod enc Tryz.prog W 0 (fun _ => true) true m 39 cs = some x) : ∃ (ia ib sa sb oa ob : List Int) (h : Bool), K8 ia ∧ K8 ib ∧ K8 sa ∧ K8 sb ∧ K8 oa ∧ K8 ob ∧ cs = (psrow ia ib sa sb oa ob h).toList := by
 obtain ⟨xs, n, _, rfl, hl, hlen, hfld⟩ := DataW.trod_struct Tryz.underlying39 hf
 rw [cPsA] at hl
 match xs, hlen with
 | [y0, y1, y2, y3], _ =>
 have f0 : DataW.trod enc Tryz.prog W 0 (fun _ => true) true n 25 ((cs.drop 0).take (Tryz.prog.cellsOf 25)) = some y0 := hfld 0 _ rfl
 rw [cPrA] at f0
 have f1 : DataW.trod enc Tryz.prog W 0 (fun _ => true) true n 25 ((cs.drop 64).take (Tryz.prog.cellsOf 25)) = some y1 := hfld 1 _ rfl
 rw [cPrA] at f1
 have f2 : DataW.trod enc Tryz.prog W 0 (fun _ => true) true n 25 ((cs.drop 128).take (Tryz.prog.cellsOf 25)) = some y2 := hfld 2 _ rfl
 rw [cPrA] at f2
 have f3 : DataW.trod enc Tryz.prog W 0 (fun _ => true) true n 4 ((cs.drop 192).take (Tryz.prog.cellsOf 4)) = some y3 := hfld 3 _ rfl
 rw [cBoA] at f3
 obtain ⟨ia, ib, k_ia, k_ib, e0⟩ := pr_of_trod f0
 obtain ⟨sa, sb, k_sa, k_sb, e1⟩ := pr_of_trod f1
 obtain ⟨oa, ob, k_oa, k_ob, e2⟩ := pr_of_trod f2
 obtain ⟨h, e3, _⟩ := DataW.trod_bool Tryz.underlying4 f3
 refine ⟨ia, ib, sa, sb, oa, ob, h, k_ia, k_ib, k_sa, k_sb, k_oa, k_ob, ?_⟩
 have z : cs.drop 193 = [] := List.drop_eq_nil_of_le (by omega)
 have a3 := glue e3 z
 have a2 := glue e2 a3
 have a1 := glue e1 a2
 have a0 := glue e0 a1
 rw [List.drop_zero] at a0
 rw [a0]
 simp [psrow]
end Go.Proofs.YtgbkbcgjagcgbaaGreatDoor
