import Derived.ProofKit
import Derived.OpenShut
import Derived.WalkKit
import Derived.WalkSpells
import Derived.WalkLawsBesides
import Derived.Lib.QuietBelow
import Derived.BigQuiet
import Derived.Laws.CopyOwn
import Derived.Tactics
import Derived.Laws.Rows
import Derived.RegionTactic
import Derived.Below
import Derived.Laws.BitsAllLaws
import Derived.Shelf.Bits.Mul64
import Derived.ChangeKeysEq
import Derived.Laws.StructEq
import Derived.Test.YtkogejglfgghmaaDoorProg
import Derived.Test.YtkogejglfgghmaaDoorRows
import Derived.LaidMore
import Derived.Stop.Joined
namespace Go.Proofs.YtkogejglfgghmaaDoor
open Go Go.ChangeShapes Go.WideShapes Go.ChangeAt Go.RowKit

/-! An array of integers that comes in by value. -/
section
variable {P : Program} {H : Type} {enc : TypeId × Value → H} {w : World}

theorem okWide_array {r : Reach} {base : Nat} {t e : TypeId} {n : Nat} {v : Value} (ht : P.underlying t = some (.array n e)) (h : Value.okWide P w r base t v) : ∃ cs : Array Value, v = .agg cs ∧ cs.size = P.cellsOf t := by
  simp only [Value.okWide, ht] at h
  obtain ⟨cs, h1, h2, _⟩ := h
  exact ⟨cs, h1, h2⟩

theorem ints_of : ∀ (cs : List Value) (k : IntKind) (_ : ∀ i (hi : i < cs.length), ∃ a : Int, cs[i] = .int k a ∧ (Lit.int k a).wf = true), ∃ l : List Int, cs = l.map (Value.int k) ∧ ∀ x ∈ l, (Lit.int k x).wf = true
  | [], _, _ => ⟨[], rfl, by simp⟩
  | c :: cs, k, h => by
    obtain ⟨a, ha, wa⟩ := h 0 (by simp)
    obtain ⟨l, hl, wl⟩ := ints_of cs k (fun i hi => by have h1 := h (i + 1) (Nat.succ_lt_succ hi); simp only [List.getElem_cons_succ] at h1; exact h1)
    refine ⟨a :: l, by simp at ha; simp [ha, hl], ?_⟩
    intro x hx
    rcases List.mem_cons.1 hx with rfl | hx
    · exact wa
    · exact wl x hx

theorem open_array {r : Reach} {b0 base : Nat} {spare : TypeId → Bool} {held : Bool} {t e : TypeId} {n : Nat} {k : IntKind} {v : Value} {d : DataW H} {p : List MemPlace} (ht : P.underlying t = some (.array n e)) (he : P.underlying e = some (.int k)) (hce : P.cellsOf e = 1) (hct : P.cellsOf t = n)
    (hv : Value.okWide P w r b0 t v) (h : DataW.Trod enc P w base spare held t v d p) :
    ∃ l : List Int, l.length = n ∧ v = .agg (l.map (Value.int k)).toArray ∧ ∀ x ∈ l, (Lit.int k x).wf = true := by
  obtain ⟨cs, rfl, hs⟩ := okWide_array ht hv
  obtain ⟨fuel, hf⟩ := h
  obtain ⟨xs, m, _, _, hl, hx, hi⟩ := DataW.trod_array ht hf
  obtain ⟨l, hl', wl⟩ := ints_of cs.toList k (fun i hi' => by
    have hin : i < n := by simp at hi'; omega
    have h1 := hi i hin
    rw [hce] at h1
    have hx' : xs[i]? = some xs[i] := List.getElem?_eq_getElem (by omega)
    rw [hx'] at h1
    obtain ⟨a, e0, _, wa⟩ := DataW.trod_int he h1
    refine ⟨a, ?_, wa⟩
    simp only [Value.cells, Nat.mul_one] at e0
    rw [List.drop_eq_getElem_cons hi'] at e0
    simpa using e0)
  refine ⟨l, ?_, ?_, wl⟩
  · have : cs.toList.length = l.length := by rw [hl']; simp
    simp at this
    omega
  · congr 1
    rw [← hl']

theorem u8_of_wf {x : Int} (h : (Lit.int .u8 x).wf = true) : 0 ≤ x ∧ x < 256 := by
  have := bounds_u8 h
  omega

end

theorem list32 : ∀ (l : List Int), l.length = 32 → ∃ b0 b1 b2 b3 b4 b5 b6 b7 b8 b9 b10 b11 b12 b13 b14 b15 b16 b17 b18 b19 b20 b21 b22 b23 b24 b25 b26 b27 b28 b29 b30 b31 : Int, l = [b0, b1, b2, b3, b4, b5, b6, b7, b8, b9, b10, b11, b12, b13, b14, b15, b16, b17, b18, b19, b20, b21, b22, b23, b24, b25, b26, b27, b28, b29, b30, b31]
  | [b0, b1, b2, b3, b4, b5, b6, b7, b8, b9, b10, b11, b12, b13, b14, b15, b16, b17, b18, b19, b20, b21, b22, b23, b24, b25, b26, b27, b28, b29, b30, b31], _ => ⟨b0, b1, b2, b3, b4, b5, b6, b7, b8, b9, b10, b11, b12, b13, b14, b15, b16, b17, b18, b19, b20, b21, b22, b23, b24, b25, b26, b27, b28, b29, b30, b31, rfl⟩
end Go.Proofs.YtkogejglfgghmaaDoor

namespace Go.Proofs.YtkogejglfgghmaaDoor
open Go.RowKit Go.Sort

/-! Worlds: a whole row stored into a block that the call itself has laid. -/
theorem setRow_alloc_new (w : World) (old cs : Array Value) (t : TypeId) (fr : Nat × Nat) (n : Nat) (hn : n = w.heap.size) :
    (w.alloc (.cells old t fr)).setRow n cs = w.alloc (.cells cs t fr) := by
  subst hn
  show ({ w with heap := (w.heap.push (.cells old t fr)).modify w.heap.size _ } : World) = { w with heap := w.heap.push (.cells cs t fr) }
  congr 1
  apply Array.ext_getElem?
  intro k
  rw [Array.getElem?_modify, Array.getElem?_push, Array.getElem?_push]
  by_cases h : k = w.heap.size
  · subst h; simp
  · rw [if_neg (Ne.symm h), if_neg h]; simp [h]

theorem setRow_alloc_old (w : World) (o : Obj) (n : Nat) (cs : Array Value) (hn : n < w.heap.size) :
    (w.alloc o).setRow n cs = (w.setRow n cs).alloc o := by
  show ({ w with heap := (w.heap.push o).modify n _ } : World) = { w with heap := (w.heap.modify n _).push o }
  congr 1
  apply Array.ext_getElem?
  intro k
  rw [Array.getElem?_modify, Array.getElem?_push, Array.getElem?_push, Array.getElem?_modify, Array.size_modify]
  by_cases h : n = k
  · subst h; rw [if_pos rfl, if_neg (by omega), if_pos rfl, if_neg (by omega)]
  · rw [if_neg h, if_neg h]

theorem setRow_drew (w : World) (n : Nat) (cs : Array Value) : w.drew.setRow n cs = (w.setRow n cs).drew := rfl

theorem setCell_drewN (w : World) (n : Nat) (a : Addr) (v : Value) : (w.drewN n).setCell a v = (w.setCell a v).drewN n := rfl
theorem alloc_drewN (w : World) (n : Nat) (o : Obj) : (w.drewN n).alloc o = (w.alloc o).drewN n := rfl
theorem setRow_drewN (w : World) (n g : Nat) (cs : Array Value) : (w.drewN n).setRow g cs = (w.setRow g cs).drewN n := rfl
theorem below_drN {B : Nat} {a w : World} (h : Below B a w) (n : Nat) : Below B a (w.drewN n) := ⟨h.os, h.tape, h.output, h.size, h.block⟩
theorem ret_bool {a b : Bool} (h : a = b) : Ending.returned (.bool a) = .returned (.bool b) := by rw [h]

/-! The blocks that a call has laid, by their places. -/
theorem hp1_0 (w : World) (o0 : Obj) : (w.alloc o0).heap[w.heap.size]? = some o0 := by
  show (w.heap.push o0)[w.heap.size]? = _
  rw [Array.getElem?_push, if_pos rfl]
theorem hp2_0 (w : World) (o0 o1 : Obj) : ((w.alloc o0).alloc o1).heap[w.heap.size]? = some o0 := by
  show ((w.heap.push o0).push o1)[w.heap.size]? = _
  rw [Array.getElem?_push, if_neg (by simp only [Array.size_push]; omega)]
  rw [Array.getElem?_push, if_pos rfl]
theorem hp2_1 (w : World) (o0 o1 : Obj) : ((w.alloc o0).alloc o1).heap[w.heap.size + 1]? = some o1 := by
  show ((w.heap.push o0).push o1)[w.heap.size + 1]? = _
  rw [Array.getElem?_push, if_pos (by simp only [Array.size_push])]
theorem hp3_0 (w : World) (o0 o1 o2 : Obj) : (((w.alloc o0).alloc o1).alloc o2).heap[w.heap.size]? = some o0 := by
  show (((w.heap.push o0).push o1).push o2)[w.heap.size]? = _
  rw [Array.getElem?_push, if_neg (by simp only [Array.size_push]; omega)]
  rw [Array.getElem?_push, if_neg (by simp only [Array.size_push]; omega)]
  rw [Array.getElem?_push, if_pos rfl]
theorem hp3_1 (w : World) (o0 o1 o2 : Obj) : (((w.alloc o0).alloc o1).alloc o2).heap[w.heap.size + 1]? = some o1 := by
  show (((w.heap.push o0).push o1).push o2)[w.heap.size + 1]? = _
  rw [Array.getElem?_push, if_neg (by simp only [Array.size_push]; omega)]
  rw [Array.getElem?_push, if_pos (by simp only [Array.size_push])]
theorem hp3_2 (w : World) (o0 o1 o2 : Obj) : (((w.alloc o0).alloc o1).alloc o2).heap[w.heap.size + 1 + 1]? = some o2 := by
  show (((w.heap.push o0).push o1).push o2)[w.heap.size + 1 + 1]? = _
  rw [Array.getElem?_push, if_pos (by simp only [Array.size_push])]
theorem hp4_0 (w : World) (o0 o1 o2 o3 : Obj) : ((((w.alloc o0).alloc o1).alloc o2).alloc o3).heap[w.heap.size]? = some o0 := by
  show ((((w.heap.push o0).push o1).push o2).push o3)[w.heap.size]? = _
  rw [Array.getElem?_push, if_neg (by simp only [Array.size_push]; omega)]
  rw [Array.getElem?_push, if_neg (by simp only [Array.size_push]; omega)]
  rw [Array.getElem?_push, if_neg (by simp only [Array.size_push]; omega)]
  rw [Array.getElem?_push, if_pos rfl]
theorem hp4_1 (w : World) (o0 o1 o2 o3 : Obj) : ((((w.alloc o0).alloc o1).alloc o2).alloc o3).heap[w.heap.size + 1]? = some o1 := by
  show ((((w.heap.push o0).push o1).push o2).push o3)[w.heap.size + 1]? = _
  rw [Array.getElem?_push, if_neg (by simp only [Array.size_push]; omega)]
  rw [Array.getElem?_push, if_neg (by simp only [Array.size_push]; omega)]
  rw [Array.getElem?_push, if_pos (by simp only [Array.size_push])]
theorem hp4_2 (w : World) (o0 o1 o2 o3 : Obj) : ((((w.alloc o0).alloc o1).alloc o2).alloc o3).heap[w.heap.size + 1 + 1]? = some o2 := by
  show ((((w.heap.push o0).push o1).push o2).push o3)[w.heap.size + 1 + 1]? = _
  rw [Array.getElem?_push, if_neg (by simp only [Array.size_push]; omega)]
  rw [Array.getElem?_push, if_pos (by simp only [Array.size_push])]
theorem hp4_3 (w : World) (o0 o1 o2 o3 : Obj) : ((((w.alloc o0).alloc o1).alloc o2).alloc o3).heap[w.heap.size + 1 + 1 + 1]? = some o3 := by
  show ((((w.heap.push o0).push o1).push o2).push o3)[w.heap.size + 1 + 1 + 1]? = _
  rw [Array.getElem?_push, if_pos (by simp only [Array.size_push])]
theorem hp5_0 (w : World) (o0 o1 o2 o3 o4 : Obj) : (((((w.alloc o0).alloc o1).alloc o2).alloc o3).alloc o4).heap[w.heap.size]? = some o0 := by
  show (((((w.heap.push o0).push o1).push o2).push o3).push o4)[w.heap.size]? = _
  rw [Array.getElem?_push, if_neg (by simp only [Array.size_push]; omega)]
  rw [Array.getElem?_push, if_neg (by simp only [Array.size_push]; omega)]
  rw [Array.getElem?_push, if_neg (by simp only [Array.size_push]; omega)]
  rw [Array.getElem?_push, if_neg (by simp only [Array.size_push]; omega)]
  rw [Array.getElem?_push, if_pos rfl]
theorem hp5_1 (w : World) (o0 o1 o2 o3 o4 : Obj) : (((((w.alloc o0).alloc o1).alloc o2).alloc o3).alloc o4).heap[w.heap.size + 1]? = some o1 := by
  show (((((w.heap.push o0).push o1).push o2).push o3).push o4)[w.heap.size + 1]? = _
  rw [Array.getElem?_push, if_neg (by simp only [Array.size_push]; omega)]
  rw [Array.getElem?_push, if_neg (by simp only [Array.size_push]; omega)]
  rw [Array.getElem?_push, if_neg (by simp only [Array.size_push]; omega)]
  rw [Array.getElem?_push, if_pos (by simp only [Array.size_push])]
theorem hp5_2 (w : World) (o0 o1 o2 o3 o4 : Obj) : (((((w.alloc o0).alloc o1).alloc o2).alloc o3).alloc o4).heap[w.heap.size + 1 + 1]? = some o2 := by
  show (((((w.heap.push o0).push o1).push o2).push o3).push o4)[w.heap.size + 1 + 1]? = _
  rw [Array.getElem?_push, if_neg (by simp only [Array.size_push]; omega)]
  rw [Array.getElem?_push, if_neg (by simp only [Array.size_push]; omega)]
  rw [Array.getElem?_push, if_pos (by simp only [Array.size_push])]
theorem hp5_3 (w : World) (o0 o1 o2 o3 o4 : Obj) : (((((w.alloc o0).alloc o1).alloc o2).alloc o3).alloc o4).heap[w.heap.size + 1 + 1 + 1]? = some o3 := by
  show (((((w.heap.push o0).push o1).push o2).push o3).push o4)[w.heap.size + 1 + 1 + 1]? = _
  rw [Array.getElem?_push, if_neg (by simp only [Array.size_push]; omega)]
  rw [Array.getElem?_push, if_pos (by simp only [Array.size_push])]
theorem hp5_4 (w : World) (o0 o1 o2 o3 o4 : Obj) : (((((w.alloc o0).alloc o1).alloc o2).alloc o3).alloc o4).heap[w.heap.size + 1 + 1 + 1 + 1]? = some o4 := by
  show (((((w.heap.push o0).push o1).push o2).push o3).push o4)[w.heap.size + 1 + 1 + 1 + 1]? = _
  rw [Array.getElem?_push, if_pos (by simp only [Array.size_push])]
theorem hp6_0 (w : World) (o0 o1 o2 o3 o4 o5 : Obj) : ((((((w.alloc o0).alloc o1).alloc o2).alloc o3).alloc o4).alloc o5).heap[w.heap.size]? = some o0 := by
  show ((((((w.heap.push o0).push o1).push o2).push o3).push o4).push o5)[w.heap.size]? = _
  rw [Array.getElem?_push, if_neg (by simp only [Array.size_push]; omega)]
  rw [Array.getElem?_push, if_neg (by simp only [Array.size_push]; omega)]
  rw [Array.getElem?_push, if_neg (by simp only [Array.size_push]; omega)]
  rw [Array.getElem?_push, if_neg (by simp only [Array.size_push]; omega)]
  rw [Array.getElem?_push, if_neg (by simp only [Array.size_push]; omega)]
  rw [Array.getElem?_push, if_pos rfl]
theorem hp6_1 (w : World) (o0 o1 o2 o3 o4 o5 : Obj) : ((((((w.alloc o0).alloc o1).alloc o2).alloc o3).alloc o4).alloc o5).heap[w.heap.size + 1]? = some o1 := by
  show ((((((w.heap.push o0).push o1).push o2).push o3).push o4).push o5)[w.heap.size + 1]? = _
  rw [Array.getElem?_push, if_neg (by simp only [Array.size_push]; omega)]
  rw [Array.getElem?_push, if_neg (by simp only [Array.size_push]; omega)]
  rw [Array.getElem?_push, if_neg (by simp only [Array.size_push]; omega)]
  rw [Array.getElem?_push, if_neg (by simp only [Array.size_push]; omega)]
  rw [Array.getElem?_push, if_pos (by simp only [Array.size_push])]
theorem hp6_2 (w : World) (o0 o1 o2 o3 o4 o5 : Obj) : ((((((w.alloc o0).alloc o1).alloc o2).alloc o3).alloc o4).alloc o5).heap[w.heap.size + 1 + 1]? = some o2 := by
  show ((((((w.heap.push o0).push o1).push o2).push o3).push o4).push o5)[w.heap.size + 1 + 1]? = _
  rw [Array.getElem?_push, if_neg (by simp only [Array.size_push]; omega)]
  rw [Array.getElem?_push, if_neg (by simp only [Array.size_push]; omega)]
  rw [Array.getElem?_push, if_neg (by simp only [Array.size_push]; omega)]
  rw [Array.getElem?_push, if_pos (by simp only [Array.size_push])]
theorem hp6_3 (w : World) (o0 o1 o2 o3 o4 o5 : Obj) : ((((((w.alloc o0).alloc o1).alloc o2).alloc o3).alloc o4).alloc o5).heap[w.heap.size + 1 + 1 + 1]? = some o3 := by
  show ((((((w.heap.push o0).push o1).push o2).push o3).push o4).push o5)[w.heap.size + 1 + 1 + 1]? = _
  rw [Array.getElem?_push, if_neg (by simp only [Array.size_push]; omega)]
  rw [Array.getElem?_push, if_neg (by simp only [Array.size_push]; omega)]
  rw [Array.getElem?_push, if_pos (by simp only [Array.size_push])]
theorem hp6_4 (w : World) (o0 o1 o2 o3 o4 o5 : Obj) : ((((((w.alloc o0).alloc o1).alloc o2).alloc o3).alloc o4).alloc o5).heap[w.heap.size + 1 + 1 + 1 + 1]? = some o4 := by
  show ((((((w.heap.push o0).push o1).push o2).push o3).push o4).push o5)[w.heap.size + 1 + 1 + 1 + 1]? = _
  rw [Array.getElem?_push, if_neg (by simp only [Array.size_push]; omega)]
  rw [Array.getElem?_push, if_pos (by simp only [Array.size_push])]
theorem hp6_5 (w : World) (o0 o1 o2 o3 o4 o5 : Obj) : ((((((w.alloc o0).alloc o1).alloc o2).alloc o3).alloc o4).alloc o5).heap[w.heap.size + 1 + 1 + 1 + 1 + 1]? = some o5 := by
  show ((((((w.heap.push o0).push o1).push o2).push o3).push o4).push o5)[w.heap.size + 1 + 1 + 1 + 1 + 1]? = _
  rw [Array.getElem?_push, if_pos (by simp only [Array.size_push])]
theorem hp7_0 (w : World) (o0 o1 o2 o3 o4 o5 o6 : Obj) : (((((((w.alloc o0).alloc o1).alloc o2).alloc o3).alloc o4).alloc o5).alloc o6).heap[w.heap.size]? = some o0 := by
  show (((((((w.heap.push o0).push o1).push o2).push o3).push o4).push o5).push o6)[w.heap.size]? = _
  rw [Array.getElem?_push, if_neg (by simp only [Array.size_push]; omega)]
  rw [Array.getElem?_push, if_neg (by simp only [Array.size_push]; omega)]
  rw [Array.getElem?_push, if_neg (by simp only [Array.size_push]; omega)]
  rw [Array.getElem?_push, if_neg (by simp only [Array.size_push]; omega)]
  rw [Array.getElem?_push, if_neg (by simp only [Array.size_push]; omega)]
  rw [Array.getElem?_push, if_neg (by simp only [Array.size_push]; omega)]
  rw [Array.getElem?_push, if_pos rfl]
theorem hp7_1 (w : World) (o0 o1 o2 o3 o4 o5 o6 : Obj) : (((((((w.alloc o0).alloc o1).alloc o2).alloc o3).alloc o4).alloc o5).alloc o6).heap[w.heap.size + 1]? = some o1 := by
  show (((((((w.heap.push o0).push o1).push o2).push o3).push o4).push o5).push o6)[w.heap.size + 1]? = _
  rw [Array.getElem?_push, if_neg (by simp only [Array.size_push]; omega)]
  rw [Array.getElem?_push, if_neg (by simp only [Array.size_push]; omega)]
  rw [Array.getElem?_push, if_neg (by simp only [Array.size_push]; omega)]
  rw [Array.getElem?_push, if_neg (by simp only [Array.size_push]; omega)]
  rw [Array.getElem?_push, if_neg (by simp only [Array.size_push]; omega)]
  rw [Array.getElem?_push, if_pos (by simp only [Array.size_push])]
theorem hp7_2 (w : World) (o0 o1 o2 o3 o4 o5 o6 : Obj) : (((((((w.alloc o0).alloc o1).alloc o2).alloc o3).alloc o4).alloc o5).alloc o6).heap[w.heap.size + 1 + 1]? = some o2 := by
  show (((((((w.heap.push o0).push o1).push o2).push o3).push o4).push o5).push o6)[w.heap.size + 1 + 1]? = _
  rw [Array.getElem?_push, if_neg (by simp only [Array.size_push]; omega)]
  rw [Array.getElem?_push, if_neg (by simp only [Array.size_push]; omega)]
  rw [Array.getElem?_push, if_neg (by simp only [Array.size_push]; omega)]
  rw [Array.getElem?_push, if_neg (by simp only [Array.size_push]; omega)]
  rw [Array.getElem?_push, if_pos (by simp only [Array.size_push])]
theorem hp7_3 (w : World) (o0 o1 o2 o3 o4 o5 o6 : Obj) : (((((((w.alloc o0).alloc o1).alloc o2).alloc o3).alloc o4).alloc o5).alloc o6).heap[w.heap.size + 1 + 1 + 1]? = some o3 := by
  show (((((((w.heap.push o0).push o1).push o2).push o3).push o4).push o5).push o6)[w.heap.size + 1 + 1 + 1]? = _
  rw [Array.getElem?_push, if_neg (by simp only [Array.size_push]; omega)]
  rw [Array.getElem?_push, if_neg (by simp only [Array.size_push]; omega)]
  rw [Array.getElem?_push, if_neg (by simp only [Array.size_push]; omega)]
  rw [Array.getElem?_push, if_pos (by simp only [Array.size_push])]
theorem hp7_4 (w : World) (o0 o1 o2 o3 o4 o5 o6 : Obj) : (((((((w.alloc o0).alloc o1).alloc o2).alloc o3).alloc o4).alloc o5).alloc o6).heap[w.heap.size + 1 + 1 + 1 + 1]? = some o4 := by
  show (((((((w.heap.push o0).push o1).push o2).push o3).push o4).push o5).push o6)[w.heap.size + 1 + 1 + 1 + 1]? = _
  rw [Array.getElem?_push, if_neg (by simp only [Array.size_push]; omega)]
  rw [Array.getElem?_push, if_neg (by simp only [Array.size_push]; omega)]
  rw [Array.getElem?_push, if_pos (by simp only [Array.size_push])]
theorem hp7_5 (w : World) (o0 o1 o2 o3 o4 o5 o6 : Obj) : (((((((w.alloc o0).alloc o1).alloc o2).alloc o3).alloc o4).alloc o5).alloc o6).heap[w.heap.size + 1 + 1 + 1 + 1 + 1]? = some o5 := by
  show (((((((w.heap.push o0).push o1).push o2).push o3).push o4).push o5).push o6)[w.heap.size + 1 + 1 + 1 + 1 + 1]? = _
  rw [Array.getElem?_push, if_neg (by simp only [Array.size_push]; omega)]
  rw [Array.getElem?_push, if_pos (by simp only [Array.size_push])]
theorem hp7_6 (w : World) (o0 o1 o2 o3 o4 o5 o6 : Obj) : (((((((w.alloc o0).alloc o1).alloc o2).alloc o3).alloc o4).alloc o5).alloc o6).heap[w.heap.size + 1 + 1 + 1 + 1 + 1 + 1]? = some o6 := by
  show (((((((w.heap.push o0).push o1).push o2).push o3).push o4).push o5).push o6)[w.heap.size + 1 + 1 + 1 + 1 + 1 + 1]? = _
  rw [Array.getElem?_push, if_pos (by simp only [Array.size_push])]

/-! Results: a row, and a slot. -/
theorem results_row_tmp {P : Program} {fn : Func} {p u : Tmp} {ty : TypeId} (h : fn.results = #[.cell p ty, .tmp u]) (tmps : Array Value) (w : World) (g : Nat) (t : TypeId) (cs : Array Value) (fr : Nat × Nat) (d : TypeDesc) (v : Value)
    (hp : tmps.getD p undef = .pointer (some ⟨g, 0, none⟩)) (hv : tmps.getD u undef = v) (hg : w.heap[g]? = some (.cells cs t fr))
    (hu : P.underlying ty = some d) (hd : (match d with | .struct _ | .array _ _ => true | _ => false) = true) (hi : (P.info? ty).map (·.size) = some cs.size) :
    (results fn tmps).run P w = .ok (.tuple #[.agg cs, v]) w := by
  have hl := run_loadVar_row (P := P) w g t ty cs fr d hg hu hd hi
  rw [results_cell_tmp h, hp, hv]
  simp [asAddr, hl]

end Go.Proofs.YtkogejglfgghmaaDoor

namespace Go.Proofs.YtkogejglfgghmaaDoor
open Go.RowKit Go.Sort

/-- Behind a callee that left what was there, a new block, and a row stored into block n. -/
theorem row_pack {w wr w1 : World} {A E Z : Array Value} {T TN : TypeId} (o : Obj) (hrow : wr.heap[w.heap.size]? = some (.cells A T (0, 0))) (hZ : wr.heap[w.heap.size + 1]? = some (.cells Z TN (0, 0)))
    (hbel : Below w.heap.size w wr) (hsz : w.heap.size + 2 ≤ wr.heap.size) (hb : Below wr.heap.size wr w1) :
    ((w1.alloc o).setRow w.heap.size E).heap[w.heap.size]? = some (.cells E T (0, 0)) ∧ ((w1.alloc o).setRow w.heap.size E).heap[w.heap.size + 1]? = some (.cells Z TN (0, 0)) ∧
    Below w.heap.size w ((w1.alloc o).setRow w.heap.size E) ∧ w.heap.size + 2 ≤ ((w1.alloc o).setRow w.heap.size E).heap.size := by
  have h1 := hb.size
  have a0 : (w1.alloc o).heap[w.heap.size]? = some (.cells A T (0, 0)) := (Go.heap_alloc_old w1 o (by omega)).trans ((hb.block _ (by omega)).trans hrow)
  have a1 : (w1.alloc o).heap[w.heap.size + 1]? = some (.cells Z TN (0, 0)) := (Go.heap_alloc_old w1 o (by omega)).trans ((hb.block _ (by omega)).trans hZ)
  refine ⟨setRow_heap _ _ _ _ _ _ a0, (setRow_other _ _ _ _ (by omega)).trans a1, below_setRow ((hbel.trans (hb.mono (by omega))).alloc (by omega) _) (Nat.le_refl _) _, ?_⟩
  rw [size_setRow]
  have : (w1.alloc o).heap.size = w1.heap.size + 1 := by simp
  omega

/-- Two cells of one row stored. -/
theorem two_cells {w W : World} {E Z : Array Value} {T TN : TypeId} (i j : Nat) (x y : Value) (h : W.heap[w.heap.size]? = some (.cells E T (0, 0))) (hZ : W.heap[w.heap.size + 1]? = some (.cells Z TN (0, 0)))
    (hbel : Below w.heap.size w W) (hsz : w.heap.size + 2 ≤ W.heap.size) :
    ((W.setCell ⟨w.heap.size, i, none⟩ x).setCell ⟨w.heap.size, j, none⟩ y).heap[w.heap.size]? = some (.cells ((E.setIfInBounds i x).setIfInBounds j y) T (0, 0)) ∧
    ((W.setCell ⟨w.heap.size, i, none⟩ x).setCell ⟨w.heap.size, j, none⟩ y).heap[w.heap.size + 1]? = some (.cells Z TN (0, 0)) ∧
    Below w.heap.size w ((W.setCell ⟨w.heap.size, i, none⟩ x).setCell ⟨w.heap.size, j, none⟩ y) ∧ w.heap.size + 2 ≤ ((W.setCell ⟨w.heap.size, i, none⟩ x).setCell ⟨w.heap.size, j, none⟩ y).heap.size := by
  refine ⟨heap_setCell_same _ _ _ _ _ _ (heap_setCell_same _ _ _ _ _ _ h), ?_, (hbel.setCell (Nat.le_refl _) _).setCell (Nat.le_refl _) _, by simpa using hsz⟩
  rw [heap_setCell_other _ _ _ _ (by simp), heap_setCell_other _ _ _ _ (by simp)]
  exact hZ

end Go.Proofs.YtkogejglfgghmaaDoor

namespace Go.Proofs.YtkogejglfgghmaaDoor
open Go Go.RowKit

/-! A region that draws its order, whose operations are quiet but for ONE that waits for all others (a store): one walk of the text's order, then that one operation. -/

def idle (o : Oper) : Oper := { o with op := .move (.const undef) }
def lastB (L : List Oper) (m : Nat) : Bool := decide (m + 1 = L.length) && (List.range m).all fun j => (List.range L.length).any fun k => ((L[k]?).map fun o => o.after.toList.any fun e => Region.binds .any e && e.on == j).getD false
def Closed (L : List Oper) (listed : Array Bool) : Prop := ∀ k x, L[k]? = some x → listed.getD k false = true → ∀ e ∈ x.after, Region.binds .any e = true → listed.getD e.on false = true
def ordB (L : List Oper) : Bool := (List.range L.length).all fun k => ((L[k]?).map fun o => o.after.all fun e => !Region.binds .any e || decide (e.on < k)).getD true

section
variable {P : Program} {C : World → Prop} {L : List Oper} {m : Nat} {o : Oper}

theorem idle_at (h : L[m]? = some o) (i : Nat) : (L.set m (idle o)).toArray[i]? = if m = i then some (idle o) else L.toArray[i]? := by
  have hm : m < L.length := (List.getElem?_eq_some_iff.1 h).1
  simp only [List.getElem?_toArray, List.getElem?_set]
  by_cases e : m = i
  · subst e; simp [hm]
  · simp [e]

theorem idle_after (h : L[m]? = some o) (i : Nat) : ((L.set m (idle o)).toArray[i]?).map (·.after) = (L.toArray[i]?).map (·.after) := by
  rw [idle_at h]
  by_cases e : m = i
  · subst e; simp [h, idle]
  · simp [e]

theorem idle_dst (h : L[m]? = some o) (i : Nat) : ((L.set m (idle o)).toArray[i]?).bind (·.dst) = (L.toArray[i]?).bind (·.dst) := by
  rw [idle_at h]
  by_cases e : m = i
  · subst e; simp [h, idle]
  · simp [e]

theorem yielded_idle (h : L[m]? = some o) (t : Array Value) : yielded (L.set m (idle o)).toArray t = yielded L.toArray t := by
  funext j
  unfold yielded
  rw [idle_dst h]

theorem mem_ready_idle (h : L[m]? = some o) {listed : Array Bool} {i : Nat} : i ∈ Region.ready .any (L.set m (idle o)).toArray listed ↔ i ∈ Region.ready .any L.toArray listed := by
  have ha := idle_after h i
  rw [mem_ready, mem_ready]
  constructor
  · rintro ⟨h0, x, hx, hall⟩
    rw [hx] at ha
    cases hy : L.toArray[i]? with
    | none => rw [hy] at ha; cases ha
    | some y => rw [hy] at ha; simp at ha; exact ⟨h0, y, rfl, fun e he => hall e (by rw [ha]; exact he)⟩
  · rintro ⟨h0, x, hx, hall⟩
    rw [hx] at ha
    cases hy : (L.set m (idle o)).toArray[i]? with
    | none => rw [hy] at ha; cases ha
    | some y => rw [hy] at ha; simp at ha; exact ⟨h0, y, rfl, fun e he => hall e (by rw [← ha]; exact he)⟩

theorem ready_some (hO : ordB L = true) {listed : Array Bool} (hs : listed.size = L.length) : ∀ (k : Nat), k < L.length → listed.getD k true = false → Region.ready .any L.toArray listed ≠ [] := by
  intro k
  induction k using Nat.strongRecOn with
  | ind k ih =>
    intro hk hun
    have hk' : L[k]? = some L[k] := List.getElem?_eq_getElem hk
    have hO' := hO
    simp only [ordB, List.all_eq_true, List.mem_range] at hO'
    have h1 := hO' k hk
    rw [hk'] at h1
    simp only [Option.map_some, Option.getD_some, Array.all_eq_true_iff_forall_mem] at h1
    by_cases hall : ∀ e ∈ L[k].after, Region.binds .any e = true → listed.getD e.on false = true
    · intro he
      have : k ∈ Region.ready .any L.toArray listed := mem_ready.2 ⟨hun, L[k], by simp, hall⟩
      rw [he] at this
      cases this
    · simp only [Classical.not_forall] at hall
      obtain ⟨e, he, hb, hn⟩ := hall
      have h2 := h1 e he
      rw [hb] at h2
      simp at h2
      refine ih e.on h2 (by omega) ?_
      have hlt : e.on < listed.size := by omega
      simp [hlt] at hn ⊢
      exact hn

theorem Closed.set {listed : Array Bool} (hc : Closed L listed) {i : Nat} (hr : i ∈ Region.ready .any L.toArray listed) : Closed L (listed.setIfInBounds i true) := by
  intro k x hx hk e he hb
  obtain ⟨h0, o', ho', hall⟩ := mem_ready.1 hr
  by_cases hki : i = k
  · subst hki
    have : o' = x := by have := ho'.symm.trans (by simpa using hx : L.toArray[i]? = some x); simpa using this
    subst this
    exact getD_set_true (hall e he hb)
  · rw [getD_set_ne false hki] at hk
    exact getD_set_true (hc k x hx hk e he hb)

theorem ready_none (hO : ordB L = true) (hl : lastB L m = true) {listed : Array Bool} (hc : Closed L listed) (hr : m ∈ Region.ready .any L.toArray listed) : Region.ready .any L.toArray (listed.setIfInBounds m true) = [] := by
  obtain ⟨h0, o', ho', hall⟩ := mem_ready.1 hr
  simp only [lastB, Bool.and_eq_true, decide_eq_true_eq, List.all_eq_true, List.mem_range, List.any_eq_true] at hl
  obtain ⟨hml, hl⟩ := hl
  simp only [ordB, List.all_eq_true, List.mem_range] at hO
  have hdown : ∀ d j, j + d + 1 = m → listed.getD j false = true := by
    intro d
    induction d using Nat.strongRecOn with
    | ind d ih =>
      intro j hj
      obtain ⟨k, hk, hx⟩ := hl j (by omega)
      have hk' : L[k]? = some L[k] := List.getElem?_eq_getElem hk
      rw [hk'] at hx
      simp only [Option.map_some, Option.getD_some, List.any_eq_true, Bool.and_eq_true, beq_iff_eq] at hx
      obtain ⟨e, he, hb, hon⟩ := hx
      have he' : e ∈ L[k].after := by simpa using he
      have h1 := hO k hk
      rw [hk'] at h1
      simp only [Option.map_some, Option.getD_some, Array.all_eq_true_iff_forall_mem] at h1
      have h2 := h1 e he'
      rw [hb] at h2
      simp at h2
      by_cases hkm : k = m
      · subst hkm
        have : o' = L[k] := by have := ho'.symm.trans (by simp : L.toArray[k]? = some L[k]); simpa using this
        rw [← hon]
        exact hall e (by rw [this]; exact he') hb
      · have h3 := ih (m - k - 1) (by omega) k (by omega)
        rw [← hon]
        exact hc k L[k] hk' h3 e he' hb
  apply List.eq_nil_iff_forall_not_mem.2
  intro j hj
  obtain ⟨hj0, x, hx, _⟩ := mem_ready.1 hj
  by_cases e : m = j
  · subst e
    have hlt : m < listed.size := by
      rcases Nat.lt_or_ge m listed.size with h' | h'
      · exact h'
      · simp [Array.getElem?_eq_none h'] at h0
    simp [hlt] at hj0
  · rw [getD_set_ne true e] at hj0
    have hjl : j < L.length := by
      have := (Array.getElem?_eq_some_iff.1 hx).1
      simpa using this
    have h3 := hdown (m - j - 1) j (by omega)
    rcases Nat.lt_or_ge j listed.size with h' | h'
    · simp [h'] at hj0 h3; rw [hj0] at h3; cases h3
    · simp [Array.getElem?_eq_none h'] at h3

theorem wpAny_of_tail {Q' : Exit → Act → World → Prop} (h : L[m]? = some o) (hd : o.dst = none) (hg : o.guard = none) (hl : lastB L m = true) (hO : ordB L = true) :
    ∀ (fuel : Nat) (listed : Array Bool) (a : Act) (w : World), C w → listed.size = L.length → Closed L listed → listed.getD m true = false →
      wpAnyQ P .any (L.set m (idle o)).toArray C (fun a' => ∀ w', C w' → wpList P L.toArray Q' [o] a' w') fuel listed a → wpAny P .any L.toArray Q' fuel listed a w := by
  have hml : m < L.length := (List.getElem?_eq_some_iff.1 h).1
  have hnil : ∀ listed : Array Bool, Region.ready .any (L.set m (idle o)).toArray listed = [] ↔ Region.ready .any L.toArray listed = [] := by
    intro listed
    rw [List.eq_nil_iff_forall_not_mem, List.eq_nil_iff_forall_not_mem]
    exact forall_congr' fun i => not_congr (mem_ready_idle h)
  intro fuel
  induction fuel with
  | zero =>
    intro listed a w _ hs _ hun H
    exact absurd ((hnil _).1 H.1) (ready_some hO hs m hml hun)
  | succ fuel ih =>
    intro listed a w hw hs hc hun H
    refine ⟨fun h0 => absurd h0 (ready_some hO hs m hml hun), fun i hi => ?_⟩
    have hq := H.2 i ((mem_ready_idle h).2 hi)
    by_cases e : m = i
    · subst e
      have hn := ready_none hO hl hc hi
      unfold qOp at hq
      rw [idle_at h, if_pos rfl] at hq
      have hwant : Region.wanted (idle o) (yielded (L.set m (idle o)).toArray a.tmps) = true := by simp [Region.wanted, idle, hg]
      simp only [hwant, if_true] at hq
      obtain ⟨v, _, hK⟩ := hq
      have hput : a.put (idle o).dst v = a := by simp [idle, hd, Act.put]
      rw [hput] at hK
      have hQ : ∀ w', C w' → wpList P L.toArray Q' [o] a w' := by
        cases fuel with
        | zero => exact hK.2
        | succ f => exact hK.1 ((hnil _).2 hn)
      have h1 := hQ w hw
      unfold wpOp
      have ho : L.toArray[m]? = some o := by simpa using h
      simp only [ho]
      have hwant' : Region.wanted o (yielded L.toArray a.tmps) = true := by simp [Region.wanted, hg]
      simp only [wpList, hwant', if_true] at h1
      simp only [hwant', if_true]
      refine h1.imp_left fun h2 => Oper.wp_mono (fun a'' w'' h3 => ?_) h2
      cases fuel with
      | zero => exact ⟨hn, h3⟩
      | succ f => exact ⟨fun _ => h3, fun i hi => by rw [hn] at hi; cases hi⟩
    · have hq' : qOp P L.toArray C i (wpAnyQ P .any (L.set m (idle o)).toArray C (fun a' => ∀ w', C w' → wpList P L.toArray Q' [o] a' w') fuel (listed.setIfInBounds i true)) a := by
        unfold qOp at hq ⊢
        rw [idle_at h, if_neg e, yielded_idle h] at hq
        exact hq
      exact wpOp_of_qOp hw (fun a' w' hw' hk => ih _ a' w' hw' (by simpa using hs) (hc.set hi) (by rw [getD_set_ne true (Ne.symm e)]; exact hun) hk) hq'

/-- **ONE WALK OF THE TEXT's ORDER, THEN THE LAST OPERATION.** -/
theorem wp_region_tail {id : Nat} {Q : Exit → Act → World → Prop} {a : Act} {w : World} (m : Nat) (o : Oper) (h : L[m]? = some o) (hd : o.dst = none) (hg : o.guard = none) (hm : P.follows .mixedOrders = true)
    (hl : lastB L m = true) (hO : ordB L = true) (hB : Region.lexB .any (L.set m (idle o)).toArray = true) (hC : C { w with drawn := w.drawn + 1 })
    (hq : wpQuiet P (L.set m (idle o)).toArray C (fun a' => ∀ w', C w' → wpList P L.toArray Q [o] a' w') (L.set m (idle o)) a) : (Code.region id L.toArray true).wp P Q a w := by
  have hml : m < L.length := (List.getElem?_eq_some_iff.1 h).1
  simp only [Region.lexB, Bool.and_eq_true] at hB
  refine wp_region_any hm (wpAny_of_tail h hd hg hl hO _ _ _ _ hC (by simp) (fun k x hx hk => by simp only [Array.getD_eq_getD_getElem?, Array.getElem?_replicate] at hk; split at hk <;> simp at hk) (by simp [hml]) ?_)
  have := wpAnyQ_lex (C := C) (md := .any) hB.1 (L.set m (idle o)) 0 (Array.replicate L.length false) a (by simp) (by simpa using hB.2) hq
  simpa using this

/-- A whole row read, in every world of the class. -/
theorem wpQuiet_load_row {ops : Array Oper} {Q : Act → Prop} {a : Act} {o : Oper} {rest : List Oper} (hgd : o.guard = none) (ty : TypeId) (x : Operand) (ho : o.op = .load ty x)
    (g : Nat) (hx : a.eval x = .pointer (some ⟨g, 0, none⟩)) (t : TypeId) (cs : Array Value) (fr : Nat × Nat) (d : TypeDesc) (hg : ∀ w, C w → w.heap[g]? = some (.cells cs t fr))
    (hu : P.underlying ty = some d) (hd : (match d with | .struct _ | .array _ _ => true | _ => false) = true) (hi : (P.info? ty).map (·.size) = some cs.size)
    (h : wpQuiet P ops C Q rest (a.put o.dst (.agg cs))) : wpQuiet P ops C Q (o :: rest) a := by
  refine BigFrame.wpQuiet_want (by simp [Region.wanted, hgd]) fun K hK => ⟨.agg cs, fun w hw => ?_, hK _ h⟩
  unfold Oper.quietAt execOp
  simp only [ho, hx, Instr.loadAt, Instr.sureAddr, Sem.run_bind, Sem.run_pure, Result.andThen_ok, run_loadVar_row w g t ty cs fr d (hg w hw) hu hd hi]
  exact ⟨rfl, rfl⟩
/-- A call by its contract: the value is one, whatever world of the class it is made in. -/
theorem wpQuiet_idle {ops : Array Oper} {Q : Act → Prop} {a : Act} {o : Oper} (hd : o.dst = none) (hg : o.guard = none) (hop : o.op = .move (.const undef)) (hQ : Q a) : wpQuiet P ops C Q [o] a := by
  refine BigFrame.wpQuiet_want (by simp [Region.wanted, hg]) fun K hK => BigFrame.quiet_move (.const undef) hop (hK _ ?_)
  have hput : a.put o.dst (a.eval (.const undef)) = a := by simp [hd, Act.put]
  rw [hput]
  exact hQ

end
end Go.Proofs.YtkogejglfgghmaaDoor

namespace Go.Proofs.YtkogejglfgghmaaDoor
open Go Go.RowKit Go.Sort
/-- A callee's contract, told from an earlier world. -/
theorem lift_calls {P : Program} {f : FuncId} {args : Array Value} {w0 W : World} {v : Value} (h0 : Below w0.heap.size w0 W)
    (c : Calls P f args W fun e w' => e = .returned v ∧ Below W.heap.size W w') : Calls P f args W fun e w' => e = .returned v ∧ Below w0.heap.size w0 w' :=
  c.mono fun _ _ ⟨h1, h2⟩ => ⟨h1, h0.trans (h2.mono h0.size)⟩
/-- A whole row read under a guard that says yes. -/
theorem wpQuiet_load_want {P : Program} {C : World → Prop} {ops : Array Oper} {Q : Act → Prop} {a : Act} {o : Oper} {rest : List Oper} (hw : Region.wanted o (yielded ops a.tmps) = true) (ty : TypeId) (x : Operand) (ho : o.op = .load ty x)
    (g : Nat) (hx : a.eval x = .pointer (some ⟨g, 0, none⟩)) (t : TypeId) (cs : Array Value) (fr : Nat × Nat) (d : TypeDesc) (hg : ∀ w, C w → w.heap[g]? = some (.cells cs t fr))
    (hu : P.underlying ty = some d) (hd : (match d with | .struct _ | .array _ _ => true | _ => false) = true) (hi : (P.info? ty).map (·.size) = some cs.size)
    (h : wpQuiet P ops C Q rest (a.put o.dst (.agg cs))) : wpQuiet P ops C Q (o :: rest) a := by
  refine BigFrame.wpQuiet_want hw fun K hK => ⟨.agg cs, fun w hw => ?_, hK _ h⟩
  unfold Oper.quietAt execOp
  simp only [ho, hx, Instr.loadAt, Instr.sureAddr, Sem.run_bind, Sem.run_pure, Result.andThen_ok, run_loadVar_row w g t ty cs fr d (hg w hw) hu hd hi]
  exact ⟨rfl, rfl⟩
end Go.Proofs.YtkogejglfgghmaaDoor

namespace Go.Proofs.YtkogejglfgghmaaDoor
open Go Go.RowKit

/-! A region that draws its order: quiet but for one store, which waits for all others but for one part that is taken out of a tuple. -/

def lastB2 (L : List Oper) (m x : Nat) : Bool := decide (m + 1 = L.length) && decide (x < m) && (List.range m).all fun j => j == x || (List.range L.length).any fun k => k != x && ((L[k]?).map fun o => o.after.toList.any fun e => Region.binds .any e && e.on == j).getD false

section
variable {P : Program} {C : World → Prop} {L : List Oper} {m x : Nat} {o ox : Oper}

theorem listed_x (hO : ordB L = true) (hl : lastB2 L m x = true) {listed : Array Bool} (hc : Closed L listed) (hr : m ∈ Region.ready .any L.toArray listed) : ∀ j, j < m → j ≠ x → listed.getD j false = true := by
  obtain ⟨h0, o', ho', hall⟩ := mem_ready.1 hr
  simp only [lastB2, Bool.and_eq_true, Bool.or_eq_true, decide_eq_true_eq, List.all_eq_true, List.mem_range, List.any_eq_true, bne_iff_ne, beq_iff_eq] at hl
  obtain ⟨⟨hml, hxm⟩, hl⟩ := hl
  simp only [ordB, List.all_eq_true, List.mem_range] at hO
  have hdown : ∀ d j, j + d + 1 = m → j ≠ x → listed.getD j false = true := by
    intro d
    induction d using Nat.strongRecOn with
    | ind d ih =>
      intro j hj hjx
      obtain ⟨k, hk, hkx, hx⟩ := (hl j (by omega)).resolve_left hjx
      have hk' : L[k]? = some L[k] := List.getElem?_eq_getElem hk
      rw [hk'] at hx
      simp only [Option.map_some, Option.getD_some, List.any_eq_true, Bool.and_eq_true, beq_iff_eq] at hx
      obtain ⟨e, he, hb, hon⟩ := hx
      have he' : e ∈ L[k].after := by simpa using he
      have h1 := hO k hk
      rw [hk'] at h1
      simp only [Option.map_some, Option.getD_some, Array.all_eq_true_iff_forall_mem] at h1
      have h2 := h1 e he'
      rw [hb] at h2
      simp at h2
      by_cases hkm : k = m
      · subst hkm
        have : o' = L[k] := by have := ho'.symm.trans (by simp : L.toArray[k]? = some L[k]); simpa using this
        rw [← hon]
        exact hall e (by rw [this]; exact he') hb
      · have h3 := ih (m - k - 1) (by omega) k (by omega) hkx
        rw [← hon]
        exact hc k L[k] hk' h3 e he' hb
  intro j hj hx
  exact hdown (m - j - 1) j (by omega) hx
theorem ready_x (hO : ordB L = true) (hl : lastB2 L m x = true) {listed : Array Bool} (hc : Closed L listed) (hr : m ∈ Region.ready .any L.toArray listed) : ∀ j ∈ Region.ready .any L.toArray (listed.setIfInBounds m true), j = x := by
  have hdown := listed_x hO hl hc hr
  obtain ⟨h0, _⟩ := mem_ready.1 hr
  simp only [lastB2, Bool.and_eq_true, decide_eq_true_eq] at hl
  intro j hj
  obtain ⟨hj0, y, hx, _⟩ := mem_ready.1 hj
  by_cases hjx : j = x
  · exact hjx
  exfalso
  by_cases e : m = j
  · subst e
    have hlt : m < listed.size := by
      rcases Nat.lt_or_ge m listed.size with h' | h'
      · exact h'
      · simp [Array.getElem?_eq_none h'] at h0
    simp [hlt] at hj0
  · rw [getD_set_ne true e] at hj0
    have hjl : j < L.length := by
      have := (Array.getElem?_eq_some_iff.1 hx).1
      simpa using this
    have h3 := hdown j (by omega) hjx
    rcases Nat.lt_or_ge j listed.size with h' | h'
    · simp [h'] at hj0 h3; rw [hj0] at h3; cases h3
    · simp [Array.getElem?_eq_none h'] at h3

/-- A part of a tuple is the same in every world. -/
theorem extract_same {t : Operand} {i : Nat} (hx : ox.op = .extract t i) (a : Act) {v : Value} {w w' : World} (h : ox.quietAt P a C w v) : (execOp a.eval ox).run P w' = .ok (.value v) w' := by
  unfold Oper.quietAt at h
  unfold execOp at *
  simp only [hx] at h ⊢
  unfold Instr.extract at *
  cases hE : a.eval t <;> rw [hE] at h <;> try (simp [Oper.quietUpon, go_sem] at h; done)
  rename_i vs
  simp only at *
  cases hv : vs[i]? with
  | none => rw [hv] at h; simp [Oper.quietUpon, go_sem] at h
  | some u => rw [hv] at h; simp [Oper.quietUpon, go_sem] at h; subst h; simp [go_sem]

theorem put_eval {a : Act} {d t : Tmp} {v : Value} (h : t ≠ d) : (a.put (some d) v).eval (.tmp t) = a.eval (.tmp t) := by
  simp only [Act.eval, Act.put]
  simp [Array.getD_eq_getD_getElem?, Ne.symm h]
theorem store_same {ty : TypeId} {s t : Tmp} (ho : o.op = .store ty (.tmp s) (.tmp t)) {d : Tmp} (hs : s ≠ d) (ht : t ≠ d) (a : Act) (v : Value) : execOp (a.put (some d) v).eval o = execOp a.eval o := by
  unfold execOp
  simp only [ho, put_eval hs, put_eval ht]

theorem wpAny_of_tail2 {Q' : Exit → Act → World → Prop} (h : L[m]? = some o) (hX : L[x]? = some ox) {tp : Operand} {i : Nat} (hox : ox.op = .extract tp i) {dx : Tmp} (hdx : ox.dst = some dx) (hgx : ox.guard = none) {ty : TypeId} {s t : Tmp} (hos : o.op = .store ty (.tmp s) (.tmp t)) (hs' : s ≠ dx) (ht : t ≠ dx)
    (hd : o.dst = none) (hg : o.guard = none) (hl : lastB2 L m x = true) (hO : ordB L = true) :
    ∀ (fuel : Nat) (listed : Array Bool) (a : Act) (w : World), C w → listed.size = L.length → Closed L listed → listed.getD m true = false →
      wpAnyQ P .any (L.set m (idle o)).toArray C (fun a' => ∀ w', C w' → ∃ w'', (execOp a'.eval o).run P w' = .ok .skip w'' ∧ Q' .normal a' w'') fuel listed a → wpAny P .any L.toArray Q' fuel listed a w := by
  have hml : m < L.length := (List.getElem?_eq_some_iff.1 h).1
  have hxm : x ≠ m := by
    simp only [lastB2, Bool.and_eq_true, decide_eq_true_eq] at hl
    omega
  have hnil : ∀ listed : Array Bool, Region.ready .any (L.set m (idle o)).toArray listed = [] ↔ Region.ready .any L.toArray listed = [] := by
    intro listed
    rw [List.eq_nil_iff_forall_not_mem, List.eq_nil_iff_forall_not_mem]
    exact forall_congr' fun i => not_congr (mem_ready_idle h)
  intro fuel
  induction fuel with
  | zero =>
    intro listed a w _ hs _ hun H
    exact absurd ((hnil _).1 H.1) (ready_some hO hs m hml hun)
  | succ fuel ih =>
    intro listed a w hw hs hc hun H
    refine ⟨fun h0 => absurd h0 (ready_some hO hs m hml hun), fun i hi => ?_⟩
    have hq := H.2 i ((mem_ready_idle h).2 hi)
    by_cases e : m = i
    · subst e
      have hn := ready_x hO hl hc hi
      unfold qOp at hq
      rw [idle_at h, if_pos rfl] at hq
      have hwant : Region.wanted (idle o) (yielded (L.set m (idle o)).toArray a.tmps) = true := by simp [Region.wanted, idle, hg]
      simp only [hwant, if_true] at hq
      obtain ⟨v, _, hK⟩ := hq
      have hput : a.put (idle o).dst v = a := by simp [idle, hd, Act.put]
      rw [hput] at hK
      have ho : L.toArray[m]? = some o := by simpa using h
      have hwant' : Region.wanted o (yielded L.toArray a.tmps) = true := by simp [Region.wanted, hg]
      unfold wpOp
      simp only [ho, hwant', if_true]
      left
      unfold Oper.wp
      by_cases hr : Region.ready .any L.toArray (listed.setIfInBounds m true) = []
      · have hQ : ∀ w', C w' → ∃ w'', (execOp a.eval o).run P w' = .ok .skip w'' ∧ Q' .normal a w'' := by
          cases fuel with
          | zero => exact hK.2
          | succ f => exact hK.1 ((hnil _).2 hr)
        obtain ⟨w'', h1, h2⟩ := hQ w hw
        rw [h1, Oper.upon_skip, hd]
        cases fuel with
        | zero => exact ⟨hr, h2⟩
        | succ f => exact ⟨fun _ => h2, fun i hi => by rw [hr] at hi; cases hi⟩
      · obtain ⟨j, hj⟩ := List.exists_mem_of_ne_nil _ hr
        obtain rfl := hn j hj
        cases fuel with
        | zero => exact absurd ((hnil _).1 hK.1) hr
        | succ f =>
          have hq := hK.2 j ((mem_ready_idle h).2 hj)
          unfold qOp at hq
          have hoj : L.toArray[j]? = some ox := by simpa using hX
          rw [idle_at h, if_neg (Ne.symm hxm), hoj] at hq
          have hwant2 : ∀ y, Region.wanted ox y = true := by intro y; simp [Region.wanted, hgx]
          simp only [hwant2, if_true] at hq
          obtain ⟨u, hu, hK2⟩ := hq
          have hrun : ∀ w', (execOp a.eval ox).run P w' = .ok (.value u) w' := fun w' => extract_same hox a (hu w hw)
          rw [hdx] at hK2
          have hr2 : Region.ready .any L.toArray ((listed.setIfInBounds m true).setIfInBounds j true) = [] := by
            apply List.eq_nil_iff_forall_not_mem.2
            intro k hk
            obtain ⟨k0, y, hy, _⟩ := mem_ready.1 hk
            have hjk : j ≠ k := by
              intro e
              subst e
              have : j < listed.size := by
                have := (List.getElem?_eq_some_iff.1 hX).1
                omega
              simp [this] at k0
            rw [getD_set_ne true hjk] at k0
            have hkm : m ≠ k := by
              intro e'
              subst e'
              have hlt : m < listed.size := by omega
              simp [hlt] at k0
            rw [getD_set_ne true hkm] at k0
            have hkl : k < L.length := by
              have := (Array.getElem?_eq_some_iff.1 hy).1
              simpa using this
            have h3 := listed_x hO hl hc hi k (by simp only [lastB2, Bool.and_eq_true, decide_eq_true_eq] at hl; omega) (Ne.symm hjk)
            have h' : k < listed.size := by omega
            simp [h'] at k0 h3
            rw [k0] at h3
            cases h3
          have hQ : ∀ w', C w' → ∃ w'', (execOp (a.put (some dx) u).eval o).run P w' = .ok .skip w'' ∧ Q' .normal (a.put (some dx) u) w'' := by
            cases f with
            | zero => exact hK2.2
            | succ f => exact hK2.1 ((hnil _).2 hr2)
          obtain ⟨w'', h1, h2⟩ := hQ w hw
          rw [store_same hos hs' ht] at h1
          rw [h1, Oper.upon_skip, hd]
          refine ⟨fun h0 => absurd h0 hr, fun i hi => ?_⟩
          obtain rfl := hn i hi
          unfold wpOp
          simp only [hoj, hwant2, if_true]
          left
          unfold Oper.wp
          have hp : a.put none undef = a := rfl
          rw [hp, hrun w'', Oper.upon_value, hdx]
          cases f with
          | zero => exact ⟨hr2, h2⟩
          | succ f => exact ⟨fun _ => h2, fun i hi => by rw [hr2] at hi; cases hi⟩
    · have hq' : qOp P L.toArray C i (wpAnyQ P .any (L.set m (idle o)).toArray C (fun a' => ∀ w', C w' → ∃ w'', (execOp a'.eval o).run P w' = .ok .skip w'' ∧ Q' .normal a' w'') fuel (listed.setIfInBounds i true)) a := by
        unfold qOp at hq ⊢
        rw [idle_at h, if_neg e, yielded_idle h] at hq
        exact hq
      exact wpOp_of_qOp hw (fun a' w' hw' hk => ih _ a' w' hw' (by simpa using hs) (hc.set hi) (by rw [getD_set_ne true (Ne.symm e)]; exact hun) hk) hq'

/-- **ONE WALK OF THE TEXT's ORDER, THEN THE STORE.** -/
theorem wp_region_tail2 {id : Nat} {Q : Exit → Act → World → Prop} {a : Act} {w : World} (m x : Nat) (o ox : Oper) (h : L[m]? = some o) (hX : L[x]? = some ox) (tp : Operand) (i : Nat) (hox : ox.op = .extract tp i) (dx : Tmp) (hdx : ox.dst = some dx) (hgx : ox.guard = none) (ty : TypeId) (s t : Tmp) (hos : o.op = .store ty (.tmp s) (.tmp t)) (hs : s ≠ dx) (ht : t ≠ dx)
    (hd : o.dst = none) (hg : o.guard = none) (hm : P.follows .mixedOrders = true) (hl : lastB2 L m x = true) (hO : ordB L = true) (hB : Region.lexB .any (L.set m (idle o)).toArray = true) (hC : C { w with drawn := w.drawn + 1 })
    (hq : wpQuiet P (L.set m (idle o)).toArray C (fun a' => ∀ w', C w' → ∃ w'', (execOp a'.eval o).run P w' = .ok .skip w'' ∧ Q .normal a' w'') (L.set m (idle o)) a) : (Code.region id L.toArray true).wp P Q a w := by
  have hml : m < L.length := (List.getElem?_eq_some_iff.1 h).1
  simp only [Region.lexB, Bool.and_eq_true] at hB
  refine wp_region_any hm (wpAny_of_tail2 h hX hox hdx hgx hos hs ht hd hg hl hO _ _ _ _ hC (by simp) (fun k x hx hk => by simp only [Array.getD_eq_getD_getElem?, Array.getElem?_replicate] at hk; split at hk <;> simp at hk) (by simp [hml]) ?_)
  have := wpAnyQ_lex (C := C) (md := .any) hB.1 (L.set m (idle o)) 0 (Array.replicate L.length false) a (by simp) (by simpa using hB.2) hq
  simpa using this
theorem run_store_op {a : Act} {w : World} (ty : TypeId) (x y : Operand) (ho : o.op = .store ty x y) (g : Nat) (cells : Array Value) (hx : a.eval x = .pointer (some ⟨g, 0, none⟩)) (hy : a.eval y = .agg cells)
    (t : TypeId) (old : Array Value) (hg : w.heap[g]? = some (.cells old t (0, 0))) (hi : (P.info? ty).map (·.size) = some cells.size) (hold : old.size = cells.size) (h1 : cells.all (·.oneCell') = true) : (execOp a.eval o).run P w = .ok .skip (w.setRow g cells) := by
  unfold execOp
  simp only [ho, hx, hy, Instr.storeAt, Instr.sureAddr, Sem.run_bind, Sem.run_pure, Result.andThen_ok, run_storeVar_row w g t ty old cells hg hi hold h1]
end
end Go.Proofs.YtkogejglfgghmaaDoor

namespace Go.Proofs.YtkogejglfgghmaaDoor
open Go Go.RowKit Go.Sort
/-- Two results, each in a block of its own. -/
theorem results_rows2 {P : Program} {fn : Func} {p q : Tmp} {ty tz : TypeId} (h : fn.results = #[.cell p ty, .cell q tz]) (tmps : Array Value) (w : World) (g g' : Nat) (t t' : TypeId) (cs cs' : Array Value) (fr fr' : Nat × Nat) (d d' : TypeDesc)
    (hp : tmps.getD p undef = .pointer (some ⟨g, 0, none⟩)) (hg : w.heap[g]? = some (.cells cs t fr))
    (hq : tmps.getD q undef = .pointer (some ⟨g', 0, none⟩)) (hg' : w.heap[g']? = some (.cells cs' t' fr'))
    (hu : P.underlying ty = some d) (hd : (match d with | .struct _ | .array _ _ => true | _ => false) = true) (hi : (P.info? ty).map (·.size) = some cs.size)
    (hu' : P.underlying tz = some d') (hd' : (match d' with | .struct _ | .array _ _ => true | _ => false) = true) (hi' : (P.info? tz).map (·.size) = some cs'.size) :
    (results fn tmps).run P w = .ok (.tuple #[.agg cs, .agg cs']) w := by
  have hp' : tmps[p]?.getD undef = .pointer (some ⟨g, 0, none⟩) := by simpa using hp
  have hq' : tmps[q]?.getD undef = .pointer (some ⟨g', 0, none⟩) := by simpa using hq
  simp [results, h, hp', hq', asAddr, run_loadVar_row w g t ty cs fr d hg hu hd hi, run_loadVar_row w g' t' tz cs' fr' d' hg' hu' hd' hi']
end Go.Proofs.YtkogejglfgghmaaDoor

namespace Go.Proofs.YtkogejglfgghmaaDoor
open Go Go.RowKit Go.Sort
/-- A region that reads two rows and stores them into two others, in whatever order its draw allows: the first store may go ahead of the second reading. -/
theorem wp_region_pair {P : Program} {id : Nat} {Q : Exit → Act → World → Prop} {a : Act} {w : World} {l0 l1 s0 s1 : Oper} (hm : P.follows .mixedOrders = true)
    (r0 : Region.ready .any #[l0, l1, s0, s1] #[false, false, false, false] = [0, 1]) (r1 : Region.ready .any #[l0, l1, s0, s1] #[true, false, false, false] = [1, 2]) (r2 : Region.ready .any #[l0, l1, s0, s1] #[false, true, false, false] = [0])
    (r3 : Region.ready .any #[l0, l1, s0, s1] #[true, true, false, false] = [2]) (r4 : Region.ready .any #[l0, l1, s0, s1] #[true, false, true, false] = [1]) (r5 : Region.ready .any #[l0, l1, s0, s1] #[true, true, true, false] = [3])
    (r6 : Region.ready .any #[l0, l1, s0, s1] #[true, true, true, true] = [])
    (ty tz : TypeId) (x0 x1 y0 y1 : Operand) (d0 d1 : Tmp) (o0 : l0.op = .load ty x0) (o1 : l1.op = .load tz x1) (q0 : s0.op = .store ty y0 (.tmp d0)) (q1 : s1.op = .store tz y1 (.tmp d1))
    (e0 : l0.dst = some d0) (e1 : l1.dst = some d1) (e2 : s0.dst = none) (e3 : s1.dst = none) (k0 : l0.guard = none) (k1 : l1.guard = none) (k2 : s0.guard = none) (k3 : s1.guard = none)
    (g0 g1 g2 g3 : Nat) (c0 c1 z0 z1 : Array Value) (t0 t1 t2 t3 : TypeId) (f0 f1 : Nat × Nat) (D D' : TypeDesc) (af : Act)
    (n0 : w.heap[g0]? = some (.cells c0 t0 f0)) (n1 : w.heap[g1]? = some (.cells c1 t1 f1)) (n2 : w.heap[g2]? = some (.cells z0 t2 (0, 0))) (n3 : w.heap[g3]? = some (.cells z1 t3 (0, 0))) (n12 : g1 ≠ g2) (n23 : g3 ≠ g2)
    (hu : P.underlying ty = some D) (hd : (match D with | .struct _ | .array _ _ => true | _ => false) = true) (hi : (P.info? ty).map (·.size) = some c0.size) (hz : z0.size = c0.size) (h1 : c0.all (·.oneCell') = true)
    (hu' : P.underlying tz = some D') (hd' : (match D' with | .struct _ | .array _ _ => true | _ => false) = true) (hi' : (P.info? tz).map (·.size) = some c1.size) (hz' : z1.size = c1.size) (h1' : c1.all (·.oneCell') = true)
    (v0 : a.eval x0 = .pointer (some ⟨g0, 0, none⟩)) (v1 : a.eval x1 = .pointer (some ⟨g1, 0, none⟩))
    (v0' : (a.put (some d1) (.agg c1)).eval x0 = .pointer (some ⟨g0, 0, none⟩)) (v1' : (a.put (some d0) (.agg c0)).eval x1 = .pointer (some ⟨g1, 0, none⟩))
    (u0 : (a.put (some d0) (.agg c0)).eval y0 = .pointer (some ⟨g2, 0, none⟩)) (u0' : (a.put (some d0) (.agg c0)).eval (.tmp d0) = .agg c0)
    (hf1 : (a.put (some d0) (.agg c0)).put (some d1) (.agg c1) = af) (hf2 : (a.put (some d1) (.agg c1)).put (some d0) (.agg c0) = af)
    (p0 : af.eval y0 = .pointer (some ⟨g2, 0, none⟩)) (p1 : af.eval y1 = .pointer (some ⟨g3, 0, none⟩)) (p2 : af.eval (.tmp d0) = .agg c0) (p3 : af.eval (.tmp d1) = .agg c1)
    (h : ∀ w1, Below w.heap.size w w1 → Q .normal af ((w1.setRow g2 c0).setRow g3 c1)) :
    (Code.region id #[l0, l1, s0, s1] true).wp P Q a w := by
  refine wp_region_any hm ?_
  have hw : Below w.heap.size w { w with drawn := w.drawn + 1 } := ⟨rfl, rfl, rfl, Nat.le_refl _, fun _ _ => rfl⟩
  have m0 := n0; have m1 := n1; have m2 := n2; have m3 := n3
  replace h := h _ hw
  change (show World from { w with drawn := w.drawn + 1 }).heap[g0]? = _ at n0
  change (show World from { w with drawn := w.drawn + 1 }).heap[g1]? = _ at n1
  change (show World from { w with drawn := w.drawn + 1 }).heap[g2]? = _ at n2
  change (show World from { w with drawn := w.drawn + 1 }).heap[g3]? = _ at n3
  generalize ({ w with drawn := w.drawn + 1 } : World) = W at *
  have put0 : ∀ (b : Act), b.put none undef = b := fun b => rfl
  -- the last store
  have last : wpAny P .any #[l0, l1, s0, s1] Q 1 #[true, true, true, false] af (W.setRow g2 c0) := by
    refine wpAny_ready r5 (by simp) (AllReady.cons (o := s1) rfl (fun K' hK => ?_) AllReady.nil)
    rw [if_pos (by simp [Region.wanted, k3])]
    refine wp_store_row tz y1 (.tmp d1) q1 g3 c1 p1 p3 t3 z1 ((setRow_other W g2 g3 c0 n23).trans n3) hi' hz' h1' (hK _ _ ?_)
    rw [e3, put0]
    exact wpAny_done r6 h 0
  -- both read, then the stores
  have both : wpAny P .any #[l0, l1, s0, s1] Q 2 #[true, true, false, false] af W := by
    refine wpAny_ready r3 (by simp) (AllReady.cons (o := s0) rfl (fun K' hK => ?_) AllReady.nil)
    rw [if_pos (by simp [Region.wanted, k2])]
    refine wp_store_row ty y0 (.tmp d0) q0 g2 c0 p0 p2 t2 z0 n2 hi hz h1 (hK _ _ ?_)
    rw [e2, put0]
    exact last
  refine wpAny_ready (fuel := 3) r0 (by simp) (AllReady.cons (o := l0) rfl (fun K' hK => ?_) (AllReady.cons (o := l1) rfl (fun K' hK => ?_) AllReady.nil))
  · rw [if_pos (by simp [Region.wanted, k0])]
    refine wp_load_row ty x0 o0 g0 v0 t0 c0 f0 D n0 hu hd hi (hK _ _ ?_)
    rw [e0]
    refine wpAny_ready (fuel := 2) r1 (by simp) (AllReady.cons (o := l1) rfl (fun K' hK => ?_) (AllReady.cons (o := s0) rfl (fun K' hK => ?_) AllReady.nil))
    · rw [if_pos (by simp [Region.wanted, k1])]
      refine wp_load_row tz x1 o1 g1 v1' t1 c1 f1 D' n1 hu' hd' hi' (hK _ _ ?_)
      rw [e1, hf1]
      exact both
    · rw [if_pos (by simp [Region.wanted, k2])]
      refine wp_store_row ty y0 (.tmp d0) q0 g2 c0 u0 u0' t2 z0 n2 hi hz h1 (hK _ _ ?_)
      rw [e2, put0]
      refine wpAny_ready (fuel := 1) r4 (by simp) (AllReady.cons (o := l1) rfl (fun K' hK => ?_) AllReady.nil)
      rw [if_pos (by simp [Region.wanted, k1])]
      refine wp_load_row tz x1 o1 g1 v1' t1 c1 f1 D' ((setRow_other W g2 g1 c0 n12).trans n1) hu' hd' hi' (hK _ _ ?_)
      rw [e1, hf1]
      exact last
  · rw [if_pos (by simp [Region.wanted, k1])]
    refine wp_load_row tz x1 o1 g1 v1 t1 c1 f1 D' n1 hu' hd' hi' (hK _ _ ?_)
    rw [e1]
    refine wpAny_ready (fuel := 2) r2 (by simp) (AllReady.cons (o := l0) rfl (fun K' hK => ?_) AllReady.nil)
    rw [if_pos (by simp [Region.wanted, k0])]
    refine wp_load_row ty x0 o0 g0 v0' t0 c0 f0 D n0 hu hd hi (hK _ _ ?_)
    rw [e0, hf2]
    exact both
end Go.Proofs.YtkogejglfgghmaaDoor

namespace Go.Proofs.YtkogejglfgghmaaDoor
open Go Go.RowKit Go.Sort
/-- A call within a region, by its contract. -/
theorem wp_call_op {P : Program} {o : Oper} {a : Act} {w : World} {K : Act → World → Prop} {Q : Exit → Act → World → Prop} {f : FuncId} {args : Array Value} {v : Value} (hx : (execOp a.eval o).run P w = .ok (.enter f args) w)
    (c : Calls P f args w fun e w' => e = .returned v ∧ Below w.heap.size w w') (h : ∀ w', Below w.heap.size w w' → K (a.put o.dst v) w') : o.wp P a w K Q := by
  unfold Oper.wp
  rw [hx, Oper.upon_enter]
  exact c.mono fun e w' ⟨he, hb⟩ => by subst he; exact h w' hb
end Go.Proofs.YtkogejglfgghmaaDoor

namespace Go.Proofs.YtkogejglfgghmaaDoor
open Go Go.RowKit Go.Sort
/-- A call within a region, by a contract that names what it answers only behind it. -/
theorem wp_call_ex {P : Program} {o : Oper} {a : Act} {w : World} {K : Act → World → Prop} {Q : Exit → Act → World → Prop} {f : FuncId} {args : Array Value} {R : Value → World → Prop} (hx : (execOp a.eval o).run P w = .ok (.enter f args) w)
    (c : Calls P f args w fun e w' => ∃ v, e = .returned v ∧ R v w') (h : ∀ v w', R v w' → K (a.put o.dst v) w') : o.wp P a w K Q := by
  unfold Oper.wp
  rw [hx, Oper.upon_enter]
  exact c.mono fun e w' ⟨v, he, hb⟩ => by subst he; exact h v w' hb
/-- An operation that yields a value and leaves the world. -/
theorem wp_pure_op {P : Program} {o : Oper} {a : Act} {w : World} {K : Act → World → Prop} {Q : Exit → Act → World → Prop} (v : Value) (hx : (execOp a.eval o).run P w = .ok (.value v) w) (h : K (a.put o.dst v) w) : o.wp P a w K Q := by
  unfold Oper.wp
  rw [hx, Oper.upon_value]
  exact h
/-- Orders that meet: from there on one walk. -/
theorem cut_at {P : Program} {md : Region.Mode} {ops : Array Oper} {Q : Exit → Act → World → Prop} {fuel : Nat} {listed : Array Bool} {a : Act} {w : World} (f2 : Nat) (l2 : Array Bool) (S : World → Prop) (a2 : Act)
    (h1 : (∀ W, S W → wpAny P md ops Q f2 l2 a2 W) → wpAny P md ops Q fuel listed a w) (h2 : ∀ W, S W → wpAny P md ops Q f2 l2 a2 W) : wpAny P md ops Q fuel listed a w := h1 h2
theorem cut_at1 {P : Program} {md : Region.Mode} {ops : Array Oper} {Q : Exit → Act → World → Prop} {fuel : Nat} {listed : Array Bool} {a : Act} {w : World} (f2 : Nat) (l2 : Array Bool) (S : Value → World → Prop) (a2 : Value → Act)
    (h1 : (∀ v W, S v W → wpAny P md ops Q f2 l2 (a2 v) W) → wpAny P md ops Q fuel listed a w) (h2 : ∀ v W, S v W → wpAny P md ops Q f2 l2 (a2 v) W) : wpAny P md ops Q fuel listed a w := h1 h2
theorem cut_to {P : Program} {md : Region.Mode} {ops : Array Oper} {Q : Exit → Act → World → Prop} {fuel : Nat} {listed l2 : Array Bool} {a : Act} {W : World} (k : wpAny P md ops Q fuel l2 a W) (e : listed = l2) : wpAny P md ops Q fuel listed a W := by rw [e]; exact k
end Go.Proofs.YtkogejglfgghmaaDoor

namespace Go.Proofs.YtkogejglfgghmaaDoor
open Go Go.RowKit Go.Sort

/-! A region that draws its order: quiet operations first (q of them), then new blocks (up to place m), each to come up whenever it likes, then operations one behind the other. -/

def Cl (w : World) : World → Prop := fun W => ∃ p : Regrown, W = grow (redrawn w p.d) p.os
theorem Cl.refl (w : World) : Cl w w := ⟨⟨w.drawn, #[]⟩, by rw [grow_empty]; rfl⟩
theorem Cl.below {w W : World} (h : Cl w W) : Below w.heap.size w W := by obtain ⟨p, rfl⟩ := h; exact below_regrown w p.d p.os

def puts (a : Act) (l : List (Tmp × Value)) : Act := l.foldl (fun a p => a.put (some p.1) p.2) a
theorem puts_snoc (a : Act) (l : List (Tmp × Value)) (t : Tmp) (v : Value) : puts a (l ++ [(t, v)]) = (puts a l).put (some t) v := by simp [puts]
theorem puts_put (l : List (Tmp × Value)) : ∀ (a : Act) (d : Option Tmp) (v : Value), (∀ p ∈ l, d ≠ some p.1) → (puts a l).put d v = puts (a.put d v) l := by
  induction l with
  | nil => intro a d v _; rfl
  | cons p l ih =>
    intro a d v h
    have h1 : (a.put (some p.1) p.2).put d v = (a.put d v).put (some p.1) p.2 := Act.put_comm a p.2 v (fun x hx => by injection hx with hx; subst hx; exact h p (by simp))
    show (puts (a.put (some p.1) p.2) l).put d v = puts ((a.put d v).put (some p.1) p.2) l
    rw [ih _ _ _ (fun p' hp => h p' (by simp [hp])), h1]
theorem puts_perm {l l' : List (Tmp × Value)} (hp : l.Perm l') : ∀ a : Act, (l.map (·.1)).Nodup → puts a l = puts a l' := by
  induction hp with
  | nil => intro a _; rfl
  | cons x _ ih => intro a hn; simp only [List.map_cons, List.nodup_cons] at hn; exact ih _ hn.2
  | swap x y l =>
    intro a hn
    simp only [List.map_cons, List.nodup_cons, List.mem_cons, not_or] at hn
    show puts ((a.put (some y.1) y.2).put (some x.1) x.2) l = puts ((a.put (some x.1) x.2).put (some y.1) y.2) l
    rw [Act.put_comm a y.2 x.2 (fun d hd h => by injection hd with hd; injection h with h; exact hn.1.1 (hd.trans h.symm))]
  | trans h1 _ ih1 ih2 => intro a hn; rw [ih1 a hn, ih2 a ((h1.map _).nodup_iff.1 hn)]

section
variable {P : Program} {L : List Oper} {q m : Nat} {Ts : List Tmp}

def apB (L : List Oper) (q : Nat) (Ts : List Tmp) : Bool := (L.take q).all fun o => Ts.all fun t => !(o.looksAt L.toArray).contains t && o.dst != some t
def gdB (L : List Oper) (q : Nat) : Bool := (L.take q).all fun o => match o.guard with | some (j, _) => decide (j < q) | none => true
def dsB (L : List Oper) (q : Nat) : Bool := decide (((L.take q).filterMap (·.dst)).Nodup)
def edgeB (L : List Oper) (k j : Nat) : Bool := ((L[k]?).map fun o => o.after.toList.any fun e => Region.binds .any e && e.on == j).getD false
def downB (L : List Oper) (m : Nat) : Bool := (List.range m).all fun j => (List.range (m + 1)).any fun k => edgeB L k j
def seqB (L : List Oper) (m : Nat) : Bool := (List.range L.length).all fun k => decide (k ≤ m) || edgeB L k (k - 1)

theorem edge_listed {listed : Array Bool} {k j : Nat} (h : edgeB L k j = true) {x : Oper} (hx : L[k]? = some x) (hall : ∀ e ∈ x.after, Region.binds .any e = true → listed.getD e.on false = true) : listed.getD j false = true := by
  simp only [edgeB, hx, Option.map_some, Option.getD_some, List.any_eq_true, Bool.and_eq_true, beq_iff_eq] at h
  obtain ⟨e, he, hb, hon⟩ := h
  rw [← hon]
  exact hall e (by simpa using he) hb
theorem edge_lt (hO : ordB L = true) {k j : Nat} (h : edgeB L k j = true) : j < k ∧ k < L.length := by
  have hk : k < L.length := by
    rcases Nat.lt_or_ge k L.length with h' | h'
    · exact h'
    · simp [edgeB, List.getElem?_eq_none h'] at h
  refine ⟨?_, hk⟩
  simp only [ordB, List.all_eq_true, List.mem_range] at hO
  have h1 := hO k hk
  have hk' : L[k]? = some L[k] := List.getElem?_eq_getElem hk
  rw [hk'] at h1
  simp only [edgeB, hk', Option.map_some, Option.getD_some, List.any_eq_true, Bool.and_eq_true, beq_iff_eq] at h
  obtain ⟨e, he, hb, hon⟩ := h
  simp only [Option.map_some, Option.getD_some, Array.all_eq_true_iff_forall_mem] at h1
  have h2 := h1 e (by simpa using he)
  rw [hb] at h2
  simp at h2
  omega
theorem getD_tf {listed : Array Bool} {j : Nat} (h : listed.getD j false = true) : listed.getD j true = true := by
  rcases Nat.lt_or_ge j listed.size with h' | h'
  · simp [h'] at h ⊢; exact h
  · simp [Array.getElem?_eq_none h'] at h

theorem all_before (hO : ordB L = true) (hdn : downB L m = true) {listed : Array Bool} (hc : Closed L listed) (hr : m ∈ Region.ready .any L.toArray listed) : ∀ j, j < m → listed.getD j false = true := by
  obtain ⟨_, o', ho', hall⟩ := mem_ready.1 hr
  have ho : L[m]? = some o' := by simpa using ho'
  simp only [downB, List.all_eq_true, List.mem_range, List.any_eq_true] at hdn
  have key : ∀ d j, j + d + 1 = m → listed.getD j false = true := by
    intro d
    induction d using Nat.strongRecOn with
    | ind d ih =>
      intro j hj
      obtain ⟨k, hk, he⟩ := hdn j (by omega)
      have hlt := edge_lt hO he
      by_cases hkm : k = m
      · subst hkm; exact edge_listed he ho hall
      · have h3 := ih (m - k - 1) (by omega) k (by omega)
        exact edge_listed he (List.getElem?_eq_getElem hlt.2) (hc k _ (List.getElem?_eq_getElem hlt.2) h3)
  intro j hj
  exact key (m - j - 1) j (by omega)

theorem late_not (hsq : seqB L m = true) {listed : Array Bool} (hc : Closed L listed) (hm : listed.getD m false = false) : ∀ k, k ∈ Region.ready .any L.toArray listed → k ≤ m := by
  intro k hk
  obtain ⟨_, x, hx, hall⟩ := mem_ready.1 hk
  have hx' : L[k]? = some x := by simpa using hx
  have hkl : k < L.length := (List.getElem?_eq_some_iff.1 hx').1
  simp only [seqB, List.all_eq_true, List.mem_range, Bool.or_eq_true, decide_eq_true_eq] at hsq
  rcases Nat.lt_or_ge m k with hmk | hmk
  · exfalso
    have key : ∀ d j, m + d = j → j < k → listed.getD j false = true → False := by
      intro d
      induction d with
      | zero => intro j hj _ h; rw [← hj] at h; simp only [Nat.add_zero] at h; rw [hm] at h; cases h
      | succ d ih =>
        intro j hj hjk h
        have hjl : j < L.length := by omega
        have he := (hsq j hjl).resolve_left (by omega)
        exact ih (j - 1) (by omega) (by omega) (edge_listed he (List.getElem?_eq_getElem hjl) (hc j _ (List.getElem?_eq_getElem hjl) h))
    have he := (hsq k hkl).resolve_left (by omega)
    exact key (k - 1 - m) (k - 1) (by omega) (by omega) (edge_listed he hx' hall)
  · exact hmk

theorem tail_seq {Q : Exit → Act → World → Prop} (hO : ordB L = true) (hsq : seqB L m = true) : ∀ (T : List Oper) (c : Nat), m ≤ c → L.drop c = T → ∀ (F : Nat) (listed : Array Bool) (a : Act) (w : World), T.length ≤ F → listed.size = L.length →
    (∀ j, j < L.length → (listed.getD j true = true ↔ j < c)) → wpList P L.toArray Q T a w → wpAny P .any L.toArray Q F listed a w := by
  intro T
  induction T with
  | nil =>
    intro c hmc hT F listed a w hF hs hl h
    have hcl : L.length ≤ c := by simpa using hT
    have hn : Region.ready .any L.toArray listed = [] := by
      apply List.eq_nil_iff_forall_not_mem.2
      intro j hj
      obtain ⟨h0, x, hx, _⟩ := mem_ready.1 hj
      have hjl : j < L.length := by have := (Array.getElem?_eq_some_iff.1 hx).1; simpa using this
      rw [(hl j hjl).2 (by omega)] at h0
      cases h0
    cases F with
    | zero => exact ⟨hn, h⟩
    | succ F => exact ⟨fun _ => h, fun i hi => by rw [hn] at hi; cases hi⟩
  | cons o T ih =>
    intro c hmc hT F listed a w hF hs hl h
    have hcl : c < L.length := by
      rcases Nat.lt_or_ge c L.length with h' | h'
      · exact h'
      · rw [List.drop_eq_nil_of_le h'] at hT; cases hT
    have ho : L[c]? = some o := by
      have := congrArg (fun l => l[0]?) hT
      simpa using this
    have hT' : L.drop (c + 1) = T := by
      have := congrArg List.tail hT
      simpa [List.tail_drop] using this
    obtain ⟨F, rfl⟩ : ∃ F', F = F' + 1 := ⟨F - 1, by simp at hF; omega⟩
    have hun : listed.getD c true = false := by
      cases hx : listed.getD c true with
      | false => rfl
      | true => have := (hl c hcl).1 hx; omega
    refine ⟨fun h0 => absurd h0 (ready_some hO hs c hcl hun), fun i hi => ?_⟩
    obtain ⟨h0, x, hx, hall⟩ := mem_ready.1 hi
    have hx' : L[i]? = some x := by simpa using hx
    have hil : i < L.length := (List.getElem?_eq_some_iff.1 hx').1
    have hic : ¬ i < c := fun hh => by rw [(hl i hil).2 hh] at h0; cases h0
    have : i = c := by
      rcases Nat.lt_or_ge c i with hci | hci
      · exfalso
        simp only [seqB, List.all_eq_true, List.mem_range, Bool.or_eq_true, decide_eq_true_eq] at hsq
        have he := (hsq i hil).resolve_left (by omega)
        have h3 := getD_tf (edge_listed he hx' hall)
        have := (hl (i - 1) (by omega)).1 h3
        omega
      · omega
    subst this
    unfold wpOp
    have ho' : L.toArray[i]? = some o := by simpa using ho
    simp only [ho']
    have hl' : ∀ j, j < L.length → ((listed.setIfInBounds i true).getD j true = true ↔ j < i + 1) := by
      intro j hj
      by_cases e : i = j
      · subst e; simp [show i < listed.size by omega]
      · rw [getD_set_ne true e, hl j hj]; omega
    have step : ∀ a' w', wpList P L.toArray Q T a' w' → wpAny P .any L.toArray Q F (listed.setIfInBounds i true) a' w' := fun a' w' hh =>
      ih (i + 1) (by omega) hT' F _ a' w' (by simp at hF; omega) (by simpa using hs) hl' hh
    simp only [wpList] at h
    split at h
    · rename_i hw; rw [if_pos hw]; exact h.imp_left fun h2 => Oper.wp_mono step h2
    · rename_i hw; rw [if_neg hw]; exact step _ _ h

end
end Go.Proofs.YtkogejglfgghmaaDoor

namespace Go.Proofs.YtkogejglfgghmaaDoor
open Go Go.RowKit Go.Sort

section
variable {P : Program}

theorem put_ne (a : Act) (x : Option Tmp) (v : Value) (d : Tmp) (h : x ≠ some d) : (a.put x v).tmps[d]? = a.tmps[d]? := by
  cases x with
  | none => rfl
  | some e =>
    have : e ≠ d := fun h' => h (by rw [h'])
    simp [Act.put, Array.getElem?_setIfInBounds_ne this]
theorem put_same (a : Act) (x : Option Tmp) (v v1 : Value) (h : ∀ d, x = some d → (a.put x v).tmps[d]? = (a.put x v1).tmps[d]?) : a.put x v = a.put x v1 := by
  cases x with
  | none => rfl
  | some d =>
    have h1 := h d rfl
    rcases Nat.lt_or_ge d a.tmps.size with hd | hd
    · simp [Act.put, hd] at h1
      rw [h1]
    · simp [Act.put, Array.setIfInBounds_eq_of_size_le hd]

theorem slot_kept {ops : Array Oper} {C : World → Prop} {af : Act} {d : Tmp} : ∀ (k : Nat) (listed : Array Bool) (a : Act), wpAnyQ P .any ops C (fun x => x = af) k listed a →
    (∀ i o, ops[i]? = some o → listed.getD i true = false → o.dst ≠ some d) → af.tmps[d]? = a.tmps[d]? := by
  intro k
  induction k with
  | zero => intro listed a H _; rw [H.2]
  | succ k ih =>
    intro listed a H hd
    cases hr : Region.ready .any ops listed with
    | nil => rw [H.1 hr]
    | cons i l =>
      have hi : i ∈ Region.ready .any ops listed := by rw [hr]; simp
      obtain ⟨h0, o, ho, _⟩ := mem_ready.1 hi
      obtain ⟨v, _, hK⟩ := yieldsIn_of_qOp ho (H.2 i hi)
      rw [ih _ _ hK (fun j o' ho' hun => hd j o' ho' (by
        by_cases e : i = j
        · subst e; exact h0
        · rw [getD_set_ne true e] at hun; exact hun)), put_ne _ _ _ _ (hd i o ho h0)]

theorem any_irrel {ops : Array Oper} {C : World → Prop} {R : Act → Prop} {i : Nat} (hi : ops.size ≤ i) (hO : ∀ (j : Nat) (o : Oper), ops[j]? = some o → ∀ e ∈ o.after, Region.binds .any e = true → e.on < j) :
    ∀ (k : Nat) (listed : Array Bool) (a : Act), wpAnyQ P .any ops C R k listed a → wpAnyQ P .any ops C R k (listed.setIfInBounds i true) a := by
  have hm : ∀ (listed : Array Bool) (j : Nat), j ∈ Region.ready .any ops (listed.setIfInBounds i true) ↔ j ∈ Region.ready .any ops listed := by
    intro listed j
    rw [mem_ready, mem_ready]
    constructor
    · rintro ⟨h0, o, ho, hall⟩
      have hj : j < ops.size := (Array.getElem?_eq_some_iff.1 ho).1
      rw [getD_set_ne true (show i ≠ j by omega)] at h0
      exact ⟨h0, o, ho, fun e he hb => by have h1 := hall e he hb; have := hO j o ho e he hb; rwa [getD_set_ne false (show i ≠ e.on by omega)] at h1⟩
    · rintro ⟨h0, o, ho, hall⟩
      have hj : j < ops.size := (Array.getElem?_eq_some_iff.1 ho).1
      exact ⟨by rw [getD_set_ne true (show i ≠ j by omega)]; exact h0, o, ho, fun e he hb => getD_set_true (hall e he hb)⟩
  have hn : ∀ listed : Array Bool, Region.ready .any ops (listed.setIfInBounds i true) = [] ↔ Region.ready .any ops listed = [] := by
    intro listed
    rw [List.eq_nil_iff_forall_not_mem, List.eq_nil_iff_forall_not_mem]
    exact forall_congr' fun j => not_congr (hm listed j)
  intro k
  induction k with
  | zero => intro listed a H; exact ⟨(hn _).2 H.1, H.2⟩
  | succ k ih =>
    intro listed a H
    refine ⟨fun h => H.1 ((hn _).1 h), fun j hj => ?_⟩
    have hj' := (hm listed j).1 hj
    obtain ⟨_, o, ho, _⟩ := mem_ready.1 hj'
    have hjs : j < ops.size := (Array.getElem?_eq_some_iff.1 ho).1
    rw [Array.setIfInBounds_comm _ _ (show i ≠ j by omega)]
    exact qOp_mono (fun a' h => ih _ a' h) (H.2 j hj')

variable {L : List Oper} {q m : Nat} {Ts : List Tmp}

theorem take_at {i : Nat} (hi : i < q) : (L.take q).toArray[i]? = L.toArray[i]? := by
  simp [hi]

theorem wanted_take {i : Nat} {o : Oper} (hg : gdB L q = true) (ho : L[i]? = some o) (hi : i < q) (t : Array Value) : Region.wanted o (yielded (L.take q).toArray t) = Region.wanted o (yielded L.toArray t) := by
  have hmem : o ∈ L.take q := List.mem_iff_getElem?.2 ⟨i, by rw [List.getElem?_take, if_pos hi]; exact ho⟩
  simp only [gdB, List.all_eq_true] at hg
  have h1 := hg o hmem
  unfold Region.wanted
  cases hgd : o.guard with
  | none => rfl
  | some p =>
    obtain ⟨j, b⟩ := p
    rw [hgd] at h1
    simp at h1
    have : yielded (L.take q).toArray t j = yielded L.toArray t j := by
      unfold yielded
      rw [take_at h1]
    simp only [this]

theorem ap_look (h : apB L q Ts = true) {i : Nat} {o : Oper} (ho : L[i]? = some o) (hi : i < q) {t : Tmp} (ht : t ∈ Ts) : t ∉ o.looksAt L.toArray ∧ o.dst ≠ some t := by
  have hmem : o ∈ L.take q := List.mem_iff_getElem?.2 ⟨i, by rw [List.getElem?_take, if_pos hi]; exact ho⟩
  simp only [apB, List.all_eq_true] at h
  have h1 := h o hmem t ht
  simpa using h1

theorem exec_puts (o : Oper) (hs : ∀ cs b, o.op ≠ .select cs b) (l : List (Tmp × Value)) : ∀ a : Act, (∀ p ∈ l, p.1 ∉ o.looksAt L.toArray) → execOp (puts a l).eval o = execOp a.eval o := by
  induction l with
  | nil => intro a _; rfl
  | cons p l ih =>
    intro a h
    show execOp (puts (a.put (some p.1) p.2) l).eval o = _
    rw [ih _ (fun p' hp => h p' (by simp [hp])), execOp_put (ops := L.toArray) o hs a (some p.1) p.2 (fun d hd => by injection hd with hd; subst hd; exact h p (by simp))]
theorem wanted_puts (o : Oper) (l : List (Tmp × Value)) : ∀ a : Act, (∀ p ∈ l, p.1 ∉ o.looksAt L.toArray) → Region.wanted o (yielded L.toArray (puts a l).tmps) = Region.wanted o (yielded L.toArray a.tmps) := by
  induction l with
  | nil => intro a _; rfl
  | cons p l ih =>
    intro a h
    show Region.wanted o (yielded L.toArray (puts (a.put (some p.1) p.2) l).tmps) = _
    rw [ih _ (fun p' hp => h p' (by simp [hp])), wanted_put (ops := L.toArray) o a (some p.1) p.2 (fun d hd => by injection hd with hd; subst hd; exact h p (by simp))]

theorem ds_ne (h : dsB L q = true) {i j : Nat} {o o' : Oper} (hi : i < q) (hj : j < q) (ho : L[i]? = some o) (ho' : L[j]? = some o') (hij : i ≠ j) {d : Tmp} (hd : o.dst = some d) : o'.dst ≠ some d := by
  intro hd'
  simp only [dsB, decide_eq_true_eq] at h
  have key : ∀ (l : List Oper), (l.filterMap (·.dst)).Nodup → ∀ (i j : Nat), i < j → l[i]? = some o → l[j]? = some o' → False := by
    intro l
    induction l with
    | nil => intro _ i j _ h1; simp at h1
    | cons x l ih =>
      intro hn i j hlt h1 h2
      cases i with
      | zero =>
        simp at h1
        subst h1
        obtain ⟨j, rfl⟩ : ∃ j', j = j' + 1 := ⟨j - 1, by omega⟩
        simp at h2
        rw [List.filterMap_cons, hd] at hn
        simp only [List.nodup_cons] at hn
        exact hn.1 (List.mem_filterMap.2 ⟨o', List.mem_iff_getElem?.2 ⟨j, h2⟩, hd'⟩)
      | succ i =>
        obtain ⟨j, rfl⟩ : ∃ j', j = j' + 1 := ⟨j - 1, by omega⟩
        simp at h1 h2
        refine ih ?_ i j (by omega) h1 h2
        rw [List.filterMap_cons] at hn
        cases hx : x.dst with
        | none => simpa [hx] using hn
        | some _ => rw [hx] at hn; simp only [List.nodup_cons] at hn; exact hn.2
  have hi' : (L.take q)[i]? = some o := by rw [List.getElem?_take, if_pos hi]; exact ho
  have hj' : (L.take q)[j]? = some o' := by rw [List.getElem?_take, if_pos hj]; exact ho'
  rcases Nat.lt_or_ge i j with hlt | hge
  · exact key _ h i j hlt hi' hj'
  · have key2 : ∀ (l : List Oper), (l.filterMap (·.dst)).Nodup → ∀ (i j : Nat), j < i → l[i]? = some o → l[j]? = some o' → False := by
      intro l
      induction l with
      | nil => intro _ i j _ h1; simp at h1
      | cons x l ih =>
        intro hn i j hlt h1 h2
        cases j with
        | zero =>
          simp at h2
          subst h2
          obtain ⟨i, rfl⟩ : ∃ j', i = j' + 1 := ⟨i - 1, by omega⟩
          simp at h1
          rw [List.filterMap_cons, hd'] at hn
          simp only [List.nodup_cons] at hn
          exact hn.1 (List.mem_filterMap.2 ⟨o, List.mem_iff_getElem?.2 ⟨i, h1⟩, hd⟩)
        | succ j =>
          obtain ⟨i, rfl⟩ : ∃ j', i = j' + 1 := ⟨i - 1, by omega⟩
          simp at h1 h2
          refine ih ?_ i j (by omega) h1 h2
          rw [List.filterMap_cons] at hn
          cases hx : x.dst with
          | none => simpa [hx] using hn
          | some _ => rw [hx] at hn; simp only [List.nodup_cons] at hn; exact hn.2
    exact key2 _ h i j (by omega) hi' hj'

end
end Go.Proofs.YtkogejglfgghmaaDoor

namespace Go.Proofs.YtkogejglfgghmaaDoor
open Go Go.RowKit Go.Sort

section
variable {P : Program} {L : List Oper} {q m : Nat} {Ts : List Tmp}

def ptrs (g : Tmp → Nat) (l : List Tmp) : List (Tmp × Value) := l.map fun t => (t, .pointer (some ⟨g t, 0, none⟩))
theorem ptrs_keys (g : Tmp → Nat) : ∀ l : List Tmp, (ptrs g l).map (·.1) = l
  | [] => rfl
  | t :: l => congrArg (t :: ·) (ptrs_keys g l)
theorem ptrs_key {g : Tmp → Nat} {l : List Tmp} {p : Tmp × Value} (h : p ∈ ptrs g l) : p.1 ∈ l := by
  simp only [ptrs, List.mem_map] at h
  obtain ⟨t, ht, rfl⟩ := h
  exact ht

theorem nodup_len : ∀ (l l' : List Tmp), l.Nodup → (∀ x ∈ l, x ∈ l') → l.length ≤ l'.length
  | [], _, _, _ => Nat.zero_le _
  | x :: l, l', hn, h => by
    have hn' := List.nodup_cons.1 hn
    have hx := h x (by simp)
    have ih := nodup_len l (l'.erase x) hn'.2 (fun y hy => (List.mem_erase_of_ne (fun e => by subst e; exact hn'.1 hy)).2 (h y (by simp [hy])))
    rw [List.length_erase_of_mem hx] at ih
    have := List.length_pos_of_mem hx
    simp
    omega

/-- What is known of the operations that lay a block. -/
def Lays (P : Program) (L : List Oper) (q m : Nat) (Ts : List Tmp) (zb : Tmp → Obj) : Prop :=
  ∀ s, q ≤ s → s < m → ∃ o t, L[s]? = some o ∧ o.dst = some t ∧ o.guard = none ∧ Ts[s - q]? = some t ∧ ∀ (a : Act) (w : World), (execOp a.eval o).run P w = .ok (.value (.pointer (some ⟨w.heap.size, 0, none⟩))) (w.alloc (zb t))

theorem hp_new (w : World) (o : Obj) : (w.alloc o).heap[w.heap.size]? = some o := by
  show (w.heap.push o)[w.heap.size]? = _
  rw [Array.getElem?_push, if_pos rfl]

theorem alloc_go {w0 : World} {af : Act} {Q : Exit → Act → World → Prop} {zb : Tmp → Obj} (hqm : q ≤ m) (hml : m < L.length) (hO : ordB L = true) (hap : apB L q Ts = true) (hgd : gdB L q = true) (hds : dsB L q = true) (hdn : downB L m = true) (hsq : seqB L m = true)
    (hns : Region.noSelect L.toArray = true) (hTl : Ts.length = m - q) (hTn : Ts.Nodup) (hal : Lays P L q m Ts zb)
    (hfin : ∀ (w : World) (g : Tmp → Nat), Below w0.heap.size w0 w → (∀ t ∈ Ts, w0.heap.size ≤ g t ∧ w.heap[g t]? = some (zb t)) → (∀ t ∈ Ts, ∀ t' ∈ Ts, t ≠ t' → g t ≠ g t') → wpList P L.toArray Q (L.drop m) (puts af (ptrs g Ts)) w) :
    ∀ (F k : Nat) (listed : Array Bool) (a : Act) (w : World) (done : List Tmp) (g : Tmp → Nat), k + (m - q - done.length) + (L.length - m) ≤ F → listed.size = L.length → Closed L listed →
      (∀ j, m ≤ j → j < L.length → listed.getD j true = false) → (∀ w1, Below w0.heap.size w0 w1 → wpAnyQ P .any (L.take q).toArray (Cl w1) (fun x => x = af) k listed a) → Below w0.heap.size w0 w →
      done.Nodup → (∀ s, q ≤ s → s < m → ∀ t, Ts[s - q]? = some t → (listed.getD s true = true ↔ t ∈ done)) → (∀ t ∈ done, t ∈ Ts) →
      (∀ t ∈ done, w0.heap.size ≤ g t ∧ w.heap[g t]? = some (zb t)) → (∀ t ∈ done, ∀ t' ∈ done, t ≠ t' → g t ≠ g t') →
      wpAny P .any L.toArray Q F listed (puts a (ptrs g done)) w := by
  have hml' : ∀ listed : Array Bool, listed.getD m true = false → listed.getD m false = false := fun listed h => by
    cases hx : listed.getD m false with
    | false => rfl
    | true => rw [getD_tf hx] at h; cases h
  have hT0 : (L.take q).length = q := by simp; omega
  intro F
  induction F with
  | zero => intro k listed a w done g hF; omega
  | succ F ih =>
    intro k listed a w done g hF hs hc hT H1 hbw hdn' hd2 hd3 hd4 hd5
    have hm0 := hml' listed (hT m (Nat.le_refl _) hml)
    by_cases hmr : m ∈ Region.ready .any L.toArray listed
    · -- all is done but what stands at the end
      have hall := all_before hO hdn hc hmr
      have hn0 : Region.ready .any (L.take q).toArray listed = [] := by
        apply List.eq_nil_iff_forall_not_mem.2
        intro j hj
        obtain ⟨h0, x, hx, _⟩ := mem_ready.1 hj
        have hjq : j < q := by have := (Array.getElem?_eq_some_iff.1 hx).1; simp at this; omega
        rw [getD_tf (hall j (by omega))] at h0
        cases h0
      have haf : a = af := by
        have h := H1 w hbw
        cases k with
        | zero => exact h.2
        | succ k => exact h.1 hn0
      have hperm : done.Perm Ts := by
        refine (List.perm_ext_iff_of_nodup hdn' hTn).2 fun t => ⟨hd3 t, fun ht => ?_⟩
        obtain ⟨i, hi⟩ := List.mem_iff_getElem?.1 ht
        have hil : i < m - q := by rw [← hTl]; exact (List.getElem?_eq_some_iff.1 hi).1
        exact (hd2 (q + i) (by omega) (by omega) t (by rw [show q + i - q = i by omega]; exact hi)).1 (getD_tf (hall (q + i) (by omega)))
      have hputs : puts a (ptrs g done) = puts af (ptrs g Ts) := by
        rw [haf]
        refine puts_perm (hperm.map _) af ?_
        have hk := ptrs_keys g done
        unfold ptrs at hk
        rw [hk]; exact hdn'
      rw [hputs]
      have hmem := fun t (ht : t ∈ Ts) => hperm.mem_iff.2 ht
      refine tail_seq hO hsq _ m (Nat.le_refl _) rfl (F + 1) listed _ w (by simp; omega) hs (fun j hj => ?_) (hfin w g hbw (fun t ht => hd4 t (hmem t ht)) (fun t ht t' ht' hne => hd5 t (hmem t ht) t' (hmem t' ht') hne))
      constructor
      · intro h
        rcases Nat.lt_or_ge j m with h' | h'
        · exact h'
        · rw [hT j h' hj] at h; cases h
      · intro h; exact getD_tf (hall j h)
    · refine ⟨fun h0 => absurd h0 (ready_some hO hs m hml (hT m (Nat.le_refl _) hml)), fun i hi => ?_⟩
      have him := late_not hsq hc hm0 i hi
      have hine : i ≠ m := fun e => hmr (e ▸ hi)
      obtain ⟨h0, o, ho', hall⟩ := mem_ready.1 hi
      have ho : L[i]? = some o := by simpa using ho'
      have hs' : (listed.setIfInBounds i true).size = L.length := by simpa using hs
      have hc' := hc.set hi
      have hT' : ∀ j, m ≤ j → j < L.length → (listed.setIfInBounds i true).getD j true = false := fun j h1 h2 => by rw [getD_set_ne true (show i ≠ j by omega)]; exact hT j h1 h2
      rcases Nat.lt_or_ge i q with hiq | hiq
      · -- a quiet operation
        have hi0 : i ∈ Region.ready .any (L.take q).toArray listed := mem_ready.2 ⟨h0, o, by rw [take_at hiq]; exact ho', hall⟩
        have ho0 : (L.take q).toArray[i]? = some o := by rw [take_at hiq]; exact ho'
        obtain ⟨k, rfl⟩ : ∃ k', k = k' + 1 := by
          cases k with
          | zero => have h := (H1 w hbw).1; rw [h] at hi0; cases hi0
          | succ k => exact ⟨k, rfl⟩
        have hY := fun w1 hw1 => yieldsIn_of_qOp ho0 ((H1 w1 hw1).2 i hi0)
        obtain ⟨v, hv, hK⟩ := hY w hbw
        have hdst : ∀ d, o.dst = some d → ∀ (j : Nat) (x : Oper), (L.take q).toArray[j]? = some x → (listed.setIfInBounds i true).getD j true = false → x.dst ≠ some d := fun d hd j x hx hun => by
          have hjq : j < q := by have := (Array.getElem?_eq_some_iff.1 hx).1; simp at this; omega
          have hli : i < listed.size := by have := (List.getElem?_eq_some_iff.1 ho).1; omega
          have hij : i ≠ j := fun e => by subst e; simp [hli] at hun
          rw [take_at hjq] at hx
          exact ds_ne hds hiq hjq ho (by simpa using hx) hij hd
        have H1' : ∀ w1, Below w0.heap.size w0 w1 → wpAnyQ P .any (L.take q).toArray (Cl w1) (fun x => x = af) k (listed.setIfInBounds i true) (a.put o.dst v) := fun w1 hw1 => by
          obtain ⟨v1, _, hK1⟩ := hY w1 hw1
          have e : a.put o.dst v = a.put o.dst v1 := put_same a o.dst v v1 fun d hd => by
            rw [← slot_kept k _ _ hK (hdst d hd), ← slot_kept k _ _ hK1 (hdst d hd)]
          rw [e]; exact hK1
        have hkeys : ∀ p ∈ ptrs g done, p.1 ∉ o.looksAt L.toArray := fun p hp => (ap_look hap ho hiq (hd3 _ (ptrs_key hp))).1
        have hdk : ∀ p ∈ ptrs g done, o.dst ≠ some p.1 := fun p hp => (ap_look hap ho hiq (hd3 _ (ptrs_key hp))).2
        have hd2' : ∀ s, q ≤ s → s < m → ∀ t, Ts[s - q]? = some t → ((listed.setIfInBounds i true).getD s true = true ↔ t ∈ done) := fun s h1 h2 t ht => by rw [getD_set_ne true (show i ≠ s by omega)]; exact hd2 s h1 h2 t ht
        have next : ∀ w', Cl w w' → wpAny P .any L.toArray Q F (listed.setIfInBounds i true) ((puts a (ptrs g done)).put o.dst v) w' := fun w' hw' => by
          rw [puts_put _ _ _ _ hdk]
          have hb := hw'.below
          refine ih k _ _ w' done g (by omega) hs' hc' hT' H1' (hbw.trans (hb.mono hbw.size)) hdn' hd2' hd3 (fun t ht => ⟨(hd4 t ht).1, ?_⟩) hd5
          have h1 := (hd4 t ht).2
          rw [hb.block _ (Array.getElem?_eq_some_iff.1 h1).1]; exact h1
        unfold wpOp
        simp only [ho']
        have hw1 : Region.wanted o (yielded L.toArray (puts a (ptrs g done)).tmps) = Region.wanted o (yielded (L.take q).toArray a.tmps) := by rw [wanted_puts o _ a hkeys, wanted_take hgd ho hiq]
        rcases hv with ⟨hw, hv⟩ | ⟨hw, rfl⟩
        · rw [hw1, if_pos hw]
          refine .inl (Oper.wp_of_quiet (C := Cl w) (K := fun x => x = (puts a (ptrs g done)).put o.dst v) (Cl.refl w) (fun a2 w' hw' he => by rw [he]; exact next w' hw') ⟨v, fun W hW => ?_, rfl⟩)
          have := hv W hW
          unfold Oper.quietAt at this ⊢
          rwa [exec_puts o (Region.noSelect_spec hns i o · · ho') _ a hkeys]
        · rw [hw1, if_neg (by rw [hw]; decide)]
          exact next w (Cl.refl w)
      · -- a new block
        obtain ⟨o2, t, ho2, hdt, hg0, hTs, hrun⟩ := hal i hiq (by omega)
        have : o2 = o := by rw [ho] at ho2; injection ho2 with h; exact h.symm
        subst this
        have htd : t ∉ done := fun h => by rw [(hd2 i hiq (by omega) t hTs).2 h] at h0; cases h0
        have htT : t ∈ Ts := List.mem_iff_getElem?.2 ⟨_, hTs⟩
        unfold wpOp
        simp only [ho']
        rw [if_pos (by simp [Region.wanted, hg0])]
        refine .inl ?_
        unfold Oper.wp
        rw [hrun]
        simp only [Oper.upon]
        rw [hdt]
        have hlen : done.length < m - q := by
          have hsub : (t :: done).length ≤ Ts.length := nodup_len _ _ (List.nodup_cons.2 ⟨htd, hdn'⟩) (fun x hx => by rcases List.mem_cons.1 hx with rfl | h; exact htT; exact hd3 x h)
          simp at hsub; omega
        let g' : Tmp → Nat := fun x => if x = t then w.heap.size else g x
        have hg' : ∀ x ∈ done, g' x = g x := fun x hx => by show (if x = t then _ else _) = _; rw [if_neg (fun e : x = t => htd (e ▸ hx))]
        have hgt : g' t = w.heap.size := by show (if t = t then _ else _) = _; rw [if_pos rfl]
        have e1 : (puts a (ptrs g done)).put (some t) (.pointer (some ⟨w.heap.size, 0, none⟩)) = puts a (ptrs g' (done ++ [t])) := by
          have e2 : ptrs g' (done ++ [t]) = ptrs g done ++ [(t, .pointer (some ⟨w.heap.size, 0, none⟩))] := by
            simp only [ptrs, List.map_append, List.map_cons, List.map_nil, hgt]
            congr 1
            exact List.map_congr_left fun x hx => by rw [hg' x hx]
          rw [e2, puts_snoc]
        rw [e1]
        have hszw := hbw.size
        have hlt : ∀ x ∈ done, g x < w.heap.size := fun x hx => (Array.getElem?_eq_some_iff.1 (hd4 x hx).2).1
        refine ih k _ _ _ (done ++ [t]) g' (by simp; omega) hs' hc' hT' (fun w1 hw1 => any_irrel (by simp; omega) (fun j x hx e he hb => ?_) k _ _ (H1 w1 hw1)) (hbw.alloc hszw _) ?_ (fun s h1 h2 t' ht' => ?_) (fun x hx => ?_) (fun x hx => ?_) (fun x hx x' hx' hne => ?_)
        · have hjq : j < q := by have := (Array.getElem?_eq_some_iff.1 hx).1; simp at this; omega
          rw [take_at hjq] at hx
          have hx' : L[j]? = some x := by simpa using hx
          have hO' := hO
          simp only [ordB, List.all_eq_true, List.mem_range] at hO'
          have h1 := hO' j (List.getElem?_eq_some_iff.1 hx').1
          rw [hx'] at h1
          simp only [Option.map_some, Option.getD_some, Array.all_eq_true_iff_forall_mem] at h1
          have h2 := h1 e he
          rw [hb] at h2
          simpa using h2
        · exact List.nodup_append.2 ⟨hdn', by simp, fun x hx y hy => by simp at hy; subst hy; exact fun e => htd (e ▸ hx)⟩
        · by_cases e : i = s
          · subst e
            rw [hTs] at ht'
            injection ht' with ht'
            subst ht'
            have hlt2 : i < listed.size := by have := (List.getElem?_eq_some_iff.1 ho).1; omega
            simp [hlt2]
          · rw [getD_set_ne true e, hd2 s h1 h2 t' ht']
            constructor
            · intro h; simp [h]
            · intro h
              rcases List.mem_append.1 h with h | h
              · exact h
              · exfalso
                simp at h
                subst h
                have h5 : s - q = i - q := by
                  have a1 := (List.getElem?_eq_some_iff.1 ht')
                  have a2 := (List.getElem?_eq_some_iff.1 hTs)
                  exact (List.getElem_inj hTn).1 (a1.2.trans a2.2.symm)
                omega
        · rcases List.mem_append.1 hx with h | h
          · exact hd3 x h
          · simp at h; subst h; exact htT
        · rcases List.mem_append.1 hx with h | h
          · rw [hg' x h]
            refine ⟨(hd4 x h).1, ?_⟩
            rw [Below.heap_alloc _ _ _ (hlt x h)]; exact (hd4 x h).2
          · simp at h
            subst h
            rw [hgt]
            exact ⟨hszw, hp_new w _⟩
        · rcases List.mem_append.1 hx with h | h <;> rcases List.mem_append.1 hx' with h' | h'
          · rw [hg' x h, hg' x' h']; exact hd5 x h x' h' hne
          · simp at h'; subst h'; rw [hg' x h, hgt]; have := hlt x h; omega
          · simp at h; subst h; rw [hg' x' h', hgt]; have := hlt x' h'; omega
          · simp at h h'; subst h h'; exact absurd rfl hne

/-- **THE RULE.** 'af': the frame behind the quiet operations. -/
theorem wp_region_alloc {id : Nat} {Q : Exit → Act → World → Prop} {a : Act} {w : World} (q m : Nat) (Ts : List Tmp) (zb : Tmp → Obj) (af : Act) (hm : P.follows .mixedOrders = true) (hqm : q ≤ m) (hml : m < L.length) (hO : ordB L = true) (hap : apB L q Ts = true) (hgd : gdB L q = true) (hds : dsB L q = true)
    (hdn : downB L m = true) (hsq : seqB L m = true) (hns : Region.noSelect L.toArray = true) (hlex : Region.noSelect (L.take q).toArray = true ∧ Region.lexFrom .any (L.take q).toArray q 0 (Array.replicate L.length false) = true) (hTl : Ts.length = m - q) (hTn : Ts.Nodup) (hal : Lays P L q m Ts zb)
    (hq : ∀ w1, Below w.heap.size w w1 → wpQuiet P (L.take q).toArray (fun W => ∃ p : Regrown, W = grow (redrawn w1 p.d) p.os) (fun x => x = af) (L.take q) a)
    (hfin : ∀ (w1 : World) (g : Tmp → Nat), Below w.heap.size w w1 → (∀ t ∈ Ts, w.heap.size ≤ g t ∧ w1.heap[g t]? = some (zb t)) → (∀ t ∈ Ts, ∀ t' ∈ Ts, t ≠ t' → g t ≠ g t') → wpList P L.toArray Q (L.drop m) (puts af (ptrs g Ts)) w1) :
    (Code.region id L.toArray true).wp P Q a w := by
  have hw0 : Below w.heap.size w { w with drawn := w.drawn + 1 } := ⟨rfl, rfl, rfl, Nat.le_refl _, fun _ _ => rfl⟩
  have hlen : (L.take q).length = q := by simp; omega
  refine wp_region_any hm ?_
  have h := alloc_go (w0 := w) (af := af) (Q := Q) hqm hml hO hap hgd hds hdn hsq hns hTl hTn hal hfin L.toArray.size q (Array.replicate L.toArray.size false) a { w with drawn := w.drawn + 1 } [] (fun _ => 0) (by simp; omega) (by simp)
    (fun k x hx hk => by simp only [Array.getD_eq_getD_getElem?, Array.getElem?_replicate] at hk; split at hk <;> simp at hk)
    (fun j _ hj => by simp [hj]) (fun w1 hw1 => ?_) hw0 List.nodup_nil (fun s _ hs t _ => by simp [show s < L.length by omega]) (by simp) (by simp) (by simp)
  · simpa [ptrs, puts] using h
  · have := wpAnyQ_lex (C := Cl w1) (md := .any) hlex.1 (L.take q) 0 (Array.replicate L.length false) a (by simp) (by rw [hlen]; exact hlex.2) (hq w1 hw1)
    rw [hlen] at this
    simpa using this

/-- The same, the frame left to the walk. -/
theorem wp_region_alloc_ex {id : Nat} {Q : Exit → Act → World → Prop} {a : Act} {w : World} (q m : Nat) (Ts : List Tmp) (zb : Tmp → Obj) (hm : P.follows .mixedOrders = true) (hqm : q ≤ m) (hml : m < L.length) (hO : ordB L = true) (hap : apB L q Ts = true) (hgd : gdB L q = true) (hds : dsB L q = true)
    (hdn : downB L m = true) (hsq : seqB L m = true) (hns : Region.noSelect L.toArray = true) (hlex : (Region.noSelect (L.take q).toArray && Region.lexFrom .any (L.take q).toArray q 0 (Array.replicate L.length false)) = true) (hTl : Ts.length = m - q) (hTn : Ts.Nodup) (hal : Lays P L q m Ts zb)
    (h : ∃ af, (∀ w1, Below w.heap.size w w1 → wpQuiet P (L.take q).toArray (fun W => ∃ p : Regrown, W = grow (redrawn w1 p.d) p.os) (fun x => x = af) (L.take q) a) ∧
      (∀ (w1 : World) (g : Tmp → Nat), Below w.heap.size w w1 → (∀ t ∈ Ts, w.heap.size ≤ g t ∧ w1.heap[g t]? = some (zb t)) → (∀ t ∈ Ts, ∀ t' ∈ Ts, t ≠ t' → g t ≠ g t') → wpList P L.toArray Q (L.drop m) (puts af (ptrs g Ts)) w1)) :
    (Code.region id L.toArray true).wp P Q a w := by
  obtain ⟨af, h1, h2⟩ := h
  exact wp_region_alloc q m Ts zb af hm hqm hml hO hap hgd hds hdn hsq hns (by simpa using hlex) hTl hTn hal h1 h2

end
end Go.Proofs.YtkogejglfgghmaaDoor

namespace Go.Proofs.YtkogejglfgghmaaDoor
open Go.RowKit

/-! Plain numbers. Nothing of the program stands here. -/

/-- The digit of n at place i, to the base 2^16. -/
def dg (n : Int) (i : Nat) : Int := n / 65536 ^ i % 65536
theorem dg_bd (n : Int) (i : Nat) : 0 ≤ dg n i ∧ dg n i < 65536 := by unfold dg; omega
def valL : List Int → Int
  | [] => 0
  | d :: ds => d + 65536 * valL ds
theorem dg_zero (d v : Int) (h0 : 0 ≤ d) (h1 : d < 65536) : dg (d + 65536 * v) 0 = d := by unfold dg; simp; omega
theorem dg_succ (d v : Int) (i : Nat) (h0 : 0 ≤ d) (h1 : d < 65536) : dg (d + 65536 * v) (i + 1) = dg v i := by
  unfold dg
  have e : (65536 : Int) ^ (i + 1) = 65536 * 65536 ^ i := by rw [Int.pow_succ, Int.mul_comm]
  rw [e, ← Int.ediv_ediv_of_nonneg (by omega)]
  have : (d + 65536 * v) / 65536 = v := by omega
  rw [this]
/-- Digits are what they are. -/
theorem dg_valL : ∀ (ds : List Int) (_ : ∀ d ∈ ds, 0 ≤ d ∧ d < 65536) (i : Nat) (h : i < ds.length), dg (valL ds) i = ds[i]
  | d :: ds, hd, 0, _ => by
    have := hd d (by simp)
    simpa [valL] using dg_zero d (valL ds) this.1 this.2
  | d :: ds, hd, i + 1, h => by
    have := hd d (by simp)
    have h2 := dg_valL ds (fun x hx => hd x (by simp [hx])) i (by simpa using h)
    simp only [valL]
    rw [dg_succ d (valL ds) i this.1 this.2, h2]
    simp
theorem valL_lt : ∀ (ds : List Int) (_ : ∀ d ∈ ds, 0 ≤ d ∧ d < 65536), 0 ≤ valL ds ∧ valL ds < 65536 ^ ds.length
  | [], _ => by simp [valL]
  | d :: ds, hd => by
    have h1 := hd d (by simp)
    have h2 := valL_lt ds (fun x hx => hd x (by simp [hx]))
    simp only [valL, List.length_cons]
    have e : (65536 : Int) ^ (ds.length + 1) = 65536 * 65536 ^ ds.length := by rw [Int.pow_succ, Int.mul_comm]
    rw [e]
    omega

/-- The prime of the field. -/
def prm : Int := 57896044618658097711785492504343953926634992332820282019728792003956564819949
def geP (n : Int) : Bool := decide (57896044618658097711785492504343953926634992332820282019728792003956564819949 ≤ n)

/-- Sixteen digits as one number. -/
def v16 (d0 d1 d2 d3 d4 d5 d6 d7 d8 d9 d10 d11 d12 d13 d14 d15 : Int) : Int := valL [d0, d1, d2, d3, d4, d5, d6, d7, d8, d9, d10, d11, d12, d13, d14, d15]

end Go.Proofs.YtkogejglfgghmaaDoor

namespace Go.Proofs.YtkogejglfgghmaaDoor
open Go.RowKit

/-- What stands from 2^255 on counts 19 times. -/
def fold1 (v : Int) : Int := v % 57896044618658097711785492504343953926634992332820282019728792003956564819968 + 19 * (v / 57896044618658097711785492504343953926634992332820282019728792003956564819968)
def foldK : Nat → Int → Int
  | 0, v => v
  | k + 1, v => fold1 (foldK k v)
theorem hide {p : Prop} (h : p) : Hid p := h

theorem fold1_mod (v : Int) : fold1 v % prm = v % prm := by
  unfold fold1 prm
  have e : v % 57896044618658097711785492504343953926634992332820282019728792003956564819968 + 19 * (v / 57896044618658097711785492504343953926634992332820282019728792003956564819968) =
      v - 57896044618658097711785492504343953926634992332820282019728792003956564819949 * (v / 57896044618658097711785492504343953926634992332820282019728792003956564819968) := by omega
  rw [e, Int.sub_mul_emod_self_left]
theorem fold3 (N : Int) (h0 : 0 ≤ N) (h1 : N ≤ 1989323510513129302046236010170218017325036105421427022219231999999999999999999999999999999999) :
    0 ≤ foldK 3 N ∧ foldK 3 N < 57896044618658097711785492504343953926634992332820282019728792003956564819968 ∧ foldK 3 N % prm = N % prm := by
  refine ⟨?_, ?_, by simp only [foldK, fold1_mod]⟩
  · simp only [foldK, fold1]; omega
  · simp only [foldK, fold1]; omega

theorem dg_v16 (e0 e1 e2 e3 e4 e5 e6 e7 e8 e9 e10 e11 e12 e13 e14 e15 : Int) (h : ∀ d ∈ [e0, e1, e2, e3, e4, e5, e6, e7, e8, e9, e10, e11, e12, e13, e14, e15], 0 ≤ d ∧ d < 65536) : dg (v16 e0 e1 e2 e3 e4 e5 e6 e7 e8 e9 e10 e11 e12 e13 e14 e15) 0 = e0 ∧ dg (v16 e0 e1 e2 e3 e4 e5 e6 e7 e8 e9 e10 e11 e12 e13 e14 e15) 1 = e1 ∧ dg (v16 e0 e1 e2 e3 e4 e5 e6 e7 e8 e9 e10 e11 e12 e13 e14 e15) 2 = e2 ∧ dg (v16 e0 e1 e2 e3 e4 e5 e6 e7 e8 e9 e10 e11 e12 e13 e14 e15) 3 = e3 ∧ dg (v16 e0 e1 e2 e3 e4 e5 e6 e7 e8 e9 e10 e11 e12 e13 e14 e15) 4 = e4 ∧ dg (v16 e0 e1 e2 e3 e4 e5 e6 e7 e8 e9 e10 e11 e12 e13 e14 e15) 5 = e5 ∧ dg (v16 e0 e1 e2 e3 e4 e5 e6 e7 e8 e9 e10 e11 e12 e13 e14 e15) 6 = e6 ∧ dg (v16 e0 e1 e2 e3 e4 e5 e6 e7 e8 e9 e10 e11 e12 e13 e14 e15) 7 = e7 ∧ dg (v16 e0 e1 e2 e3 e4 e5 e6 e7 e8 e9 e10 e11 e12 e13 e14 e15) 8 = e8 ∧ dg (v16 e0 e1 e2 e3 e4 e5 e6 e7 e8 e9 e10 e11 e12 e13 e14 e15) 9 = e9 ∧ dg (v16 e0 e1 e2 e3 e4 e5 e6 e7 e8 e9 e10 e11 e12 e13 e14 e15) 10 = e10 ∧ dg (v16 e0 e1 e2 e3 e4 e5 e6 e7 e8 e9 e10 e11 e12 e13 e14 e15) 11 = e11 ∧ dg (v16 e0 e1 e2 e3 e4 e5 e6 e7 e8 e9 e10 e11 e12 e13 e14 e15) 12 = e12 ∧ dg (v16 e0 e1 e2 e3 e4 e5 e6 e7 e8 e9 e10 e11 e12 e13 e14 e15) 13 = e13 ∧ dg (v16 e0 e1 e2 e3 e4 e5 e6 e7 e8 e9 e10 e11 e12 e13 e14 e15) 14 = e14 ∧ dg (v16 e0 e1 e2 e3 e4 e5 e6 e7 e8 e9 e10 e11 e12 e13 e14 e15) 15 = e15 :=
  ⟨dg_valL _ h 0 (by simp), dg_valL _ h 1 (by simp), dg_valL _ h 2 (by simp), dg_valL _ h 3 (by simp), dg_valL _ h 4 (by simp), dg_valL _ h 5 (by simp), dg_valL _ h 6 (by simp), dg_valL _ h 7 (by simp), dg_valL _ h 8 (by simp), dg_valL _ h 9 (by simp), dg_valL _ h 10 (by simp), dg_valL _ h 11 (by simp), dg_valL _ h 12 (by simp), dg_valL _ h 13 (by simp), dg_valL _ h 14 (by simp), dg_valL _ h 15 (by simp)⟩
theorem v16_bd (e0 e1 e2 e3 e4 e5 e6 e7 e8 e9 e10 e11 e12 e13 e14 e15 : Int) (h : ∀ d ∈ [e0, e1, e2, e3, e4, e5, e6, e7, e8, e9, e10, e11, e12, e13, e14, e15], 0 ≤ d ∧ d < 65536) : 0 ≤ v16 e0 e1 e2 e3 e4 e5 e6 e7 e8 e9 e10 e11 e12 e13 e14 e15 ∧ v16 e0 e1 e2 e3 e4 e5 e6 e7 e8 e9 e10 e11 e12 e13 e14 e15 < 115792089237316195423570985008687907853269984665640564039457584007913129639936 := by
  have := valL_lt _ h
  simpa [v16] using this

theorem fold_step (e0 e1 e2 e3 e4 e5 e6 e7 e8 e9 e10 e11 e12 e13 e14 e15 c : Int) (le0 : 0 ≤ e0) (ue0 : e0 < 65536) (le1 : 0 ≤ e1) (ue1 : e1 < 65536) (le2 : 0 ≤ e2) (ue2 : e2 < 65536) (le3 : 0 ≤ e3) (ue3 : e3 < 65536) (le4 : 0 ≤ e4) (ue4 : e4 < 65536) (le5 : 0 ≤ e5) (ue5 : e5 < 65536) (le6 : 0 ≤ e6) (ue6 : e6 < 65536) (le7 : 0 ≤ e7) (ue7 : e7 < 65536) (le8 : 0 ≤ e8) (ue8 : e8 < 65536) (le9 : 0 ≤ e9) (ue9 : e9 < 65536) (le10 : 0 ≤ e10) (ue10 : e10 < 65536) (le11 : 0 ≤ e11) (ue11 : e11 < 65536) (le12 : 0 ≤ e12) (ue12 : e12 < 65536) (le13 : 0 ≤ e13) (ue13 : e13 < 65536) (le14 : 0 ≤ e14) (ue14 : e14 < 65536) :
    v16 (e0 + (c * 2 + e15 / 32768) * 19) e1 e2 e3 e4 e5 e6 e7 e8 e9 e10 e11 e12 e13 e14 (e15 % 32768) = fold1 (v16 e0 e1 e2 e3 e4 e5 e6 e7 e8 e9 e10 e11 e12 e13 e14 e15 + 115792089237316195423570985008687907853269984665640564039457584007913129639936 * c) := by
  have hX := v16_bd e0 e1 e2 e3 e4 e5 e6 e7 e8 e9 e10 e11 e12 e13 e14 (e15 % 32768) (by intro d hd; simp only [List.mem_cons, List.not_mem_nil, or_false] at hd; rcases hd with rfl | rfl | rfl | rfl | rfl | rfl | rfl | rfl | rfl | rfl | rfl | rfl | rfl | rfl | rfl | rfl <;> constructor <;> omega)
  have h1 : v16 (e0 + (c * 2 + e15 / 32768) * 19) e1 e2 e3 e4 e5 e6 e7 e8 e9 e10 e11 e12 e13 e14 (e15 % 32768) = v16 e0 e1 e2 e3 e4 e5 e6 e7 e8 e9 e10 e11 e12 e13 e14 (e15 % 32768) + 19 * (c * 2 + e15 / 32768) := by simp only [v16, valL]; omega
  have h2 : v16 e0 e1 e2 e3 e4 e5 e6 e7 e8 e9 e10 e11 e12 e13 e14 e15 + 115792089237316195423570985008687907853269984665640564039457584007913129639936 * c = v16 e0 e1 e2 e3 e4 e5 e6 e7 e8 e9 e10 e11 e12 e13 e14 (e15 % 32768) + 57896044618658097711785492504343953926634992332820282019728792003956564819968 * (c * 2 + e15 / 32768) := by simp only [v16, valL]; omega
  have h3 : v16 e0 e1 e2 e3 e4 e5 e6 e7 e8 e9 e10 e11 e12 e13 e14 (e15 % 32768) < 57896044618658097711785492504343953926634992332820282019728792003956564819968 := by simp only [v16, valL]; omega
  rw [h1, h2]
  unfold fold1
  generalize v16 e0 e1 e2 e3 e4 e5 e6 e7 e8 e9 e10 e11 e12 e13 e14 (e15 % 32768) = X at *
  generalize c * 2 + e15 / 32768 = h at *
  omega

end Go.Proofs.YtkogejglfgghmaaDoor

namespace Go.Proofs.YtkogejglfgghmaaDoor
open Go.RowKit

/-! Bytes, to the base 2^8. -/
def byt (n : Int) (i : Nat) : Int := n / 256 ^ i % 256
theorem byt_bd (n : Int) (i : Nat) : 0 ≤ byt n i ∧ byt n i < 256 := by unfold byt; omega
def valB : List Int → Int
  | [] => 0
  | d :: ds => d + 256 * valB ds
theorem valB_lt : ∀ (ds : List Int) (_ : ∀ d ∈ ds, 0 ≤ d ∧ d < 256), 0 ≤ valB ds ∧ valB ds < 256 ^ ds.length
  | [], _ => by simp [valB]
  | d :: ds, hd => by
    have h1 := hd d (by simp)
    have h2 := valB_lt ds (fun x hx => hd x (by simp [hx]))
    simp only [valB, List.length_cons]
    have e : (256 : Int) ^ (ds.length + 1) = 256 * 256 ^ ds.length := by rw [Int.pow_succ, Int.mul_comm]
    rw [e]
    omega
theorem byt_zero (d v : Int) (h0 : 0 ≤ d) (h1 : d < 256) : byt (d + 256 * v) 0 = d := by unfold byt; simp; omega
theorem byt_succ (d v : Int) (i : Nat) (h0 : 0 ≤ d) (h1 : d < 256) : byt (d + 256 * v) (i + 1) = byt v i := by
  unfold byt
  have e : (256 : Int) ^ (i + 1) = 256 * 256 ^ i := by rw [Int.pow_succ, Int.mul_comm]
  rw [e, ← Int.ediv_ediv_of_nonneg (by omega)]
  have : (d + 256 * v) / 256 = v := by omega
  rw [this]
theorem byt_valB : ∀ (ds : List Int) (_ : ∀ d ∈ ds, 0 ≤ d ∧ d < 256) (i : Nat) (h : i < ds.length), byt (valB ds) i = ds[i]
  | d :: ds, hd, 0, _ => by
    have := hd d (by simp)
    simpa [valB] using byt_zero d (valB ds) this.1 this.2
  | d :: ds, hd, i + 1, h => by
    have := hd d (by simp)
    have h2 := byt_valB ds (fun x hx => hd x (by simp [hx])) i (by simpa using h)
    simp only [valB]
    rw [byt_succ d (valB ds) i this.1 this.2, h2]
    simp
/-- A digit is two bytes. -/
theorem dg_low (n : Int) (i : Nat) : dg n i % 256 = byt n (2 * i) := by
  unfold dg byt
  have e : (256 : Int) ^ (2 * i) = 65536 ^ i := by rw [Int.pow_mul]; rfl
  rw [e, Int.emod_emod_of_dvd _ (by decide)]
theorem dg_high (n : Int) (i : Nat) : dg n i / 256 = byt n (2 * i + 1) := by
  unfold dg byt
  have e : (256 : Int) ^ (2 * i + 1) = 65536 ^ i * 256 := by rw [Int.pow_succ, Int.pow_mul]; rfl
  rw [e, ← Int.ediv_ediv_of_nonneg (Int.pow_nonneg (by decide))]
  generalize n / 65536 ^ i = x
  omega
/-- Thirty-two bytes as one number. -/
def kv (b0 b1 b2 b3 b4 b5 b6 b7 b8 b9 b10 b11 b12 b13 b14 b15 b16 b17 b18 b19 b20 b21 b22 b23 b24 b25 b26 b27 b28 b29 b30 b31 : Int) : Int := valB [b0, b1, b2, b3, b4, b5, b6, b7, b8, b9, b10, b11, b12, b13, b14, b15, b16, b17, b18, b19, b20, b21, b22, b23, b24, b25, b26, b27, b28, b29, b30, b31]
theorem kv_v16 (b0 b1 b2 b3 b4 b5 b6 b7 b8 b9 b10 b11 b12 b13 b14 b15 b16 b17 b18 b19 b20 b21 b22 b23 b24 b25 b26 b27 b28 b29 b30 b31 : Int) (lo0 : 0 ≤ b0) (hi0 : b0 < 256) (lo1 : 0 ≤ b1) (hi1 : b1 < 256) (lo2 : 0 ≤ b2) (hi2 : b2 < 256) (lo3 : 0 ≤ b3) (hi3 : b3 < 256) (lo4 : 0 ≤ b4) (hi4 : b4 < 256) (lo5 : 0 ≤ b5) (hi5 : b5 < 256) (lo6 : 0 ≤ b6) (hi6 : b6 < 256) (lo7 : 0 ≤ b7) (hi7 : b7 < 256) (lo8 : 0 ≤ b8) (hi8 : b8 < 256) (lo9 : 0 ≤ b9) (hi9 : b9 < 256) (lo10 : 0 ≤ b10) (hi10 : b10 < 256) (lo11 : 0 ≤ b11) (hi11 : b11 < 256) (lo12 : 0 ≤ b12) (hi12 : b12 < 256) (lo13 : 0 ≤ b13) (hi13 : b13 < 256) (lo14 : 0 ≤ b14) (hi14 : b14 < 256) (lo15 : 0 ≤ b15) (hi15 : b15 < 256) (lo16 : 0 ≤ b16) (hi16 : b16 < 256) (lo17 : 0 ≤ b17) (hi17 : b17 < 256) (lo18 : 0 ≤ b18) (hi18 : b18 < 256) (lo19 : 0 ≤ b19) (hi19 : b19 < 256) (lo20 : 0 ≤ b20) (hi20 : b20 < 256) (lo21 : 0 ≤ b21) (hi21 : b21 < 256) (lo22 : 0 ≤ b22) (hi22 : b22 < 256) (lo23 : 0 ≤ b23) (hi23 : b23 < 256) (lo24 : 0 ≤ b24) (hi24 : b24 < 256) (lo25 : 0 ≤ b25) (hi25 : b25 < 256) (lo26 : 0 ≤ b26) (hi26 : b26 < 256) (lo27 : 0 ≤ b27) (hi27 : b27 < 256) (lo28 : 0 ≤ b28) (hi28 : b28 < 256) (lo29 : 0 ≤ b29) (hi29 : b29 < 256) :
    v16 (b0 + 256 * b1) (b2 + 256 * b3) (b4 + 256 * b5) (b6 + 256 * b7) (b8 + 256 * b9) (b10 + 256 * b11) (b12 + 256 * b13) (b14 + 256 * b15) (b16 + 256 * b17) (b18 + 256 * b19) (b20 + 256 * b21) (b22 + 256 * b23) (b24 + 256 * b25) (b26 + 256 * b27) (b28 + 256 * b29) ((b30 + 256 * b31) % 32768) = kv b0 b1 b2 b3 b4 b5 b6 b7 b8 b9 b10 b11 b12 b13 b14 b15 b16 b17 b18 b19 b20 b21 b22 b23 b24 b25 b26 b27 b28 b29 b30 b31 % 57896044618658097711785492504343953926634992332820282019728792003956564819968 := by
  have h : kv b0 b1 b2 b3 b4 b5 b6 b7 b8 b9 b10 b11 b12 b13 b14 b15 b16 b17 b18 b19 b20 b21 b22 b23 b24 b25 b26 b27 b28 b29 b30 b31 = v16 (b0 + 256 * b1) (b2 + 256 * b3) (b4 + 256 * b5) (b6 + 256 * b7) (b8 + 256 * b9) (b10 + 256 * b11) (b12 + 256 * b13) (b14 + 256 * b15) (b16 + 256 * b17) (b18 + 256 * b19) (b20 + 256 * b21) (b22 + 256 * b23) (b24 + 256 * b25) (b26 + 256 * b27) (b28 + 256 * b29) ((b30 + 256 * b31) % 32768) + 57896044618658097711785492504343953926634992332820282019728792003956564819968 * ((b30 + 256 * b31) / 32768) := by simp only [kv, v16, valL, valB]; omega
  have h0 : 0 ≤ v16 (b0 + 256 * b1) (b2 + 256 * b3) (b4 + 256 * b5) (b6 + 256 * b7) (b8 + 256 * b9) (b10 + 256 * b11) (b12 + 256 * b13) (b14 + 256 * b15) (b16 + 256 * b17) (b18 + 256 * b19) (b20 + 256 * b21) (b22 + 256 * b23) (b24 + 256 * b25) (b26 + 256 * b27) (b28 + 256 * b29) ((b30 + 256 * b31) % 32768) ∧ v16 (b0 + 256 * b1) (b2 + 256 * b3) (b4 + 256 * b5) (b6 + 256 * b7) (b8 + 256 * b9) (b10 + 256 * b11) (b12 + 256 * b13) (b14 + 256 * b15) (b16 + 256 * b17) (b18 + 256 * b19) (b20 + 256 * b21) (b22 + 256 * b23) (b24 + 256 * b25) (b26 + 256 * b27) (b28 + 256 * b29) ((b30 + 256 * b31) % 32768) < 57896044618658097711785492504343953926634992332820282019728792003956564819968 := by simp only [v16, valL]; omega
  rw [h]
  generalize v16 (b0 + 256 * b1) (b2 + 256 * b3) (b4 + 256 * b5) (b6 + 256 * b7) (b8 + 256 * b9) (b10 + 256 * b11) (b12 + 256 * b13) (b14 + 256 * b15) (b16 + 256 * b17) (b18 + 256 * b19) (b20 + 256 * b21) (b22 + 256 * b23) (b24 + 256 * b25) (b26 + 256 * b27) (b28 + 256 * b29) ((b30 + 256 * b31) % 32768) = X at *
  omega
end Go.Proofs.YtkogejglfgghmaaDoor

namespace Go.Proofs.YtkogejglfgghmaaDoor
open Go Go.RowKit

/-! The bits' operations as numbers. -/
theorem and51 (x : Int) (h0 : 0 ≤ x) (h1 : x < 18446744073709551616) : bits .and .u64 x 2251799813685247 = x % 2251799813685248 := by
  rw [u64_and x 2251799813685247 h0 h1 (by decide) (by decide)]
  have e : (2251799813685247 : Int).toNat = 2 ^ 51 - 1 := by decide
  rw [e, Nat.and_two_pow_sub_one_eq_mod]
  omega
theorem or_sum (i : Nat) (x y : Int) (hx0 : 0 ≤ x) (hx : x < 2 ^ i) (hy0 : 0 ≤ y) (hy : y < 18446744073709551616) (hm : y % 2 ^ i = 0) (hx1 : x < 18446744073709551616) : bits .or .u64 x y = x + y := by
  obtain ⟨a, rfl⟩ := Int.eq_ofNat_of_zero_le hx0
  obtain ⟨b, rfl⟩ := Int.eq_ofNat_of_zero_le hy0
  rw [u64_or_nat a b (by omega) (by omega), Nat.or_comm, nat_join i b a (by exact_mod_cast hm) (by exact_mod_cast hx)]
  omega

/-- Five words of 51 bits as one number. -/
def v5 (a0 a1 a2 a3 a4 : Int) : Int := a0 + 2251799813685248 * (a1 + 2251799813685248 * (a2 + 2251799813685248 * (a3 + 2251799813685248 * a4)))
/-- The word of m at place i. -/
def lb (m : Int) (i : Nat) : Int := m / 2251799813685248 ^ i % 2251799813685248
theorem lb_bd (m : Int) (i : Nat) : 0 ≤ lb m i ∧ lb m i < 2251799813685248 := by unfold lb; omega
theorem lb_v5 (a0 a1 a2 a3 a4 : Int) (l0 : 0 ≤ a0) (u0 : a0 < 2251799813685248) (l1 : 0 ≤ a1) (u1 : a1 < 2251799813685248) (l2 : 0 ≤ a2) (u2 : a2 < 2251799813685248) (l3 : 0 ≤ a3) (u3 : a3 < 2251799813685248) (l4 : 0 ≤ a4) (u4 : a4 < 2251799813685248) :
    lb (v5 a0 a1 a2 a3 a4) 0 = a0 ∧ lb (v5 a0 a1 a2 a3 a4) 1 = a1 ∧ lb (v5 a0 a1 a2 a3 a4) 2 = a2 ∧ lb (v5 a0 a1 a2 a3 a4) 3 = a3 ∧ lb (v5 a0 a1 a2 a3 a4) 4 = a4 := by
  unfold lb v5
  simp only [Int.pow_zero, Int.ediv_one, Int.pow_succ, Int.one_mul]
  refine ⟨?_, ?_, ?_, ?_, ?_⟩ <;> omega
theorem v5_lb (m : Int) (h0 : 0 ≤ m) (h1 : m < 57896044618658097711785492504343953926634992332820282019728792003956564819968) : v5 (lb m 0) (lb m 1) (lb m 2) (lb m 3) (lb m 4) = m := by
  unfold lb v5
  simp only [Int.pow_zero, Int.ediv_one, Int.pow_succ, Int.one_mul]
  omega

/-- Eight bytes, four words. -/
def q8 (b0 b1 b2 b3 b4 b5 b6 b7 : Int) : Int := b0 + 256 * (b1 + 256 * (b2 + 256 * (b3 + 256 * (b4 + 256 * (b5 + 256 * (b6 + 256 * b7))))))
theorem q8_bd (b0 b1 b2 b3 b4 b5 b6 b7 : Int) (l0 : 0 ≤ b0 ∧ b0 < 256) (l1 : 0 ≤ b1 ∧ b1 < 256) (l2 : 0 ≤ b2 ∧ b2 < 256) (l3 : 0 ≤ b3 ∧ b3 < 256) (l4 : 0 ≤ b4 ∧ b4 < 256) (l5 : 0 ≤ b5 ∧ b5 < 256) (l6 : 0 ≤ b6 ∧ b6 < 256) (l7 : 0 ≤ b7 ∧ b7 < 256) :
    0 ≤ q8 b0 b1 b2 b3 b4 b5 b6 b7 ∧ q8 b0 b1 b2 b3 b4 b5 b6 b7 < 18446744073709551616 := by unfold q8; omega
/-- What 'eight' gathers. -/
theorem q8_or (b0 b1 b2 b3 b4 b5 b6 b7 : Int) (l0 : 0 ≤ b0 ∧ b0 < 256) (l1 : 0 ≤ b1 ∧ b1 < 256) (l2 : 0 ≤ b2 ∧ b2 < 256) (l3 : 0 ≤ b3 ∧ b3 < 256) (l4 : 0 ≤ b4 ∧ b4 < 256) (l5 : 0 ≤ b5 ∧ b5 < 256) (l6 : 0 ≤ b6 ∧ b6 < 256) (l7 : 0 ≤ b7 ∧ b7 < 256) :
    bits .or .u64 (bits .or .u64 (bits .or .u64 (bits .or .u64 (bits .or .u64 (bits .or .u64 (bits .or .u64 (bits .or .u64 0 b0) (b1 * 256)) (b2 * 65536)) (b3 * 16777216)) (b4 * 4294967296)) (b5 * 1099511627776)) (b6 * 281474976710656)) (b7 * 72057594037927936) = q8 b0 b1 b2 b3 b4 b5 b6 b7 := by
  rw [or_sum 0 0 b0 (by decide) (by decide) l0.1 (by omega) (by simp) (by decide), Int.zero_add]
  rw [or_sum 8 b0 (b1 * 256) (by omega) (by omega) (by omega) (by omega) (by omega) (by omega)]
  rw [or_sum 16 _ (b2 * 65536) (by omega) (by omega) (by omega) (by omega) (by omega) (by omega)]
  rw [or_sum 24 _ (b3 * 16777216) (by omega) (by omega) (by omega) (by omega) (by omega) (by omega)]
  rw [or_sum 32 _ (b4 * 4294967296) (by omega) (by omega) (by omega) (by omega) (by omega) (by omega)]
  rw [or_sum 40 _ (b5 * 1099511627776) (by omega) (by omega) (by omega) (by omega) (by omega) (by omega)]
  rw [or_sum 48 _ (b6 * 281474976710656) (by omega) (by omega) (by omega) (by omega) (by omega) (by omega)]
  rw [or_sum 56 _ (b7 * 72057594037927936) (by omega) (by omega) (by omega) (by omega) (by omega) (by omega)]
  unfold q8
  omega
theorem kv_q8 (b0 b1 b2 b3 b4 b5 b6 b7 b8 b9 b10 b11 b12 b13 b14 b15 b16 b17 b18 b19 b20 b21 b22 b23 b24 b25 b26 b27 b28 b29 b30 b31 : Int) : kv b0 b1 b2 b3 b4 b5 b6 b7 b8 b9 b10 b11 b12 b13 b14 b15 b16 b17 b18 b19 b20 b21 b22 b23 b24 b25 b26 b27 b28 b29 b30 b31 = q8 b0 b1 b2 b3 b4 b5 b6 b7 + 18446744073709551616 * (q8 b8 b9 b10 b11 b12 b13 b14 b15 + 18446744073709551616 * (q8 b16 b17 b18 b19 b20 b21 b22 b23 + 18446744073709551616 * q8 b24 b25 b26 b27 b28 b29 b30 b31)) := by
  simp only [kv, valB, q8]; omega
theorem mid51 (j : Nat) (x y m : Int) (hx0 : 0 ≤ x) (hx : x < 2 ^ j) (hx1 : x < 18446744073709551616) (hy : (y * m % 18446744073709551616) % 2 ^ j = 0) : bits .and .u64 (bits .or .u64 x (IntKind.u64.wrap (y * m))) 2251799813685247 = (x + y * m % 18446744073709551616) % 2251799813685248 := by
  rw [IntKind.wrap_u64, or_sum j x _ hx0 hx (by omega) (by omega) hy hx1]
  by_cases h : x + y * m % 18446744073709551616 < 18446744073709551616
  · rw [and51 _ (by omega) h]
  · exfalso
    have h2 : y * m % 18446744073709551616 < 18446744073709551616 := by omega
    have h3 : 0 ≤ y * m % 18446744073709551616 := by omega
    have h4 := or_sum j x (y * m % 18446744073709551616) hx0 hx h3 h2 hy hx1
    obtain ⟨c, hc⟩ := Int.eq_ofNat_of_zero_le hx0
    obtain ⟨d, hd⟩ := Int.eq_ofNat_of_zero_le h3
    rw [hc, hd, u64_or_nat c d (by omega) (by omega)] at h4
    have h5 : c ||| d < 2 ^ 64 := Nat.or_lt_two_pow (by omega) (by omega)
    omega
theorem from_limbs (q0 q1 q2 q3 : Int) (l0 : 0 ≤ q0) (u0 : q0 < 18446744073709551616) (l1 : 0 ≤ q1) (u1 : q1 < 18446744073709551616) (l2 : 0 ≤ q2) (u2 : q2 < 18446744073709551616) (l3 : 0 ≤ q3) (u3 : q3 < 18446744073709551616) :
    bits .and .u64 q0 2251799813685247 = lb (q0 + 18446744073709551616 * (q1 + 18446744073709551616 * (q2 + 18446744073709551616 * q3))) 0 ∧
    bits .and .u64 (bits .or .u64 (q0 / 2251799813685248) (IntKind.u64.wrap (q1 * 8192))) 2251799813685247 = lb (q0 + 18446744073709551616 * (q1 + 18446744073709551616 * (q2 + 18446744073709551616 * q3))) 1 ∧
    bits .and .u64 (bits .or .u64 (q1 / 274877906944) (IntKind.u64.wrap (q2 * 67108864))) 2251799813685247 = lb (q0 + 18446744073709551616 * (q1 + 18446744073709551616 * (q2 + 18446744073709551616 * q3))) 2 ∧
    bits .and .u64 (bits .or .u64 (q2 / 33554432) (IntKind.u64.wrap (q3 * 549755813888))) 2251799813685247 = lb (q0 + 18446744073709551616 * (q1 + 18446744073709551616 * (q2 + 18446744073709551616 * q3))) 3 ∧
    bits .and .u64 (q3 / 4096) 2251799813685247 = lb (q0 + 18446744073709551616 * (q1 + 18446744073709551616 * (q2 + 18446744073709551616 * q3))) 4 := by
  rw [and51 q0 l0 u0, and51 (q3 / 4096) (by omega) (by omega), mid51 13 (q0 / 2251799813685248) q1 8192 (by omega) (by omega) (by omega) (by omega), mid51 26 (q1 / 274877906944) q2 67108864 (by omega) (by omega) (by omega) (by omega), mid51 39 (q2 / 33554432) q3 549755813888 (by omega) (by omega) (by omega) (by omega)]
  unfold lb
  simp only [Int.pow_zero, Int.ediv_one, Int.pow_succ, Int.one_mul]
  refine ⟨?_, ?_, ?_, ?_, ?_⟩ <;> omega
end Go.Proofs.YtkogejglfgghmaaDoor

namespace Go.Proofs.YtkogejglfgghmaaDoor
open Go Go.RowKit

theorem byt_split (i j : Nat) (n : Int) : byt n (i + j) = byt (n / 256 ^ i) j := by
  unfold byt
  rw [Int.pow_add, ← Int.ediv_ediv_of_nonneg (Int.pow_nonneg (by decide))]
theorem word_bytes (N M : Int) (h0 : 0 ≤ N) (h1 : N < 18446744073709551616) : N % 256 = byt (N + 18446744073709551616 * M) 0 ∧ N / 256 % 256 = byt (N + 18446744073709551616 * M) 1 ∧ N / 65536 % 256 = byt (N + 18446744073709551616 * M) 2 ∧ N / 16777216 % 256 = byt (N + 18446744073709551616 * M) 3 ∧ N / 4294967296 % 256 = byt (N + 18446744073709551616 * M) 4 ∧ N / 1099511627776 % 256 = byt (N + 18446744073709551616 * M) 5 ∧ N / 281474976710656 % 256 = byt (N + 18446744073709551616 * M) 6 ∧ N / 72057594037927936 = byt (N + 18446744073709551616 * M) 7 := by
  unfold byt
  simp only [Int.pow_zero, Int.ediv_one, Int.pow_succ, Int.one_mul]
  refine ⟨?_, ?_, ?_, ?_, ?_, ?_, ?_, ?_⟩ <;> omega
theorem word_next (N M : Int) (j : Nat) (h0 : 0 ≤ N) (h1 : N < 18446744073709551616) : byt (N + 18446744073709551616 * M) (8 + j) = byt M j := by
  rw [byt_split]
  have : (N + 18446744073709551616 * M) / 256 ^ 8 = M := by
    have e : (256 : Int) ^ 8 = 18446744073709551616 := by decide
    rw [e]; omega
  rw [this]
theorem words_bytes (N0 N1 N2 N3 : Int) (l0 : 0 ≤ N0) (u0 : N0 < 18446744073709551616) (l1 : 0 ≤ N1) (u1 : N1 < 18446744073709551616) (l2 : 0 ≤ N2) (u2 : N2 < 18446744073709551616) (l3 : 0 ≤ N3) (u3 : N3 < 18446744073709551616) :
    N0 % 256 = byt (N0 + 18446744073709551616 * (N1 + 18446744073709551616 * (N2 + 18446744073709551616 * N3))) 0 ∧ N0 / 256 % 256 = byt (N0 + 18446744073709551616 * (N1 + 18446744073709551616 * (N2 + 18446744073709551616 * N3))) 1 ∧ N0 / 65536 % 256 = byt (N0 + 18446744073709551616 * (N1 + 18446744073709551616 * (N2 + 18446744073709551616 * N3))) 2 ∧ N0 / 16777216 % 256 = byt (N0 + 18446744073709551616 * (N1 + 18446744073709551616 * (N2 + 18446744073709551616 * N3))) 3 ∧ N0 / 4294967296 % 256 = byt (N0 + 18446744073709551616 * (N1 + 18446744073709551616 * (N2 + 18446744073709551616 * N3))) 4 ∧ N0 / 1099511627776 % 256 = byt (N0 + 18446744073709551616 * (N1 + 18446744073709551616 * (N2 + 18446744073709551616 * N3))) 5 ∧ N0 / 281474976710656 % 256 = byt (N0 + 18446744073709551616 * (N1 + 18446744073709551616 * (N2 + 18446744073709551616 * N3))) 6 ∧ N0 / 72057594037927936 = byt (N0 + 18446744073709551616 * (N1 + 18446744073709551616 * (N2 + 18446744073709551616 * N3))) 7 ∧ N1 % 256 = byt (N0 + 18446744073709551616 * (N1 + 18446744073709551616 * (N2 + 18446744073709551616 * N3))) 8 ∧ N1 / 256 % 256 = byt (N0 + 18446744073709551616 * (N1 + 18446744073709551616 * (N2 + 18446744073709551616 * N3))) 9 ∧ N1 / 65536 % 256 = byt (N0 + 18446744073709551616 * (N1 + 18446744073709551616 * (N2 + 18446744073709551616 * N3))) 10 ∧ N1 / 16777216 % 256 = byt (N0 + 18446744073709551616 * (N1 + 18446744073709551616 * (N2 + 18446744073709551616 * N3))) 11 ∧ N1 / 4294967296 % 256 = byt (N0 + 18446744073709551616 * (N1 + 18446744073709551616 * (N2 + 18446744073709551616 * N3))) 12 ∧ N1 / 1099511627776 % 256 = byt (N0 + 18446744073709551616 * (N1 + 18446744073709551616 * (N2 + 18446744073709551616 * N3))) 13 ∧ N1 / 281474976710656 % 256 = byt (N0 + 18446744073709551616 * (N1 + 18446744073709551616 * (N2 + 18446744073709551616 * N3))) 14 ∧ N1 / 72057594037927936 = byt (N0 + 18446744073709551616 * (N1 + 18446744073709551616 * (N2 + 18446744073709551616 * N3))) 15 ∧ N2 % 256 = byt (N0 + 18446744073709551616 * (N1 + 18446744073709551616 * (N2 + 18446744073709551616 * N3))) 16 ∧ N2 / 256 % 256 = byt (N0 + 18446744073709551616 * (N1 + 18446744073709551616 * (N2 + 18446744073709551616 * N3))) 17 ∧ N2 / 65536 % 256 = byt (N0 + 18446744073709551616 * (N1 + 18446744073709551616 * (N2 + 18446744073709551616 * N3))) 18 ∧ N2 / 16777216 % 256 = byt (N0 + 18446744073709551616 * (N1 + 18446744073709551616 * (N2 + 18446744073709551616 * N3))) 19 ∧ N2 / 4294967296 % 256 = byt (N0 + 18446744073709551616 * (N1 + 18446744073709551616 * (N2 + 18446744073709551616 * N3))) 20 ∧ N2 / 1099511627776 % 256 = byt (N0 + 18446744073709551616 * (N1 + 18446744073709551616 * (N2 + 18446744073709551616 * N3))) 21 ∧ N2 / 281474976710656 % 256 = byt (N0 + 18446744073709551616 * (N1 + 18446744073709551616 * (N2 + 18446744073709551616 * N3))) 22 ∧ N2 / 72057594037927936 = byt (N0 + 18446744073709551616 * (N1 + 18446744073709551616 * (N2 + 18446744073709551616 * N3))) 23 ∧ N3 % 256 = byt (N0 + 18446744073709551616 * (N1 + 18446744073709551616 * (N2 + 18446744073709551616 * N3))) 24 ∧ N3 / 256 % 256 = byt (N0 + 18446744073709551616 * (N1 + 18446744073709551616 * (N2 + 18446744073709551616 * N3))) 25 ∧ N3 / 65536 % 256 = byt (N0 + 18446744073709551616 * (N1 + 18446744073709551616 * (N2 + 18446744073709551616 * N3))) 26 ∧ N3 / 16777216 % 256 = byt (N0 + 18446744073709551616 * (N1 + 18446744073709551616 * (N2 + 18446744073709551616 * N3))) 27 ∧ N3 / 4294967296 % 256 = byt (N0 + 18446744073709551616 * (N1 + 18446744073709551616 * (N2 + 18446744073709551616 * N3))) 28 ∧ N3 / 1099511627776 % 256 = byt (N0 + 18446744073709551616 * (N1 + 18446744073709551616 * (N2 + 18446744073709551616 * N3))) 29 ∧ N3 / 281474976710656 % 256 = byt (N0 + 18446744073709551616 * (N1 + 18446744073709551616 * (N2 + 18446744073709551616 * N3))) 30 ∧ N3 / 72057594037927936 = byt (N0 + 18446744073709551616 * (N1 + 18446744073709551616 * (N2 + 18446744073709551616 * N3))) 31 := by
  have h0 := word_bytes N0 (N1 + 18446744073709551616 * (N2 + 18446744073709551616 * N3)) l0 u0
  have h1 := word_bytes N1 (N2 + 18446744073709551616 * N3) l1 u1
  have h2 := word_bytes N2 N3 l2 u2
  have h3 := word_bytes N3 0 l3 u3
  have n0 := fun j => word_next N0 (N1 + 18446744073709551616 * (N2 + 18446744073709551616 * N3)) j l0 u0
  have n1 := fun j => word_next N1 (N2 + 18446744073709551616 * N3) j l1 u1
  have n2 := fun j => word_next N2 N3 j l2 u2
  simp only [Int.mul_zero, Int.add_zero] at h3
  obtain ⟨a0, a1, a2, a3, a4, a5, a6, a7⟩ := h0
  obtain ⟨b0, b1, b2, b3, b4, b5, b6, b7⟩ := h1
  obtain ⟨c0, c1, c2, c3, c4, c5, c6, c7⟩ := h2
  obtain ⟨d0, d1, d2, d3, d4, d5, d6, d7⟩ := h3
  exact ⟨a0, a1, a2, a3, a4, a5, a6, a7, b0.trans (n0 0).symm, b1.trans (n0 1).symm, b2.trans (n0 2).symm, b3.trans (n0 3).symm, b4.trans (n0 4).symm, b5.trans (n0 5).symm, b6.trans (n0 6).symm, b7.trans (n0 7).symm, c0.trans ((n1 0).symm.trans (n0 8).symm), c1.trans ((n1 1).symm.trans (n0 9).symm), c2.trans ((n1 2).symm.trans (n0 10).symm), c3.trans ((n1 3).symm.trans (n0 11).symm), c4.trans ((n1 4).symm.trans (n0 12).symm), c5.trans ((n1 5).symm.trans (n0 13).symm), c6.trans ((n1 6).symm.trans (n0 14).symm), c7.trans ((n1 7).symm.trans (n0 15).symm), d0.trans ((n2 0).symm.trans ((n1 8).symm.trans (n0 16).symm)), d1.trans ((n2 1).symm.trans ((n1 9).symm.trans (n0 17).symm)), d2.trans ((n2 2).symm.trans ((n1 10).symm.trans (n0 18).symm)), d3.trans ((n2 3).symm.trans ((n1 11).symm.trans (n0 19).symm)), d4.trans ((n2 4).symm.trans ((n1 12).symm.trans (n0 20).symm)), d5.trans ((n2 5).symm.trans ((n1 13).symm.trans (n0 21).symm)), d6.trans ((n2 6).symm.trans ((n1 14).symm.trans (n0 22).symm)), d7.trans ((n2 7).symm.trans ((n1 15).symm.trans (n0 23).symm))⟩
theorem words_v5 (m0 m1 m2 m3 m4 : Int)   :
    (m0 + m1 * 2251799813685248 % 18446744073709551616) + 18446744073709551616 * ((m1 / 8192 + m2 * 274877906944 % 18446744073709551616) + 18446744073709551616 * ((m2 / 67108864 + m3 * 33554432 % 18446744073709551616) + 18446744073709551616 * (m3 / 549755813888 + m4 * 4096))) = v5 m0 m1 m2 m3 m4 := by
  unfold v5
  omega
end Go.Proofs.YtkogejglfgghmaaDoor

namespace Go.Proofs.YtkogejglfgghmaaDoor
open Go Go.RowKit

/-! Products of words. -/
theorem mul_bd (a b A B : Int) (ha0 : 0 ≤ a) (ha : a ≤ A) (hb0 : 0 ≤ b) (hb : b ≤ B) : 0 ≤ a * b ∧ a * b ≤ A * B :=
  ⟨Int.mul_nonneg ha0 hb0, Int.mul_le_mul ha hb hb0 (Int.le_trans ha0 ha)⟩
/-- A number of 128 bits as two words. -/
theorem wide_high (x y : Int) (hx0 : 0 ≤ x) (hy0 : 0 ≤ y) (hs : x + y < 340282366920938463463374607431768211456) :
    (x / 18446744073709551616 + y / 18446744073709551616 + (x % 18446744073709551616 + y % 18446744073709551616) / 18446744073709551616) % 18446744073709551616 = (x + y) / 18446744073709551616 ∧
    (x % 18446744073709551616 + y % 18446744073709551616) % 18446744073709551616 = (x + y) % 18446744073709551616 := by omega
theorem over_num (x : Int) (h0 : 0 ≤ x) (h1 : x < 41538374868278621028243970633760768) :
    bits .or .u64 (x / 18446744073709551616 * 8192) (x % 18446744073709551616 / 2251799813685248) = x / 2251799813685248 := by
  have h2 : x / 18446744073709551616 < 2251799813685248 := by omega
  obtain ⟨a, ha⟩ := Int.eq_ofNat_of_zero_le (show 0 ≤ x / 18446744073709551616 * 8192 by omega)
  obtain ⟨b, hb⟩ := Int.eq_ofNat_of_zero_le (show 0 ≤ x % 18446744073709551616 / 2251799813685248 by omega)
  rw [ha, hb, u64_or_nat a b (by omega) (by omega), nat_join 13 a b (by omega) (by omega)]
  omega

/-- What 'joined' makes of five sums. -/
def jn (i : Nat) (r0 r1 r2 r3 r4 : Int) : Int := match i with
  | 0 => (r0 % 2251799813685248 + 19 * (r4 / 2251799813685248)) % 2251799813685248 + 19 * ((r4 % 2251799813685248 + r3 / 2251799813685248) / 2251799813685248)
  | 1 => (r1 % 2251799813685248 + r0 / 2251799813685248) % 2251799813685248 + (r0 % 2251799813685248 + 19 * (r4 / 2251799813685248)) / 2251799813685248
  | 2 => (r2 % 2251799813685248 + r1 / 2251799813685248) % 2251799813685248 + (r1 % 2251799813685248 + r0 / 2251799813685248) / 2251799813685248
  | 3 => (r3 % 2251799813685248 + r2 / 2251799813685248) % 2251799813685248 + (r2 % 2251799813685248 + r1 / 2251799813685248) / 2251799813685248
  | _ => (r4 % 2251799813685248 + r3 / 2251799813685248) % 2251799813685248 + (r3 % 2251799813685248 + r2 / 2251799813685248) / 2251799813685248
theorem jn_bd (r0 r1 r2 r3 r4 : Int) (l0 : 0 ≤ r0) (u0 : r0 < 2596148429267413814265248164610048) (l1 : 0 ≤ r1) (u1 : r1 < 2596148429267413814265248164610048) (l2 : 0 ≤ r2) (u2 : r2 < 2596148429267413814265248164610048) (l3 : 0 ≤ r3) (u3 : r3 < 2596148429267413814265248164610048) (l4 : 0 ≤ r4) (u4 : r4 < 162259276829213363391578010288128) :
    (0 ≤ jn 0 r0 r1 r2 r3 r4 ∧ jn 0 r0 r1 r2 r3 r4 < 4503599627370496) ∧ (0 ≤ jn 1 r0 r1 r2 r3 r4 ∧ jn 1 r0 r1 r2 r3 r4 < 4503599627370496) ∧ (0 ≤ jn 2 r0 r1 r2 r3 r4 ∧ jn 2 r0 r1 r2 r3 r4 < 4503599627370496) ∧ (0 ≤ jn 3 r0 r1 r2 r3 r4 ∧ jn 3 r0 r1 r2 r3 r4 < 4503599627370496) ∧ (0 ≤ jn 4 r0 r1 r2 r3 r4 ∧ jn 4 r0 r1 r2 r3 r4 < 4503599627370496) := by
  simp only [jn]
  omega
theorem jn_val (r0 r1 r2 r3 r4 : Int) : v5 (jn 0 r0 r1 r2 r3 r4) (jn 1 r0 r1 r2 r3 r4) (jn 2 r0 r1 r2 r3 r4) (jn 3 r0 r1 r2 r3 r4) (jn 4 r0 r1 r2 r3 r4) % prm = v5 r0 r1 r2 r3 r4 % prm := by
  have e : v5 (jn 0 r0 r1 r2 r3 r4) (jn 1 r0 r1 r2 r3 r4) (jn 2 r0 r1 r2 r3 r4) (jn 3 r0 r1 r2 r3 r4) (jn 4 r0 r1 r2 r3 r4) = v5 r0 r1 r2 r3 r4 - prm * (r4 / 2251799813685248 + (r4 % 2251799813685248 + r3 / 2251799813685248) / 2251799813685248) := by
    simp only [jn, v5, prm]
    omega
  rw [e, Int.sub_mul_emod_self_left]
theorem jn_wrap (r0 r1 r2 r3 r4 : Int) (l0 : 0 ≤ r0) (u0 : r0 < 2596148429267413814265248164610048) (l1 : 0 ≤ r1) (u1 : r1 < 2596148429267413814265248164610048) (l2 : 0 ≤ r2) (u2 : r2 < 2596148429267413814265248164610048) (l3 : 0 ≤ r3) (u3 : r3 < 2596148429267413814265248164610048) (l4 : 0 ≤ r4) (u4 : r4 < 162259276829213363391578010288128) :
    IntKind.u64.wrap ((r0 % 2251799813685248 + 19 * (r4 / 2251799813685248)) % 2251799813685248 + 19 * ((r4 % 2251799813685248 + r3 / 2251799813685248) / 2251799813685248)) = jn 0 r0 r1 r2 r3 r4 ∧ IntKind.u64.wrap ((r1 % 2251799813685248 + r0 / 2251799813685248) % 2251799813685248 + (r0 % 2251799813685248 + 19 * (r4 / 2251799813685248)) / 2251799813685248) = jn 1 r0 r1 r2 r3 r4 ∧ IntKind.u64.wrap ((r2 % 2251799813685248 + r1 / 2251799813685248) % 2251799813685248 + (r1 % 2251799813685248 + r0 / 2251799813685248) / 2251799813685248) = jn 2 r0 r1 r2 r3 r4 ∧ IntKind.u64.wrap ((r3 % 2251799813685248 + r2 / 2251799813685248) % 2251799813685248 + (r2 % 2251799813685248 + r1 / 2251799813685248) / 2251799813685248) = jn 3 r0 r1 r2 r3 r4 ∧ IntKind.u64.wrap ((r4 % 2251799813685248 + r3 / 2251799813685248) % 2251799813685248 + (r3 % 2251799813685248 + r2 / 2251799813685248) / 2251799813685248) = jn 4 r0 r1 r2 r3 r4 := by
  simp only [jn, IntKind.wrap_u64]
  refine ⟨?_, ?_, ?_, ?_, ?_⟩ <;> omega
end Go.Proofs.YtkogejglfgghmaaDoor

namespace Go.Proofs.YtkogejglfgghmaaDoor
open Go.RowKit

/-! Sums of digits. -/
def sumN : Nat → (Nat → Int) → Int
  | 0, _ => 0
  | n + 1, f => sumN n f + 65536 ^ n * f n
def upd (g : Nat → Int) (k : Nat) (v : Int) : Nat → Int := fun i => if i = k then g i + v else g i
theorem sumN_upd_out (g : Nat → Int) (k : Nat) (v : Int) : ∀ n, n ≤ k → sumN n (upd g k v) = sumN n g
  | 0, _ => rfl
  | n + 1, h => by
    simp only [sumN]
    rw [sumN_upd_out g k v n (by omega)]
    have : upd g k v n = g n := by simp only [upd]; rw [if_neg (by omega)]
    rw [this]
theorem sumN_upd (g : Nat → Int) (k : Nat) (v : Int) : ∀ n, k < n → sumN n (upd g k v) = sumN n g + 65536 ^ k * v
  | n + 1, h => by
    simp only [sumN]
    by_cases e : k = n
    · subst e
      rw [sumN_upd_out g k v k (Nat.le_refl _)]
      have : upd g k v k = g k + v := by simp [upd]
      rw [this, Int.mul_add]
      omega
    · rw [sumN_upd g k v n (by omega)]
      have : upd g k v n = g n := by simp only [upd]; rw [if_neg (by omega)]
      rw [this]
      omega
/-- The product so far: rows up to i, and of row i the places up to j. -/
def prt (x y : Nat → Int) (i j : Nat) : Int := sumN i x * sumN 16 y + 65536 ^ i * (x i * sumN j y)
theorem prt_zero (x y : Nat → Int) : prt x y 0 0 = 0 := by simp [prt, sumN]
theorem prt_next (x y : Nat → Int) (i : Nat) : prt x y (i + 1) 0 = prt x y i 16 := by
  simp only [prt, sumN, Int.mul_zero, Int.add_zero, Int.add_mul]
  rw [Int.mul_assoc]
theorem prt_step (x y : Nat → Int) (i j : Nat) : prt x y i (j + 1) = prt x y i j + 65536 ^ (i + j) * (x i * y j) := by
  simp only [prt, sumN, Int.mul_add, Int.pow_add]
  have e : 65536 ^ i * (x i * (65536 ^ j * y j)) = 65536 ^ i * 65536 ^ j * (x i * y j) := by
    rw [Int.mul_left_comm (x i), ← Int.mul_assoc]
  rw [e]
  omega
theorem prt_end (x y : Nat → Int) : prt x y 16 0 = sumN 16 x * sumN 16 y := by simp [prt, sumN]
/-- 2^256 is 38. -/
theorem pow_wrap (k : Nat) (v : Int) : ∃ q : Int, 65536 ^ k * (38 * v) + prm * q = 65536 ^ (k + 16) * v := by
  refine ⟨2 * (65536 ^ k * v), ?_⟩
  rw [Int.pow_add, show ((65536 : Int) ^ 16) = 115792089237316195423570985008687907853269984665640564039457584007913129639936 from by decide]
  rw [Int.mul_left_comm (65536 ^ k) 38 v, Int.mul_assoc, Int.mul_left_comm (65536 ^ k)]
  unfold prm
  generalize 65536 ^ k * v = z
  omega
theorem mul38 (a b : Int) (ha0 : 0 ≤ a) (ha : a < 65536) (hb0 : 0 ≤ b) (hb : b < 65536) : 0 ≤ a * b ∧ a * b ≤ 4294836225 :=
  ⟨Int.mul_nonneg ha0 hb0, by have := Int.mul_le_mul (show a ≤ 65535 by omega) (show b ≤ 65535 by omega) hb0 (by decide); omega⟩
theorem sumN_v16 (g : Nat → Int) : sumN 16 g = v16 (g 0) (g 1) (g 2) (g 3) (g 4) (g 5) (g 6) (g 7) (g 8) (g 9) (g 10) (g 11) (g 12) (g 13) (g 14) (g 15) := by
  simp only [sumN, v16, valL, Int.pow_zero, Int.pow_succ, Int.one_mul]
  omega
theorem sumN_dg (m : Int) (h0 : 0 ≤ m) (h1 : m < 115792089237316195423570985008687907853269984665640564039457584007913129639936) : sumN 16 (dg m) = m := by
  simp only [sumN, dg, Int.pow_zero, Int.pow_succ, Int.one_mul, Int.ediv_one]
  omega
theorem mod_of_sum {a b q : Int} (h : a + prm * q = b) : a % prm = b % prm := by
  rw [← h, Int.add_mul_emod_self_left]
end Go.Proofs.YtkogejglfgghmaaDoor

namespace Go.Proofs.YtkogejglfgghmaaDoor
open Go Go.RowKit

/-! Two arrays of integers, held against each other. -/
section
variable {P : Program}

theorem run_part_int {e : TypeId} {k : IntKind} {i0 : TypeInfo} (w : World) (hu : P.underlying e = some (.int k)) (_hi : P.info? e = some i0) (l : List Int) (i : Nat) (h : i < l.length) :
    (part e (l.map (Value.int k)).toArray i).run P w = .ok (.int k l[i]) w := by
  have hagg : (isAgg e).run P w = .ok false w := by
    unfold isAgg
    rw [Sem.run_bind, run_underlying hu w]
    rfl
  simp [part, Sem.run_bind, hagg, h]

theorem run_eqItems_int {e : TypeId} {k : IntKind} {i0 : TypeInfo} (d : Nat) (w : World) (hu : P.underlying e = some (.int k)) (hi : P.info? e = some i0) (l l' : List Int) : ∀ (is : List Nat), (∀ i ∈ is, i < l.length ∧ i < l'.length) →
    (Op.eqItems (d + 1) e 1 (l.map (Value.int k)).toArray (l'.map (Value.int k)).toArray is).run P w = .ok (is.all fun i => l.getD i 0 == l'.getD i 0) w
  | [], _ => by simp [Op.eqItems]
  | i :: is, h => by
    have h1 := h i (by simp)
    have h2 := run_eqItems_int d w hu hi l l' is (fun j hj => h j (by simp [hj]))
    have e1 : l.getD i 0 = l[i]'h1.1 := by simp [h1.1]
    have e2 : l'.getD i 0 = l'[i]'h1.2 := by simp [h1.2]
    simp only [Op.eqItems, Sem.run_bind, Nat.mul_one, run_part_int w hu hi l i h1.1, run_part_int w hu hi l' i h1.2, Result.andThen_ok, run_equalIn_int w d e k k _ _ hu, List.all_cons, e1, e2]
    cases hb : (l[i]'h1.1 == l'[i]'h1.2)
    · simp
    · simpa using h2

theorem run_equal_ints {t e : TypeId} {k : IntKind} {i0 : TypeInfo} {n : Nat} (w : World) (ht : P.underlying t = some (.array n e)) (hu : P.underlying e = some (.int k)) (hi : P.info? e = some i0) (hc : P.cellsOf e = 1)
    (l l' : List Int) (hl : l.length = n) (hl' : l'.length = n) :
    (Op.equalIn 10000 t (.agg (l.map (Value.int k)).toArray) (.agg (l'.map (Value.int k)).toArray)).run P w = .ok (decide (l = l')) w := by
  rw [run_equalIn_array w 9999 _ _ ht hi, hc, run_eqItems_int 9998 w hu hi l l' (List.range n) (fun i h => by simp at h; omega)]
  congr 1
  rw [Bool.eq_iff_iff]
  simp only [List.all_eq_true, List.mem_range, beq_iff_eq, decide_eq_true_eq]
  constructor
  · intro h
    apply List.ext_getElem (by omega)
    intro i h1 h2
    have := h i (by omega)
    simpa [h1, h2] using this
  · rintro rfl i _
    rfl

end
end Go.Proofs.YtkogejglfgghmaaDoor

namespace Go.Proofs.YtkogejglfgghmaaDoor
/-! Primes, and that 2^255 - 19 is one. -/
def Pr (p : Nat) : Prop := 2 ≤ p ∧ ∀ d, d ∣ p → d = 1 ∨ d = p

theorem Pr.euclid {p a b : Nat} (h : Pr p) (hd : p ∣ a * b) : p ∣ a ∨ p ∣ b := by
  rcases h.2 (Nat.gcd p a) (Nat.gcd_dvd_left p a) with e | e
  · exact Or.inr (Nat.Coprime.dvd_of_dvd_mul_left e hd)
  · left; rw [← e]; exact Nat.gcd_dvd_right p a

def prodL : List Nat → Nat
  | [] => 1
  | x :: l => x * prodL l
theorem prodL_perm {l l' : List Nat} (h : l.Perm l') : prodL l = prodL l' := by
  induction h with
  | nil => rfl
  | cons x _ ih => simp only [prodL, ih]
  | swap x y l => simp only [prodL]; exact Nat.mul_left_comm _ _ _
  | trans _ _ ih1 ih2 => exact ih1.trans ih2
theorem perm_of_sub : ∀ (l l' : List Nat), l.Nodup → (∀ x ∈ l, x ∈ l') → l'.length ≤ l.length → l.Perm l'
  | [], l', _, _, h => by
    have : l' = [] := List.length_eq_zero_iff.1 (Nat.le_zero.1 h)
    rw [this]
  | x :: l, l', hn, hs, hl => by
    have hx : x ∈ l' := hs x (by simp)
    have hn' := List.nodup_cons.1 hn
    have h1 := List.perm_cons_erase hx
    refine List.Perm.trans (List.Perm.cons x (perm_of_sub l (l'.erase x) hn'.2 (fun y hy => ?_) ?_)) h1.symm
    · exact (List.mem_erase_of_ne (show y ≠ x from fun e => hn'.1 (e ▸ hy))).2 (hs y (by simp [hy]))
    · rw [List.length_erase_of_mem hx]
      simp at hl
      omega
theorem prodL_map (p a : Nat) : ∀ l : List Nat, prodL (l.map fun i => a * i % p) % p = a ^ l.length * prodL l % p
  | [] => by simp [prodL]
  | x :: l => by
    have ih := prodL_map p a l
    simp only [List.map_cons, prodL, List.length_cons]
    rw [Nat.mul_mod, Nat.mod_mod, ih, ← Nat.mul_mod]
    congr 1
    rw [Nat.pow_succ]
    simp only [Nat.mul_assoc, Nat.mul_comm, Nat.mul_left_comm]
theorem Pr.prodL {p : Nat} (h : Pr p) : ∀ l : List Nat, (∀ x ∈ l, ¬ p ∣ x) → ¬ p ∣ prodL l
  | [], _, hd => by
    have := Nat.le_of_dvd (by decide) hd
    have := h.1
    simp only [YtkogejglfgghmaaDoor.prodL] at *
    omega
  | x :: l, hx, hd => by
    rcases h.euclid hd with h1 | h1
    · exact hx x (by simp) h1
    · exact Pr.prodL h l (fun y hy => hx y (by simp [hy])) h1
theorem dvd_of_mod_eq {p x y : Nat} (h : x % p = y % p) : p ∣ x - y := Nat.dvd_of_mod_eq_zero (Nat.sub_mod_eq_zero_of_mod_eq h)
theorem mul_inj {p a : Nat} (h : Pr p) (ha : ¬ p ∣ a) {i j : Nat} (hij : i ≤ j) (hj : j < p) (e : a * i % p = a * j % p) : i = j := by
  have h1 : p ∣ a * j - a * i := dvd_of_mod_eq e.symm
  rw [← Nat.mul_sub] at h1
  rcases h.euclid h1 with h2 | h2
  · exact absurd h2 ha
  · rcases Nat.eq_zero_or_pos (j - i) with h3 | h3
    · omega
    · have := Nat.le_of_dvd h3 h2
      omega
theorem fermat {p a : Nat} (h : Pr p) (ha : ¬ p ∣ a) : a ^ (p - 1) % p = 1 := by
  have h2 := h.1
  have hL : ∀ x ∈ List.range' 1 (p - 1), ¬ p ∣ x := fun x hx hd => by
    have hx' := List.mem_range'_1.1 hx
    have := Nat.le_of_dvd (by omega) hd
    omega
  have hp : ((List.range' 1 (p - 1)).map fun i => a * i % p).Perm (List.range' 1 (p - 1)) := by
    refine perm_of_sub _ _ ?_ (fun x hx => ?_) (by simp)
    · refine List.pairwise_map.2 (List.Pairwise.imp_of_mem (fun {i j} hi hj hne => ?_) List.nodup_range')
      have hi' := List.mem_range'_1.1 hi
      have hj' := List.mem_range'_1.1 hj
      intro e
      rcases Nat.le_total i j with hle | hle
      · exact hne (mul_inj h ha hle (by omega) e)
      · exact hne (mul_inj h ha hle (by omega) e.symm).symm
    · obtain ⟨i, hi, rfl⟩ := List.mem_map.1 hx
      have hi' := List.mem_range'_1.1 hi
      refine List.mem_range'_1.2 ⟨?_, ?_⟩
      · rcases Nat.eq_zero_or_pos (a * i % p) with h0 | h0
        · exfalso
          rcases h.euclid (Nat.dvd_of_mod_eq_zero h0) with h1 | h1
          · exact ha h1
          · exact hL i hi h1
        · exact h0
      · have := Nat.mod_lt (a * i) (show 0 < p by omega)
        omega
  have e := prodL_map p a (List.range' 1 (p - 1))
  rw [prodL_perm hp, List.length_range'] at e
  have hpos : 0 < a ^ (p - 1) := by
    rcases Nat.eq_zero_or_pos a with rfl | h0
    · exact absurd (Nat.dvd_zero p) ha
    · exact Nat.pow_pos h0
  have hd : p ∣ a ^ (p - 1) * prodL (List.range' 1 (p - 1)) - prodL (List.range' 1 (p - 1)) := dvd_of_mod_eq e.symm
  have e2 : a ^ (p - 1) * prodL (List.range' 1 (p - 1)) - prodL (List.range' 1 (p - 1)) = (a ^ (p - 1) - 1) * prodL (List.range' 1 (p - 1)) := by rw [Nat.sub_mul, Nat.one_mul]
  rw [e2] at hd
  rcases h.euclid hd with h1 | h1
  · obtain ⟨k, hk⟩ := h1
    have : a ^ (p - 1) = 1 + p * k := by omega
    rw [this, Nat.add_mul_mod_self_left, Nat.mod_eq_of_lt (by omega)]
  · exact absurd h1 (h.prodL _ hL)

theorem pow_mod_one {p b m k : Nat} (hp : 2 ≤ p) (h : b ^ m % p = 1) : b ^ (m * k) % p = 1 := by
  rw [Nat.pow_mul, Nat.pow_mod, h, Nat.one_pow, Nat.mod_eq_of_lt (by omega)]
theorem pow_gcd {p b : Nat} (hp : 2 ≤ p) : ∀ m n : Nat, b ^ m % p = 1 → b ^ n % p = 1 → b ^ (Nat.gcd m n) % p = 1 := by
  intro m n
  induction m, n using Nat.gcd.induction with
  | H0 n => intro _ h; rwa [Nat.gcd_zero_left]
  | H1 m n hm ih =>
    intro h1 h2
    rw [Nat.gcd_rec]
    refine ih ?_ h1
    have e : b ^ n = b ^ (m * (n / m)) * b ^ (n % m) := by rw [← Nat.pow_add, Nat.div_add_mod]
    rw [e, Nat.mul_mod, pow_mod_one hp h1, Nat.one_mul, Nat.mod_mod] at h2
    exact h2

theorem pock_dvd {N q R a p : Nat} (hq : Pr q) (hN : N - 1 = R * q) (hN1 : 1 < N) (hp : Pr p) (hpN : p ∣ N) (h1 : a ^ (N - 1) % N = 1) (hg : Nat.gcd (a ^ R % N + (N - 1)) N = 1) : q ∣ p - 1 := by
  have hp2 := hp.1
  have hb : (a ^ R) ^ q % p = 1 := by
    rw [← Nat.pow_mul, ← hN]
    obtain ⟨k, hk⟩ := hpN
    have := Nat.div_add_mod (a ^ (N - 1)) N
    rw [h1] at this
    rw [← this, hk, Nat.mul_assoc, Nat.mul_add_mod, Nat.mod_eq_of_lt (by omega)]
  have hpb : ¬ p ∣ a ^ R := fun hd => by
    have hq2 := hq.1
    have : p ∣ (a ^ R) ^ q := Nat.dvd_trans hd ⟨(a ^ R) ^ (q - 1), by rw [Nat.mul_comm, ← Nat.pow_succ, show (q - 1).succ = q by omega]⟩
    have := Nat.mod_eq_zero_of_dvd this
    omega
  have hf := fermat hp hpb
  have h3 := pow_gcd hp2 q (p - 1) hb hf
  rcases hq.2 (Nat.gcd q (p - 1)) (Nat.gcd_dvd_left _ _) with e | e
  · exfalso
    rw [e, Nat.pow_one] at h3
    have hd : p ∣ a ^ R % N + (N - 1) := by
      refine Nat.dvd_of_mod_eq_zero ?_
      have e1 : a ^ R % N % p = 1 := by rw [Nat.mod_mod_of_dvd _ hpN]; exact h3
      have e2 : (a ^ R % N + (N - 1)) % p = (1 + (N - 1)) % p := by
        rw [Nat.add_mod, e1, ← Nat.add_mod_mod 1]
        simp
      rw [e2, show 1 + (N - 1) = N by omega]
      exact Nat.mod_eq_zero_of_dvd hpN
    have := Nat.dvd_gcd hd hpN
    rw [hg] at this
    have := Nat.le_of_dvd (by decide) this
    omega
  · rw [← e]; exact Nat.gcd_dvd_right _ _

theorem prime_factor : ∀ n : Nat, 2 ≤ n → ∃ p, Pr p ∧ p ∣ n := by
  intro n
  induction n using Nat.strongRecOn with
  | ind n ih =>
    intro h2
    by_cases h : ∀ d, d ∣ n → d = 1 ∨ d = n
    · exact ⟨n, ⟨h2, h⟩, Nat.dvd_refl n⟩
    · simp only [Classical.not_forall, not_or] at h
      obtain ⟨d, hd, h1, hn⟩ := h
      have hle := Nat.le_of_dvd (by omega) hd
      have h0 : d ≠ 0 := by rintro rfl; rw [Nat.zero_dvd] at hd; omega
      obtain ⟨p, hp, hpd⟩ := ih d (by omega) (by omega)
      exact ⟨p, hp, Nat.dvd_trans hpd hd⟩

theorem pock {N F : Nat} (hN : 1 < N) (hF : ∀ p, Pr p → p ∣ N → F ∣ p - 1) (hlt : N < F * F) : Pr N := by
  refine ⟨hN, fun d hd => ?_⟩
  by_cases h1 : d = 1
  · exact Or.inl h1
  by_cases hn : d = N
  · exact Or.inr hn
  exfalso
  obtain ⟨e, he⟩ := hd
  have hd0 : d ≠ 0 := by rintro rfl; omega
  have he0 : e ≠ 0 := by rintro rfl; omega
  have he1 : e ≠ 1 := by rintro rfl; omega
  -- each factor but 1 has a prime below it, above F
  have big : ∀ x, 2 ≤ x → x ∣ N → F < x := fun x hx hxN => by
    obtain ⟨p, hp, hpx⟩ := prime_factor x hx
    have h := hF p hp (Nat.dvd_trans hpx hxN)
    have hp2 := hp.1
    have := Nat.le_of_dvd (by omega) h
    have := Nat.le_of_dvd (by omega) hpx
    omega
  have b1 := big d (by omega) ⟨e, he⟩
  have b2 := big e (by omega) ⟨d, by rw [he, Nat.mul_comm]⟩
  have := Nat.mul_le_mul (Nat.le_of_lt b1) (Nat.le_of_lt b2)
  omega

/-! Powers by repeated squares. -/
def pwf : Nat → Nat → Nat → Nat → Nat
  | 0, N, _, _ => 1 % N
  | k + 1, N, a, e => if e % 2 = 0 then pwf k N (a * a % N) (e / 2) else pwf k N (a * a % N) (e / 2) * a % N
theorem pwf_eq (N : Nat) : ∀ k a e, e < 2 ^ k → pwf k N a e = a ^ e % N
  | 0, a, e, h => by
    have : e = 0 := by simpa using h
    subst this
    simp [pwf]
  | k + 1, a, e, h => by
    have h2 : e / 2 < 2 ^ k := by rw [Nat.pow_succ] at h; omega
    have ih := pwf_eq N k (a * a % N) (e / 2) h2
    have e1 : (a * a % N) ^ (e / 2) % N = a ^ (2 * (e / 2)) % N := by rw [← Nat.pow_mod, Nat.pow_mul, Nat.pow_two]
    unfold pwf
    split
    · rw [ih, e1, show 2 * (e / 2) = e by omega]
    · rename_i hodd
      rw [ih, e1, Nat.mul_mod, Nat.mod_mod, ← Nat.mul_mod, ← Nat.pow_succ, show (2 * (e / 2)).succ = e by omega]
def noDiv : Nat → Nat → Nat → Bool
  | 0, _, _ => true
  | k + 1, N, d => N % d != 0 && noDiv k N (d + 1)
theorem noDiv_spec (N : Nat) : ∀ k d, noDiv k N d = true → ∀ x, d ≤ x → x < d + k → ¬ x ∣ N
  | 0, _, _, x, h1, h2 => by omega
  | k + 1, d, h, x, h1, h2 => by
    simp only [noDiv, Bool.and_eq_true, bne_iff_ne] at h
    rcases Nat.eq_or_lt_of_le h1 with e | e
    · subst e; exact fun hd => h.1 (Nat.mod_eq_zero_of_dvd hd)
    · exact noDiv_spec N k (d + 1) h.2 x e (by omega)
theorem trial (N k : Nat) (hN : 2 ≤ N) (h : noDiv k N 2 = true) (hk : N < (k + 2) * (k + 2)) : Pr N := by
  refine ⟨hN, fun d hd => ?_⟩
  by_cases h1 : d = 1
  · exact Or.inl h1
  by_cases hn : d = N
  · exact Or.inr hn
  exfalso
  obtain ⟨e, he⟩ := hd
  have hd0 : d ≠ 0 := by rintro rfl; omega
  have he0 : e ≠ 0 := by rintro rfl; omega
  have he1 : e ≠ 1 := by rintro rfl; omega
  have s := noDiv_spec N k 2 h
  have b1 : k + 2 ≤ d := by
    rcases Nat.lt_or_ge d (k + 2) with hl | hl
    · exact absurd ⟨e, he⟩ (s d (by omega) (by omega))
    · exact hl
  have b2 : k + 2 ≤ e := by
    rcases Nat.lt_or_ge e (k + 2) with hl | hl
    · exact absurd ⟨d, by rw [he, Nat.mul_comm]⟩ (s e (by omega) (by omega))
    · exact hl
  have := Nat.mul_le_mul b1 b2
  omega

theorem p127 : Pr 127 := trial 127 10 (by decide) (by decide +kernel) (by decide)
theorem p75707 : Pr 75707 := trial 75707 274 (by decide) (by decide +kernel) (by decide)
theorem p1923133 : Pr 1923133 := trial 1923133 1386 (by decide) (by decide +kernel) (by decide)
theorem p8574133 : Pr 8574133 := trial 8574133 2928 (by decide) (by decide +kernel) (by decide)
/-- One step of the certificate: two primes of N - 1 whose product's square is above N. -/
theorem pock2 (N q r R S a b : Nat) (hq : Pr q) (hr : Pr r) (hqr : Nat.gcd q r = 1) (hN : 1 < N) (hk : N < 2 ^ 256) (h1 : N - 1 = R * q) (h2 : N - 1 = S * r) (ea : pwf 256 N a (N - 1) = 1) (eb : pwf 256 N b (N - 1) = 1)
    (ga : Nat.gcd (pwf 256 N a R + (N - 1)) N = 1) (gb : Nat.gcd (pwf 256 N b S + (N - 1)) N = 1) (hlt : N < (q * r) * (q * r)) : Pr N := by
  have hq2 := hq.1
  have hr2 := hr.1
  have hR : R < 2 ^ 256 := Nat.lt_of_le_of_lt (Nat.le_trans (Nat.le_mul_of_pos_right R (by omega)) (by omega : R * q ≤ N)) hk
  have hS : S < 2 ^ 256 := Nat.lt_of_le_of_lt (Nat.le_trans (Nat.le_mul_of_pos_right S (by omega)) (by omega : S * r ≤ N)) hk
  rw [pwf_eq N 256 a _ (by omega)] at ea
  rw [pwf_eq N 256 b _ (by omega)] at eb
  rw [pwf_eq N 256 a _ hR] at ga
  rw [pwf_eq N 256 b _ hS] at gb
  exact pock hN (fun p hp hpN => Nat.Coprime.mul_dvd_of_dvd_of_dvd hqr (pock_dvd hq h1 hN hp hpN ea ga) (pock_dvd hr h2 hN hp hpN eb gb)) hlt
theorem pC : Pr 1919519569386763 := pock2 1919519569386763 8574133 127 223873314 15114327318006 2 2 p8574133 p127 (by decide +kernel) (by decide +kernel) (by decide +kernel) (by decide +kernel) (by decide +kernel) (by decide +kernel) (by decide +kernel) (by decide +kernel) (by decide +kernel) (by decide +kernel)
theorem pB : Pr 75445702479781427272750846543864801 := pock2 75445702479781427272750846543864801 1919519569386763 75707 39304471641247389600 996548568557483816196003626400 2 2 pC p75707 (by decide +kernel) (by decide +kernel) (by decide +kernel) (by decide +kernel) (by decide +kernel) (by decide +kernel) (by decide +kernel) (by decide +kernel) (by decide +kernel) (by decide +kernel)
theorem pQ : Pr 74058212732561358302231226437062788676166966415465897661863160754340907 := pock2 74058212732561358302231226437062788676166966415465897661863160754340907 75445702479781427272750846543864801 1923133 981609426360740691344999861639072106 38509147694185143878364744631319200843710219946028640589009268082 2 2 pB p1923133 (by decide +kernel) (by decide +kernel) (by decide +kernel) (by decide +kernel) (by decide +kernel) (by decide +kernel) (by decide +kernel) (by decide +kernel) (by decide +kernel) (by decide +kernel)
theorem p3 : Pr 3 := trial 3 0 (by decide) (by decide +kernel) (by decide)
theorem pP : Pr 57896044618658097711785492504343953926634992332820282019728792003956564819949 := pock2 57896044618658097711785492504343953926634992332820282019728792003956564819949 74058212732561358302231226437062788676166966415465897661863160754340907 3 781764 19298681539552699237261830834781317975544997444273427339909597334652188273316 2 2 pQ p3 (by decide +kernel) (by decide +kernel) (by decide +kernel) (by decide +kernel) (by decide +kernel) (by decide +kernel) (by decide +kernel) (by decide +kernel) (by decide +kernel) (by decide +kernel)

end Go.Proofs.YtkogejglfgghmaaDoor

namespace Go.Proofs.YtkogejglfgghmaaDoor
/-! Powers modulo 2^255 - 19. -/
theorem prm_lit : prm = ((57896044618658097711785492504343953926634992332820282019728792003956564819949 : Nat) : Int) := rfl
theorem emod_nat (x : Int) : ∃ m : Nat, m < 57896044618658097711785492504343953926634992332820282019728792003956564819949 ∧ x % prm = (m : Int) := by
  have h := Int.emod_nonneg x (b := prm) (by decide)
  have g := Int.emod_lt_of_pos x (b := prm) (by decide)
  refine ⟨(x % prm).toNat, ?_, ?_⟩
  · rw [prm_lit] at *; omega
  · omega
theorem int_pow_emod (x : Int) (e : Nat) : x ^ e % prm = (x % prm) ^ e % prm := by
  induction e with
  | zero => rw [Int.pow_zero, Int.pow_zero]
  | succ k ih => rw [Int.pow_succ, Int.pow_succ, Int.mul_emod, ih, Int.mul_emod ((x % prm) ^ k), Int.emod_emod]
theorem pow_nat {x : Int} {m : Nat} (h : x % prm = (m : Int)) (e : Nat) : x ^ e % prm = ((m ^ e % 57896044618658097711785492504343953926634992332820282019728792003956564819949 : Nat) : Int) := by
  rw [int_pow_emod, h, ← Int.natCast_pow, prm_lit, ← Int.natCast_emod]
theorem mul_c {x x' y y' : Int} (h : x % prm = x' % prm) (g : y % prm = y' % prm) : x * y % prm = x' * y' % prm := by
  rw [Int.mul_emod, h, g, ← Int.mul_emod]
theorem pow_c {x x' : Int} (h : x % prm = x' % prm) (e : Nat) : x ^ e % prm = x' ^ e % prm := by
  rw [int_pow_emod, h, ← int_pow_emod]
theorem add_c {x x' y y' : Int} (h : x % prm = x' % prm) (g : y % prm = y' % prm) : (x + y) % prm = (x' + y') % prm := by
  rw [Int.add_emod, h, g, ← Int.add_emod]
theorem neg_c {x x' : Int} (h : x % prm = x' % prm) : (-x) % prm = (-x') % prm := by
  have := mul_c (x := -1) (x' := -1) rfl h
  rwa [Int.neg_mul, Int.neg_mul, Int.one_mul, Int.one_mul] at this
theorem zero_iff {x : Int} : x % prm = 0 % prm ↔ prm ∣ x := by
  rw [Int.zero_emod]; exact ⟨Int.dvd_of_emod_eq_zero, Int.emod_eq_zero_of_dvd⟩
theorem mul_zero_iff (x y : Int) : x * y % prm = 0 ↔ x % prm = 0 ∨ y % prm = 0 := by
  obtain ⟨m, hm, em⟩ := emod_nat x
  obtain ⟨n, hn, en⟩ := emod_nat y
  constructor
  · intro h
    rw [Int.mul_emod, em, en, prm_lit, ← Int.natCast_mul, ← Int.natCast_emod] at h
    have h' : m * n % 57896044618658097711785492504343953926634992332820282019728792003956564819949 = 0 := by exact_mod_cast h
    rcases pP.euclid (Nat.dvd_of_mod_eq_zero h') with d | d
    · left; rw [em]; have := Nat.eq_zero_of_dvd_of_lt d hm; rw [this]; rfl
    · right; rw [en]; have := Nat.eq_zero_of_dvd_of_lt d hn; rw [this]; rfl
  · rintro (h | h)
    · rw [Int.mul_emod, h, Int.zero_mul]; rfl
    · rw [Int.mul_emod, h, Int.mul_zero]; rfl
theorem fermat_int {x : Int} (h : x % prm ≠ 0) : x ^ 57896044618658097711785492504343953926634992332820282019728792003956564819948 % prm = 1 := by
  obtain ⟨m, hm, em⟩ := emod_nat x
  have hd : ¬ 57896044618658097711785492504343953926634992332820282019728792003956564819949 ∣ m := by
    intro d
    have := Nat.eq_zero_of_dvd_of_lt d hm
    apply h; rw [em, this]; rfl
  have f := fermat pP hd
  rw [show (57896044618658097711785492504343953926634992332820282019728792003956564819949 - 1 : Nat) = 57896044618658097711785492504343953926634992332820282019728792003956564819948 by decide] at f
  rw [pow_nat em]
  exact congrArg (Nat.cast : Nat → Int) f
theorem one_c : (1 : Int) % prm = 1 := by decide
theorem pow_zero_c {x : Int} (h : x % prm = 0) {e : Nat} (he : 0 < e) : x ^ e % prm = 0 := by
  obtain ⟨k, rfl⟩ : ∃ k, e = k + 1 := ⟨e - 1, by omega⟩
  rw [Int.pow_succ, Int.mul_emod, h, Int.mul_zero]; rfl
/-- The power P is the number. -/
theorem pow_P (x : Int) : x ^ 57896044618658097711785492504343953926634992332820282019728792003956564819949 % prm = x % prm := by
  by_cases h : x % prm = 0
  · rw [pow_zero_c h (by decide), h]
  · rw [show (57896044618658097711785492504343953926634992332820282019728792003956564819949 : Nat) = 57896044618658097711785492504343953926634992332820282019728792003956564819948 + 1 by decide, Int.pow_succ, Int.mul_emod, fermat_int h, Int.one_mul, Int.emod_emod]
theorem inv_mul {x : Int} (h : x % prm ≠ 0) : x * x ^ 57896044618658097711785492504343953926634992332820282019728792003956564819947 % prm = 1 % prm := by
  rw [Int.mul_comm, ← Int.pow_succ]
  exact (fermat_int h).trans one_c.symm
theorem inv_inv (x : Int) : (x ^ 57896044618658097711785492504343953926634992332820282019728792003956564819947) ^ 57896044618658097711785492504343953926634992332820282019728792003956564819947 % prm = x % prm := by
  by_cases h : x % prm = 0
  · rw [pow_zero_c (pow_zero_c h (by decide)) (by decide), h]
  · generalize hy : x ^ 57896044618658097711785492504343953926634992332820282019728792003956564819947 = y
    have xy : x * y % prm = 1 % prm := by rw [← hy]; exact inv_mul h
    have y0 : y % prm ≠ 0 := by
      intro e
      rw [Int.mul_emod, e, Int.mul_zero, one_c] at xy
      exact absurd xy (by decide)
    have yy := inv_mul y0
    generalize y ^ 57896044618658097711785492504343953926634992332820282019728792003956564819947 = z at *
    have a : x * y * z % prm = 1 * z % prm := mul_c xy rfl
    have b : x * (y * z) % prm = x * 1 % prm := mul_c rfl yy
    rw [Int.mul_assoc, b, Int.mul_one, Int.one_mul] at a
    exact a.symm
end Go.Proofs.YtkogejglfgghmaaDoor

namespace Go.Proofs.YtkogejglfgghmaaDoor
/-! Roots modulo 2^255 - 19. -/
theorem sub_c {x x' y y' : Int} (h : x % prm = x' % prm) (g : y % prm = y' % prm) : (x - y) % prm = (x' - y') % prm := by
  rw [Int.sub_eq_add_neg, Int.sub_eq_add_neg]; exact add_c h (neg_c g)
theorem sub_zero_c {x y : Int} (h : (x - y) % prm = 0) : x % prm = y % prm := by
  have := add_c (x := x - y) (x' := 0) (h.trans (by decide)) (y := y) rfl
  rwa [Int.sub_add_cancel, Int.zero_add] at this
/-- Two of one square are alike or opposite. -/
theorem sq_eq {r a : Int} (h : r * r % prm = a * a % prm) : r % prm = a % prm ∨ r % prm = -a % prm := by
  have e : (r - a) * (r + a) % prm = 0 := by
    have := sub_c h (rfl : a * a % prm = a * a % prm)
    rw [Int.sub_self] at this
    rw [show (r - a) * (r + a) = r * r - a * a by grind, this]; rfl
  rcases (mul_zero_iff _ _).1 e with e | e
  · exact .inl (sub_zero_c e)
  · right; apply sub_zero_c; rw [show r - -a = r + a by omega]; exact e
theorem sq_one {t : Int} (h : t * t % prm = 1 % prm) : t % prm = 1 % prm ∨ t % prm = -1 % prm := sq_eq (a := 1) h
/-- A root of -1. -/
def uu : Int := 19681161376707505956807079304988542015446066515923890162744021073123829784752
theorem uu_sq : uu * uu % prm = -1 % prm := by decide +kernel
theorem uu_pow : (2 : Int) ^ 14474011154664524427946373126085988481658748083205070504932198000989141204987 % prm = uu := by
  rw [pow_nat (m := 2) (by decide)]
  have : pwf 256 57896044618658097711785492504343953926634992332820282019728792003956564819949 2 14474011154664524427946373126085988481658748083205070504932198000989141204987 = 19681161376707505956807079304988542015446066515923890162744021073123829784752 := by decide +kernel
  rw [pwf_eq _ _ _ _ (by decide)] at this
  rw [this]; rfl
theorem two_half : (2 : Int) ^ 28948022309329048855892746252171976963317496166410141009864396001978282409974 % prm = -1 % prm := by
  rw [pow_nat (m := 2) (by decide)]
  have : pwf 256 57896044618658097711785492504343953926634992332820282019728792003956564819949 2 28948022309329048855892746252171976963317496166410141009864396001978282409974 = 57896044618658097711785492504343953926634992332820282019728792003956564819948 := by decide +kernel
  rw [pwf_eq _ _ _ _ (by decide)] at this
  rw [this]; decide
theorem half_sq (x : Int) : x ^ 28948022309329048855892746252171976963317496166410141009864396001978282409974 * x ^ 28948022309329048855892746252171976963317496166410141009864396001978282409974 = x ^ 57896044618658097711785492504343953926634992332820282019728792003956564819948 := by rw [← Int.pow_add]
theorem half_one {x : Int} (h : x % prm ≠ 0) : x ^ 28948022309329048855892746252171976963317496166410141009864396001978282409974 % prm = 1 % prm ∨ x ^ 28948022309329048855892746252171976963317496166410141009864396001978282409974 % prm = -1 % prm := by
  apply sq_one
  rw [half_sq, fermat_int h]; rfl
/-- What Root tries: a root of x or of nothing. -/
def rt (x : Int) : Int := if x ^ 7237005577332262213973186563042994240829374041602535252466099000494570602494 * x ^ 7237005577332262213973186563042994240829374041602535252466099000494570602494 % prm = x % prm then x ^ 7237005577332262213973186563042994240829374041602535252466099000494570602494 else x ^ 7237005577332262213973186563042994240829374041602535252466099000494570602494 * uu
def rok (x : Int) : Bool := decide (rt x * rt x % prm = x % prm)
/-- The even one of two opposite numbers. -/
def ev (r : Int) : Int := if r % prm % 2 = 1 then -r else r
/-- What Root answers. -/
def rval (x : Int) : Int := if rok x = true then ev (rt x) else 0
theorem ev_sq (r : Int) : ev r * ev r = r * r := by unfold ev; split <;> grind
theorem ev_even (r : Int) : ev r % prm % 2 = 0 := by
  unfold ev
  split
  · rename_i h
    have : -r % prm = prm - r % prm := by
      have h0 := Int.emod_nonneg r (b := prm) (by decide)
      have h1 := Int.emod_lt_of_pos r (b := prm) (by decide)
      have e : -r % prm = (prm - r % prm) % prm := by
        rw [neg_c (x := r) (x' := r % prm) (Int.emod_emod_of_dvd _ (Int.dvd_refl _)).symm, Int.sub_eq_add_neg, Int.add_comm, Int.add_emod_right]
      rw [e]
      apply Int.emod_eq_of_lt <;> omega
    rw [this]
    unfold prm at *
    omega
  · omega
theorem rok_iff (x : Int) : rok x = true ↔ rt x * rt x % prm = x % prm := by unfold rok; exact decide_eq_true_iff
theorem e8_sq (x : Int) : x ^ 7237005577332262213973186563042994240829374041602535252466099000494570602494 * x ^ 7237005577332262213973186563042994240829374041602535252466099000494570602494 = x * x ^ 14474011154664524427946373126085988481658748083205070504932198000989141204987 := by rw [← Int.pow_add, Int.mul_comm x, ← Int.pow_succ]
/-- Whoever has a power to half of P - 1 that is 1 has a root. -/
theorem rok_of {x : Int} (h : x % prm = 0 ∨ x ^ 28948022309329048855892746252171976963317496166410141009864396001978282409974 % prm = 1 % prm) : rok x = true := by
  rw [rok_iff]
  unfold rt
  split
  · assumption
  · rename_i hne
    rcases h with h | h
    · exfalso; apply hne
      rw [Int.mul_emod, pow_zero_c h (by decide), h]; rfl
    · have t : x ^ 14474011154664524427946373126085988481658748083205070504932198000989141204987 * x ^ 14474011154664524427946373126085988481658748083205070504932198000989141204987 % prm = 1 % prm := by rw [← Int.pow_add]; exact h
      rcases sq_one t with t | t
      · exfalso; apply hne
        rw [e8_sq, mul_c (rfl : x % prm = x % prm) t, Int.mul_one]
      · have : x ^ 7237005577332262213973186563042994240829374041602535252466099000494570602494 * uu * (x ^ 7237005577332262213973186563042994240829374041602535252466099000494570602494 * uu) = x ^ 7237005577332262213973186563042994240829374041602535252466099000494570602494 * x ^ 7237005577332262213973186563042994240829374041602535252466099000494570602494 * (uu * uu) := by
          generalize x ^ 7237005577332262213973186563042994240829374041602535252466099000494570602494 = q
          grind
        rw [this, e8_sq, mul_c (mul_c rfl t) uu_sq]
        congr 1
        omega
theorem half_of {x r : Int} (h : r * r % prm = x % prm) (hx : x % prm ≠ 0) : x ^ 28948022309329048855892746252171976963317496166410141009864396001978282409974 % prm = 1 % prm := by
  rw [← pow_c h]
  have : (r * r) ^ 28948022309329048855892746252171976963317496166410141009864396001978282409974 = r ^ 57896044618658097711785492504343953926634992332820282019728792003956564819948 := by rw [← half_sq r]; exact Int.mul_pow
  rw [this, fermat_int]; · rfl
  intro e
  apply hx
  rw [← h, Int.mul_emod, e]; rfl
theorem rok_half (x : Int) : rok x = true ↔ (x % prm = 0 ∨ x ^ 28948022309329048855892746252171976963317496166410141009864396001978282409974 % prm = 1 % prm) := by
  refine ⟨fun h => ?_, rok_of⟩
  by_cases hx : x % prm = 0
  · exact .inl hx
  · exact .inr (half_of ((rok_iff x).1 h) hx)
theorem rok_sq (a : Int) : rok (a * a) = true := by
  apply rok_of
  by_cases h : a * a % prm = 0
  · exact .inl h
  · exact .inr (half_of rfl h)
theorem rok_two : rok 2 = false := by
  rw [Bool.eq_false_iff]
  intro h
  rcases (rok_half 2).1 h with h | h
  · exact absurd h (by decide)
  · rw [two_half] at h; exact absurd h (by decide)
theorem rok_mul {a b : Int} (ha : rok a = false) (hb : rok b = false) : rok (a * b) = true := by
  have a0 : a % prm ≠ 0 := fun h => by rw [(rok_half a).2 (.inl h)] at ha; exact absurd ha (by decide)
  have b0 : b % prm ≠ 0 := fun h => by rw [(rok_half b).2 (.inl h)] at hb; exact absurd hb (by decide)
  have a1 := (half_one a0).resolve_left fun h => by rw [(rok_half a).2 (.inr h)] at ha; exact absurd ha (by decide)
  have b1 := (half_one b0).resolve_left fun h => by rw [(rok_half b).2 (.inr h)] at hb; exact absurd hb (by decide)
  apply rok_of
  right
  rw [Int.mul_pow, mul_c a1 b1]; rfl
theorem rt_c {x y : Int} (h : x % prm = y % prm) : rt x % prm = rt y % prm := by
  have e := pow_c h 7237005577332262213973186563042994240829374041602535252466099000494570602494
  unfold rt
  rw [mul_c e e, h]
  split
  · exact e
  · exact mul_c e rfl
theorem rok_c {x y : Int} (h : x % prm = y % prm) : rok x = rok y := by
  unfold rok
  rw [mul_c (rt_c h) (rt_c h), h]
theorem ev_c {x y : Int} (h : x % prm = y % prm) : ev x % prm = ev y % prm := by
  unfold ev
  rw [h]
  split
  · exact neg_c h
  · exact h
theorem rval_c {x y : Int} (h : x % prm = y % prm) : rval x % prm = rval y % prm := by
  unfold rval
  rw [rok_c h]
  split
  · exact ev_c (rt_c h)
  · rfl
theorem rval_sq {x : Int} (h : rok x = true) : rval x * rval x % prm = x % prm := by
  unfold rval
  rw [if_pos h, ev_sq]
  exact (rok_iff x).1 h
theorem rval_even (x : Int) : rval x % prm % 2 = 0 := by
  unfold rval
  split
  · exact ev_even _
  · decide
end Go.Proofs.YtkogejglfgghmaaDoor

namespace Go.Proofs.YtkogejglfgghmaaDoor
open Go.RowKit Go.Sort
attribute [local go_sem] setCell_drewN alloc_drewN


/-- The words of a number, what goes over the top come back. -/
def nr (i : Nat) (s : Int) : Int := match i with
  | 0 => lb s 0 + 19 * (s / 57896044618658097711785492504343953926634992332820282019728792003956564819968)
  | j => lb s j
theorem nr_bd (s : Int) (h0 : 0 ≤ s) (h1 : s < 926336713898529563388567880069503262826159877325124512315660672063305037119488) : (0 ≤ nr 0 s ∧ nr 0 s < 4503599627370496) ∧ (0 ≤ nr 1 s ∧ nr 1 s < 4503599627370496) ∧ (0 ≤ nr 2 s ∧ nr 2 s < 4503599627370496) ∧ (0 ≤ nr 3 s ∧ nr 3 s < 4503599627370496) ∧ (0 ≤ nr 4 s ∧ nr 4 s < 4503599627370496) := by
  have := lb_bd s 0; have := lb_bd s 1; have := lb_bd s 2; have := lb_bd s 3; have := lb_bd s 4
  simp only [nr]
  omega
theorem nr_val (s : Int) : v5 (nr 0 s) (nr 1 s) (nr 2 s) (nr 3 s) (nr 4 s) % prm = s % prm := by
  have e : v5 (nr 0 s) (nr 1 s) (nr 2 s) (nr 3 s) (nr 4 s) = s - prm * (s / 57896044618658097711785492504343953926634992332820282019728792003956564819968) := by
    simp only [nr, lb, v5, prm, Int.pow_zero, Int.ediv_one, Int.pow_succ, Int.one_mul]
    omega
  rw [e, Int.sub_mul_emod_self_left]
theorem nr_of (s : Int) (e0 : Int) (e1 : Int) (e2 : Int) (e3 : Int) (e4 : Int) (c : Int) (l0 : 0 ≤ e0) (u0 : e0 < 2251799813685248) (l1 : 0 ≤ e1) (u1 : e1 < 2251799813685248) (l2 : 0 ≤ e2) (u2 : e2 < 2251799813685248) (l3 : 0 ≤ e3) (u3 : e3 < 2251799813685248) (l4 : 0 ≤ e4) (u4 : e4 < 2251799813685248) (h : v5 e0 e1 e2 e3 e4 + 57896044618658097711785492504343953926634992332820282019728792003956564819968 * c = s) : e0 + 19 * c = nr 0 s ∧ e1 = nr 1 s ∧ e2 = nr 2 s ∧ e3 = nr 3 s ∧ e4 = nr 4 s := by
  simp only [nr, lb, Int.pow_zero, Int.ediv_one, Int.pow_succ, Int.one_mul]
  unfold v5 at h
  refine ⟨?_, ?_, ?_, ?_, ?_⟩ <;> omega
/-- What the package's variable holds. -/
def Four (w : World) : Prop := 0 < w.heap.size ∧ w.cell? ⟨0, 0, none⟩ = some (.int .u64 9007199254740916) ∧ w.cell? ⟨0, 1, none⟩ = some (.int .u64 9007199254740988) ∧ w.cell? ⟨0, 2, none⟩ = some (.int .u64 9007199254740988) ∧ w.cell? ⟨0, 3, none⟩ = some (.int .u64 9007199254740988) ∧ w.cell? ⟨0, 4, none⟩ = some (.int .u64 9007199254740988)
theorem Four.below {w w' : World} (h : Four w) (hb : Below w.heap.size w w') : Four w' := by
  obtain ⟨h0, k0, k1, k2, k3, k4⟩ := h
  exact ⟨Nat.lt_of_lt_of_le h0 hb.size, (hb.cell (p := ⟨0, 0, none⟩) h0).trans k0, (hb.cell (p := ⟨0, 1, none⟩) h0).trans k1, (hb.cell (p := ⟨0, 2, none⟩) h0).trans k2, (hb.cell (p := ⟨0, 3, none⟩) h0).trans k3, (hb.cell (p := ⟨0, 4, none⟩) h0).trans k4⟩

theorem astep (x c : Int) (l : 0 ≤ x) (u : x < 36028797018963968) (lc : 0 ≤ c) (uc : c ≤ 64) : ∃ e c' : Int, (x + c) / 2251799813685248 = c' ∧ bits .and .u64 (x + c) 2251799813685247 = e ∧ Hid (e + 2251799813685248 * c' = x + c) ∧ 0 ≤ c' ∧ c' ≤ 64 ∧ 0 ≤ e ∧ e < 2251799813685248 := by
  rw [and51 _ (by omega) (by omega)]
  exact ⟨_, _, rfl, rfl, by unfold Hid; omega, by omega, by omega, by omega, by omega⟩
theorem astep0 (x : Int) (l : 0 ≤ x) (u : x < 36028797018963968) : ∃ e c' : Int, x / 2251799813685248 = c' ∧ bits .and .u64 x 2251799813685247 = e ∧ Hid (e + 2251799813685248 * c' = x) ∧ 0 ≤ c' ∧ c' ≤ 64 ∧ 0 ≤ e ∧ e < 2251799813685248 := by
  rw [and51 _ (by omega) (by omega)]
  exact ⟨_, _, rfl, rfl, by unfold Hid; omega, by omega, by omega, by omega, by omega⟩


set_option maxHeartbeats 4000000 in
theorem add_any (a0 a1 a2 a3 a4 b0 b1 b2 b3 b4 : Int) (la0 : 0 ≤ a0) (ua0 : a0 < 4503599627370496) (la1 : 0 ≤ a1) (ua1 : a1 < 4503599627370496) (la2 : 0 ≤ a2) (ua2 : a2 < 4503599627370496) (la3 : 0 ≤ a3) (ua3 : a3 < 4503599627370496) (la4 : 0 ≤ a4) (ua4 : a4 < 4503599627370496) (lb0 : 0 ≤ b0) (ub0 : b0 < 4503599627370496) (lb1 : 0 ≤ b1) (ub1 : b1 < 4503599627370496) (lb2 : 0 ≤ b2) (ub2 : b2 < 4503599627370496) (lb3 : 0 ≤ b3) (ub3 : b3 < 4503599627370496) (lb4 : 0 ≤ b4) (ub4 : b4 < 4503599627370496) (w : World) :
    Calls Tryd.prog 30 #[.agg #[.int .u64 a0, .int .u64 a1, .int .u64 a2, .int .u64 a3, .int .u64 a4], .agg #[.int .u64 b0, .int .u64 b1, .int .u64 b2, .int .u64 b3, .int .u64 b4]] w fun e w' => e = .returned (.agg #[.int .u64 (nr 0 (v5 a0 a1 a2 a3 a4 + v5 b0 b1 b2 b3 b4)), .int .u64 (nr 1 (v5 a0 a1 a2 a3 a4 + v5 b0 b1 b2 b3 b4)), .int .u64 (nr 2 (v5 a0 a1 a2 a3 a4 + v5 b0 b1 b2 b3 b4)), .int .u64 (nr 3 (v5 a0 a1 a2 a3 a4 + v5 b0 b1 b2 b3 b4)), .int .u64 (nr 4 (v5 a0 a1 a2 a3 a4 + v5 b0 b1 b2 b3 b4))]) ∧ Below w.heap.size w w' := by
  go_enter Tryd.func30, Tryd.ntmps30
  go_wp2
  refine wp_loop_rounds 6 ?_
  rw [rounds_succ]
  go_wp2
  go_quiet (fail)
  go_wp2
  obtain ⟨e0, c0, hq, hr, H0, lc0, uc0, le0, ue0⟩ := astep0 (a0 + b0) (by omega) (by omega)
  rw [hq, hr]; clear hq hr
  rw [rounds_succ]
  go_wp2
  go_quiet (fail)
  go_wp2
  obtain ⟨e1, c1, hq, hr, H1, lc1, uc1, le1, ue1⟩ := astep (a1 + b1) c0 (by omega) (by omega) lc0 uc0
  rw [hq, hr]; clear hq hr
  rw [rounds_succ]
  go_wp2
  go_quiet (fail)
  go_wp2
  obtain ⟨e2, c2, hq, hr, H2, lc2, uc2, le2, ue2⟩ := astep (a2 + b2) c1 (by omega) (by omega) lc1 uc1
  rw [hq, hr]; clear hq hr
  rw [rounds_succ]
  go_wp2
  go_quiet (fail)
  go_wp2
  obtain ⟨e3, c3, hq, hr, H3, lc3, uc3, le3, ue3⟩ := astep (a3 + b3) c2 (by omega) (by omega) lc2 uc2
  rw [hq, hr]; clear hq hr
  rw [rounds_succ]
  go_wp2
  go_quiet (fail)
  go_wp2
  obtain ⟨e4, c4, hq, hr, H4, lc4, uc4, le4, ue4⟩ := astep (a4 + b4) c3 (by omega) (by omega) lc3 uc3
  rw [hq, hr]; clear hq hr
  rw [rounds_succ]
  go_wp2_with (first | (refine wpList_load_row rfl 26 _ rfl (w.heap.size + 1 + 1 + 1) rfl 26 #[.int .u64 (e0 + 19 * c4), .int .u64 e1, .int .u64 e2, .int .u64 e3, .int .u64 e4] (0, 0) _ (by rw [World.heap_drewN, hp4_3]) Tryd.underlying26 rfl (by kernel_rfl) ?_) | (refine wpList_store_row rfl 26 _ _ rfl (w.heap.size + 1 + 1) #[.int .u64 (e0 + 19 * c4), .int .u64 e1, .int .u64 e2, .int .u64 e3, .int .u64 e4] rfl rfl 26 #[.int .u64 0, .int .u64 0, .int .u64 0, .int .u64 0, .int .u64 0] (by rw [World.heap_drewN, hp4_2]) (by kernel_rfl) rfl (by kernel_rfl) ?_; rw [setRow_drewN, setRow_alloc_old _ _ _ _ (by simp), setRow_alloc_new _ _ _ _ _ _ (by simp)]))
  have hv : v5 e0 e1 e2 e3 e4 + 57896044618658097711785492504343953926634992332820282019728792003956564819968 * c4 = v5 a0 a1 a2 a3 a4 + v5 b0 b1 b2 b3 b4 := by
    have h0 := H0.out; have h1 := H1.out; have h2 := H2.out; have h3 := H3.out; have h4 := H4.out
    simp only [v5]
    omega
  obtain ⟨q0, q1, q2, q3, q4⟩ := nr_of (v5 a0 a1 a2 a3 a4 + v5 b0 b1 b2 b3 b4) e0 e1 e2 e3 e4 c4 le0 ue0 le1 ue1 le2 ue2 le3 ue3 le4 ue4 hv
  refine bodyPost_ret (v := .agg #[.int .u64 (e0 + 19 * c4), .int .u64 e1, .int .u64 e2, .int .u64 e3, .int .u64 e4]) (results_cell_row Tryd.results30 _ _ (w.heap.size + 1 + 1) _ #[.int .u64 (e0 + 19 * c4), .int .u64 e1, .int .u64 e2, .int .u64 e3, .int .u64 e4] _ _ rfl (by rw [World.heap_drewN, hp4_2]) Tryd.underlying26 rfl (by kernel_rfl)) rfl ⟨?_, below_drN (((((Below.refl _ _).alloc (Nat.le_refl _) _).alloc (by simp) _).alloc (by simp; omega) _).alloc (by simp; omega) _) _⟩
  rw [← q0, ← q1, ← q2, ← q3, ← q4]


set_option maxHeartbeats 4000000 in
theorem sub_any (a0 a1 a2 a3 a4 b0 b1 b2 b3 b4 : Int) (la0 : 0 ≤ a0) (ua0 : a0 < 4503599627370496) (la1 : 0 ≤ a1) (ua1 : a1 < 4503599627370496) (la2 : 0 ≤ a2) (ua2 : a2 < 4503599627370496) (la3 : 0 ≤ a3) (ua3 : a3 < 4503599627370496) (la4 : 0 ≤ a4) (ua4 : a4 < 4503599627370496) (lb0 : 0 ≤ b0) (ub0 : b0 < 4503599627370496) (lb1 : 0 ≤ b1) (ub1 : b1 < 4503599627370496) (lb2 : 0 ≤ b2) (ub2 : b2 < 4503599627370496) (lb3 : 0 ≤ b3) (ub3 : b3 < 4503599627370496) (lb4 : 0 ≤ b4) (ub4 : b4 < 4503599627370496) (w : World) (h4 : Four w) :
    Calls Tryd.prog 31 #[.agg #[.int .u64 a0, .int .u64 a1, .int .u64 a2, .int .u64 a3, .int .u64 a4], .agg #[.int .u64 b0, .int .u64 b1, .int .u64 b2, .int .u64 b3, .int .u64 b4]] w fun e w' => e = .returned (.agg #[.int .u64 (nr 0 (v5 a0 a1 a2 a3 a4 + 231584178474632390847141970017375815706539969331281128078915168015826259279796 - v5 b0 b1 b2 b3 b4)), .int .u64 (nr 1 (v5 a0 a1 a2 a3 a4 + 231584178474632390847141970017375815706539969331281128078915168015826259279796 - v5 b0 b1 b2 b3 b4)), .int .u64 (nr 2 (v5 a0 a1 a2 a3 a4 + 231584178474632390847141970017375815706539969331281128078915168015826259279796 - v5 b0 b1 b2 b3 b4)), .int .u64 (nr 3 (v5 a0 a1 a2 a3 a4 + 231584178474632390847141970017375815706539969331281128078915168015826259279796 - v5 b0 b1 b2 b3 b4)), .int .u64 (nr 4 (v5 a0 a1 a2 a3 a4 + 231584178474632390847141970017375815706539969331281128078915168015826259279796 - v5 b0 b1 b2 b3 b4))]) ∧ Below w.heap.size w w' := by
  obtain ⟨hz, k0, k1, k2, k3, k4⟩ := h4
  go_enter Tryd.func31, Tryd.ntmps31
  go_wp2
  refine wp_loop_rounds 6 ?_
  rw [rounds_succ]
  go_wp2
  go_quiet (fail)
  go_wp2
  obtain ⟨e0, c0, hq, hr, H0, lc0, uc0, le0, ue0⟩ := astep0 (a0 + 9007199254740916 - b0) (by omega) (by omega)
  rw [hq, hr]; clear hq hr
  rw [rounds_succ]
  go_wp2
  go_quiet (fail)
  go_wp2
  obtain ⟨e1, c1, hq, hr, H1, lc1, uc1, le1, ue1⟩ := astep (a1 + 9007199254740988 - b1) c0 (by omega) (by omega) lc0 uc0
  rw [hq, hr]; clear hq hr
  rw [rounds_succ]
  go_wp2
  go_quiet (fail)
  go_wp2
  obtain ⟨e2, c2, hq, hr, H2, lc2, uc2, le2, ue2⟩ := astep (a2 + 9007199254740988 - b2) c1 (by omega) (by omega) lc1 uc1
  rw [hq, hr]; clear hq hr
  rw [rounds_succ]
  go_wp2
  go_quiet (fail)
  go_wp2
  obtain ⟨e3, c3, hq, hr, H3, lc3, uc3, le3, ue3⟩ := astep (a3 + 9007199254740988 - b3) c2 (by omega) (by omega) lc2 uc2
  rw [hq, hr]; clear hq hr
  rw [rounds_succ]
  go_wp2
  go_quiet (fail)
  go_wp2
  obtain ⟨e4, c4, hq, hr, H4, lc4, uc4, le4, ue4⟩ := astep (a4 + 9007199254740988 - b4) c3 (by omega) (by omega) lc3 uc3
  rw [hq, hr]; clear hq hr
  rw [rounds_succ]
  go_wp2_with (first | (refine wpList_load_row rfl 26 _ rfl (w.heap.size + 1 + 1 + 1) rfl 26 #[.int .u64 (e0 + 19 * c4), .int .u64 e1, .int .u64 e2, .int .u64 e3, .int .u64 e4] (0, 0) _ (by rw [World.heap_drewN, hp4_3]) Tryd.underlying26 rfl (by kernel_rfl) ?_) | (refine wpList_store_row rfl 26 _ _ rfl (w.heap.size + 1 + 1) #[.int .u64 (e0 + 19 * c4), .int .u64 e1, .int .u64 e2, .int .u64 e3, .int .u64 e4] rfl rfl 26 #[.int .u64 0, .int .u64 0, .int .u64 0, .int .u64 0, .int .u64 0] (by rw [World.heap_drewN, hp4_2]) (by kernel_rfl) rfl (by kernel_rfl) ?_; rw [setRow_drewN, setRow_alloc_old _ _ _ _ (by simp), setRow_alloc_new _ _ _ _ _ _ (by simp)]))
  have hv : v5 e0 e1 e2 e3 e4 + 57896044618658097711785492504343953926634992332820282019728792003956564819968 * c4 = v5 a0 a1 a2 a3 a4 + 231584178474632390847141970017375815706539969331281128078915168015826259279796 - v5 b0 b1 b2 b3 b4 := by
    have h0 := H0.out; have h1 := H1.out; have h2 := H2.out; have h3 := H3.out; have h4 := H4.out
    simp only [v5]
    omega
  obtain ⟨q0, q1, q2, q3, q4⟩ := nr_of (v5 a0 a1 a2 a3 a4 + 231584178474632390847141970017375815706539969331281128078915168015826259279796 - v5 b0 b1 b2 b3 b4) e0 e1 e2 e3 e4 c4 le0 ue0 le1 ue1 le2 ue2 le3 ue3 le4 ue4 hv
  refine bodyPost_ret (v := .agg #[.int .u64 (e0 + 19 * c4), .int .u64 e1, .int .u64 e2, .int .u64 e3, .int .u64 e4]) (results_cell_row Tryd.results31 _ _ (w.heap.size + 1 + 1) _ #[.int .u64 (e0 + 19 * c4), .int .u64 e1, .int .u64 e2, .int .u64 e3, .int .u64 e4] _ _ rfl (by rw [World.heap_drewN, hp4_2]) Tryd.underlying26 rfl (by kernel_rfl)) rfl ⟨?_, below_drN (((((Below.refl _ _).alloc (Nat.le_refl _) _).alloc (by simp) _).alloc (by simp; omega) _).alloc (by simp; omega) _) _⟩
  rw [← q0, ← q1, ← q2, ← q3, ← q4]

end Go.Proofs.YtkogejglfgghmaaDoor


namespace Go.Proofs.YtkogejglfgghmaaDoor
open Go.ChangeShapes Go.WideShapes Go.ChangeAt Go.WideMaps Go.WideElems Go.RowKit

theorem gFour : Tryd.prog.globalNamed "pawl/field.fourfold" = some 0 := by kernel_rfl
theorem tFour : (Tryd.prog.globals[0]?).map (·.type) = some 24 := by kernel_rfl
theorem c1 : Tryd.prog.cellsOf 23 = 1 := by kernel_rfl
theorem c5 : Tryd.prog.cellsOf 24 = 5 := by kernel_rfl

theorem row5_of {P : Program} {t e : TypeId} (ht : P.underlying t = some (.array 5 e)) (he : P.underlying e = some (.int .u64)) (c1 : P.cellsOf e = 1) (c5 : P.cellsOf t = 5) {W : World} {m : Nat} {cs : Array Value} {p : List MemPlace} {k0 k1 k2 k3 k4 : Int}
    (h : DataW.trod (fun _ => ()) P W 0 (fun _ => true) false m t cs.toList = some (.agg [.lit (.int .u64 k0), .lit (.int .u64 k1), .lit (.int .u64 k2), .lit (.int .u64 k3), .lit (.int .u64 k4)], p)) :
    cs = #[.int .u64 k0, .int .u64 k1, .int .u64 k2, .int .u64 k3, .int .u64 k4] := by
  obtain ⟨xs, m1, rfl, hx1, hlen, hn3, hel⟩ := DataW.trod_array ht h
  rw [c5] at hlen
  have e0 := hel 0 (by decide); have e1 := hel 1 (by decide); have e2 := hel 2 (by decide); have e3 := hel 3 (by decide); have e4 := hel 4 (by decide)
  rw [c1] at e0 e1 e2 e3 e4
  obtain ⟨l⟩ := cs
  simp only [Prod.mk.injEq, DataW.agg.injEq] at hx1
  match xs, hn3, hx1, l, hlen, e0, e1, e2, e3, e4 with
  | [x0, x1, x2, x3, x4], _, hx1, [d0, d1, d2, d3, d4], _, e0, e1, e2, e3, e4 =>
    simp only [List.map_cons, List.map_nil, List.cons.injEq] at hx1
    obtain ⟨⟨h0, h1, h2, h3, h4, _⟩, _⟩ := hx1
    have key : ∀ (d : Value) (x : DataW Unit × List MemPlace) (k : Int), DataW.trod (fun _ => ()) P W 0 (fun _ => true) false m1 e [d] = some x → .lit (.int .u64 k) = x.1 → d = .int .u64 k := by
      intro d x k ee hx
      obtain ⟨a, q1, q2, _⟩ := DataW.trod_int he ee
      rw [q2] at hx
      simp at hx q1
      rw [q1, hx]
    rw [key d0 x0 k0 e0 h0, key d1 x1 k1 e1 h1, key d2 x2 k2 e2 h2, key d3 x3 k3 e3 h3, key d4 x4 k4 e4 h4]

theorem four_of_cells {W : World} (hv : World.var? Tryd.prog W "pawl/field.fourfold" = some #[.int .u64 9007199254740916, .int .u64 9007199254740988, .int .u64 9007199254740988, .int .u64 9007199254740988, .int .u64 9007199254740988]) : Four W := by
  have q := fun i => World.var?_cell gFour hv i
  have h0 : 0 < W.heap.size := by
    have := q 0
    rcases Nat.eq_zero_or_pos W.heap.size with h | h
    · simp [World.cell?, h] at this
    · exact h
  exact ⟨h0, by simpa using q 0, by simpa using q 1, by simpa using q 2, by simpa using q 3, by simpa using q 4⟩

/-- What the condition gives: the cells of the package's variable. -/
theorem four_of_laid {W : World} (h : laidMetH Tryd.prog [("pawl/field.fourfold", Rows.laid_pawl_field_fourfold)] W) : Four W := by
  rw [MakeChecks.laidMetH_plain _ _ _ (by kernel_rfl)] at h
  obtain ⟨ps, ⟨g0, t0, cs0, f0, p0, q0, hg0, ht0, hv0, hd0, _⟩, _, _⟩ := h
  obtain rfl := Option.some.inj (gFour.symm.trans hg0)
  obtain rfl := Option.some.inj (tFour.symm.trans ht0)
  obtain rfl := row5_of Tryd.underlying24 Tryd.underlying23 c1 c5 hd0
  exact four_of_cells hv0

end Go.Proofs.YtkogejglfgghmaaDoor


namespace Go.Proofs.YtkogejglfgghmaaDoor
open Go.RowKit Go.Sort
attribute [local go_sem] setCell_drewN alloc_drewN


theorem v5_lb_mod (m : Int) : v5 (lb m 0) (lb m 1) (lb m 2) (lb m 3) (lb m 4) = m % 57896044618658097711785492504343953926634992332820282019728792003956564819968 := by
  unfold lb v5
  simp only [Int.pow_zero, Int.ediv_one, Int.pow_succ, Int.one_mul]
  omega
theorem Tryd.infoU8 : ∃ i, Tryd.prog.info? 5 = some i := by
  cases h : Tryd.prog.info? 5 with
  | some i => exact ⟨i, rfl⟩
  | none => exact absurd (show (Tryd.prog.info? 5).isSome = true by kernel_rfl) (by rw [h]; decide)
theorem Tryd.cellsU8 : Tryd.prog.cellsOf 5 = 1 := by kernel_rfl
/-- Two keys, held against each other. -/
theorem keys_equal (x0 x1 x2 x3 x4 x5 x6 x7 x8 x9 x10 x11 x12 x13 x14 x15 x16 x17 x18 x19 x20 x21 x22 x23 x24 x25 x26 x27 x28 x29 x30 x31 y0 y1 y2 y3 y4 y5 y6 y7 y8 y9 y10 y11 y12 y13 y14 y15 y16 y17 y18 y19 y20 y21 y22 y23 y24 y25 y26 y27 y28 y29 y30 y31 : Int) (W : World) : (Op.equalIn 10000 34 (.agg #[.int .u8 x0, .int .u8 x1, .int .u8 x2, .int .u8 x3, .int .u8 x4, .int .u8 x5, .int .u8 x6, .int .u8 x7, .int .u8 x8, .int .u8 x9, .int .u8 x10, .int .u8 x11, .int .u8 x12, .int .u8 x13, .int .u8 x14, .int .u8 x15, .int .u8 x16, .int .u8 x17, .int .u8 x18, .int .u8 x19, .int .u8 x20, .int .u8 x21, .int .u8 x22, .int .u8 x23, .int .u8 x24, .int .u8 x25, .int .u8 x26, .int .u8 x27, .int .u8 x28, .int .u8 x29, .int .u8 x30, .int .u8 x31]) (.agg #[.int .u8 y0, .int .u8 y1, .int .u8 y2, .int .u8 y3, .int .u8 y4, .int .u8 y5, .int .u8 y6, .int .u8 y7, .int .u8 y8, .int .u8 y9, .int .u8 y10, .int .u8 y11, .int .u8 y12, .int .u8 y13, .int .u8 y14, .int .u8 y15, .int .u8 y16, .int .u8 y17, .int .u8 y18, .int .u8 y19, .int .u8 y20, .int .u8 y21, .int .u8 y22, .int .u8 y23, .int .u8 y24, .int .u8 y25, .int .u8 y26, .int .u8 y27, .int .u8 y28, .int .u8 y29, .int .u8 y30, .int .u8 y31])).run Tryd.prog W = .ok (decide ([x0, x1, x2, x3, x4, x5, x6, x7, x8, x9, x10, x11, x12, x13, x14, x15, x16, x17, x18, x19, x20, x21, x22, x23, x24, x25, x26, x27, x28, x29, x30, x31] = [y0, y1, y2, y3, y4, y5, y6, y7, y8, y9, y10, y11, y12, y13, y14, y15, y16, y17, y18, y19, y20, y21, y22, y23, y24, y25, y26, y27, y28, y29, y30, y31])) W := by
  obtain ⟨i0, hi⟩ := Tryd.infoU8
  exact run_equal_ints W Tryd.underlying34 Tryd.underlying5 hi Tryd.cellsU8 [x0, x1, x2, x3, x4, x5, x6, x7, x8, x9, x10, x11, x12, x13, x14, x15, x16, x17, x18, x19, x20, x21, x22, x23, x24, x25, x26, x27, x28, x29, x30, x31] [y0, y1, y2, y3, y4, y5, y6, y7, y8, y9, y10, y11, y12, y13, y14, y15, y16, y17, y18, y19, y20, y21, y22, y23, y24, y25, y26, y27, y28, y29, y30, y31] rfl rfl


end Go.Proofs.YtkogejglfgghmaaDoor

