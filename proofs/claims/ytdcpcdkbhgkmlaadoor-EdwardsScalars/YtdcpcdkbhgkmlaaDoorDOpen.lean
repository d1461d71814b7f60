import Derived.ProofKit
import Derived.OpenShut
import Derived.WalkKit
import Derived.WalkSpells
import Derived.WalkLawsBesides
import Derived.Lib.QuietBelow
import Derived.BigQuiet
import Derived.Laws.CopyOwn
import Derived.Tactics
import Derived.Laws.Rows
import Derived.RegionTactic
import Derived.Below
import Derived.Laws.BitsAllLaws
import Derived.Shelf.Bits.Mul64
import Derived.ChangeKeysEq
import Derived.Laws.StructEq
import Derived.Test.YtdcpcdkbhgkmlaaDoorProg
namespace Go.Proofs.YtdcpcdkbhgkmlaaDoor
set_option maxRecDepth 100000
open Go Go.ChangeShapes Go.WideShapes Go.ChangeAt Go.RowKit
/-! An array of integers that comes in by value. -/
section
variable {P : Program} {H : Type} {enc : TypeId × Value → H} {w : World}
theorem okWide_array {r : Reach} {base : Nat} {t e : TypeId} {n : Nat} {v : Value} (ht : P.underlying t = some (.array n e)) (h : Value.okWide P w r base t v) : ∃ cs : Array Value, v = .agg cs ∧ cs.size = P.cellsOf t := by
 simp only [Value.okWide, ht] at h
 obtain ⟨cs, h1, h2, _⟩ := h
 exact ⟨cs, h1, h2⟩
theorem ints_of : ∀ (cs : List Value) (k : IntKind) (_ : ∀ i (hi : i < cs.length), ∃ a : Int, cs[i] = .int k a ∧ (Lit.int k a).wf = true), ∃ l : List Int, cs = l.map (Value.int k) ∧ ∀ x ∈ l, (Lit.int k x).wf = true
 | [], _, _ => ⟨[], rfl, by simp⟩
 | c :: cs, k, h => by
  obtain ⟨a, ha, wa⟩ := h 0 (by simp)
  obtain ⟨l, hl, wl⟩ := ints_of cs k (fun i hi => by have h1 := h (i + 1) (Nat.succ_lt_succ hi); simp only [List.getElem_cons_succ] at h1; exact h1)
  refine ⟨a :: l, by simp at ha; simp [ha, hl], ?_⟩
  intro x hx
  rcases List.mem_cons.1 hx with rfl | hx
  ·exact wa
  ·exact wl x hx
theorem open_array {r : Reach} {b0 base : Nat} {spare : TypeId → Bool} {held : Bool} {t e : TypeId} {n : Nat} {k : IntKind} {v : Value} {d : DataW H} {p : List MemPlace} (ht : P.underlying t = some (.array n e)) (he : P.underlying e = some (.int k)) (hce : P.cellsOf e = 1) (hct : P.cellsOf t = n)
 (hv : Value.okWide P w r b0 t v) (h : DataW.Trod enc P w base spare held t v d p) :
 ∃ l : List Int, l.length = n ∧ v = .agg (l.map (Value.int k)).toArray ∧ ∀ x ∈ l, (Lit.int k x).wf = true := by
 obtain ⟨cs, rfl, hs⟩ := okWide_array ht hv
 obtain ⟨fuel, hf⟩ := h
 obtain ⟨xs, m, _, _, hl, hx, hi⟩ := DataW.trod_array ht hf
 obtain ⟨l, hl', wl⟩ := ints_of cs.toList k (fun i hi' => by
  have hin : i < n := by simp at hi'; omega
  have h1 := hi i hin
  rw [hce] at h1
  have hx' : xs[i]? = some xs[i] := List.getElem?_eq_getElem (by omega)
  rw [hx'] at h1
  obtain ⟨a, e0, _, wa⟩ := DataW.trod_int he h1
  refine ⟨a, ?_, wa⟩
  simp only [Value.cells, Nat.mul_one] at e0
  rw [List.drop_eq_getElem_cons hi'] at e0
  simpa using e0)
 refine ⟨l, ?_, ?_, wl⟩
 ·have : cs.toList.length = l.length := by rw [hl']; simp
  simp at this
  omega
 ·congr 1
  rw [← hl']
theorem u8_of_wf {x : Int} (h : (Lit.int .u8 x).wf = true) : 0 ≤ x ∧ x < 256 := by
 have := bounds_u8 h
 omega
end
theorem list32 : ∀ (l : List Int), l.length = 32 → ∃ b0 b1 b2 b3 b4 b5 b6 b7 b8 b9 b10 b11 b12 b13 b14 b15 b16 b17 b18 b19 b20 b21 b22 b23 b24 b25 b26 b27 b28 b29 b30 b31 : Int, l = [b0, b1, b2, b3, b4, b5, b6, b7, b8, b9, b10, b11, b12, b13, b14, b15, b16, b17, b18, b19, b20, b21, b22, b23, b24, b25, b26, b27, b28, b29, b30, b31]
 | [b0, b1, b2, b3, b4, b5, b6, b7, b8, b9, b10, b11, b12, b13, b14, b15, b16, b17, b18, b19, b20, b21, b22, b23, b24, b25, b26, b27, b28, b29, b30, b31], _ => ⟨b0, b1, b2, b3, b4, b5, b6, b7, b8, b9, b10, b11, b12, b13, b14, b15, b16, b17, b18, b19, b20, b21, b22, b23, b24, b25, b26, b27, b28, b29, b30, b31, rfl⟩
end Go.Proofs.YtdcpcdkbhgkmlaaDoor
namespace Go.Proofs.YtdcpcdkbhgkmlaaDoor
theorem ZPa {α : Type _} {xs : List α} {i : Nat} (h : i < xs.toArray.size) : xs.toArray[i] = xs[i]'(by simpa using h) := rfl
theorem ZPb {α : Type _} (a : α) (xs : List α) (i : Nat) (h : i + 1 < (a :: xs).length) : (a :: xs)[i + 1] = xs[i]'(Nat.lt_of_succ_lt_succ h) := rfl
theorem ZPc {α : Type _} (a : α) (xs : List α) (h : 0 < (a :: xs).length) : (a :: xs)[0] = a := rfl
theorem ZPd {α : Type _} (l : List α) (i : Nat) (a : α) : l.toArray.setIfInBounds i a = (l.set i a).toArray := List.setIfInBounds_toArray l i a
theorem ZPe {α : Type _} {x : α} {xs : List α} {i : Nat} {a : α} : (x :: xs).set (i + 1) a = x :: xs.set i a := rfl
theorem ZPf {α : Type _} {x : α} {xs : List α} {a : α} : (x :: xs).set 0 a = a :: xs := rfl
set_option maxRecDepth 100000
open Go.RowKit Go.Sort
/-! Worlds: a whole row stored into a block that the call itself has laid. -/
theorem setRow_alloc_new (w : World) (old cs : Array Value) (t : TypeId) (fr : Nat × Nat) (n : Nat) (hn : n = w.heap.size) :
 (w.alloc (.cells old t fr)).setRow n cs = w.alloc (.cells cs t fr) := by
 subst hn
 show ({ w with heap := (w.heap.push (.cells old t fr)).modify w.heap.size _ } : World) = { w with heap := w.heap.push (.cells cs t fr) }
 congr 1
 apply Array.ext_getElem?
 intro k
 rw [Array.getElem?_modify, Array.getElem?_push, Array.getElem?_push]
 by_cases h : k = w.heap.size
 ·subst h; simp
 ·rw [if_neg (Ne.symm h), if_neg h]; simp [h]
theorem setRow_alloc_old (w : World) (o : Obj) (n : Nat) (cs : Array Value) (hn : n < w.heap.size) :
 (w.alloc o).setRow n cs = (w.setRow n cs).alloc o := by
 show ({ w with heap := (w.heap.push o).modify n _ } : World) = { w with heap := (w.heap.modify n _).push o }
 congr 1
 apply Array.ext_getElem?
 intro k
 rw [Array.getElem?_modify, Array.getElem?_push, Array.getElem?_push, Array.getElem?_modify, Array.size_modify]
 by_cases h : n = k
 ·subst h; rw [if_pos rfl, if_neg (by omega), if_pos rfl, if_neg (by omega)]
 ·rw [if_neg h, if_neg h]
theorem setCell_drewN (w : World) (n : Nat) (a : Addr) (v : Value) : (w.drewN n).setCell a v = (w.setCell a v).drewN n := rfl
theorem alloc_drewN (w : World) (n : Nat) (o : Obj) : (w.drewN n).alloc o = (w.alloc o).drewN n := rfl
theorem below_drN {B : Nat} {a w : World} (h : Below B a w) (n : Nat) : Below B a (w.drewN n) := ⟨h.os, h.tape, h.output, h.size, h.block⟩
/-! The blocks that a call has laid, by their places. -/
theorem hp1_0 (w : World) (o0 : Obj) : (w.alloc o0).heap[w.heap.size]? = some o0 := by
 show (w.heap.push o0)[w.heap.size]? = _
 rw [Array.getElem?_push, if_pos rfl]
theorem hp2_0 (w : World) (o0 o1 : Obj) : ((w.alloc o0).alloc o1).heap[w.heap.size]? = some o0 := by
 show ((w.heap.push o0).push o1)[w.heap.size]? = _
 rw [Array.getElem?_push, if_neg (by simp only [Array.size_push]; omega)]
 rw [Array.getElem?_push, if_pos rfl]
theorem hp2_1 (w : World) (o0 o1 : Obj) : ((w.alloc o0).alloc o1).heap[w.heap.size + 1]? = some o1 := by
 show ((w.heap.push o0).push o1)[w.heap.size + 1]? = _
 rw [Array.getElem?_push, if_pos (by simp only [Array.size_push])]
theorem hp3_0 (w : World) (o0 o1 o2 : Obj) : (((w.alloc o0).alloc o1).alloc o2).heap[w.heap.size]? = some o0 := by
 show (((w.heap.push o0).push o1).push o2)[w.heap.size]? = _
 rw [Array.getElem?_push, if_neg (by simp only [Array.size_push]; omega)]
 rw [Array.getElem?_push, if_neg (by simp only [Array.size_push]; omega)]
 rw [Array.getElem?_push, if_pos rfl]
theorem hp3_1 (w : World) (o0 o1 o2 : Obj) : (((w.alloc o0).alloc o1).alloc o2).heap[w.heap.size + 1]? = some o1 := by
 show (((w.heap.push o0).push o1).push o2)[w.heap.size + 1]? = _
 rw [Array.getElem?_push, if_neg (by simp only [Array.size_push]; omega)]
 rw [Array.getElem?_push, if_pos (by simp only [Array.size_push])]
theorem hp3_2 (w : World) (o0 o1 o2 : Obj) : (((w.alloc o0).alloc o1).alloc o2).heap[w.heap.size + 1 + 1]? = some o2 := by
 show (((w.heap.push o0).push o1).push o2)[w.heap.size + 1 + 1]? = _
 rw [Array.getElem?_push, if_pos (by simp only [Array.size_push])]
/-! Results: a row, and a slot. -/
theorem results_row_tmp {P : Program} {fn : Func} {p u : Tmp} {ty : TypeId} (h : fn.results = #[.cell p ty, .tmp u]) (tmps : Array Value) (w : World) (g : Nat) (t : TypeId) (cs : Array Value) (fr : Nat × Nat) (d : TypeDesc) (v : Value)
 (hp : tmps.getD p undef = .pointer (some ⟨g, 0, none⟩)) (hv : tmps.getD u undef = v) (hg : w.heap[g]? = some (.cells cs t fr))
 (hu : P.underlying ty = some d) (hd : (match d with | .struct _ | .array _ _ => true | _ => false) = true) (hi : (P.info? ty).map (·.size) = some cs.size) :
 (results fn tmps).run P w = .ok (.tuple #[.agg cs, v]) w := by
 have hl := run_loadVar_row (P := P) w g t ty cs fr d hg hu hd hi
 rw [results_cell_tmp h, hp, hv]
 simp [asAddr, hl]
end Go.Proofs.YtdcpcdkbhgkmlaaDoor
namespace Go.Proofs.YtdcpcdkbhgkmlaaDoor
set_option maxRecDepth 100000
open Go.RowKit Go.Sort
end Go.Proofs.YtdcpcdkbhgkmlaaDoor
namespace Go.Proofs.YtdcpcdkbhgkmlaaDoor
set_option maxRecDepth 100000
open Go Go.RowKit
/-! A region that draws its order, whose operations are quiet but for ONE that waits for all others (a store): one walk of the text's order, then that one operation. -/
def idle (o : Oper) : Oper := { o with op := .move (.const undef) }
def lastB (L : List Oper) (m : Nat) : Bool := decide (m + 1 = L.length) && (List.range m).all fun j => (List.range L.length).any fun k => ((L[k]?).map fun o => o.after.toList.any fun e => Region.binds .any e && e.on == j).getD false
def Closed (L : List Oper) (listed : Array Bool) : Prop := ∀ k x, L[k]? = some x → listed.getD k false = true → ∀ e ∈ x.after, Region.binds .any e = true → listed.getD e.on false = true
def ordB (L : List Oper) : Bool := (List.range L.length).all fun k => ((L[k]?).map fun o => o.after.all fun e => !Region.binds .any e || decide (e.on < k)).getD true
section
variable {P : Program} {C : World → Prop} {L : List Oper} {m : Nat} {o : Oper}
theorem idle_at (h : L[m]? = some o) (i : Nat) : (L.set m (idle o)).toArray[i]? = if m = i then some (idle o) else L.toArray[i]? := by
 have hm : m < L.length := (List.getElem?_eq_some_iff.1 h).1
 simp only [List.getElem?_toArray, List.getElem?_set]
 by_cases e : m = i
 ·subst e; simp [hm]
 ·simp [e]
theorem idle_after (h : L[m]? = some o) (i : Nat) : ((L.set m (idle o)).toArray[i]?).map (·.after) = (L.toArray[i]?).map (·.after) := by
 rw [idle_at h]
 by_cases e : m = i
 ·subst e; simp [h, idle]
 ·simp [e]
theorem idle_dst (h : L[m]? = some o) (i : Nat) : ((L.set m (idle o)).toArray[i]?).bind (·.dst) = (L.toArray[i]?).bind (·.dst) := by
 rw [idle_at h]
 by_cases e : m = i
 ·subst e; simp [h, idle]
 ·simp [e]
theorem yielded_idle (h : L[m]? = some o) (t : Array Value) : yielded (L.set m (idle o)).toArray t = yielded L.toArray t := by
 funext j
 unfold yielded
 rw [idle_dst h]
theorem mem_ready_idle (h : L[m]? = some o) {listed : Array Bool} {i : Nat} : i ∈ Region.ready .any (L.set m (idle o)).toArray listed ↔ i ∈ Region.ready .any L.toArray listed := by
 have ha := idle_after h i
 rw [mem_ready, mem_ready]
 constructor
 ·rintro ⟨h0, x, hx, hall⟩
  rw [hx] at ha
  cases hy : L.toArray[i]? with
  | none => rw [hy] at ha; cases ha
  | some y => rw [hy] at ha; simp at ha; exact ⟨h0, y, rfl, fun e he => hall e (by rw [ha]; exact he)⟩
 ·rintro ⟨h0, x, hx, hall⟩
  rw [hx] at ha
  cases hy : (L.set m (idle o)).toArray[i]? with
  | none => rw [hy] at ha; cases ha
  | some y => rw [hy] at ha; simp at ha; exact ⟨h0, y, rfl, fun e he => hall e (by rw [← ha]; exact he)⟩
theorem ready_some (hO : ordB L = true) {listed : Array Bool} (hs : listed.size = L.length) : ∀ (k : Nat), k < L.length → listed.getD k true = false → Region.ready .any L.toArray listed ≠ [] := by
 intro k
 induction k using Nat.strongRecOn with
 | ind k ih =>
  intro hk hun
  have hk' : L[k]? = some L[k] := List.getElem?_eq_getElem hk
  have hO' := hO
  simp only [ordB, List.all_eq_true, List.mem_range] at hO'
  have h1 := hO' k hk
  rw [hk'] at h1
  simp only [Option.map_some, Option.getD_some, Array.all_eq_true_iff_forall_mem] at h1
  by_cases hall : ∀ e ∈ L[k].after, Region.binds .any e = true → listed.getD e.on false = true
  ·intro he
   have : k ∈ Region.ready .any L.toArray listed := mem_ready.2 ⟨hun, L[k], by simp, hall⟩
   rw [he] at this
   cases this
  ·simp only [Classical.not_forall] at hall
   obtain ⟨e, he, hb, hn⟩ := hall
   have h2 := h1 e he
   rw [hb] at h2
   simp at h2
   refine ih e.on h2 (by omega) ?_
   have hlt : e.on < listed.size := by omega
   simp [hlt] at hn ⊢
   exact hn
theorem Closed.set {listed : Array Bool} (hc : Closed L listed) {i : Nat} (hr : i ∈ Region.ready .any L.toArray listed) : Closed L (listed.setIfInBounds i true) := by
 intro k x hx hk e he hb
 obtain ⟨h0, o', ho', hall⟩ := mem_ready.1 hr
 by_cases hki : i = k
 ·subst hki
  have : o' = x := by have := ho'.symm.trans (by simpa using hx : L.toArray[i]? = some x); simpa using this
  subst this
  exact getD_set_true (hall e he hb)
 ·rw [getD_set_ne false hki] at hk
  exact getD_set_true (hc k x hx hk e he hb)
theorem ready_none (hO : ordB L = true) (hl : lastB L m = true) {listed : Array Bool} (hc : Closed L listed) (hr : m ∈ Region.ready .any L.toArray listed) : Region.ready .any L.toArray (listed.setIfInBounds m true) = [] := by
 obtain ⟨h0, o', ho', hall⟩ := mem_ready.1 hr
 simp only [lastB, Bool.and_eq_true, decide_eq_true_eq, List.all_eq_true, List.mem_range, List.any_eq_true] at hl
 obtain ⟨hml, hl⟩ := hl
 simp only [ordB, List.all_eq_true, List.mem_range] at hO
 have hdown : ∀ d j, j + d + 1 = m → listed.getD j false = true := by
  intro d
  induction d using Nat.strongRecOn with
  | ind d ih =>
   intro j hj
   obtain ⟨k, hk, hx⟩ := hl j (by omega)
   have hk' : L[k]? = some L[k] := List.getElem?_eq_getElem hk
   rw [hk'] at hx
   simp only [Option.map_some, Option.getD_some, List.any_eq_true, Bool.and_eq_true, beq_iff_eq] at hx
   obtain ⟨e, he, hb, hon⟩ := hx
   have he' : e ∈ L[k].after := by simpa using he
   have h1 := hO k hk
   rw [hk'] at h1
   simp only [Option.map_some, Option.getD_some, Array.all_eq_true_iff_forall_mem] at h1
   have h2 := h1 e he'
   rw [hb] at h2
   simp at h2
   by_cases hkm : k = m
   ·subst hkm
    have : o' = L[k] := by have := ho'.symm.trans (by simp : L.toArray[k]? = some L[k]); simpa using this
    rw [← hon]
    exact hall e (by rw [this]; exact he') hb
   ·have h3 := ih (m - k - 1) (by omega) k (by omega)
    rw [← hon]
    exact hc k L[k] hk' h3 e he' hb
 apply List.eq_nil_iff_forall_not_mem.2
 intro j hj
 obtain ⟨hj0, x, hx, _⟩ := mem_ready.1 hj
 by_cases e : m = j
 ·subst e
  have hlt : m < listed.size := by
   rcases Nat.lt_or_ge m listed.size with h' | h'
   ·exact h'
   ·simp [Array.getElem?_eq_none h'] at h0
  simp [hlt] at hj0
 ·rw [getD_set_ne true e] at hj0
  have hjl : j < L.length := by
   have := (Array.getElem?_eq_some_iff.1 hx).1
   simpa using this
  have h3 := hdown (m - j - 1) j (by omega)
  rcases Nat.lt_or_ge j listed.size with h' | h'
  ·simp [h'] at hj0 h3; rw [hj0] at h3; cases h3
  ·simp [Array.getElem?_eq_none h'] at h3
theorem wpAny_of_tail {Q' : Exit → Act → World → Prop} (h : L[m]? = some o) (hd : o.dst = none) (hg : o.guard = none) (hl : lastB L m = true) (hO : ordB L = true) :
 ∀ (fuel : Nat) (listed : Array Bool) (a : Act) (w : World), C w → listed.size = L.length → Closed L listed → listed.getD m true = false →
  wpAnyQ P .any (L.set m (idle o)).toArray C (fun a' => ∀ w', C w' → wpList P L.toArray Q' [o] a' w') fuel listed a → wpAny P .any L.toArray Q' fuel listed a w := by
 have hml : m < L.length := (List.getElem?_eq_some_iff.1 h).1
 have hnil : ∀ listed : Array Bool, Region.ready .any (L.set m (idle o)).toArray listed = [] ↔ Region.ready .any L.toArray listed = [] := by
  intro listed
  rw [List.eq_nil_iff_forall_not_mem, List.eq_nil_iff_forall_not_mem]
  exact forall_congr' fun i => not_congr (mem_ready_idle h)
 intro fuel
 induction fuel with
 | zero =>
  intro listed a w _ hs _ hun H
  exact absurd ((hnil _).1 H.1) (ready_some hO hs m hml hun)
 | succ fuel ih =>
  intro listed a w hw hs hc hun H
  refine ⟨fun h0 => absurd h0 (ready_some hO hs m hml hun), fun i hi => ?_⟩
  have hq := H.2 i ((mem_ready_idle h).2 hi)
  by_cases e : m = i
  ·subst e
   have hn := ready_none hO hl hc hi
   unfold qOp at hq
   rw [idle_at h, if_pos rfl] at hq
   have hwant : Region.wanted (idle o) (yielded (L.set m (idle o)).toArray a.tmps) = true := by simp [Region.wanted, idle, hg]
   simp only [hwant, if_true] at hq
   obtain ⟨v, _, hK⟩ := hq
   have hput : a.put (idle o).dst v = a := by simp [idle, hd, Act.put]
   rw [hput] at hK
   have hQ : ∀ w', C w' → wpList P L.toArray Q' [o] a w' := by
    cases fuel with
    | zero => exact hK.2
    | succ f => exact hK.1 ((hnil _).2 hn)
   have h1 := hQ w hw
   unfold wpOp
   have ho : L.toArray[m]? = some o := by simpa using h
   simp only [ho]
   have hwant' : Region.wanted o (yielded L.toArray a.tmps) = true := by simp [Region.wanted, hg]
   simp only [wpList, hwant', if_true] at h1
   simp only [hwant', if_true]
   refine h1.imp_left fun h2 => Oper.wp_mono (fun a'' w'' h3 => ?_) h2
   cases fuel with
   | zero => exact ⟨hn, h3⟩
   | succ f => exact ⟨fun _ => h3, fun i hi => by rw [hn] at hi; cases hi⟩
  ·have hq' : qOp P L.toArray C i (wpAnyQ P .any (L.set m (idle o)).toArray C (fun a' => ∀ w', C w' → wpList P L.toArray Q' [o] a' w') fuel (listed.setIfInBounds i true)) a := by
    unfold qOp at hq ⊢
    rw [idle_at h, if_neg e, yielded_idle h] at hq
    exact hq
   exact wpOp_of_qOp hw (fun a' w' hw' hk => ih _ a' w' hw' (by simpa using hs) (hc.set hi) (by rw [getD_set_ne true (Ne.symm e)]; exact hun) hk) hq'
theorem wp_region_tail {id : Nat} {Q : Exit → Act → World → Prop} {a : Act} {w : World} (m : Nat) (o : Oper) (h : L[m]? = some o) (hd : o.dst = none) (hg : o.guard = none) (hm : P.follows .mixedOrders = true)
 (hl : lastB L m = true) (hO : ordB L = true) (hB : Region.lexB .any (L.set m (idle o)).toArray = true) (hC : C { w with drawn := w.drawn + 1 })
 (hq : wpQuiet P (L.set m (idle o)).toArray C (fun a' => ∀ w', C w' → wpList P L.toArray Q [o] a' w') (L.set m (idle o)) a) : (Code.region id L.toArray true).wp P Q a w := by
 have hml : m < L.length := (List.getElem?_eq_some_iff.1 h).1
 simp only [Region.lexB, Bool.and_eq_true] at hB
 refine wp_region_any hm (wpAny_of_tail h hd hg hl hO _ _ _ _ hC (by simp) (fun k x hx hk => by simp only [Array.getD_eq_getD_getElem?, Array.getElem?_replicate] at hk; split at hk <;> simp at hk) (by simp [hml]) ?_)
 have := wpAnyQ_lex (C := C) (md := .any) hB.1 (L.set m (idle o)) 0 (Array.replicate L.length false) a (by simp) (by simpa using hB.2) hq
 simpa using this
theorem wpQuiet_load_row {ops : Array Oper} {Q : Act → Prop} {a : Act} {o : Oper} {rest : List Oper} (hgd : o.guard = none) (ty : TypeId) (x : Operand) (ho : o.op = .load ty x)
 (g : Nat) (hx : a.eval x = .pointer (some ⟨g, 0, none⟩)) (t : TypeId) (cs : Array Value) (fr : Nat × Nat) (d : TypeDesc) (hg : ∀ w, C w → w.heap[g]? = some (.cells cs t fr))
 (hu : P.underlying ty = some d) (hd : (match d with | .struct _ | .array _ _ => true | _ => false) = true) (hi : (P.info? ty).map (·.size) = some cs.size)
 (h : wpQuiet P ops C Q rest (a.put o.dst (.agg cs))) : wpQuiet P ops C Q (o :: rest) a := by
 refine BigFrame.wpQuiet_want (by simp [Region.wanted, hgd]) fun K hK => ⟨.agg cs, fun w hw => ?_, hK _ h⟩
 unfold Oper.quietAt execOp
 simp only [ho, hx, Instr.loadAt, Instr.sureAddr, Sem.run_bind, Sem.run_pure, Result.andThen_ok, run_loadVar_row w g t ty cs fr d (hg w hw) hu hd hi]
 exact ⟨rfl, rfl⟩
theorem wpQuiet_idle {ops : Array Oper} {Q : Act → Prop} {a : Act} {o : Oper} (hd : o.dst = none) (hg : o.guard = none) (hop : o.op = .move (.const undef)) (hQ : Q a) : wpQuiet P ops C Q [o] a := by
 refine BigFrame.wpQuiet_want (by simp [Region.wanted, hg]) fun K hK => BigFrame.quiet_move (.const undef) hop (hK _ ?_)
 have hput : a.put o.dst (a.eval (.const undef)) = a := by simp [hd, Act.put]
 rw [hput]
 exact hQ
end
end Go.Proofs.YtdcpcdkbhgkmlaaDoor
namespace Go.Proofs.YtdcpcdkbhgkmlaaDoor
set_option maxRecDepth 100000
open Go Go.RowKit Go.Sort
end Go.Proofs.YtdcpcdkbhgkmlaaDoor
namespace Go.Proofs.YtdcpcdkbhgkmlaaDoor
set_option maxRecDepth 100000
open Go Go.RowKit
/-! A region that draws its order: quiet but for one store, which waits for all others but for one part that is taken out of a tuple. -/
section
variable {P : Program} {C : World → Prop} {L : List Oper} {m x : Nat} {o ox : Oper}
end
end Go.Proofs.YtdcpcdkbhgkmlaaDoor
namespace Go.Proofs.YtdcpcdkbhgkmlaaDoor
set_option maxRecDepth 100000
open Go Go.RowKit Go.Sort
end Go.Proofs.YtdcpcdkbhgkmlaaDoor
namespace Go.Proofs.YtdcpcdkbhgkmlaaDoor
set_option maxRecDepth 100000
open Go Go.RowKit Go.Sort
end Go.Proofs.YtdcpcdkbhgkmlaaDoor
namespace Go.Proofs.YtdcpcdkbhgkmlaaDoor
set_option maxRecDepth 100000
open Go Go.RowKit Go.Sort
end Go.Proofs.YtdcpcdkbhgkmlaaDoor
namespace Go.Proofs.YtdcpcdkbhgkmlaaDoor
set_option maxRecDepth 100000
open Go Go.RowKit Go.Sort
theorem wp_call_ex {P : Program} {o : Oper} {a : Act} {w : World} {K : Act → World → Prop} {Q : Exit → Act → World → Prop} {f : FuncId} {args : Array Value} {R : Value → World → Prop} (hx : (execOp a.eval o).run P w = .ok (.enter f args) w)
 (c : Calls P f args w fun e w' => ∃ v, e = .returned v ∧ R v w') (h : ∀ v w', R v w' → K (a.put o.dst v) w') : o.wp P a w K Q := by
 unfold Oper.wp
 rw [hx, Oper.upon_enter]
 exact c.mono fun e w' ⟨v, he, hb⟩ => by subst he; exact h v w' hb
end Go.Proofs.YtdcpcdkbhgkmlaaDoor
namespace Go.Proofs.YtdcpcdkbhgkmlaaDoor
set_option maxRecDepth 100000
open Go Go.RowKit Go.Sort
/-! A region that draws its order: quiet operations first (q of them), then new blocks (up to place m), each to come up whenever it likes, then operations one behind the other. -/
def Cl (w : World) : World → Prop := fun W => ∃ p : Regrown, W = grow (redrawn w p.d) p.os
theorem Cl.refl (w : World) : Cl w w := ⟨⟨w.drawn, #[]⟩, by rw [grow_empty]; rfl⟩
theorem Cl.below {w W : World} (h : Cl w W) : Below w.heap.size w W := by obtain ⟨p, rfl⟩ := h; exact below_regrown w p.d p.os
section
variable {P : Program} {L : List Oper} {q m : Nat} {Ts : List Tmp}
end
end Go.Proofs.YtdcpcdkbhgkmlaaDoor
namespace Go.Proofs.YtdcpcdkbhgkmlaaDoor
set_option maxRecDepth 100000
open Go Go.RowKit Go.Sort
section
variable {P : Program}
variable {L : List Oper} {q m : Nat} {Ts : List Tmp}
end
end Go.Proofs.YtdcpcdkbhgkmlaaDoor
namespace Go.Proofs.YtdcpcdkbhgkmlaaDoor
set_option maxRecDepth 100000
open Go Go.RowKit Go.Sort
section
variable {P : Program} {L : List Oper} {q m : Nat} {Ts : List Tmp}
end
end Go.Proofs.YtdcpcdkbhgkmlaaDoor
namespace Go.Proofs.YtdcpcdkbhgkmlaaDoor
set_option maxRecDepth 100000
open Go.RowKit
/-! Plain numbers. Nothing of the program stands here. -/
def valL : List Int → Int
 | [] => 0
 | d :: ds => d + 65536 * valL ds
def prm : Int := 57896044618658097711785492504343953926634992332820282019728792003956564819949
def v16 (d0 d1 d2 d3 d4 d5 d6 d7 d8 d9 d10 d11 d12 d13 d14 d15 : Int) : Int := valL [d0, d1, d2, d3, d4, d5, d6, d7, d8, d9, d10, d11, d12, d13, d14, d15]
end Go.Proofs.YtdcpcdkbhgkmlaaDoor
namespace Go.Proofs.YtdcpcdkbhgkmlaaDoor
set_option maxRecDepth 100000
open Go.RowKit
theorem hide {p : Prop} (h : p) : Hid p := h
end Go.Proofs.YtdcpcdkbhgkmlaaDoor
namespace Go.Proofs.YtdcpcdkbhgkmlaaDoor
set_option maxRecDepth 100000
open Go.RowKit
/-! Bytes, to the base 2^8. -/
def byt (n : Int) (i : Nat) : Int := n / 256 ^ i % 256
theorem byt_bd (n : Int) (i : Nat) : 0 ≤ byt n i ∧ byt n i < 256 := by unfold byt; omega
def valB : List Int → Int
 | [] => 0
 | d :: ds => d + 256 * valB ds
theorem byt_zero (d v : Int) (h0 : 0 ≤ d) (h1 : d < 256) : byt (d + 256 * v) 0 = d := by unfold byt; simp; omega
theorem byt_succ (d v : Int) (i : Nat) (h0 : 0 ≤ d) (h1 : d < 256) : byt (d + 256 * v) (i + 1) = byt v i := by
 unfold byt
 have e : (256 : Int) ^ (i + 1) = 256 * 256 ^ i := by rw [Int.pow_succ, Int.mul_comm]
 rw [e, ← Int.ediv_ediv_of_nonneg (by omega)]
 have : (d + 256 * v) / 256 = v := by omega
 rw [this]
theorem byt_valB : ∀ (ds : List Int) (_ : ∀ d ∈ ds, 0 ≤ d ∧ d < 256) (i : Nat) (h : i < ds.length), byt (valB ds) i = ds[i]
 | d :: ds, hd, 0, _ => by
  have := hd d (by simp)
  simpa [valB] using byt_zero d (valB ds) this.1 this.2
 | d :: ds, hd, i + 1, h => by
  have := hd d (by simp)
  have h2 := byt_valB ds (fun x hx => hd x (by simp [hx])) i (by simpa using h)
  simp only [valB]
  rw [byt_succ d (valB ds) i this.1 this.2, h2]
  simp
def kv (b0 b1 b2 b3 b4 b5 b6 b7 b8 b9 b10 b11 b12 b13 b14 b15 b16 b17 b18 b19 b20 b21 b22 b23 b24 b25 b26 b27 b28 b29 b30 b31 : Int) : Int := valB [b0, b1, b2, b3, b4, b5, b6, b7, b8, b9, b10, b11, b12, b13, b14, b15, b16, b17, b18, b19, b20, b21, b22, b23, b24, b25, b26, b27, b28, b29, b30, b31]
end Go.Proofs.YtdcpcdkbhgkmlaaDoor
namespace Go.Proofs.YtdcpcdkbhgkmlaaDoor
set_option maxRecDepth 100000
open Go Go.RowKit
/-! The bits' operations as numbers. -/
def v5 (a0 a1 a2 a3 a4 : Int) : Int := a0 + 2251799813685248 * (a1 + 2251799813685248 * (a2 + 2251799813685248 * (a3 + 2251799813685248 * a4)))
def lb (m : Int) (i : Nat) : Int := m / 2251799813685248 ^ i % 2251799813685248
end Go.Proofs.YtdcpcdkbhgkmlaaDoor
namespace Go.Proofs.YtdcpcdkbhgkmlaaDoor
set_option maxRecDepth 100000
open Go Go.RowKit
end Go.Proofs.YtdcpcdkbhgkmlaaDoor
namespace Go.Proofs.YtdcpcdkbhgkmlaaDoor
set_option maxRecDepth 100000
open Go Go.RowKit
/-! Products of words. -/
end Go.Proofs.YtdcpcdkbhgkmlaaDoor
namespace Go.Proofs.YtdcpcdkbhgkmlaaDoor
set_option maxRecDepth 100000
open Go.RowKit
/-! Sums of digits. -/
def upd (g : Nat → Int) (k : Nat) (v : Int) : Nat → Int := fun i => if i = k then g i + v else g i
end Go.Proofs.YtdcpcdkbhgkmlaaDoor
namespace Go.Proofs.YtdcpcdkbhgkmlaaDoor
set_option maxRecDepth 100000
open Go Go.RowKit
/-! Two arrays of integers, held against each other. -/
section
variable {P : Program}
theorem run_part_int {e : TypeId} {k : IntKind} {i0 : TypeInfo} (w : World) (hu : P.underlying e = some (.int k)) (_hi : P.info? e = some i0) (l : List Int) (i : Nat) (h : i < l.length) :
 (part e (l.map (Value.int k)).toArray i).run P w = .ok (.int k l[i]) w := by
 have hagg : (isAgg e).run P w = .ok false w := by
  unfold isAgg
  rw [Sem.run_bind, run_underlying hu w]
  rfl
 simp [part, Sem.run_bind, hagg, h]
theorem run_eqItems_int {e : TypeId} {k : IntKind} {i0 : TypeInfo} (d : Nat) (w : World) (hu : P.underlying e = some (.int k)) (hi : P.info? e = some i0) (l l' : List Int) : ∀ (is : List Nat), (∀ i ∈ is, i < l.length ∧ i < l'.length) →
 (Op.eqItems (d + 1) e 1 (l.map (Value.int k)).toArray (l'.map (Value.int k)).toArray is).run P w = .ok (is.all fun i => l.getD i 0 == l'.getD i 0) w
 | [], _ => by simp [Op.eqItems]
 | i :: is, h => by
  have h1 := h i (by simp)
  have h2 := run_eqItems_int d w hu hi l l' is (fun j hj => h j (by simp [hj]))
  have e1 : l.getD i 0 = l[i]'h1.1 := by simp [h1.1]
  have e2 : l'.getD i 0 = l'[i]'h1.2 := by simp [h1.2]
  simp only [Op.eqItems, Sem.run_bind, Nat.mul_one, run_part_int w hu hi l i h1.1, run_part_int w hu hi l' i h1.2, Result.andThen_ok, run_equalIn_int w d e k k _ _ hu, List.all_cons, e1, e2]
  cases hb : (l[i]'h1.1 == l'[i]'h1.2)
  ·simp
  ·simpa using h2
theorem run_equal_ints {t e : TypeId} {k : IntKind} {i0 : TypeInfo} {n : Nat} (w : World) (ht : P.underlying t = some (.array n e)) (hu : P.underlying e = some (.int k)) (hi : P.info? e = some i0) (hc : P.cellsOf e = 1)
 (l l' : List Int) (hl : l.length = n) (hl' : l'.length = n) :
 (Op.equalIn 10000 t (.agg (l.map (Value.int k)).toArray) (.agg (l'.map (Value.int k)).toArray)).run P w = .ok (decide (l = l')) w := by
 rw [run_equalIn_array w 9999 _ _ ht hi, hc, run_eqItems_int 9998 w hu hi l l' (List.range n) (fun i h => by simp at h; omega)]
 congr 1
 rw [Bool.eq_iff_iff]
 simp only [List.all_eq_true, List.mem_range, beq_iff_eq, decide_eq_true_eq]
 constructor
 ·intro h
  apply List.ext_getElem (by omega)
  intro i h1 h2
  have := h i (by omega)
  simpa [h1, h2] using this
 ·rintro rfl i _
  rfl
end
end Go.Proofs.YtdcpcdkbhgkmlaaDoor
namespace Go.Proofs.YtdcpcdkbhgkmlaaDoor
set_option maxRecDepth 100000
/-! Primes, and that 2^255 - 19 is one. -/
def Pr (p : Nat) : Prop := 2 ≤ p ∧ ∀ d, d ∣ p → d = 1 ∨ d = p
theorem Pr.euclid {p a b : Nat} (h : Pr p) (hd : p ∣ a * b) : p ∣ a ∨ p ∣ b := by
 rcases h.2 (Nat.gcd p a) (Nat.gcd_dvd_left p a) with e | e
 ·exact Or.inr (Nat.Coprime.dvd_of_dvd_mul_left e hd)
 ·left; rw [← e]; exact Nat.gcd_dvd_right p a
def prodL : List Nat → Nat
 | [] => 1
 | x :: l => x * prodL l
theorem prodL_perm {l l' : List Nat} (h : l.Perm l') : prodL l = prodL l' := by
 induction h with
 | nil => rfl
 | cons x _ ih => simp only [prodL, ih]
 | swap x y l => simp only [prodL]; exact Nat.mul_left_comm _ _ _
 | trans _ _ ih1 ih2 => exact ih1.trans ih2
theorem perm_of_sub : ∀ (l l' : List Nat), l.Nodup → (∀ x ∈ l, x ∈ l') → l'.length ≤ l.length → l.Perm l'
 | [], l', _, _, h => by
  have : l' = [] := List.length_eq_zero_iff.1 (Nat.le_zero.1 h)
  rw [this]
 | x :: l, l', hn, hs, hl => by
  have hx : x ∈ l' := hs x (by simp)
  have hn' := List.nodup_cons.1 hn
  have h1 := List.perm_cons_erase hx
  refine List.Perm.trans (List.Perm.cons x (perm_of_sub l (l'.erase x) hn'.2 (fun y hy => ?_) ?_)) h1.symm
  ·exact (List.mem_erase_of_ne (show y ≠ x from fun e => hn'.1 (e ▸ hy))).2 (hs y (by simp [hy]))
  ·rw [List.length_erase_of_mem hx]
   simp at hl
   omega
theorem prodL_map (p a : Nat) : ∀ l : List Nat, prodL (l.map fun i => a * i % p) % p = a ^ l.length * prodL l % p
 | [] => by simp [prodL]
 | x :: l => by
  have ih := prodL_map p a l
  simp only [List.map_cons, prodL, List.length_cons]
  rw [Nat.mul_mod, Nat.mod_mod, ih, ← Nat.mul_mod]
  congr 1
  rw [Nat.pow_succ]
  simp only [Nat.mul_assoc, Nat.mul_comm, Nat.mul_left_comm]
theorem Pr.prodL {p : Nat} (h : Pr p) : ∀ l : List Nat, (∀ x ∈ l, ¬ p ∣ x) → ¬ p ∣ prodL l
 | [], _, hd => by
  have := Nat.le_of_dvd (by decide) hd
  have := h.1
  simp only [YtdcpcdkbhgkmlaaDoor.prodL] at *
  omega
 | x :: l, hx, hd => by
  rcases h.euclid hd with h1 | h1
  ·exact hx x (by simp) h1
  ·exact Pr.prodL h l (fun y hy => hx y (by simp [hy])) h1
theorem dvd_of_mod_eq {p x y : Nat} (h : x % p = y % p) : p ∣ x - y := Nat.dvd_of_mod_eq_zero (Nat.sub_mod_eq_zero_of_mod_eq h)
theorem mul_inj {p a : Nat} (h : Pr p) (ha : ¬ p ∣ a) {i j : Nat} (hij : i ≤ j) (hj : j < p) (e : a * i % p = a * j % p) : i = j := by
 have h1 : p ∣ a * j - a * i := dvd_of_mod_eq e.symm
 rw [← Nat.mul_sub] at h1
 rcases h.euclid h1 with h2 | h2
 ·exact absurd h2 ha
 ·rcases Nat.eq_zero_or_pos (j - i) with h3 | h3
  ·omega
  ·have := Nat.le_of_dvd h3 h2
   omega
theorem fermat {p a : Nat} (h : Pr p) (ha : ¬ p ∣ a) : a ^ (p - 1) % p = 1 := by
 have h2 := h.1
 have hL : ∀ x ∈ List.range' 1 (p - 1), ¬ p ∣ x := fun x hx hd => by
  have hx' := List.mem_range'_1.1 hx
  have := Nat.le_of_dvd (by omega) hd
  omega
 have hp : ((List.range' 1 (p - 1)).map fun i => a * i % p).Perm (List.range' 1 (p - 1)) := by
  refine perm_of_sub _ _ ?_ (fun x hx => ?_) (by simp)
  ·refine List.pairwise_map.2 (List.Pairwise.imp_of_mem (fun {i j} hi hj hne => ?_) List.nodup_range')
   have hi' := List.mem_range'_1.1 hi
   have hj' := List.mem_range'_1.1 hj
   intro e
   rcases Nat.le_total i j with hle | hle
   ·exact hne (mul_inj h ha hle (by omega) e)
   ·exact hne (mul_inj h ha hle (by omega) e.symm).symm
  ·obtain ⟨i, hi, rfl⟩ := List.mem_map.1 hx
   have hi' := List.mem_range'_1.1 hi
   refine List.mem_range'_1.2 ⟨?_, ?_⟩
   ·rcases Nat.eq_zero_or_pos (a * i % p) with h0 | h0
    ·exfalso
     rcases h.euclid (Nat.dvd_of_mod_eq_zero h0) with h1 | h1
     ·exact ha h1
     ·exact hL i hi h1
    ·exact h0
   ·have := Nat.mod_lt (a * i) (show 0 < p by omega)
    omega
 have e := prodL_map p a (List.range' 1 (p - 1))
 rw [prodL_perm hp, List.length_range'] at e
 have hpos : 0 < a ^ (p - 1) := by
  rcases Nat.eq_zero_or_pos a with rfl | h0
  ·exact absurd (Nat.dvd_zero p) ha
  ·exact Nat.pow_pos h0
 have hd : p ∣ a ^ (p - 1) * prodL (List.range' 1 (p - 1)) - prodL (List.range' 1 (p - 1)) := dvd_of_mod_eq e.symm
 have e2 : a ^ (p - 1) * prodL (List.range' 1 (p - 1)) - prodL (List.range' 1 (p - 1)) = (a ^ (p - 1) - 1) * prodL (List.range' 1 (p - 1)) := by rw [Nat.sub_mul, Nat.one_mul]
 rw [e2] at hd
 rcases h.euclid hd with h1 | h1
 ·obtain ⟨k, hk⟩ := h1
  have : a ^ (p - 1) = 1 + p * k := by omega
  rw [this, Nat.add_mul_mod_self_left, Nat.mod_eq_of_lt (by omega)]
 ·exact absurd h1 (h.prodL _ hL)
theorem pow_mod_one {p b m k : Nat} (hp : 2 ≤ p) (h : b ^ m % p = 1) : b ^ (m * k) % p = 1 := by
 rw [Nat.pow_mul, Nat.pow_mod, h, Nat.one_pow, Nat.mod_eq_of_lt (by omega)]
theorem pow_gcd {p b : Nat} (hp : 2 ≤ p) : ∀ m n : Nat, b ^ m % p = 1 → b ^ n % p = 1 → b ^ (Nat.gcd m n) % p = 1 := by
 intro m n
 induction m, n using Nat.gcd.induction with
 | H0 n => intro _ h; rwa [Nat.gcd_zero_left]
 | H1 m n hm ih =>
  intro h1 h2
  rw [Nat.gcd_rec]
  refine ih ?_ h1
  have e : b ^ n = b ^ (m * (n / m)) * b ^ (n % m) := by rw [← Nat.pow_add, Nat.div_add_mod]
  rw [e, Nat.mul_mod, pow_mod_one hp h1, Nat.one_mul, Nat.mod_mod] at h2
  exact h2
theorem pock_dvd {N q R a p : Nat} (hq : Pr q) (hN : N - 1 = R * q) (hN1 : 1 < N) (hp : Pr p) (hpN : p ∣ N) (h1 : a ^ (N - 1) % N = 1) (hg : Nat.gcd (a ^ R % N + (N - 1)) N = 1) : q ∣ p - 1 := by
 have hp2 := hp.1
 have hb : (a ^ R) ^ q % p = 1 := by
  rw [← Nat.pow_mul, ← hN]
  obtain ⟨k, hk⟩ := hpN
  have := Nat.div_add_mod (a ^ (N - 1)) N
  rw [h1] at this
  rw [← this, hk, Nat.mul_assoc, Nat.mul_add_mod, Nat.mod_eq_of_lt (by omega)]
 have hpb : ¬ p ∣ a ^ R := fun hd => by
  have hq2 := hq.1
  have : p ∣ (a ^ R) ^ q := Nat.dvd_trans hd ⟨(a ^ R) ^ (q - 1), by rw [Nat.mul_comm, ← Nat.pow_succ, show (q - 1).succ = q by omega]⟩
  have := Nat.mod_eq_zero_of_dvd this
  omega
 have hf := fermat hp hpb
 have h3 := pow_gcd hp2 q (p - 1) hb hf
 rcases hq.2 (Nat.gcd q (p - 1)) (Nat.gcd_dvd_left _ _) with e | e
 ·exfalso
  rw [e, Nat.pow_one] at h3
  have hd : p ∣ a ^ R % N + (N - 1) := by
   refine Nat.dvd_of_mod_eq_zero ?_
   have e1 : a ^ R % N % p = 1 := by rw [Nat.mod_mod_of_dvd _ hpN]; exact h3
   have e2 : (a ^ R % N + (N - 1)) % p = (1 + (N - 1)) % p := by
    rw [Nat.add_mod, e1, ← Nat.add_mod_mod 1]
    simp
   rw [e2, show 1 + (N - 1) = N by omega]
   exact Nat.mod_eq_zero_of_dvd hpN
  have := Nat.dvd_gcd hd hpN
  rw [hg] at this
  have := Nat.le_of_dvd (by decide) this
  omega
 ·rw [← e]; exact Nat.gcd_dvd_right _ _
theorem prime_factor : ∀ n : Nat, 2 ≤ n → ∃ p, Pr p ∧ p ∣ n := by
 intro n
 induction n using Nat.strongRecOn with
 | ind n ih =>
  intro h2
  by_cases h : ∀ d, d ∣ n → d = 1 ∨ d = n
  ·exact ⟨n, ⟨h2, h⟩, Nat.dvd_refl n⟩
  ·simp only [Classical.not_forall, not_or] at h
   obtain ⟨d, hd, h1, hn⟩ := h
   have hle := Nat.le_of_dvd (by omega) hd
   have h0 : d ≠ 0 := by rintro rfl; rw [Nat.zero_dvd] at hd; omega
   obtain ⟨p, hp, hpd⟩ := ih d (by omega) (by omega)
   exact ⟨p, hp, Nat.dvd_trans hpd hd⟩
theorem pock {N F : Nat} (hN : 1 < N) (hF : ∀ p, Pr p → p ∣ N → F ∣ p - 1) (hlt : N < F * F) : Pr N := by
 refine ⟨hN, fun d hd => ?_⟩
 by_cases h1 : d = 1
 ·exact Or.inl h1
 by_cases hn : d = N
 ·exact Or.inr hn
 exfalso
 obtain ⟨e, he⟩ := hd
 have hd0 : d ≠ 0 := by rintro rfl; omega
 have he0 : e ≠ 0 := by rintro rfl; omega
 have he1 : e ≠ 1 := by rintro rfl; omega
 -- each factor but 1 has a prime below it, above F
 have big : ∀ x, 2 ≤ x → x ∣ N → F < x := fun x hx hxN => by
  obtain ⟨p, hp, hpx⟩ := prime_factor x hx
  have h := hF p hp (Nat.dvd_trans hpx hxN)
  have hp2 := hp.1
  have := Nat.le_of_dvd (by omega) h
  have := Nat.le_of_dvd (by omega) hpx
  omega
 have b1 := big d (by omega) ⟨e, he⟩
 have b2 := big e (by omega) ⟨d, by rw [he, Nat.mul_comm]⟩
 have := Nat.mul_le_mul (Nat.le_of_lt b1) (Nat.le_of_lt b2)
 omega
/-! Powers by repeated squares. -/
def pwf : Nat → Nat → Nat → Nat → Nat
 | 0, N, _, _ => 1 % N
 | k + 1, N, a, e => if e % 2 = 0 then pwf k N (a * a % N) (e / 2) else pwf k N (a * a % N) (e / 2) * a % N
theorem pwf_eq (N : Nat) : ∀ k a e, e < 2 ^ k → pwf k N a e = a ^ e % N
 | 0, a, e, h => by
  have : e = 0 := by simpa using h
  subst this
  simp [pwf]
 | k + 1, a, e, h => by
  have h2 : e / 2 < 2 ^ k := by rw [Nat.pow_succ] at h; omega
  have ih := pwf_eq N k (a * a % N) (e / 2) h2
  have e1 : (a * a % N) ^ (e / 2) % N = a ^ (2 * (e / 2)) % N := by rw [← Nat.pow_mod, Nat.pow_mul, Nat.pow_two]
  unfold pwf
  split
  ·rw [ih, e1, show 2 * (e / 2) = e by omega]
  ·rename_i hodd
   rw [ih, e1, Nat.mul_mod, Nat.mod_mod, ← Nat.mul_mod, ← Nat.pow_succ, show (2 * (e / 2)).succ = e by omega]
def noDiv : Nat → Nat → Nat → Bool
 | 0, _, _ => true
 | k + 1, N, d => N % d != 0 && noDiv k N (d + 1)
theorem noDiv_spec (N : Nat) : ∀ k d, noDiv k N d = true → ∀ x, d ≤ x → x < d + k → ¬ x ∣ N
 | 0, _, _, x, h1, h2 => by omega
 | k + 1, d, h, x, h1, h2 => by
  simp only [noDiv, Bool.and_eq_true, bne_iff_ne] at h
  rcases Nat.eq_or_lt_of_le h1 with e | e
  ·subst e; exact fun hd => h.1 (Nat.mod_eq_zero_of_dvd hd)
  ·exact noDiv_spec N k (d + 1) h.2 x e (by omega)
theorem trial (N k : Nat) (hN : 2 ≤ N) (h : noDiv k N 2 = true) (hk : N < (k + 2) * (k + 2)) : Pr N := by
 refine ⟨hN, fun d hd => ?_⟩
 by_cases h1 : d = 1
 ·exact Or.inl h1
 by_cases hn : d = N
 ·exact Or.inr hn
 exfalso
 obtain ⟨e, he⟩ := hd
 have hd0 : d ≠ 0 := by rintro rfl; omega
 have he0 : e ≠ 0 := by rintro rfl; omega
 have he1 : e ≠ 1 := by rintro rfl; omega
 have s := noDiv_spec N k 2 h
 have b1 : k + 2 ≤ d := by
  rcases Nat.lt_or_ge d (k + 2) with hl | hl
  ·exact absurd ⟨e, he⟩ (s d (by omega) (by omega))
  ·exact hl
 have b2 : k + 2 ≤ e := by
  rcases Nat.lt_or_ge e (k + 2) with hl | hl
  ·exact absurd ⟨d, by rw [he, Nat.mul_comm]⟩ (s e (by omega) (by omega))
  ·exact hl
 have := Nat.mul_le_mul b1 b2
 omega
theorem p127 : Pr 127 := trial 127 10 (by decide) (by decide +kernel) (by decide)
theorem p75707 : Pr 75707 := trial 75707 274 (by decide) (by decide +kernel) (by decide)
theorem p1923133 : Pr 1923133 := trial 1923133 1386 (by decide) (by decide +kernel) (by decide)
theorem p8574133 : Pr 8574133 := trial 8574133 2928 (by decide) (by decide +kernel) (by decide)
theorem pock2 (N q r R S a b : Nat) (hq : Pr q) (hr : Pr r) (hqr : Nat.gcd q r = 1) (hN : 1 < N) (hk : N < 2 ^ 256) (h1 : N - 1 = R * q) (h2 : N - 1 = S * r) (ea : pwf 256 N a (N - 1) = 1) (eb : pwf 256 N b (N - 1) = 1)
 (ga : Nat.gcd (pwf 256 N a R + (N - 1)) N = 1) (gb : Nat.gcd (pwf 256 N b S + (N - 1)) N = 1) (hlt : N < (q * r) * (q * r)) : Pr N := by
 have hq2 := hq.1
 have hr2 := hr.1
 have hR : R < 2 ^ 256 := Nat.lt_of_le_of_lt (Nat.le_trans (Nat.le_mul_of_pos_right R (by omega)) (by omega : R * q ≤ N)) hk
 have hS : S < 2 ^ 256 := Nat.lt_of_le_of_lt (Nat.le_trans (Nat.le_mul_of_pos_right S (by omega)) (by omega : S * r ≤ N)) hk
 rw [pwf_eq N 256 a _ (by omega)] at ea
 rw [pwf_eq N 256 b _ (by omega)] at eb
 rw [pwf_eq N 256 a _ hR] at ga
 rw [pwf_eq N 256 b _ hS] at gb
 exact pock hN (fun p hp hpN => Nat.Coprime.mul_dvd_of_dvd_of_dvd hqr (pock_dvd hq h1 hN hp hpN ea ga) (pock_dvd hr h2 hN hp hpN eb gb)) hlt
theorem pC : Pr 1919519569386763 := pock2 1919519569386763 8574133 127 223873314 15114327318006 2 2 p8574133 p127 (by decide +kernel) (by decide +kernel) (by decide +kernel) (by decide +kernel) (by decide +kernel) (by decide +kernel) (by decide +kernel) (by decide +kernel) (by decide +kernel) (by decide +kernel)
theorem pB : Pr 75445702479781427272750846543864801 := pock2 75445702479781427272750846543864801 1919519569386763 75707 39304471641247389600 996548568557483816196003626400 2 2 pC p75707 (by decide +kernel) (by decide +kernel) (by decide +kernel) (by decide +kernel) (by decide +kernel) (by decide +kernel) (by decide +kernel) (by decide +kernel) (by decide +kernel) (by decide +kernel)
theorem pQ : Pr 74058212732561358302231226437062788676166966415465897661863160754340907 := pock2 74058212732561358302231226437062788676166966415465897661863160754340907 75445702479781427272750846543864801 1923133 981609426360740691344999861639072106 38509147694185143878364744631319200843710219946028640589009268082 2 2 pB p1923133 (by decide +kernel) (by decide +kernel) (by decide +kernel) (by decide +kernel) (by decide +kernel) (by decide +kernel) (by decide +kernel) (by decide +kernel) (by decide +kernel) (by decide +kernel)
theorem p3 : Pr 3 := trial 3 0 (by decide) (by decide +kernel) (by decide)
theorem pP : Pr 57896044618658097711785492504343953926634992332820282019728792003956564819949 := pock2 57896044618658097711785492504343953926634992332820282019728792003956564819949 74058212732561358302231226437062788676166966415465897661863160754340907 3 781764 19298681539552699237261830834781317975544997444273427339909597334652188273316 2 2 pQ p3 (by decide +kernel) (by decide +kernel) (by decide +kernel) (by decide +kernel) (by decide +kernel) (by decide +kernel) (by decide +kernel) (by decide +kernel) (by decide +kernel) (by decide +kernel)
end Go.Proofs.YtdcpcdkbhgkmlaaDoor
namespace Go.Proofs.YtdcpcdkbhgkmlaaDoor
set_option maxRecDepth 100000
/-! Powers modulo 2^255 - 19. -/
theorem prm_lit : prm = ((57896044618658097711785492504343953926634992332820282019728792003956564819949 : Nat) : Int) := rfl
theorem emod_nat (x : Int) : ∃ m : Nat, m < 57896044618658097711785492504343953926634992332820282019728792003956564819949 ∧ x % prm = (m : Int) := by
 have h := Int.emod_nonneg x (b := prm) (by decide)
 have g := Int.emod_lt_of_pos x (b := prm) (by decide)
 refine ⟨(x % prm).toNat, ?_, ?_⟩
 ·rw [prm_lit] at *; omega
 ·omega
theorem int_pow_emod (x : Int) (e : Nat) : x ^ e % prm = (x % prm) ^ e % prm := by
 induction e with
 | zero => rw [Int.pow_zero, Int.pow_zero]
 | succ k ih => rw [Int.pow_succ, Int.pow_succ, Int.mul_emod, ih, Int.mul_emod ((x % prm) ^ k), Int.emod_emod]
theorem pow_nat {x : Int} {m : Nat} (h : x % prm = (m : Int)) (e : Nat) : x ^ e % prm = ((m ^ e % 57896044618658097711785492504343953926634992332820282019728792003956564819949 : Nat) : Int) := by
 rw [int_pow_emod, h, ← Int.natCast_pow, prm_lit, ← Int.natCast_emod]
theorem mul_c {x x' y y' : Int} (h : x % prm = x' % prm) (g : y % prm = y' % prm) : x * y % prm = x' * y' % prm := by
 rw [Int.mul_emod, h, g, ← Int.mul_emod]
theorem pow_c {x x' : Int} (h : x % prm = x' % prm) (e : Nat) : x ^ e % prm = x' ^ e % prm := by
 rw [int_pow_emod, h, ← int_pow_emod]
theorem add_c {x x' y y' : Int} (h : x % prm = x' % prm) (g : y % prm = y' % prm) : (x + y) % prm = (x' + y') % prm := by
 rw [Int.add_emod, h, g, ← Int.add_emod]
theorem neg_c {x x' : Int} (h : x % prm = x' % prm) : (-x) % prm = (-x') % prm := by
 have := mul_c (x := -1) (x' := -1) rfl h
 rwa [Int.neg_mul, Int.neg_mul, Int.one_mul, Int.one_mul] at this
theorem mul_zero_iff (x y : Int) : x * y % prm = 0 ↔ x % prm = 0 ∨ y % prm = 0 := by
 obtain ⟨m, hm, em⟩ := emod_nat x
 obtain ⟨n, hn, en⟩ := emod_nat y
 constructor
 ·intro h
  rw [Int.mul_emod, em, en, prm_lit, ← Int.natCast_mul, ← Int.natCast_emod] at h
  have h' : m * n % 57896044618658097711785492504343953926634992332820282019728792003956564819949 = 0 := by exact_mod_cast h
  rcases pP.euclid (Nat.dvd_of_mod_eq_zero h') with d | d
  ·left; rw [em]; have := Nat.eq_zero_of_dvd_of_lt d hm; rw [this]; rfl
  ·right; rw [en]; have := Nat.eq_zero_of_dvd_of_lt d hn; rw [this]; rfl
 ·rintro (h | h)
  ·rw [Int.mul_emod, h, Int.zero_mul]; rfl
  ·rw [Int.mul_emod, h, Int.mul_zero]; rfl
theorem fermat_int {x : Int} (h : x % prm ≠ 0) : x ^ 57896044618658097711785492504343953926634992332820282019728792003956564819948 % prm = 1 := by
 obtain ⟨m, hm, em⟩ := emod_nat x
 have hd : ¬ 57896044618658097711785492504343953926634992332820282019728792003956564819949 ∣ m := by
  intro d
  have := Nat.eq_zero_of_dvd_of_lt d hm
  apply h; rw [em, this]; rfl
 have f := fermat pP hd
 rw [show (57896044618658097711785492504343953926634992332820282019728792003956564819949 - 1 : Nat) = 57896044618658097711785492504343953926634992332820282019728792003956564819948 by decide] at f
 rw [pow_nat em]
 exact congrArg (Nat.cast : Nat → Int) f
theorem one_c : (1 : Int) % prm = 1 := by decide
theorem pow_zero_c {x : Int} (h : x % prm = 0) {e : Nat} (he : 0 < e) : x ^ e % prm = 0 := by
 obtain ⟨k, rfl⟩ : ∃ k, e = k + 1 := ⟨e - 1, by omega⟩
 rw [Int.pow_succ, Int.mul_emod, h, Int.mul_zero]; rfl
theorem inv_mul {x : Int} (h : x % prm ≠ 0) : x * x ^ 57896044618658097711785492504343953926634992332820282019728792003956564819947 % prm = 1 % prm := by
 rw [Int.mul_comm, ← Int.pow_succ]
 exact (fermat_int h).trans one_c.symm
end Go.Proofs.YtdcpcdkbhgkmlaaDoor
namespace Go.Proofs.YtdcpcdkbhgkmlaaDoor
set_option maxRecDepth 100000
/-! Roots modulo 2^255 - 19. -/
theorem sub_c {x x' y y' : Int} (h : x % prm = x' % prm) (g : y % prm = y' % prm) : (x - y) % prm = (x' - y') % prm := by
 rw [Int.sub_eq_add_neg, Int.sub_eq_add_neg]; exact add_c h (neg_c g)
theorem sub_zero_c {x y : Int} (h : (x - y) % prm = 0) : x % prm = y % prm := by
 have := add_c (x := x - y) (x' := 0) (h.trans (by decide)) (y := y) rfl
 rwa [Int.sub_add_cancel, Int.zero_add] at this
theorem sq_eq {r a : Int} (h : r * r % prm = a * a % prm) : r % prm = a % prm ∨ r % prm = -a % prm := by
 have e : (r - a) * (r + a) % prm = 0 := by
  have := sub_c h (rfl : a * a % prm = a * a % prm)
  rw [Int.sub_self] at this
  rw [show (r - a) * (r + a) = r * r - a * a by grind, this]; rfl
 rcases (mul_zero_iff _ _).1 e with e | e
 ·exact .inl (sub_zero_c e)
 ·right; apply sub_zero_c; rw [show r - -a = r + a by omega]; exact e
theorem sq_one {t : Int} (h : t * t % prm = 1 % prm) : t % prm = 1 % prm ∨ t % prm = -1 % prm := sq_eq (a := 1) h
def uu : Int := 19681161376707505956807079304988542015446066515923890162744021073123829784752
theorem uu_sq : uu * uu % prm = -1 % prm := by decide +kernel
theorem half_sq (x : Int) : x ^ 28948022309329048855892746252171976963317496166410141009864396001978282409974 * x ^ 28948022309329048855892746252171976963317496166410141009864396001978282409974 = x ^ 57896044618658097711785492504343953926634992332820282019728792003956564819948 := by rw [← Int.pow_add]
def rt (x : Int) : Int := if x ^ 7237005577332262213973186563042994240829374041602535252466099000494570602494 * x ^ 7237005577332262213973186563042994240829374041602535252466099000494570602494 % prm = x % prm then x ^ 7237005577332262213973186563042994240829374041602535252466099000494570602494 else x ^ 7237005577332262213973186563042994240829374041602535252466099000494570602494 * uu
def rok (x : Int) : Bool := decide (rt x * rt x % prm = x % prm)
def ev (r : Int) : Int := if r % prm % 2 = 1 then -r else r
def rval (x : Int) : Int := if rok x = true then ev (rt x) else 0
theorem rok_iff (x : Int) : rok x = true ↔ rt x * rt x % prm = x % prm := by unfold rok; exact decide_eq_true_iff
theorem e8_sq (x : Int) : x ^ 7237005577332262213973186563042994240829374041602535252466099000494570602494 * x ^ 7237005577332262213973186563042994240829374041602535252466099000494570602494 = x * x ^ 14474011154664524427946373126085988481658748083205070504932198000989141204987 := by rw [← Int.pow_add, Int.mul_comm x, ← Int.pow_succ]
theorem rok_of {x : Int} (h : x % prm = 0 ∨ x ^ 28948022309329048855892746252171976963317496166410141009864396001978282409974 % prm = 1 % prm) : rok x = true := by
 rw [rok_iff]
 unfold rt
 split
 ·assumption
 ·rename_i hne
  rcases h with h | h
  ·exfalso; apply hne
   rw [Int.mul_emod, pow_zero_c h (by decide), h]; rfl
  ·have t : x ^ 14474011154664524427946373126085988481658748083205070504932198000989141204987 * x ^ 14474011154664524427946373126085988481658748083205070504932198000989141204987 % prm = 1 % prm := by rw [← Int.pow_add]; exact h
   rcases sq_one t with t | t
   ·exfalso; apply hne
    rw [e8_sq, mul_c (rfl : x % prm = x % prm) t, Int.mul_one]
   ·have : x ^ 7237005577332262213973186563042994240829374041602535252466099000494570602494 * uu * (x ^ 7237005577332262213973186563042994240829374041602535252466099000494570602494 * uu) = x ^ 7237005577332262213973186563042994240829374041602535252466099000494570602494 * x ^ 7237005577332262213973186563042994240829374041602535252466099000494570602494 * (uu * uu) := by
     generalize x ^ 7237005577332262213973186563042994240829374041602535252466099000494570602494 = q
     grind
    rw [this, e8_sq, mul_c (mul_c rfl t) uu_sq]
    congr 1
    omega
theorem half_of {x r : Int} (h : r * r % prm = x % prm) (hx : x % prm ≠ 0) : x ^ 28948022309329048855892746252171976963317496166410141009864396001978282409974 % prm = 1 % prm := by
 rw [← pow_c h]
 have : (r * r) ^ 28948022309329048855892746252171976963317496166410141009864396001978282409974 = r ^ 57896044618658097711785492504343953926634992332820282019728792003956564819948 := by rw [← half_sq r]; exact Int.mul_pow
 rw [this, fermat_int]; · rfl
 intro e
 apply hx
 rw [← h, Int.mul_emod, e]; rfl
theorem rok_half (x : Int) : rok x = true ↔ (x % prm = 0 ∨ x ^ 28948022309329048855892746252171976963317496166410141009864396001978282409974 % prm = 1 % prm) := by
 refine ⟨fun h => ?_, rok_of⟩
 by_cases hx : x % prm = 0
 ·exact .inl hx
 ·exact .inr (half_of ((rok_iff x).1 h) hx)
theorem rok_sq (a : Int) : rok (a * a) = true := by
 apply rok_of
 by_cases h : a * a % prm = 0
 ·exact .inl h
 ·exact .inr (half_of rfl h)
theorem rt_c {x y : Int} (h : x % prm = y % prm) : rt x % prm = rt y % prm := by
 have e := pow_c h 7237005577332262213973186563042994240829374041602535252466099000494570602494
 unfold rt
 rw [mul_c e e, h]
 split
 ·exact e
 ·exact mul_c e rfl
theorem rok_c {x y : Int} (h : x % prm = y % prm) : rok x = rok y := by
 unfold rok
 rw [mul_c (rt_c h) (rt_c h), h]
end Go.Proofs.YtdcpcdkbhgkmlaaDoor
namespace Go.Proofs.YtdcpcdkbhgkmlaaDoor
set_option maxRecDepth 100000
open Go.RowKit Go.Sort
attribute [local go_sem] setCell_drewN alloc_drewN
end Go.Proofs.YtdcpcdkbhgkmlaaDoor
namespace Go.Proofs.YtdcpcdkbhgkmlaaDoor
set_option maxRecDepth 100000
open Go.RowKit Go.Sort
attribute [local go_sem] setCell_drewN alloc_drewN
end Go.Proofs.YtdcpcdkbhgkmlaaDoor

