import Derived.Test.YtjoohgkgkabbpaaGreatDoorProg
import Derived.WalkKit
import Derived.WalkSpells
import Derived.WalkLawsBesides
import Derived.Lib.QuietBelow
import Derived.Laws.BitsAllLaws
import Derived.BigQuiet
import Derived.WalkMore
import Derived.Deep.MidRow
import Derived.Test.YtjoohgkgkabbpaaGreatDoorUOpen
import Derived.Test.YtjoohgkgkabbpaaGreatDoorUQa7
import Derived.Test.YtjoohgkgkabbpaaGreatDoorUUa
import Derived.Test.YtjoohgkgkabbpaaGreatDoorUQd1
import Derived.Test.YtjoohgkgkabbpaaGreatDoorUWr
import Derived.Test.YtjoohgkgkabbpaaGreatDoorUQc0
import Derived.OwnWalk
import Derived.Deep.Cut
import Derived.Deep.RegionHeld3
import Derived.Test.YtjoohgkgkabbpaaGreatDoorUQb3
import Derived.Test.YtjoohgkgkabbpaaGreatDoorUJre
import Derived.Test.YtjoohgkgkabbpaaGreatDoorUJrx
namespace Go.Proofs.YtjoohgkgkabbpaaGreatDoor
set_option maxRecDepth 100000
open Go Go.RowKit Go.Sort
attribute [local go_sem] setCell_drewN alloc_drewN
def hzr : List Value := [.int .i64 0, .int .i64 0, .int .u64 0, .int .u64 0, .slice none 0 0]
def hmk : List Value := [.int .i64 (-77), .int .i64 0, .int .u64 0, .int .u64 0, .slice none 0 0]
inductive HSl (W : World) (S : Nat → Prop) : Value → List Slt → Prop
 | mk (G : Nat) (ts : List Slt) (us : List Value) (hl : ts.length ≤ 10000) (hG : G < W.heap.size) (hS : S G)
  (h : ∀ i, i < ts.length → W.rangeAt G (i * 5) (srow (gs ts i) (gvs us i)) ∧ Sok (gs ts i))
  (hm : ∀ i, ts.length ≤ i → i < ts.length + 3 → W.rangeAt G (i * 5) hmk)
  (hs : ∀ i, i < ts.length → HSl W S (gvs us i) (gs ts i).sub) : HSl W S (.slice (some ⟨G, 0, none⟩) ts.length (ts.length + 3)) ts
theorem HSl.keep {W V : World} {S T : Nat → Prop} {v : Value} {ts : List Slt} (h : HSl W S v ts) (hs : W.heap.size ≤ V.heap.size) (hb : ∀ b, b < W.heap.size → S b → V.heap[b]? = W.heap[b]? ∧ T b) : HSl V T v ts := by
 induction h with
 | mk G ts us hl hG hS h hm _ ih =>
  exact .mk G ts us hl (by omega) (hb G hG hS).2 (fun i hi => ⟨range_same (h i hi).1 (hb G hG hS).1, (h i hi).2⟩) (fun i h1 h2 => range_same (hm i h1 h2) (hb G hG hS).1) ih
theorem HSl.form {W : World} {S : Nat → Prop} {v : Value} {ts : List Slt} (h : HSl W S v ts) : ∃ G, v = .slice (some ⟨G, 0, none⟩) ts.length (ts.length + 3) ∧ S G := by
 cases h with
 | mk G _ us hl hG hS h hm hs => exact ⟨G, rfl, hS⟩
def hrow (ts : List Slt) (us : List Value) (k i : Nat) : List Value := if i < k then (if i < ts.length then srow (gs ts i) (gvs us i) else hmk) else hzr
def Hrw (W : World) (G : Nat) (ts : List Slt) (us : List Value) (k : Nat) : Prop := ∃ cs, W.heap[G]? = some (.cells cs 114 (0, 0)) ∧ cs.size = (ts.length + 3) * 5 ∧ ∀ i c, i < ts.length + 3 → c < 5 → cs[i * 5 + c]? = (hrow ts us k i)[c]?
theorem Hrw.keep {W V : World} {G : Nat} {ts : List Slt} {us : List Value} {k : Nat} (h : Hrw W G ts us k) (hb : V.heap[G]? = W.heap[G]?) : Hrw V G ts us k := by
 obtain ⟨cs, h1, h2⟩ := h
 exact ⟨cs, hb.trans h1, h2⟩
theorem Hrw.range {W : World} {G : Nat} {ts : List Slt} {us : List Value} {k i : Nat} (h : Hrw W G ts us k) (hi : i < ts.length + 3) (hl : (hrow ts us k i).length = 5) : W.rangeAt G (i * 5) (hrow ts us k i) := by
 obtain ⟨cs, h1, h2, h3⟩ := h
 intro j v hv
 have hj := (List.getElem?_eq_some_iff.1 hv).1
 rw [cell_of_row _ _ _ _ _ _ h1, h3 i j hi (by omega)]
 exact hv
theorem Hrw.mark {W : World} {G : Nat} {ts : List Slt} {us : List Value} {k : Nat} (h : Hrw W G ts us k) (hk : ts.length ≤ k) (hk3 : k < ts.length + 3) : Hrw (W.setCell ⟨G, k * 5, none⟩ (.int .i64 (-77))) G ts us (k + 1) := by
 obtain ⟨cs, h1, h2, h3⟩ := h
 refine ⟨_, heap_setCell_same W G (k * 5) cs _ _ h1, by simp [h2], fun i c hi hc => ?_⟩
 rw [Array.getElem?_setIfInBounds]
 by_cases e : k * 5 = i * 5 + c
 ·have e1 : i = k := by omega
  have e2 : c = 0 := by omega
  subst e1 e2
  rw [if_pos e, if_pos (by omega)]
  unfold hrow
  rw [if_pos (by omega), if_neg (by omega)]; rfl
 ·rw [if_neg e, h3 i c hi hc]
  by_cases e1 : i = k
  ·subst e1
   have c0 : c ≠ 0 := by omega
   unfold hrow
   rw [if_neg (by omega), if_pos (by omega), if_neg (by omega)]
   rcases (by omega : c = 1 ∨ c = 2 ∨ c = 3 ∨ c = 4) with rfl | rfl | rfl | rfl <;> rfl
  ·unfold hrow
   by_cases e2 : i < k
   ·rw [if_pos e2, if_pos (show i < k + 1 by omega)]
   ·rw [if_neg e2, if_neg (show ¬ i < k + 1 by omega)]
theorem Hrw.slot {W V : World} {G : Nat} {ts : List Slt} {us : List Value} {k : Nat} {u v : Value} (h : Hrw W G ts us k) (hk : k < ts.length) (hu : us.length = k) (hV : V.heap[G]? = ((W.setCell ⟨G, k * 5, none⟩ (.int .i64 (-77))).setCells G (k * 5) (srow (gs ts k) u)).heap[G]?) : Hrw (V.setCell ⟨G, k * 5 + 4, none⟩ v) G ts (us ++ [v]) (k + 1) := by
 obtain ⟨cs, h1, h2, h3⟩ := h
 have s1 := heap_setCell_same W G (k * 5) cs _ (.int .i64 (-77)) h1
 have s2 : ((W.setCell ⟨G, k * 5, none⟩ (.int .i64 (-77))).setCells G (k * 5) (srow (gs ts k) u)).heap[G]? = _ :=
  heap_setCell_same _ G (k * 5 + 1 + 1 + 1 + 1) _ _ u (heap_setCell_same _ G (k * 5 + 1 + 1 + 1) _ _ (.int .u64 ((gs ts k).most : Int)) (heap_setCell_same _ G (k * 5 + 1 + 1) _ _ (.int .u64 ((gs ts k).least : Int)) (heap_setCell_same _ G (k * 5 + 1) _ _ (.int .i64 (gs ts k).kind) (heap_setCell_same _ G (k * 5) _ _ (.int .i64 (gs ts k).no) s1))))
 refine ⟨_, heap_setCell_same V G (k * 5 + 4) _ _ v (hV.trans s2), by simp [h2], fun i c hi hc => ?_⟩
 simp only [Array.getElem?_setIfInBounds, Array.size_setIfInBounds]
 by_cases e1 : i = k
 ·subst e1
  have e3 : hrow ts (us ++ [v]) (i + 1) i = srow (gs ts i) v := by
   unfold hrow; rw [if_pos (by omega), if_pos hk, gvs_top _ _ _ hu]
  rw [e3]
  have hb : i * 5 + c < cs.size := by omega
  rcases (by omega : c = 0 ∨ c = 1 ∨ c = 2 ∨ c = 3 ∨ c = 4) with rfl | rfl | rfl | rfl | rfl
  ·rw [if_neg (by omega), if_neg (by omega), if_neg (by omega), if_neg (by omega), if_neg (by omega), if_pos (by omega), if_pos (by omega)]; rfl
  ·rw [if_neg (by omega), if_neg (by omega), if_neg (by omega), if_neg (by omega), if_pos (by omega), if_pos (by omega)]; rfl
  ·rw [if_neg (by omega), if_neg (by omega), if_neg (by omega), if_pos (by omega), if_pos (by omega)]; rfl
  ·rw [if_neg (by omega), if_neg (by omega), if_pos (by omega), if_pos (by omega)]; rfl
  ·rw [if_pos (by omega), if_pos (by omega)]; rfl
 ·rw [if_neg (by omega), if_neg (by omega), if_neg (by omega), if_neg (by omega), if_neg (by omega), if_neg (by omega), if_neg (by omega), h3 i c hi hc]
  unfold hrow
  by_cases e2 : i < k
  ·rw [if_pos e2, if_pos (by omega), if_pos (by omega), if_pos (by omega), gvs_low _ _ _ (by omega)]
  ·rw [if_neg e2, if_neg (by omega)]
end Go.Proofs.YtjoohgkgkabbpaaGreatDoor
namespace Go.Proofs.YtjoohgkgkabbpaaGreatDoor
set_option maxRecDepth 100000
open Go Go.RowKit Go.Sort
attribute [local go_sem] setCell_drewN alloc_drewN
inductive SlL (W : World) (S : Nat → Prop) : Value → List Slt → Prop
 | mk (ao : Option Addr) (cap : Nat) (ts : List Slt) (us : List Value) (hl : ts.length ≤ 2932031007317) (hc : ts.length ≤ cap) (hn : ao = none → cap = 0)
  (h : ∀ i, i < ts.length → ∃ b off, ao = some ⟨b, off, none⟩ ∧ b < W.heap.size ∧ S b ∧ W.rangeAt b (off + i * 5) (srow (gs ts i) (gvs us i)) ∧ Sok (gs ts i))
  (hs : ∀ i, i < ts.length → SlL W S (gvs us i) (gs ts i).sub) : SlL W S (.slice ao ts.length cap) ts
theorem SlL.keep {W V : World} {S T : Nat → Prop} {v : Value} {ts : List Slt} (h : SlL W S v ts) (hs : W.heap.size ≤ V.heap.size) (hb : ∀ b, b < W.heap.size → S b → V.heap[b]? = W.heap[b]? ∧ T b) : SlL V T v ts := by
 induction h with
 | mk ao cap ts us hl hc hn h _ ih =>
  refine .mk ao cap ts us hl hc hn (fun i hi => ?_) ih
  obtain ⟨b, off, h1, h2, h3, h4, h5⟩ := h i hi
  exact ⟨b, off, h1, by omega, (hb b h2 h3).2, range_same h4 (hb b h2 h3).1, h5⟩
theorem SlL.form {W : World} {S : Nat → Prop} {v : Value} {ts : List Slt} (h : SlL W S v ts) : ∃ ao cap, v = .slice ao ts.length cap := by
 cases h
 exact ⟨_, _, rfl⟩
end Go.Proofs.YtjoohgkgkabbpaaGreatDoor
namespace Go.Proofs.YtjoohgkgkabbpaaGreatDoor
set_option maxRecDepth 100000
open Go Go.RowKit Go.Sort
attribute [local go_sem] setCell_drewN alloc_drewN
inductive HSx (W : World) : Nat → Nat → Value → List Slt → Prop
 | mk (lo hi : Nat) (ts : List Slt) (us : List Value) (p : Nat → Nat) (hl : ts.length ≤ 10000) (hG : lo < W.heap.size) (hh : hi ≤ W.heap.size) (hp0 : lo < hi)
  (hp : ∀ i, i < ts.length → lo < p i ∧ p i ≤ p (i + 1) ∧ p (i + 1) ≤ hi)
  (hcs : ∃ cs T, W.heap[lo]? = some (.cells cs T (0, 0)) ∧ cs.size = (ts.length + 3) * 5)
  (h : ∀ i, i < ts.length → W.rangeAt lo (i * 5) (srow (gs ts i) (gvs us i)) ∧ Sok (gs ts i))
  (hm : ∀ i, ts.length ≤ i → i < ts.length + 3 → W.rangeAt lo (i * 5) hmk)
  (hs : ∀ i, i < ts.length → HSx W (p i) (p (i + 1)) (gvs us i) (gs ts i).sub) : HSx W lo hi (.slice (some ⟨lo, 0, none⟩) ts.length (ts.length + 3)) ts
theorem HSx.keep {W V : World} {lo hi : Nat} {v : Value} {ts : List Slt} (h : HSx W lo hi v ts) (hs : W.heap.size ≤ V.heap.size) : (∀ b, lo ≤ b → b < hi → V.heap[b]? = W.heap[b]?) → HSx V lo hi v ts := by
 induction h with
 | mk lo hi ts us p hl hG hh hp0 hp hcs h hm _ ih =>
  intro hb
  have h0 := hb lo (Nat.le_refl _) hp0
  refine .mk lo hi ts us p hl (by omega) (by omega) hp0 hp (by rw [h0]; exact hcs) (fun i hi => ⟨range_same (h i hi).1 h0, (h i hi).2⟩) (fun i h1 h2 => range_same (hm i h1 h2) h0) (fun i hi => ih i hi fun b h1 h2 => hb b (by have := hp i hi; omega) (by have := hp i hi; omega))
theorem HSx.form {W : World} {lo hi : Nat} {v : Value} {ts : List Slt} (h : HSx W lo hi v ts) : v = .slice (some ⟨lo, 0, none⟩) ts.length (ts.length + 3) ∧ lo < hi := by
 cases h with
 | mk lo hi _ us p hl hG hh hp0 hp hcs h hm hs => exact ⟨rfl, hp0⟩
end Go.Proofs.YtjoohgkgkabbpaaGreatDoor
namespace Go.Proofs.YtjoohgkgkabbpaaGreatDoor
set_option maxRecDepth 100000
open Go Go.RowKit Go.Sort
attribute [local go_sem] setCell_drewN alloc_drewN
structure Out (lo hi : Nat) (w w' : World) : Prop where
 os : w'.os = w.os
 tape : w'.tape = w.tape
 output : w'.output = w.output
 size : w'.heap.size = w.heap.size
 block : ∀ k, (k < lo ∨ hi ≤ k) → w'.heap[k]? = w.heap[k]?
theorem Out.refl (lo hi : Nat) (w : World) : Out lo hi w w := ⟨rfl, rfl, rfl, rfl, fun _ _ => rfl⟩
theorem Out.trans {lo hi lo' hi' : Nat} {a b c : World} (h : Out lo hi a b) (k : Out lo' hi' b c) (h1 : lo ≤ lo') (h2 : hi' ≤ hi) : Out lo hi a c :=
 ⟨k.os.trans h.os, k.tape.trans h.tape, k.output.trans h.output, k.size.trans h.size, fun i hi => (k.block i (by omega)).trans (h.block i hi)⟩
theorem Out.set {lo hi o : Nat} {a b : World} {v : Value} (h : Out lo hi a b) (h1 : lo < hi) : Out lo hi a (b.setCell ⟨lo, o, none⟩ v) :=
 ⟨h.os, h.tape, h.output, by rw [← h.size]; simp, fun i hi => (heap_setCell_other b _ i v (by show i ≠ lo; omega)).trans (h.block i hi)⟩
end Go.Proofs.YtjoohgkgkabbpaaGreatDoor
namespace Go.Proofs.YtjoohgkgkabbpaaGreatDoor
set_option maxRecDepth 100000
open Go Go.RowKit Go.Sort
attribute [local go_sem] setCell_drewN alloc_drewN
end Go.Proofs.YtjoohgkgkabbpaaGreatDoor
namespace Go.Proofs.YtjoohgkgkabbpaaGreatDoor
set_option maxRecDepth 100000
open Go Go.RowKit Go.Sort
attribute [local go_sem] setCell_drewN alloc_drewN
end Go.Proofs.YtjoohgkgkabbpaaGreatDoor
namespace Go.Proofs.YtjoohgkgkabbpaaGreatDoor
set_option maxRecDepth 100000
open Go Go.RowKit Go.Sort
attribute [local go_sem] setCell_drewN alloc_drewN
end Go.Proofs.YtjoohgkgkabbpaaGreatDoor
namespace Go.Proofs.YtjoohgkgkabbpaaGreatDoor
set_option maxRecDepth 100000
open Go Go.RowKit Go.Sort
attribute [local go_sem] setCell_drewN alloc_drewN
end Go.Proofs.YtjoohgkgkabbpaaGreatDoor
namespace Go.Proofs.YtjoohgkgkabbpaaGreatDoor
set_option maxRecDepth 100000
open Go Go.RowKit Go.Sort
attribute [local go_sem] setCell_drewN alloc_drewN
end Go.Proofs.YtjoohgkgkabbpaaGreatDoor
namespace Go.Proofs.YtjoohgkgkabbpaaGreatDoor
set_option maxRecDepth 100000
open Go Go.RowKit Go.Sort
attribute [local go_sem] setCell_drewN alloc_drewN
end Go.Proofs.YtjoohgkgkabbpaaGreatDoor
namespace Go.Proofs.YtjoohgkgkabbpaaGreatDoor
set_option maxRecDepth 100000
open Go Go.RowKit Go.Sort
attribute [local go_sem] setCell_drewN alloc_drewN
end Go.Proofs.YtjoohgkgkabbpaaGreatDoor
namespace Go.Proofs.YtjoohgkgkabbpaaGreatDoor
set_option maxRecDepth 100000
open Go Go.RowKit Go.Sort
attribute [local go_sem] setCell_drewN alloc_drewN
end Go.Proofs.YtjoohgkgkabbpaaGreatDoor
namespace Go.Proofs.YtjoohgkgkabbpaaGreatDoor
set_option maxRecDepth 100000
open Go Go.RowKit Go.Sort
attribute [local go_sem] setCell_drewN alloc_drewN
section
variable {P : Program} {ops : Array Oper} {Q : Exit → Act → World → Prop} {md : Region.Mode} {S : World → Prop}
end
def hfd (pub : List B) (prev m : Nat) : List Fd := fdk hdr (hxs 0 prev m) [pub, [], []] 3
end Go.Proofs.YtjoohgkgkabbpaaGreatDoor
namespace Go.Proofs.YtjoohgkgkabbpaaGreatDoor
set_option maxRecDepth 100000
open Go Go.RowKit Go.Sort
attribute [local go_sem] setCell_drewN alloc_drewN
end Go.Proofs.YtjoohgkgkabbpaaGreatDoor
namespace Go.Proofs.YtjoohgkgkabbpaaGreatDoor
set_option maxRecDepth 100000
open Go Go.RowKit Go.Sort
attribute [local go_sem] setCell_drewN alloc_drewN
end Go.Proofs.YtjoohgkgkabbpaaGreatDoor
namespace Go.Proofs.YtjoohgkgkabbpaaGreatDoor
set_option maxRecDepth 100000
open Go Go.RowKit Go.Sort
attribute [local go_sem] setCell_drewN alloc_drewN
theorem row_grown {W V : World} {b e s n : Nat} {v : Value} {xs : List Value} {row : Option Nat} (h : W.ownsRow b e s v n xs) (hg : W.grownBy V row) (hne : ∀ k, v.ownBlock = some k → row ≠ some k) : V.ownsRow b e s v n xs := by
 obtain ⟨h1, h2 | ⟨g, cap, cur, rfl, hb2, hr, h3⟩⟩ := h
 ·exact ⟨h1, .inl h2⟩
 ·exact ⟨h1, .inr ⟨g, cap, cur, rfl, hb2, (hg.block g (lt_of_row hr) (fun e => hne g rfl e.symm)).trans hr, h3⟩⟩
theorem Fts.grown {W V : World} {b : Nat} {v : Value} {us : List Value} {fs : List Fd} {row : Option Nat} (h : Fts W b v us fs) (hg : W.grownBy V row) (h1 : ∀ k, v.ownBlock = some k → row ≠ some k) (h2 : ∀ i, i < us.length → ∀ k, (gv us i).ownBlock = some k → row ≠ some k) : Fts V b v us fs :=
 ⟨row_grown h.1 hg h1, h.2.1, fun i hi => row_grown (h.2.2.1 i hi) hg (h2 i hi), h.2.2.2⟩
end Go.Proofs.YtjoohgkgkabbpaaGreatDoor
namespace Go.Proofs.YtjoohgkgkabbpaaGreatDoor
set_option maxRecDepth 100000
open Go Go.RowKit Go.Sort
attribute [local go_sem] setCell_drewN alloc_drewN
theorem run_storeVar_cell {P : Program} (w : World) (g off : Nat) (ty : TypeId) (v : Value) (ht : w.there g off 1) (hi : (P.info? ty).map (·.size) = some 1) (h1 : v.oneCell' = true) : (storeVar ty ⟨g, off, none⟩ v).run P w = .ok () (w.setCells g off [v]) := by
 have := run_storeCells_cells (P := P) g off [v] 0 w (fun j hj => by simpa using (ht j (by simpa using hj)).1) (fun j hj => by simpa using (ht j (by simpa using hj)).2) (fun u hu => by simp at hu; subst hu; exact h1)
 have hc : v.cells = #[v] := by cases v <;> first | rfl | cases h1
 cases hq : P.info? ty with
 | none => simp [hq] at hi
 | some i =>
  have hs : i.size = 1 := by simpa [hq] using hi
  simp only [Nat.add_zero] at this
  simp [storeVar, sizeOf, typeInfo, hq, hc, hs, this]
theorem wpList_store_cell {P : Program} {ops : Array Oper} {rest : List Oper} {o : Oper} {a : Act} {w : World} {Q : Exit → Act → World → Prop} (hgd : o.guard = none) (ty : TypeId) (x y : Operand) (ho : o.op = .store ty x y)
 (g off : Nat) (v : Value) (hx : a.eval x = .pointer (some ⟨g, off, none⟩)) (hy : a.eval y = v) (t : TypeId) (old new : Array Value) (hg : w.heap[g]? = some (.cells old t (0, 0))) (hlt : off < old.size) (hnew : old.setIfInBounds off v = new)
 (hi : (P.info? ty).map (·.size) = some 1) (h1 : v.oneCell' = true)
 (h : wpList P ops Q rest (a.put o.dst undef) (w.setRow g new)) : wpList P ops Q (o :: rest) a w := by
 refine wpList_plain hgd fun _ hK => ?_
 unfold Oper.wp execOp
 simp only [ho, hx, hy, Instr.storeAt, Instr.sureAddr, Sem.run_bind, Sem.run_pure, Result.andThen_ok, run_storeVar_cell w g off ty v (there_row hg hlt) hi h1]
 refine hK _ _ ?_
 rw [setCells_eq [v] off w old hg]
 have e : ovw old off [v] = new := hnew
 rw [e]
 exact h
end Go.Proofs.YtjoohgkgkabbpaaGreatDoor
namespace Go.Proofs.YtjoohgkgkabbpaaGreatDoor
set_option maxRecDepth 100000
open Go Go.RowKit Go.Sort
attribute [local go_sem] setCell_drewN alloc_drewN
end Go.Proofs.YtjoohgkgkabbpaaGreatDoor
namespace Go.Proofs.YtjoohgkgkabbpaaGreatDoor
set_option maxRecDepth 100000
open Go Go.RowKit Go.Sort
attribute [local go_sem] setCell_drewN alloc_drewN
theorem dcF_why : ∀ (ts : List Slt) (fs : List Fd) (a : Int) (x : Flt3), dcF ts fs a = some x → x.why ≠ 0
 | [], [], _, x, h => by cases h
 | [], _ :: _, _, x, h => by cases h; show (81 : Int) ≠ 0; decide
 | _ :: _, [], _, x, h => by cases h; show (81 : Int) ≠ 0; decide
 | t :: ts, f :: fs, a, x, h => by
  rw [dcF] at h
  cases hd : dsl t f a with
  | none => rw [hd] at h; exact dcF_why ts fs _ x h
  | some y =>
   rw [hd] at h
   cases h
   unfold dsl rdE at hd
   split at hd
   ·cases hd; show (81 : Int) ≠ 0; decide
   ·split at hd
    ·cases hd; show (82 : Int) ≠ 0; decide
    ·split at hd
     ·cases hd
     ·rename_i hE
      cases hd
      exact hE
theorem dec8_why {ts : List Slt} {d : List B} {a : Int} {x : Flt3} (h : dec8 ts d a = some x) : x.why ≠ 0 := by
 unfold dec8 at h
 split at h
 ·rename_i hE
  cases h
  exact hE
 ·exact dcF_why _ _ _ _ h
end Go.Proofs.YtjoohgkgkabbpaaGreatDoor
namespace Go.Proofs.YtjoohgkgkabbpaaGreatDoor
set_option maxRecDepth 100000
open Go Go.RowKit Go.Sort
attribute [local go_sem] setCell_drewN alloc_drewN
theorem wpList_eql {P : Program} {ops : Array Oper} {Q : Exit → Act → World → Prop} {w : World} {rest : List Oper} {o : Oper} {a : Act} (hw : Region.wanted o (yielded ops a.tmps) = true) (t u : TypeId) (x y : Operand) (ho : o.op = .binOp .eql t x y u) (X Y : Array Value) (hx : a.eval x = .agg X) (hy : a.eval y = .agg Y) (hg : P.eqGuardType P.depth t = false) (B : Bool) (he : (Op.equalIn 10000 t (.agg X) (.agg Y)).run P w = .ok B w) (h : wpList P ops Q rest (a.put o.dst (.bool B)) w) : wpList P ops Q (o :: rest) a w :=
 BigFrame.wpList_want hw fun _ hK => wp_world_op _ _ (run_eql_op t u x y ho X Y hx hy hg B he) (hK _ _ h)
def Fy (W : World) (base : Nat) (E : Value) (F : Array Value) : Prop := (E = .nilIface ∧ F = #[.int .i64 0, .int .i64 0, .int .i64 0]) ∨ ∃ g x, base ≤ g ∧ E = .iface 87 (.pointer (some ⟨g, 0, none⟩)) ∧ F = frw x ∧ x.why ≠ 0 ∧ W.heap[g]? = some (.cells (frw x) 35 (0, 0))
theorem Fy.keep {W V : World} {base : Nat} {E : Value} {F : Array Value} (h : Fy W base E F) (hb : Below W.heap.size W V) : Fy V base E F := by
 rcases h with h | ⟨g, x, h0, h1, h2, h3, h4⟩
 ·exact .inl h
 ·exact .inr ⟨g, x, h0, h1, h2, h3, Go.Proofs.YtjoohgkgkabbpaaGreatDoor.keep hb h4⟩
theorem Fy.row {W : World} {base : Nat} {E : Value} {F : Array Value} (h : Fy W base E F) {k : Nat} (hk : k < base) (C : Array Value) : Fy (W.setRow k C) base E F := by
 rcases h with h | ⟨g, x, h0, h1, h2, h3, h4⟩
 ·exact .inl h
 ·exact .inr ⟨g, x, h0, h1, h2, h3, (setRow_other W k g C (by omega)).trans h4⟩
theorem Fy.info {W : World} {base : Nat} {E : Value} {F : Array Value} (h : Fy W base E F) : (Tryz.prog.info? 35).map (·.size) = some F.size := by
 rcases h with ⟨_, rfl⟩ | ⟨g, x, _, _, rfl, _⟩
 ·kernel_rfl
 ·exact infoFrw x
theorem Fy.size {W : World} {base : Nat} {E : Value} {F : Array Value} (h : Fy W base E F) : F.size = 3 := by
 rcases h with ⟨_, rfl⟩ | ⟨g, x, _, _, rfl, _⟩ <;> rfl
theorem Fy.one {W : World} {base : Nat} {E : Value} {F : Array Value} (h : Fy W base E F) : F.all (·.oneCell') = true := by
 rcases h with ⟨_, rfl⟩ | ⟨g, x, _, _, rfl, _⟩
 ·simp [Value.oneCell']
 ·exact frw_one x
theorem l_faulty {base : Nat} {E : Value} {F : Array Value} (w : World) (hE : Ety w) (h : Fy w base E F) : Calls Tryz.prog 12 #[E, .agg F] w fun e w' => e = .returned (.bool true) ∧ Below w.heap.size w w' := by
 rcases h with ⟨rfl, rfl⟩ | ⟨g, x, _, rfl, rfl, h3, h4⟩
 ·exact l_faulty_nil 0 0 w
 ·exact l_faulty_hit x h3 g w hE h4
end Go.Proofs.YtjoohgkgkabbpaaGreatDoor
namespace Go.Proofs.YtjoohgkgkabbpaaGreatDoor
set_option maxRecDepth 100000
open Go Go.RowKit Go.Sort
attribute [local go_sem] setCell_drewN alloc_drewN
end Go.Proofs.YtjoohgkgkabbpaaGreatDoor
namespace Go.Proofs.YtjoohgkgkabbpaaGreatDoor
set_option maxRecDepth 100000
open Go Go.RowKit Go.Sort
attribute [local go_sem] setCell_drewN alloc_drewN
def fPk (o : Option Flt3) : Array Value := match o with
 | none => #[.int .i64 0, .int .i64 0, .int .i64 0]
 | some x => frw x
theorem BysB.bn {W : World} {a : Option Addr} {n c : Nat} {d : List B} (h : BysB W (.slice a n c) d) : n ≤ 140737488355000 := by
 obtain ⟨⟨ao, cap, e, _⟩, hl, _⟩ := h
 injection e with e1 e2 e3
 rw [bl_len] at e2
 omega
end Go.Proofs.YtjoohgkgkabbpaaGreatDoor

