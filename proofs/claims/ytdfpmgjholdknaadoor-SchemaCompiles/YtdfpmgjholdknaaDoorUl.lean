import Derived.Test.YtdfpmgjholdknaaDoorProg
import Derived.WalkKit
import Derived.WalkSpells
import Derived.WalkLawsBesides
import Derived.Lib.QuietBelow
import Derived.Laws.BitsAllLaws
import Derived.BigQuiet
import Derived.WalkMore
import Derived.Deep.MidRow
import Derived.Test.YtdfpmgjholdknaaDoorKa
import Derived.Test.YtdfpmgjholdknaaDoorUj
import Derived.Test.YtdfpmgjholdknaaDoorUk
namespace Go.Proofs.YtdfpmgjholdknaaDoor
set_option maxRecDepth 100000
open Go Go.RowKit Go.Sort
/-- All blocks but one have stayed. -/
structure But (g : Nat) (w w' : World) : Prop where
  os : w'.os = w.os
  tape : w'.tape = w.tape
  output : w'.output = w.output
  size : w.heap.size ≤ w'.heap.size
  block : ∀ k, k < w.heap.size → k ≠ g → w'.heap[k]? = w.heap[k]?
theorem But.refl (g : Nat) (w : World) : But g w w := ⟨rfl, rfl, rfl, Nat.le_refl _, fun _ _ _ => rfl⟩
theorem But.trans {g : Nat} {a b c : World} (h : But g a b) (k : But g b c) : But g a c :=
  ⟨k.os.trans h.os, k.tape.trans h.tape, k.output.trans h.output, Nat.le_trans h.size k.size, fun i hi hg => (k.block i (Nat.lt_of_lt_of_le hi h.size) hg).trans (h.block i hi hg)⟩
theorem But.of {g : Nat} {w w' : World} (h : Below w.heap.size w w') : But g w w' := ⟨h.os, h.tape, h.output, h.size, fun k hk _ => h.block k hk⟩
theorem But.below {g B : Nat} {w w' : World} (h : But g w w') (h1 : B ≤ g) (h2 : B ≤ w.heap.size) : Below B w w' := ⟨h.os, h.tape, h.output, h.size, fun k hk => h.block k (by omega) (by omega)⟩
theorem But.after {g : Nat} {W w w' : World} (h0 : Below W.heap.size W w) (h1 : W.heap.size ≤ g) (h : But g w w') : Below W.heap.size W w' := h0.trans (h.below h1 h0.size)
theorem But.row {g : Nat} {w w' : World} (h : But g w w') {k : Nat} {o : Obj} (hk : w.heap[k]? = some o) (hg : k ≠ g) : w'.heap[k]? = some o :=
  (h.block k (Array.getElem?_eq_some_iff.1 hk).1 hg).trans hk
theorem But.set {g : Nat} (w : World) (v : Value) : But g w (w.setCell ⟨g, 0, none⟩ v) :=
  ⟨rfl, rfl, rfl, Nat.le_of_eq (by simp), fun k _ hk => heap_setCell_other w _ k v hk⟩
/-- Of a float's slot its bound is kept as a float. -/
def Flt (t : Slt) (u : Value) : Prop := t.kind = 7 → u = .float .f64 (floatOfInt .f64 (t.most : Int))
/-- A schema outlined, in blocks of that kind. -/
inductive MsgL (W : World) (S : Nat → Prop) : Value → List Slt → Prop
  | mk (ao : Option Addr) (cap : Nat) (ts : List Slt) (us : List Value) (hl : ts.length ≤ 16) (hc : ts.length ≤ cap)
      (h : ∀ i, i < ts.length → ∃ b off, ao = some ⟨b, off, none⟩ ∧ b < W.heap.size ∧ S b ∧ W.rangeAt b (off + i * 2) [.int .i64 (gs ts i).no, shp (gs ts i) (gvs us i)] ∧ Sok (gs ts i) ∧ Flt (gs ts i) (gvs us i))
      (hs : ∀ i, i < ts.length → nst (gs ts i) → MsgL W S (gvs us i) (gs ts i).sub) : MsgL W S (.slice ao ts.length cap) ts
theorem MsgL.msg {W : World} {S : Nat → Prop} {v : Value} {ts : List Slt} (h : MsgL W S v ts) : Msg W v ts := by
  induction h with
  | mk ao cap ts us hl hc h hs ih =>
    refine .mk ao cap ts us hl hc (fun i hi => ?_) ih
    obtain ⟨b, off, h1, h2, _, h4, h5, _⟩ := h i hi
    exact ⟨b, off, h1, h2, h4, h5⟩
theorem MsgL.form {W : World} {S : Nat → Prop} {v : Value} {ts : List Slt} (h : MsgL W S v ts) : ∃ ao cap, v = .slice ao ts.length cap := by
  cases h
  exact ⟨_, _, rfl⟩
theorem range_same {W V : World} {b o : Nat} {cs : List Value} (h : W.rangeAt b o cs) (hb : V.heap[b]? = W.heap[b]?) : V.rangeAt b o cs := fun j v hv => (World.cell?_of_block (a := ⟨b, o + j, none⟩) hb).trans (h j v hv)
theorem MsgL.keep {W V : World} {S T : Nat → Prop} {v : Value} {ts : List Slt} (h : MsgL W S v ts) (hs : W.heap.size ≤ V.heap.size) (hb : ∀ b, b < W.heap.size → S b → V.heap[b]? = W.heap[b]? ∧ T b) : MsgL V T v ts := by
  induction h with
  | mk ao cap ts us hl hc h _ ih =>
    refine .mk ao cap ts us hl hc (fun i hi => ?_) ih
    obtain ⟨b, off, h1, h2, h3, h4, h5⟩ := h i hi
    exact ⟨b, off, h1, by omega, (hb b h2 h3).2, range_same h4 (hb b h2 h3).1, h5⟩
/-- The outliner's count. -/
def Lc (w : World) (g : Nat) (L : Int) : Prop := w.heap[g]? = some (.cells #[.int .i64 L] 57 (0, 0))
/-- What comes of a schema, of a slot. -/
def OutM (g : Nat) (w : World) (r : Int) (ts : List Slt) (e : Ending) (w' : World) : Prop :=
  But g w w' ∧ ((0 ≤ r ∧ ∃ v, e = .returned (.tuple #[v, .bool true]) ∧ MsgL w' (fun b => w.heap.size ≤ b) v ts ∧ Lc w' g r) ∨ (r < 0 ∧ e = .returned (.tuple #[.slice none 0 0, .bool false])))
def OutS (g : Nat) (w : World) (r : Int) (t : Slt) (e : Ending) (w' : World) : Prop :=
  But g w w' ∧ ((0 ≤ r ∧ ∃ u, e = .returned (.tuple #[shp t u, .bool true]) ∧ Flt t u ∧ (nst t → MsgL w' (fun b => w.heap.size ≤ b) u t.sub) ∧ Lc w' g r) ∨ (r < 0 ∧ ∃ v, e = .returned (.tuple #[v, .bool false])))
/-- The outliner goes through a schema. -/
def MsgC (W : World) (u : Value) (sub : List Slt) : Prop := ∀ (w : World) (g : Nat) (deep L : Int), Below W.heap.size W w → W.heap.size ≤ g → Lc w g L → 1 ≤ deep → deep ≤ 7 → 0 ≤ L → L ≤ 256 →
  Calls Tryd.prog 18 #[.pointer (some ⟨g, 0, none⟩), u, .int .i64 deep] w (OutM g w (pm sub deep L) sub)
end Go.Proofs.YtdfpmgjholdknaaDoor
