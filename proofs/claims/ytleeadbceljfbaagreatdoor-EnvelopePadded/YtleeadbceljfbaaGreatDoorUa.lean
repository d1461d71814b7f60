import Derived.Test.YtleeadbceljfbaaGreatDoorProg
import Derived.WalkKit
import Derived.WalkSpells
import Derived.WalkLawsBesides
import Derived.Lib.QuietBelow
import Derived.Laws.BitsAllLaws
import Derived.BigQuiet
import Derived.WalkMore
import Derived.Test.YtleeadbceljfbaaGreatDoorKa
import Derived.Test.YtleeadbceljfbaaGreatDoorQa1
namespace Go.Proofs.YtleeadbceljfbaaGreatDoor
set_option maxRecDepth 100000
open Go Go.RowKit Go.Sort
attribute [local go_sem] setCell_drewN alloc_drewN

/-- A slot of a schema, with the slots within it. -/
inductive Slt where
  | mk (no kind : Int) (least most : Nat) (sub : List Slt)
namespace Slt
def no : Slt → Int
  | .mk n _ _ _ _ => n
def kind : Slt → Int
  | .mk _ k _ _ _ => k
def least : Slt → Nat
  | .mk _ _ l _ _ => l
def most : Slt → Nat
  | .mk _ _ _ m _ => m
def sub : Slt → List Slt
  | .mk _ _ _ _ s => s
end Slt
def s0 : Slt := .mk 0 0 0 0 []
def gs (ts : List Slt) (i : Nat) : Slt := ts.getD i s0
def gvs (us : List Value) (i : Nat) : Value := us.getD i undef
def srow (t : Slt) (u : Value) : List Value := [.int .i64 t.no, .int .i64 t.kind, .int .u64 (t.least : Int), .int .u64 (t.most : Int), u]
/-- What a slot's numbers are. -/
def Sok (t : Slt) : Prop := (-9223372036854775808 ≤ t.no ∧ t.no ≤ 9223372036854775807) ∧ (-9223372036854775808 ≤ t.kind ∧ t.kind ≤ 9223372036854775807) ∧ t.least < 18446744073709551616 ∧ t.most < 18446744073709551616
/-- A schema in memory (lists within it may share their memory). -/
inductive Slo (W : World) : Value → List Slt → Prop
  | mk (ao : Option Addr) (cap : Nat) (ts : List Slt) (us : List Value) (hl : ts.length ≤ 2932031007317) (hc : ts.length ≤ cap) (hn : ao = none → cap = 0)
      (h : ∀ i, i < ts.length → ∃ b off, ao = some ⟨b, off, none⟩ ∧ b < W.heap.size ∧ W.rangeAt b (off + i * 5) (srow (gs ts i) (gvs us i)) ∧ Sok (gs ts i))
      (hs : ∀ i, i < ts.length → Slo W (gvs us i) (gs ts i).sub) : Slo W (.slice ao ts.length cap) ts
theorem rangeS_keep2 {w W V : World} {b o : Nat} {cs : List Value} (h : W.rangeAt b o cs) (hb : Below w.heap.size W V) (hlt : b < w.heap.size) : V.rangeAt b o cs := fun j v hv => (hb.cell (p := ⟨b, o + j, none⟩) hlt).trans (h j v hv)
theorem Slo.keep {W V : World} {v : Value} {ts : List Slt} (h : Slo W v ts) (hb : Below W.heap.size W V) : Slo V v ts := by
  induction h with
  | mk ao cap ts us hl hc hn h hs ih =>
    refine .mk ao cap ts us hl hc hn (fun i hi => ?_) ih
    obtain ⟨b, off, h1, h2, h3, h4⟩ := h i hi
    exact ⟨b, off, h1, Nat.lt_of_lt_of_le h2 hb.size, rangeS_keep2 h3 hb h2, h4⟩
theorem Slo.form {W : World} {v : Value} {ts : List Slt} (h : Slo W v ts) : ∃ ao cap, v = .slice ao ts.length cap := by
  cases h
  exact ⟨_, _, rfl⟩
theorem sdrop (ts : List Slt) (j : Nat) (h : j < ts.length) : ts.drop j = gs ts j :: ts.drop (j + 1) := by
  rw [List.drop_eq_getElem_cons h, gs, List.getD_eq_getElem?_getD, List.getElem?_eq_getElem h]
  rfl
/-- How many of so many slots a schema leaves. -/
def slL : List Slt → Int → Int
  | [], l => l
  | .mk _ _ _ _ sub :: ts, l => if 0 ≤ l then slL ts (slL sub (l - 1)) else l
theorem slL_cons (t : Slt) (ts : List Slt) (l : Int) : slL (t :: ts) l = if 0 ≤ l then slL ts (slL t.sub (l - 1)) else l := by
  cases t
  rw [slL]
  rfl
theorem slL_neg (ts : List Slt) (l : Int) (h : l < 0) : slL ts l = l := by
  cases ts with
  | nil => rw [slL]
  | cons t ts => rw [slL_cons, if_neg (by omega)]
theorem slL_le : ∀ (ts : List Slt) (l : Int), slL ts l ≤ l ∧ (-1 ≤ l → -1 ≤ slL ts l)
  | [], l => by rw [slL]; exact ⟨Int.le_refl _, id⟩
  | .mk n k a b sub :: ts, l => by
    rw [slL]
    split
    · have h1 := slL_le sub (l - 1)
      have h2 := slL_le ts (slL sub (l - 1))
      exact ⟨by omega, fun _ => by omega⟩
    · exact ⟨Int.le_refl _, id⟩
end Go.Proofs.YtleeadbceljfbaaGreatDoor
