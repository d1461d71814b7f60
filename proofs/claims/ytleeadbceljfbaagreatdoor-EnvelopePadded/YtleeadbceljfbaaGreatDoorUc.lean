import Derived.Test.YtleeadbceljfbaaGreatDoorProg
import Derived.WalkKit
import Derived.WalkSpells
import Derived.WalkLawsBesides
import Derived.Lib.QuietBelow
import Derived.Laws.BitsAllLaws
import Derived.BigQuiet
import Derived.WalkMore
import Derived.Deep.MidRow
import Derived.Test.YtleeadbceljfbaaGreatDoorKa
import Derived.Test.YtleeadbceljfbaaGreatDoorUb
namespace Go.Proofs.YtleeadbceljfbaaGreatDoor
set_option maxRecDepth 100000
open Go Go.RowKit Go.Sort
attribute [local go_sem] setCell_drewN alloc_drewN
/-- A row in the middle of a block, read in a quiet region. -/
theorem wpQuiet_load_mid {P : Program} {C : World → Prop} {ops : Array Oper} {Q : Act → Prop} {a : Act} {o : Oper} {rest : List Oper} (hw : Region.wanted o (yielded ops a.tmps) = true) (ty : TypeId) (x : Operand) (ho : o.op = .load ty x)
    (b off : Nat) (hx : a.eval x = .pointer (some ⟨b, off, none⟩)) (cs : List Value) (d : TypeDesc) (hg : ∀ w, C w → w.rangeAt b off cs)
    (hu : P.underlying ty = some d) (hd : d.isRow = true) (hi : (P.info? ty).map (·.size) = some cs.length)
    (h : wpQuiet P ops C Q rest (a.put o.dst (.agg cs.toArray))) : wpQuiet P ops C Q (o :: rest) a := by
  refine BigFrame.wpQuiet_want hw fun K hK => ⟨.agg cs.toArray, fun w hw => ?_, hK _ h⟩
  unfold Oper.quietAt execOp
  simp only [ho, hx, Instr.loadAt, Instr.sureAddr, Sem.run_bind, Sem.run_pure, Result.andThen_ok, run_loadVar_mid w b off ty cs d (hg w hw) hu hd hi]
  exact ⟨rfl, rfl⟩
theorem wpQuiet_load_sl {C : World → Prop} {ops : Array Oper} {Q : Act → Prop} {a : Act} {o : Oper} {rest : List Oper} (hw : Region.wanted o (yielded ops a.tmps) = true) (x : Operand) (ho : o.op = .load 99 x)
    (b off : Nat) (hx : a.eval x = .pointer (some ⟨b, off, none⟩)) (c0 c1 c2 c3 c4 : Value) (hg : ∀ w, C w → w.rangeAt b off [c0, c1, c2, c3, c4])
    (h : wpQuiet Tryz.prog ops C Q rest (a.put o.dst (.agg #[c0, c1, c2, c3, c4]))) : wpQuiet Tryz.prog ops C Q (o :: rest) a :=
  wpQuiet_load_mid hw 99 x ho b off hx [c0, c1, c2, c3, c4] _ hg Tryz.underlying99 rfl infoS h
/-- How many of so many slots the rest of a schema leaves, below 0 if it can't be. -/
def lfL : List Slt → Int → Int → Int → Int
  | [], _, _, room => room
  | .mk no k l m sub :: ts, prev, deep, room => if room < 0 then room else
      if no < 1 ∨ 536870911 < no ∨ no ≤ prev ∨ fitN k (l : Int) (m : Int) sub.length = false then -1 else
      lfL ts no deep (if (k = 8 ∨ k = 9) ∧ 0 ≤ room - 1 then (if 16 < sub.length ∨ 6 < deep + 1 then -1 else lfL sub 0 (deep + 1) (room - 1)) else room - 1)
def lft (ts : List Slt) (deep room : Int) : Int := if 16 < ts.length ∨ 6 < deep then -1 else lfL ts 0 deep room
def nst (t : Slt) : Prop := t.kind = 8 ∨ t.kind = 9
instance (t : Slt) : Decidable (nst t) := by unfold nst; infer_instance
def sfit (t : Slt) : Bool := fitN t.kind (t.least : Int) (t.most : Int) t.sub.length
theorem lfL_cons (t : Slt) (ts : List Slt) (prev deep room : Int) : lfL (t :: ts) prev deep room = if room < 0 then room else
      if t.no < 1 ∨ 536870911 < t.no ∨ t.no ≤ prev ∨ sfit t = false then -1 else
      lfL ts t.no deep (if nst t ∧ 0 ≤ room - 1 then lft t.sub (deep + 1) (room - 1) else room - 1) := by
  cases t
  rw [lfL]
  rfl
theorem lfL_neg (ts : List Slt) (prev deep room : Int) (h : room < 0) : lfL ts prev deep room = room := by
  cases ts with
  | nil => rw [lfL]
  | cons t ts => rw [lfL_cons, if_pos h]
theorem lfL_le : ∀ (ts : List Slt) (prev deep room : Int), -1 ≤ room → lfL ts prev deep room ≤ room ∧ -1 ≤ lfL ts prev deep room
  | [], _, _, room, h => by rw [lfL]; exact ⟨Int.le_refl _, h⟩
  | .mk no k l m sub :: ts, prev, deep, room, h => by
    rw [lfL]
    split
    · exact ⟨Int.le_refl _, h⟩
    · split
      · exact ⟨h, Int.le_refl _⟩
      · have h1 := lfL_le sub 0 (deep + 1) (room - 1) (by omega)
        have key : ∀ r, -1 ≤ r → r ≤ room → lfL ts no deep r ≤ room ∧ -1 ≤ lfL ts no deep r := fun r q1 q2 => by
          have := lfL_le ts no deep r q1
          omega
        apply key
        · split
          · split <;> omega
          · omega
        · split
          · split <;> omega
          · omega
theorem lft_le (ts : List Slt) (deep room : Int) (h : -1 ≤ room) : lft ts deep room ≤ room ∧ -1 ≤ lft ts deep room := by
  unfold lft
  split
  · exact ⟨h, Int.le_refl _⟩
  · exact lfL_le _ _ _ _ h
def prv (ts : List Slt) (k : Nat) : Int := if k = 0 then 0 else (gs ts (k - 1)).no
theorem Slo.sub_form {W : World} {v : Value} {ts : List Slt} (h : Slo W v ts) : ∃ ao cap, v = .slice ao ts.length cap := h.form
end Go.Proofs.YtleeadbceljfbaaGreatDoor
