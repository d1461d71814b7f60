import Derived.Test.YtleeadbceljfbaaGreatDoorQb3
import Derived.Test.YtleeadbceljfbaaGreatDoorXdp
namespace Go.Proofs.YtleeadbceljfbaaGreatDoor
set_option maxRecDepth 100000
open Go Go.RowKit Go.Sort
/-- What a slot's bounds say of a field. -/
def ftF (t : Slt) (f : Fd) : Int := if t.kind = 5 then wth (f.dat.length : Int) (t.least : Int) (t.most : Int) else if t.kind = 4 then wth (f.num : Int) 0 1 else wth (f.num : Int) (t.least : Int) (t.most : Int)
def rdE (at_ E : Int) : Option Flt3 := if E = 0 then none else some ⟨0, at_, E⟩
/-- What a slot finds in a field that begins there. -/
def dsl (t : Slt) (f : Fd) (at_ : Int) : Option Flt3 := if f.no ≠ t.no then some ⟨0, at_, 81⟩ else if f.ty ≠ wtK t then some ⟨0, at_, 82⟩ else rdE at_ (ftF t f)
/-- What is wrong with fields, slot by slot. -/
def dcF : List Slt → List Fd → Int → Option Flt3
  | [], [], _ => none
  | [], _ :: _, at_ => some ⟨0, at_, 81⟩
  | _ :: _, [], at_ => some ⟨0, at_, 81⟩
  | t :: ts, f :: fs, at_ => match dsl t f at_ with
    | some x => some x
    | none => dcF ts fs (at_ + ((fby f).length : Int))
/-- What is wrong with a message's bytes, which begin there. -/
def dec8 (ts : List Slt) (d : List B) (from_ : Int) : Option Flt3 := if der (dwh d) ≠ 0 then some ⟨0, from_ + dpl (dwh d), der (dwh d)⟩ else dcF ts (dfs (dwh d)) from_
theorem fdrop (fs : List Fd) (k : Nat) (h : k < fs.length) : fs.drop k = gf fs k :: fs.drop (k + 1) := by
  rw [List.drop_eq_getElem_cons h]
  simp [gf, List.getD_eq_getElem?_getD, List.getElem?_eq_getElem h]
theorem dcF_step {ts : List Slt} {fs : List Fd} {at_ : Int} {k : Nat} (h1 : k < ts.length) (h2 : k < fs.length) : dcF (ts.drop k) (fs.drop k) at_ = match dsl (gs ts k) (gf fs k) at_ with
    | some x => some x
    | none => dcF (ts.drop (k + 1)) (fs.drop (k + 1)) (at_ + ((fby (gf fs k)).length : Int)) := by
  rw [sdrop ts k h1, fdrop fs k h2, dcF]
  try (cases dsl (gs ts k) (gf fs k) at_ <;> rfl)
theorem dcF_short {ts : List Slt} {fs : List Fd} {at_ : Int} {k : Nat} (h1 : k < ts.length) (h2 : fs.length = k) : dcF (ts.drop k) (fs.drop k) at_ = some ⟨0, at_, 81⟩ := by
  rw [sdrop ts k h1, List.drop_of_length_le (show fs.length ≤ k by omega), dcF]
theorem dcF_long {ts : List Slt} {fs : List Fd} {at_ : Int} {k : Nat} (h1 : ts.length = k) (h2 : k < fs.length) : dcF (ts.drop k) (fs.drop k) at_ = some ⟨0, at_, 81⟩ := by
  rw [List.drop_of_length_le (by omega : ts.length ≤ k), fdrop fs k h2, dcF]
theorem dcF_end {ts : List Slt} {fs : List Fd} {at_ : Int} {k : Nat} (h1 : ts.length = k) (h2 : fs.length = k) : dcF (ts.drop k) (fs.drop k) at_ = none := by
  rw [List.drop_of_length_le (by omega : ts.length ≤ k), List.drop_of_length_le (by omega : fs.length ≤ k), dcF]
/-- A number with a wire type in its low bits is no longer than without. -/
theorem en_head (no ty : Nat) (ht : ty < 8) : (en (8 * no + ty)).length = (en (8 * no)).length := by
  by_cases h : no < 16
  · rw [en_lo (n := 8 * no + ty) (by omega), en_lo (n := 8 * no) (by omega)]
    rfl
  · rw [en_hi (n := 8 * no + ty) (by omega), en_hi (n := 8 * no) (by omega), List.length_cons, List.length_cons, show (8 * no + ty) / 128 = 8 * no / 128 by omega]
end Go.Proofs.YtleeadbceljfbaaGreatDoor
