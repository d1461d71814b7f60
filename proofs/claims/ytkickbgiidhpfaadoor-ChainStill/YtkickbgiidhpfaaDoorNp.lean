import Derived.Test.YtkickbgiidhpfaaDoorProg
import Derived.WalkKit
import Derived.WalkSpells
import Derived.WalkLawsBesides
import Derived.Lib.QuietBelow
import Derived.BigQuiet
import Derived.Test.YtkickbgiidhpfaaDoorKa
import Derived.Test.YtkickbgiidhpfaaDoorNn
import Derived.Laws.BytesArg
import Derived.OwnWalk
namespace Go.Proofs.YtkickbgiidhpfaaDoor
open Go Go.RowKit Go.Sort
attribute [local go_sem] setCell_drewN alloc_drewN

/-- The marks behind what is handed. -/
def mk4 (k : Nat) : List Int := (List.range k).map fun (i : Nat) => 100 + (i : Int)
theorem mk4_len (k : Nat) : (mk4 k).length = k := by simp [mk4]
theorem mk4_get (k i : Nat) (h : i < k) : (mk4 k).getD i 0 = 100 + (i : Int) := by
  simp [mk4, List.getD_eq_getElem?_getD, List.getElem?_map, List.getElem?_range h]
/-- Some marks are there, zeros behind them. -/
def mz (k : Nat) : List Int := mk4 k ++ zr (80 - k)
theorem mz_len (k : Nat) (h : k ≤ 80) : (mz k).length = 80 := by simp [mz, mk4_len, zr_len]; omega
theorem mz_set (k : Nat) (h : k < 80) : (mz k).set k (100 + (k : Int)) = mz (k + 1) := by
  have e1 : zr (80 - k) = 0 :: zr (80 - (k + 1)) := by
    rw [show 80 - k = (80 - (k + 1)) + 1 by omega]; rfl
  have e2 : mk4 (k + 1) = mk4 k ++ [100 + (k : Int)] := by simp [mk4, List.range_succ]
  rw [mz, mz, e1, e2, List.set_append_right _ _ (by rw [mk4_len]; exact Nat.le_refl _), mk4_len, Nat.sub_self, List.set_cons_zero, List.append_assoc]
  rfl
theorem bmz_set (bs : List Int) (k : Nat) (h : k < 80) : (bs ++ mz k).set (bs.length + k) (100 + (k : Int)) = bs ++ mz (k + 1) := by
  rw [List.set_append_right _ _ (by omega), Nat.add_sub_cancel_left, mz_set k h]
/-- The bytes turned about and changed. -/
def tn4 (bs : List Int) : List Int := xl bs.reverse 51
theorem tn4_len (bs : List Int) : (tn4 bs).length = bs.length := by simp [tn4, xl_len]
theorem tn4_bd (bs : List Int) : ∀ z ∈ tn4 bs, 0 ≤ z ∧ z < 256 := xl_bd _ _
theorem tn4_get (bs : List Int) (i : Nat) (h : i < bs.length) : (tn4 bs).getD i 0 = bits .xor .u8 (bs.getD (bs.length - 1 - i) 0) 51 := by
  rw [tn4, xl_get _ _ _ (by simpa using h), List.getD_eq_getElem?_getD, List.getElem?_reverse h, List.getD_eq_getElem?_getD]
theorem make_len (n : Nat) (hn : n ≤ 140737488355328) (w : World) : (Instr.makeSlice 54 (.int .i64 (n : Int)) (.int .i64 (n : Int))).run Tryd.prog w = .ok (.slice (some ⟨w.heap.size, 0, none⟩) n n) (w.alloc (.cells (irow .u8 (zr n)) 5)) := make_i64 n (by omega) w
theorem conv_bys {W : World} {v : Value} {bs : List Int} (h : Bys W v bs) : (convert 54 9 v).run Tryd.prog W = .ok (.string (strOfNums bs)) W := by
  obtain ⟨ao, cap, rfl, _, hc, _⟩ := h
  cases ao with
  | none =>
    have : bs = [] := by
      cases bs with
      | nil => rfl
      | cons x xs => obtain ⟨b, off, e, _⟩ := hc 0 (by simp); cases e
    subst this
    exact run_convert_bytes_nil W 54 5 Tryd.underlying54 Tryd.underlying5 _ _ 9 Tryd.underlying9
  | some ad =>
    rcases Nat.eq_zero_or_pos bs.length with e0 | e0
    · have : bs = [] := List.eq_nil_of_length_eq_zero e0
      subst this
      obtain ⟨b, off, sp⟩ := ad
      rw [run_convert_bytes_string W 54 9 5 _ _ _ Tryd.underlying54 Tryd.underlying5 Tryd.underlying9]
      have := run_bytesToString (P := Tryd.prog) W ⟨b, off, sp⟩ 0 cap [] (by rfl)
      exact this
    · obtain ⟨b, off, e, _⟩ := hc 0 e0
      cases e
      exact run_convert_bytes_arg W 54 5 Tryd.underlying54 Tryd.underlying5 b off bs.length cap bs rfl (fun i hi => by
        obtain ⟨b', off', e, _, h⟩ := hc i hi
        cases e
        exact h) 9 Tryd.underlying9
theorem str_inj {a b : List Int} (ha : ∀ z ∈ a, 0 ≤ z ∧ z < 256) (hb : ∀ z ∈ b, 0 ≤ z ∧ z < 256) (h : strOfNums a = strOfNums b) : a = b := by
  have h1 := congrArg (fun x => x.data.toList) h
  simp only [strOfNums_data] at h1
  have key : ∀ (a b : List Int), (∀ z ∈ a, 0 ≤ z ∧ z < 256) → (∀ z ∈ b, 0 ≤ z ∧ z < 256) → a.map (fun n => UInt8.ofNat n.toNat) = b.map (fun n => UInt8.ofNat n.toNat) → a = b := by
    intro a
    induction a with
    | nil => intro b _ _ h; cases b with
      | nil => rfl
      | cons y ys => simp at h
    | cons x xs ih => intro b ha hb h; cases b with
      | nil => simp at h
      | cons y ys =>
        simp only [List.map_cons, List.cons.injEq] at h
        have hx := ha x (by simp)
        have hy := hb y (by simp)
        have e := congrArg UInt8.toNat h.1
        simp only [UInt8.toNat_ofNat'] at e
        rw [Nat.mod_eq_of_lt (by omega), Nat.mod_eq_of_lt (by omega)] at e
        have exy : x = y := by omega
        rw [exy, ih ys (fun z h => ha z (by simp [h])) (fun z h => hb z (by simp [h])) h.2]
  exact key a b ha hb h1
theorem str_dec {a b : List Int} (ha : ∀ z ∈ a, 0 ≤ z ∧ z < 256) (hb : ∀ z ∈ b, 0 ≤ z ∧ z < 256) : ((strOfNums a).toList == (strOfNums b).toList) = decide (a = b) := by
  by_cases h : a = b
  · subst h; simp
  · rw [decide_eq_false h, beq_eq_false_iff_ne]
    intro e
    rw [ByteArray.toList_eq, ByteArray.toList_eq] at e
    exact h (str_inj ha hb (Go.WideShapes.bytes_inj e))
end Go.Proofs.YtkickbgiidhpfaaDoor
