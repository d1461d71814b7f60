import Derived.Test.YtlglalhddeldbabProg
import Derived.WalkKit
import Derived.WalkSpells
import Derived.WalkLawsBesides
import Derived.Lib.QuietBelow
import Derived.Laws.BitsAllLaws
import Derived.BigQuiet
import Derived.WalkMore
import Derived.Test.YtlglalhddeldbabKit
import Derived.OrdersHeld
import Derived.Deep.RegionHeld3
import Derived.Test.YtlglalhddeldbabXdr
import Derived.Test.YtlglalhddeldbabWy
namespace Go.Proofs.Ytlglalhddeldbab
open Go Go.RowKit Go.Sort
attribute [local go_sem] setCell_drewN alloc_drewN

theorem elemF : Try.prog.underlying 22 = some (.slice (Try.prog.elem 22)) := by kernel_rfl
theorem sizeF (W : World) : (sizeOf (Try.prog.elem 22)).run Try.prog W = .ok 4 W := by kernel_rfl
theorem slf_head (ao : Option Addr) (len cap k : Nat) (h : k ≤ cap) (hz : ao = none → cap = 0) (W : World) : (Instr.sliceAt 22 (.slice ao len cap) none (some (.int .i64 (k : Int))) none).run Try.prog W = .ok (.slice ao k cap) W := by
  rw [run_sliceAt_slice _ _ _ _ _ _ elemF, run_slice_h W 22 ao len cap elemF .i64 _ (by omega) (by omega), sizeF]
  show Result.ok (sliced _ _ _ _ 4) W = _
  rw [Int.toNat_natCast, sliced]
  cases ao with
  | none => simp
  | some a => obtain ⟨b, o, s⟩ := a; cases s <;> simp [Addr.add]
theorem slb_head (ao : Option Addr) (len cap k : Nat) (h : k ≤ cap) (W : World) : (Instr.sliceAt 24 (.slice ao len cap) none (some (.int .i64 (k : Int))) none).run Try.prog W = .ok (.slice ao k cap) W := by
  rw [run_sliceAt_slice _ _ _ _ _ _ elem8, run_slice_h W 24 ao len cap elem8 .i64 _ (by omega) (by omega), size8]
  show Result.ok (sliced _ _ _ _ 1) W = _
  rw [Int.toNat_natCast, sliced]
  cases ao with
  | none => simp
  | some a => obtain ⟨b, o, s⟩ := a; cases s <;> simp [Addr.add]
theorem bysB_head {W : World} {ao : Option Addr} {cap k l : Nat} {d : List B} (h : BysB W (.slice ao l cap) d) (hk : k ≤ d.length) : BysB W (.slice ao k cap) (d.take k) := by
  obtain ⟨⟨ao', cap', e, h1, h2, h3⟩, h4, h5⟩ := h
  cases e
  rw [bl_len] at *
  refine ⟨⟨ao, cap, by rw [bl_len, List.length_take, Nat.min_eq_left hk], by rw [bl_len, List.length_take]; omega, fun j hj => ?_, bl_bnd _⟩, by rw [List.length_take]; omega, fun a l c e hn => by cases e; exact h5 _ _ _ rfl hn⟩
  rw [bl_len, List.length_take, Nat.min_eq_left hk] at hj
  obtain ⟨b, off, q1, q2, q3⟩ := h2 j (by omega)
  refine ⟨b, off, q1, q2, ?_⟩
  rw [q3, bl_take, List.getD_eq_getElem?_getD, List.getD_eq_getElem?_getD, List.getElem?_take_of_lt hj]
end Go.Proofs.Ytlglalhddeldbab

