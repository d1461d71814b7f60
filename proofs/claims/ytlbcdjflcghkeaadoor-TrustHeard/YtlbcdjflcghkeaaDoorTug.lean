import Derived.Test.YtlbcdjflcghkeaaDoorProg
import Derived.WalkKit
import Derived.WalkSpells
import Derived.WalkLawsBesides
import Derived.Lib.QuietBelow
import Derived.BigQuiet
import Derived.OrdersHeld
import Derived.OwnWalk
import Derived.Deep.RegionHeld3
import Derived.Deep.Cut
import Derived.Deep.CutRange
import Derived.Laws.CopyOwn
import Derived.Lib.AppendZeros
import Derived.Test.YtlbcdjflcghkeaaDoorTuf
namespace Go.Proofs.YtlbcdjflcghkeaaDoor
set_option maxRecDepth 100000
open Go Go.RowKit Go.Sort
attribute [local go_sem] setCell_drewN alloc_drewN
theorem app_tx {P : Program} (w : World) (t tx ty e e2 : TypeId) (ht : P.underlying t = some (.slice e)) (htx : P.underlying tx = some (.slice e2)) (i : TypeInfo) (hi : P.info? e = some i) (ao : Option Addr) (n c : Nat) (x : Value) : (Builtin.append_ #[t, tx] ty #[.slice ao n c, x]).run P w = (Builtin.append_ #[t, t] ty #[.slice ao n c, x]).run P w := by
  simp [Builtin.append_, run_underlying ht, run_underlying htx, sizeOf, typeInfo, hi]
theorem run_append_zgrow {P : Program} (w : World) (t tn ty e : TypeId) (i : TypeInfo) (z : Value) (k kn : IntKind) (ht : P.underlying t = some (.slice e)) (htn : P.underlying tn = some (.int kn)) (hi : P.info? e = some i) (hz : i.zero = some z)
    (a : Addr) (sLen cap : Nat) (xs : List Value) (hl : xs.length = sLen * i.size) (hold : ∀ j u, xs[j]? = some u → w.cell? (a.add j) = some u) (n : Nat) (h0 : 0 < n) (hs : 0 < i.size) (hroom : cap < sLen + n) (h63 : sLen + n ≤ 9223372036854775807) (h47 : (sLen + n) * i.bytes ≤ 140737488355328) :
    (Builtin.append_ #[t, tn] ty #[.slice (some a) sLen cap, .int k n]).run P w =
      .ok (.slice (some ⟨w.heap.size, 0, none⟩) (sLen + n) (grownCap w (sLen + n) cap e)) (w.drew.alloc (.cells (xs.toArray ++ Builtin.zeroCells z.cells n ++ Builtin.zeroCells z.cells (grownCap w (sLen + n) cap e - (sLen + n))) e)) := by
  have hn : n ≠ 0 := by omega
  have hw : IntKind.i64.wrap (n : Int) = n := by rw [IntKind.wrap_i64]; omega
  have h63'' : ¬ (9223372036854775807 < (sLen : Int) + (n : Int)) := by omega
  have h48' : ¬ (281474976710656 < Builtin.nextslicecap (sLen + n) cap * i.bytes) := by
    have := growslice_fits (need := sLen + n) (old := cap) (bytes := i.bytes) (by omega) h47
    omega
  have h48i : ¬ (281474976710656 < (n : Int) * (i.bytes : Int)) := by
    rw [← Int.natCast_mul]
    have := Nat.mul_le_mul_right i.bytes (show n ≤ sLen + n by omega)
    omega
  have hneg : ¬ ((n : Int) < 0) := by omega
  have hns : ¬ (n * i.size = 0) := Nat.mul_ne_zero hn (by omega)
  have hro : ¬ (sLen + n ≤ cap) := by omega
  have hf := run_firstCells_some (P := P) w.drew i.size sLen a sLen cap xs hl hold
  simp [Builtin.append_, run_underlying ht, run_underlying htn, sizeOf, typeInfo, zeroValue, hi, hz, asInt, asIntOf, hw, hneg, hns, hro, h63'', h48', h48i, Question.forced, hf, newRow, grownCap]
theorem run_copyC (w : World) (dT sT ty : TypeId) (g o dLen dCap : Nat) (a : Addr) (sLen sCap : Nat) (cur : Array Value) (t : TypeId) (cs : List Value) (k : Nat) (hk : k = Nat.min sLen dLen)
    (hu : Tryd.prog.underlying dT = some (.slice 45)) (hg : w.heap[g]? = some (.cells cur t (0, 0))) (hn : cs.length = k * 66)
    (hsrc : ∀ j v, cs[j]? = some v → w.cell? (a.add j) = some v) (hfit : o + cs.length ≤ cur.size) (h1 : ∀ v ∈ cs, v.oneCell' = true) :
    (Builtin.copy_ #[dT, sT] ty #[.slice (some ⟨g, o, none⟩) dLen dCap, .slice (some a) sLen sCap]).run Tryd.prog w = .ok (goInt k) (w.setRow g (ovw cur o cs)) := by
  have hl := run_loadCells_list (P := Tryd.prog) w a cs hsrc
  have hst := run_storeCells_at Tryd.prog g o t cs 0 cur w hg (by simpa using hfit) h1
  have ho : (cur.toList.take o ++ cs ++ cur.toList.drop (o + cs.length)).toArray = ovw cur o cs := by
    apply Array.ext'
    rw [tovw_list cur o cs hfit, List.append_assoc]
  simp only [Nat.add_zero, ho] at hst
  obtain ⟨i, hq, _, hi, _⟩ := infoCtz
  simp [Builtin.copy_, run_underlying hu, Builtin.lenOf, Builtin.firstCells, sizeOf, typeInfo, hq, hi, ← hk, ← hn, hl, hst]
theorem elemC : Tryd.prog.underlying 49 = some (.slice (Tryd.prog.elem 49)) := by kernel_rfl
theorem sizeC (W : World) : (sizeOf (Tryd.prog.elem 49)).run Tryd.prog W = .ok 66 W := by kernel_rfl
theorem slC_tail (ao : Option Addr) (len cap k : Nat) (h : k ≤ len) (W : World) : (Instr.sliceAt 49 (.slice ao len cap) (some (.int .i64 (k : Int))) none none).run Tryd.prog W = .ok (.slice (if cap = k then ao else ao.map (·.add (k * 66))) (len - k) (cap - k)) W := by
  rw [run_sliceAt_slice _ _ _ _ _ _ elemC, run_slice_l W 49 ao len cap elemC .i64 _ (by omega) (by omega), sizeC]
  show Result.ok (sliced _ _ _ _ 66) W = _
  rw [Int.toNat_natCast, sliced]
theorem slC_head (ao : Option Addr) (len cap k : Nat) (h : k ≤ cap) (hz : ao = none → cap = 0) (W : World) : (Instr.sliceAt 49 (.slice ao len cap) none (some (.int .i64 (k : Int))) none).run Tryd.prog W = .ok (.slice ao k cap) W := by
  rw [run_sliceAt_slice _ _ _ _ _ _ elemC, run_slice_h W 49 ao len cap elemC .i64 _ (by omega) (by omega), sizeC]
  show Result.ok (sliced _ _ _ _ 66) W = _
  rw [Int.toNat_natCast, sliced]
  cases ao with
  | none => simp
  | some a => obtain ⟨b, o, s⟩ := a; cases s <;> simp [Addr.add]
end Go.Proofs.YtlbcdjflcghkeaaDoor
