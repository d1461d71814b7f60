import Derived.Test.YtlbcdjflcghkeaaDoorRows
import Derived.Test.YtlbcdjflcghkeaaDoorOpen
import Derived.Test.YtlbcdjflcghkeaaDoorAa6
import Derived.WalkKit
import Derived.ProofKit
import Derived.LaidMore
import Derived.OpenShut
import Derived.Stop.Joined
namespace Go.Proofs.YtlbcdjflcghkeaaDoor
set_option maxRecDepth 100000
open Go.ChangeShapes Go.WideShapes Go.ChangeAt Go.WideMaps Go.WideElems Go.RowKit

theorem gCon : Tryd.prog.globalNamed "pawl/hash.constants" = some 2 := by kernel_rfl
theorem tCon : (Tryd.prog.globals[2]?).map (·.type) = some 126 := by kernel_rfl
theorem gSta : Tryd.prog.globalNamed "pawl/hash.start" = some 1 := by kernel_rfl
theorem tSta : (Tryd.prog.globals[1]?).map (·.type) = some 112 := by kernel_rfl
theorem cU32 : Tryd.prog.cellsOf 111 = 1 := by kernel_rfl
theorem c57 : Tryd.prog.cellsOf 126 = 64 := by kernel_rfl
theorem c23 : Tryd.prog.cellsOf 112 = 8 := by kernel_rfl

/-- An array of integers that reads as a list of numbers. -/
theorem rowN_of {P : Program} {t e : TypeId} {n : Nat} {k : IntKind} (ht : P.underlying t = some (.array n e)) (he : P.underlying e = some (.int k)) (hce : P.cellsOf e = 1) (hct : P.cellsOf t = n) {W : World} {m : Nat} {cs : Array Value} {p : List MemPlace} {ks : List Int}
    (h : DataW.trod (fun _ => ()) P W 0 (fun _ => true) false m t cs.toList = some (.agg (ks.map fun x => .lit (.int k x)), p)) : cs = irow k ks := by
  obtain ⟨xs, m1, _, hx, hlen, hn, hel⟩ := DataW.trod_array ht h
  rw [hct] at hlen
  simp only [Prod.mk.injEq, DataW.agg.injEq] at hx
  have hk : ks.length = n := by
    have := congrArg List.length hx.1
    simp only [List.length_map] at this
    omega
  apply Array.ext'
  unfold irow
  apply List.ext_getElem
  · simp only [List.length_map]; omega
  · intro i h1 h2
    have hin : i < n := by omega
    have hx' : xs[i]? = some xs[i] := List.getElem?_eq_getElem (by omega)
    have e1 := hel i hin
    rw [hce, hx'] at e1
    obtain ⟨a, q0, q1, _⟩ := DataW.trod_int he e1
    simp only [Nat.mul_one] at q0
    rw [List.drop_eq_getElem_cons h1] at q0
    have q0' : cs.toList[i] = .int k a := by simpa using q0
    rw [q0']
    have hi := congrArg (fun l => l[i]?) hx.1
    simp only [List.getElem?_map, List.getElem?_eq_getElem (show i < ks.length by omega), hx', Option.map_some, Option.some.injEq] at hi
    rw [q1] at hi
    simp only [DataW.lit.injEq, Lit.int.injEq, true_and] at hi
    simp [hi]
theorem row_of_var {W : World} {s : String} {g : Nat} (hg : Tryd.prog.globalNamed s = some g) {cs : Array Value} (hv : World.var? Tryd.prog W s = some cs) : ∃ t fr, W.heap[g]? = some (.cells cs t fr) := by
  unfold World.var? at hv
  rw [hg] at hv
  simp only [Option.bind_some] at hv
  split at hv
  · rename_i cs' t fr hh
    obtain rfl := Option.some.inj hv
    exact ⟨t, fr, hh⟩
  · cases hv
theorem kon_of_laid {W : World} (h : laidMetH Tryd.prog [("pawl/hash.constants", Rows.laid_pawl_hash_constants)] W) : Kon W := by
  rw [MakeChecks.laidMetH_plain _ _ _ (by kernel_rfl)] at h
  obtain ⟨ps, ⟨g0, t0, cs0, f0, p0, q0, hg0, ht0, hv0, hd0, _⟩, _, _⟩ := h
  obtain rfl := Option.some.inj (gCon.symm.trans hg0)
  obtain rfl := Option.some.inj (tCon.symm.trans ht0)
  obtain rfl := rowN_of (ks := kl) Tryd.underlying126 Tryd.underlying111 cU32 c57 hd0
  exact row_of_var gCon hv0
theorem sta_of_laid {W : World} (h : laidMetH Tryd.prog [("pawl/hash.start", Rows.laid_pawl_hash_start), ("pawl/hash.constants", Rows.laid_pawl_hash_constants)] W) : Sta W ∧ Kon W := by
  rw [MakeChecks.laidMetH_plain _ _ _ (by kernel_rfl)] at h
  obtain ⟨ps, ⟨g0, t0, cs0, f0, p0, q0, hg0, ht0, hv0, hd0, ⟨g1, t1, cs1, f1, p1, q1, hg1, ht1, hv1, hd1, _⟩, _⟩, _, _⟩ := h
  obtain rfl := Option.some.inj (gSta.symm.trans hg0)
  obtain rfl := Option.some.inj (tSta.symm.trans ht0)
  obtain rfl := rowN_of (ks := sl) Tryd.underlying112 Tryd.underlying111 cU32 c23 hd0
  obtain rfl := Option.some.inj (gCon.symm.trans hg1)
  obtain rfl := Option.some.inj (tCon.symm.trans ht1)
  obtain rfl := rowN_of (ks := kl) Tryd.underlying126 Tryd.underlying111 cU32 c57 hd1
  exact ⟨row_of_var gSta hv0, row_of_var gCon hv1⟩
end Go.Proofs.YtlbcdjflcghkeaaDoor

namespace Go.Proofs.YtlbcdjflcghkeaaDoor
set_option maxRecDepth 100000

/-! What the bound on the values gives. -/
theorem bulk_pos {H : Type} (d : DataW H) : 1 ≤ Rows.uptoBulk d := by
  cases d with
  | lit l => cases l <;> simp [Rows.uptoBulk]
  | nil => simp [Rows.uptoBulk]
  | ptr d => simp [Rows.uptoBulk]
  | slice elems spare => simp [Rows.uptoBulk]
  | agg parts => simp [Rows.uptoBulk]
  | iface t d => simp [Rows.uptoBulk]
  | map entries => simp [Rows.uptoBulk]
  | held h => simp [Rows.uptoBulk]
theorem bulk_len {H : Type} : ∀ l : List (DataW H), l.length ≤ Rows.uptoBulkAll l
  | [] => by simp [Rows.uptoBulkAll]
  | x :: r => by have h1 := bulk_pos x; have h2 := bulk_len r; simp only [Rows.uptoBulkAll, List.length_cons]; omega
theorem bulk_slice {H : Type} (es sp : List (DataW H)) : es.length + 1 ≤ Rows.uptoBulk (.slice es sp) := by
  have h1 := bulk_len es
  simp only [Rows.uptoBulk]
  omega
theorem bulk_elems {H : Type} (es sp : List (DataW H)) : Rows.uptoBulkAll es + 1 ≤ Rows.uptoBulk (.slice es sp) := by
  simp only [Rows.uptoBulk]
  omega
theorem bulk_cons {H : Type} (d : DataW H) (l : List (DataW H)) : Rows.uptoBulkAll (d :: l) = Rows.uptoBulk d + Rows.uptoBulkAll l := by
  simp only [Rows.uptoBulkAll]
theorem bulk_bound {H : Type} {l : List (DataW H)} (hk : Rows.uptoSmall H l = true) : Rows.uptoBulkAll l ≤ 1048576 := of_decide_eq_true hk
end Go.Proofs.YtlbcdjflcghkeaaDoor
