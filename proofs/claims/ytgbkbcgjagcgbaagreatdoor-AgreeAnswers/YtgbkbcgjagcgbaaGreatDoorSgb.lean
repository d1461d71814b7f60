import Derived.Test.YtgbkbcgjagcgbaaGreatDoorRows
import Derived.Test.YtgbkbcgjagcgbaaGreatDoorOpen
import Derived.Test.YtgbkbcgjagcgbaaGreatDoorAa6
import Derived.WalkKit
import Derived.ProofKit
import Derived.LaidMore
import Derived.OpenShut
import Derived.Stop.Joined
namespace Go.Proofs.YtgbkbcgjagcgbaaGreatDoor
set_option maxRecDepth 100000
open Go.ChangeShapes Go.WideShapes Go.ChangeAt Go.WideMaps Go.WideElems Go.RowKit
theorem gCon : Tryz.prog.globalNamed "pawl/hash.constants" = some 3 := by kernel_rfl
theorem tCon : (Tryz.prog.globals[3]?).map (·.type) = some 160 := by kernel_rfl
theorem gSta : Tryz.prog.globalNamed "pawl/hash.start" = some 2 := by kernel_rfl
theorem tSta : (Tryz.prog.globals[2]?).map (·.type) = some 139 := by kernel_rfl
theorem cU32 : Tryz.prog.cellsOf 114 = 1 := by kernel_rfl
theorem c57 : Tryz.prog.cellsOf 160 = 64 := by kernel_rfl
theorem c23 : Tryz.prog.cellsOf 139 = 8 := by kernel_rfl
theorem rowN_of {P : Program} {t e : TypeId} {n : Nat} {k : IntKind} (ht : P.underlying t = some (.array n e)) (he : P.underlying e = some (.int k)) (hce : P.cellsOf e = 1) (hct : P.cellsOf t = n) {W : World} {m : Nat} {cs : Array Value} {p : List MemPlace} {ks : List Int}
   (h : DataW.trod (fun _ => ()) P W 0 (fun _ => true) false m t cs.toList = some (.agg (ks.map fun x => .lit (.int k x)), p)) : cs = irow k ks := by
 obtain ⟨xs, m1, _, hx, hlen, hn, hel⟩ := DataW.trod_array ht h
 rw [hct] at hlen
 simp only [Prod.mk.injEq, DataW.agg.injEq] at hx
 have hk : ks.length = n := by
   have := congrArg List.length hx.1
   simp only [List.length_map] at this
   omega
 apply Array.ext'
 unfold irow
 apply List.ext_getElem
 · simp only [List.length_map]; omega
 · intro i h1 h2
   have hin : i < n := by omega
   have hx' : xs[i]? = some xs[i] := List.getElem?_eq_getElem (by omega)
   have e1 := hel i hin
   rw [hce, hx'] at e1
   obtain ⟨a, q0, q1, _⟩ := DataW.trod_int he e1
   simp only [Nat.mul_one] at q0
   rw [List.drop_eq_getElem_cons h1] at q0
   have q0' : cs.toList[i] = .int k a := by simpa using q0
   rw [q0']
   have hi := congrArg (fun l => l[i]?) hx.1
   simp only [List.getElem?_map, List.getElem?_eq_getElem (show i < ks.length by omega), hx', Option.map_some, Option.some.injEq] at hi
   rw [q1] at hi
   simp only [DataW.lit.injEq, Lit.int.injEq, true_and] at hi
   simp [hi]
theorem row_of_var {W : World} {s : String} {g : Nat} (hg : Tryz.prog.globalNamed s = some g) {cs : Array Value} (hv : World.var? Tryz.prog W s = some cs) : ∃ t fr, W.heap[g]? = some (.cells cs t fr) := by
 unfold World.var? at hv
 rw [hg] at hv
 simp only [Option.bind_some] at hv
 split at hv
 · rename_i cs' t fr hh
   obtain rfl := Option.some.inj hv
   exact ⟨t, fr, hh⟩
 · cases hv
end Go.Proofs.YtgbkbcgjagcgbaaGreatDoor
namespace Go.Proofs.YtgbkbcgjagcgbaaGreatDoor
set_option maxRecDepth 100000
/-! What the bound on the values gives. -/
end Go.Proofs.YtgbkbcgjagcgbaaGreatDoor
