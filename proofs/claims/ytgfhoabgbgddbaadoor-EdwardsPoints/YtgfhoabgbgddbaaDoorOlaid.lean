import Derived.Test.YtgfhoabgbgddbaaDoorRows
import Derived.Test.YtgfhoabgbgddbaaDoorOpen
import Derived.Test.YtgfhoabgbgddbaaDoorGa
import Derived.WalkKit
import Derived.ProofKit
import Derived.LaidMore
import Derived.OpenShut
import Derived.Stop.Joined
namespace Go.Proofs.YtgfhoabgbgddbaaDoor
set_option maxRecDepth 100000
open Go.ChangeShapes Go.WideShapes Go.ChangeAt Go.WideMaps Go.WideElems Go.RowKit

theorem gFour : Tryd.prog.globalNamed "pawl/field.fourfold" = some 3 := by kernel_rfl
theorem tFour : (Tryd.prog.globals[3]?).map (·.type) = some 25 := by kernel_rfl
theorem c1 : Tryd.prog.cellsOf 24 = 1 := by kernel_rfl
theorem c5 : Tryd.prog.cellsOf 25 = 5 := by kernel_rfl

theorem row5_of {P : Program} {t e : TypeId} (ht : P.underlying t = some (.array 5 e)) (he : P.underlying e = some (.int .u64)) (c1 : P.cellsOf e = 1) (c5 : P.cellsOf t = 5) {W : World} {m : Nat} {cs : Array Value} {p : List MemPlace} {k0 k1 k2 k3 k4 : Int}
    (h : DataW.trod (fun _ => ()) P W 0 (fun _ => true) false m t cs.toList = some (.agg [.lit (.int .u64 k0), .lit (.int .u64 k1), .lit (.int .u64 k2), .lit (.int .u64 k3), .lit (.int .u64 k4)], p)) :
    cs = #[.int .u64 k0, .int .u64 k1, .int .u64 k2, .int .u64 k3, .int .u64 k4] := by
  obtain ⟨xs, m1, rfl, hx1, hlen, hn3, hel⟩ := DataW.trod_array ht h
  rw [c5] at hlen
  have e0 := hel 0 (by decide); have e1 := hel 1 (by decide); have e2 := hel 2 (by decide); have e3 := hel 3 (by decide); have e4 := hel 4 (by decide)
  rw [c1] at e0 e1 e2 e3 e4
  obtain ⟨l⟩ := cs
  simp only [Prod.mk.injEq, DataW.agg.injEq] at hx1
  match xs, hn3, hx1, l, hlen, e0, e1, e2, e3, e4 with
  | [x0, x1, x2, x3, x4], _, hx1, [d0, d1, d2, d3, d4], _, e0, e1, e2, e3, e4 =>
    simp only [List.map_cons, List.map_nil, List.cons.injEq] at hx1
    obtain ⟨⟨h0, h1, h2, h3, h4, _⟩, _⟩ := hx1
    have key : ∀ (d : Value) (x : DataW Unit × List MemPlace) (k : Int), DataW.trod (fun _ => ()) P W 0 (fun _ => true) false m1 e [d] = some x → .lit (.int .u64 k) = x.1 → d = .int .u64 k := by
      intro d x k ee hx
      obtain ⟨a, q1, q2, _⟩ := DataW.trod_int he ee
      rw [q2] at hx
      simp at hx q1
      rw [q1, hx]
    rw [key d0 x0 k0 e0 h0, key d1 x1 k1 e1 h1, key d2 x2 k2 e2 h2, key d3 x3 k3 e3 h3, key d4 x4 k4 e4 h4]

theorem four_of_cells {W : World} (hv : World.var? Tryd.prog W "pawl/field.fourfold" = some #[.int .u64 9007199254740916, .int .u64 9007199254740988, .int .u64 9007199254740988, .int .u64 9007199254740988, .int .u64 9007199254740988]) : Four W := by
  have q := fun i => World.var?_cell gFour hv i
  have h0 : 3 < W.heap.size := by
    have := q 0
    rcases Nat.lt_or_ge 3 W.heap.size with h | h
    · exact h
    · have h' : W.heap[3]? = none := Array.getElem?_eq_none h
      simp [World.cell?, h'] at this
  exact ⟨h0, by simpa using q 0, by simpa using q 1, by simpa using q 2, by simpa using q 3, by simpa using q 4⟩

/-- What the condition gives: the cells of the package's variable. -/
theorem four_of_laid {W : World} (h : laidMetH Tryd.prog [("pawl/field.fourfold", Rows.laid_pawl_field_fourfold)] W) : Four W := by
  rw [MakeChecks.laidMetH_plain _ _ _ (by kernel_rfl)] at h
  obtain ⟨ps, ⟨g0, t0, cs0, f0, p0, q0, hg0, ht0, hv0, hd0, _⟩, _, _⟩ := h
  obtain rfl := Option.some.inj (gFour.symm.trans hg0)
  obtain rfl := Option.some.inj (tFour.symm.trans ht0)
  obtain rfl := row5_of Tryd.underlying25 Tryd.underlying24 c1 c5 hd0
  exact four_of_cells hv0

end Go.Proofs.YtgfhoabgbgddbaaDoor

