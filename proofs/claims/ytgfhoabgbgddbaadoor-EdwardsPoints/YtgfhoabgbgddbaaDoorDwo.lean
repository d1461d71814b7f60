import Derived.Test.YtgfhoabgbgddbaaDoorOm
import Derived.Test.YtgfhoabgbgddbaaDoorDwg
namespace Go.Proofs.YtgfhoabgbgddbaaDoor
set_option maxRecDepth 100000
open Go.ChangeShapes Go.WideShapes Go.ChangeAt Go.WideMaps Go.WideElems Go.RowKit

theorem gBx : Tryd.prog.globalNamed "pawl/edwards.baseX" = some 0 := by kernel_rfl
theorem tBx : (Tryd.prog.globals[0]?).map (·.type) = some 23 := by kernel_rfl
theorem gBy : Tryd.prog.globalNamed "pawl/edwards.baseY" = some 1 := by kernel_rfl
theorem tBy : (Tryd.prog.globals[1]?).map (·.type) = some 23 := by kernel_rfl
theorem cU8 : Tryd.prog.cellsOf 5 = 1 := by kernel_rfl
theorem cKey : Tryd.prog.cellsOf 23 = 32 := by kernel_rfl
theorem rowN_of {P : Program} {t e : TypeId} {n : Nat} {k : IntKind} (ht : P.underlying t = some (.array n e)) (he : P.underlying e = some (.int k)) (hce : P.cellsOf e = 1) (hct : P.cellsOf t = n) {W : World} {m : Nat} {cs : Array Value} {p : List MemPlace} {ks : List Int}
    (h : DataW.trod (fun _ => ()) P W 0 (fun _ => true) false m t cs.toList = some (.agg (ks.map fun x => .lit (.int k x)), p)) : cs = (ks.map (Value.int k)).toArray := by
  obtain ⟨xs, m1, _, hx, hlen, hn, hel⟩ := DataW.trod_array ht h
  rw [hct] at hlen
  simp only [Prod.mk.injEq, DataW.agg.injEq] at hx
  have hk : ks.length = n := by
    have := congrArg List.length hx.1
    simp only [List.length_map] at this
    omega
  apply Array.ext'
  apply List.ext_getElem
  · simp only [List.length_map]; omega
  · intro i h1 h2
    have hin : i < n := by omega
    have hx' : xs[i]? = some xs[i] := List.getElem?_eq_getElem (by omega)
    have e1 := hel i hin
    rw [hce, hx'] at e1
    obtain ⟨a, q0, q1, _⟩ := DataW.trod_int he e1
    simp only [Nat.mul_one] at q0
    rw [List.drop_eq_getElem_cons h1] at q0
    have q0' : cs.toList[i] = .int k a := by simpa using q0
    rw [q0']
    have hi := congrArg (fun l => l[i]?) hx.1
    simp only [List.getElem?_map, List.getElem?_eq_getElem (show i < ks.length by omega), hx', Option.map_some, Option.some.injEq] at hi
    rw [q1] at hi
    simp only [DataW.lit.injEq, Lit.int.injEq, true_and] at hi
    simp [hi]
theorem row_of_var {W : World} {s : String} {g : Nat} (hg : Tryd.prog.globalNamed s = some g) {cs : Array Value} (hv : World.var? Tryd.prog W s = some cs) : ∃ t fr, W.heap[g]? = some (.cells cs t fr) := by
  unfold World.var? at hv
  rw [hg] at hv
  simp only [Option.bind_some] at hv
  split at hv
  · rename_i cs' t fr hh
    obtain rfl := Option.some.inj hv
    exact ⟨t, fr, hh⟩
  · cases hv

theorem edw_of_laid {W : World} (h : laidMetH Tryd.prog [("pawl/field.fourfold", Rows.laid_pawl_field_fourfold), ("pawl/field.unit", Rows.laid_pawl_field_unit), ("pawl/edwards.baseX", Rows.laid_pawl_edwards_baseX), ("pawl/edwards.baseY", Rows.laid_pawl_edwards_baseY)] W) : Edw W := by
  rw [MakeChecks.laidMetH_plain _ _ _ (by kernel_rfl)] at h
  obtain ⟨ps, ⟨g0, t0, cs0, f0, p0, q0, hg0, ht0, hv0, hd0, ⟨g1, t1, cs1, f1, p1, q1, hg1, ht1, hv1, hd1, ⟨g2, t2, cs2, f2, p2, q2, hg2, ht2, hv2, hd2, ⟨g3, t3, cs3, f3, p3, q3, hg3, ht3, hv3, hd3, _⟩, _⟩, _⟩, _⟩, _, _⟩ := h
  obtain rfl := Option.some.inj (gFour.symm.trans hg0)
  obtain rfl := Option.some.inj (tFour.symm.trans ht0)
  obtain rfl := row5_of Tryd.underlying25 Tryd.underlying24 c1 c5 hd0
  obtain rfl := Option.some.inj (gUnit.symm.trans hg1)
  obtain rfl := Option.some.inj (tUnit.symm.trans ht1)
  obtain ⟨y0, n, hx, hl, hy⟩ := trod_struct1 Tryd.underlying27 hd1
  have hx' : y0 = (.agg [.lit (.int .u64 1718705420411056), .lit (.int .u64 234908883556509), .lit (.int .u64 2233514472574048), .lit (.int .u64 2117202627021982), .lit (.int .u64 765476049583133)], y0.2) := by
    simp only [Rows.laid_pawl_field_unit, Prod.mk.injEq, DataW.agg.injEq, List.cons.injEq, and_true] at hx
    exact Prod.ext hx.1.symm rfl
  rw [hx'] at hy
  rw [cNum] at hl
  have e5 : (cs1.toList.drop 0).take 5 = cs1.toList := by rw [List.drop_zero, ← hl]; exact List.take_length
  have hy2 : DataW.trod (fun _ => ()) Tryd.prog W 0 (fun _ => true) false n 25 cs1.toList = some (.agg [.lit (.int .u64 1718705420411056), .lit (.int .u64 234908883556509), .lit (.int .u64 2233514472574048), .lit (.int .u64 2117202627021982), .lit (.int .u64 765476049583133)], y0.2) := by
    have hy' := hy
    rw [show Tryd.prog.cellsOf _ = 5 from c5, e5] at hy'
    exact hy'
  obtain rfl := row5_of Tryd.underlying25 Tryd.underlying24 c1 c5 hy2
  obtain rfl := Option.some.inj (gBx.symm.trans hg2)
  obtain rfl := Option.some.inj (tBx.symm.trans ht2)
  obtain rfl := rowN_of (ks := [26, 213, 37, 143, 96, 45, 86, 201, 178, 167, 37, 149, 96, 199, 44, 105, 92, 220, 214, 253, 49, 226, 164, 192, 254, 83, 110, 205, 211, 54, 105, 33]) Tryd.underlying23 Tryd.underlying5 cU8 cKey hd2
  obtain rfl := Option.some.inj (gBy.symm.trans hg3)
  obtain rfl := Option.some.inj (tBy.symm.trans ht3)
  obtain rfl := rowN_of (ks := [88, 102, 102, 102, 102, 102, 102, 102, 102, 102, 102, 102, 102, 102, 102, 102, 102, 102, 102, 102, 102, 102, 102, 102, 102, 102, 102, 102, 102, 102, 102, 102]) Tryd.underlying23 Tryd.underlying5 cU8 cKey hd3
  have e1 : kb (tx bp) = ([26, 213, 37, 143, 96, 45, 86, 201, 178, 167, 37, 149, 96, 199, 44, 105, 92, 220, 214, 253, 49, 226, 164, 192, 254, 83, 110, 205, 211, 54, 105, 33].map (Value.int .u8)).toArray := by rw [bp_tx]; rfl
  have e2 : kb bp.y = ([88, 102, 102, 102, 102, 102, 102, 102, 102, 102, 102, 102, 102, 102, 102, 102, 102, 102, 102, 102, 102, 102, 102, 102, 102, 102, 102, 102, 102, 102, 102, 102].map (Value.int .u8)).toArray := rfl
  have hU : ∃ t fr, W.heap[4]? = some (.cells ucells t fr) := row_of_var gUnit hv1
  refine ⟨⟨four_of_cells hv0, hU⟩, ?_, ?_⟩
  · rw [e1]; exact row_of_var gBx hv2
  · rw [e2]; exact row_of_var gBy hv3

end Go.Proofs.YtgfhoabgbgddbaaDoor
