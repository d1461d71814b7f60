import Derived.Test.YtlbndkfllegacaaGreatDoorJrs
import Derived.OwnWalk
import Derived.Deep.Cut
import Derived.Deep.RegionHeld3
namespace Go.Proofs.YtlbndkfllegacaaGreatDoor
set_option maxRecDepth 100000
open Go Go.RowKit Go.Sort
attribute [local go_sem] setCell_drewN alloc_drewN
set_option maxRecDepth 100000 in
set_option maxHeartbeats 8000000 in
theorem r_DecodeF {g : Nat} {ts : List Slt} (hfl : ∀ i, i < ts.length → Fla (gs ts i)) (d : List B) (bv : Value) (w : World) (hC : Rdc w g ts) (hB : BysB w bv d) (hcap : ∀ a l c, bv = .slice a l c → l ≤ c) :
    Calls Tryz.prog 32 #[.pointer (some ⟨g, 0, none⟩), bv] w fun e w' => DcE w.heap.size ts d 0 e w' ∧ Below w.heap.size w w' := by
  obtain ⟨u, hg, hS⟩ := hC
  obtain ⟨so, sc, rfl⟩ := hS.form
  generalize hsn : ts.length = sn at *
  replace hsn := hide hsn
  have R6 := hp2_0 w (.cells #[.int .u64 0, .slice none 0 0, .slice none 0 0] 76) (.cells #[.int .i64 0, .int .i64 0, .int .i64 0] 35)
  have R7 := hp2_1 w (.cells #[.int .u64 0, .slice none 0 0, .slice none 0 0] 76) (.cells #[.int .i64 0, .int .i64 0, .int .i64 0] 35)
  have hw : Below w.heap.size w ((w.alloc (.cells #[.int .u64 0, .slice none 0 0, .slice none 0 0] 76)).alloc (.cells #[.int .i64 0, .int .i64 0, .int .i64 0] 35)) := ((Below.refl _ _).alloc (Nat.le_refl _) _).alloc (by simp) _
  have lg := lt_of_row hg
  have l70 := lt_of_row R7
  have cg := hide (cell_of_row _ _ 0 _ _ _ (keep hw hg))
  have cD := hide (r_decodeF (by rw [hsn.out]; exact hfl) d bv 0 ⟨by decide, by decide⟩ ((w.alloc (.cells #[.int .u64 0, .slice none 0 0, .slice none 0 0] 76)).alloc (.cells #[.int .i64 0, .int .i64 0, .int .i64 0] 35)) (hS.keep hw) (hB.keep hw) hcap)
  obtain ⟨ba, bc, rfl⟩ := hB.form
  generalize hdl : d.length = dl at *
  replace hdl := hide hdl
  clear hS hB hcap hg
  go_enter Tryz.func32, Tryz.ntmps32
  go_upto_region 1 with (fail)
  generalize ((w.alloc (.cells #[.int .u64 0, .slice none 0 0, .slice none 0 0] 76)).alloc (.cells #[.int .i64 0, .int .i64 0, .int .i64 0] 35)) = w0 at *
  have cg0 := cg.out
  go_wp2_with (fail)
  refine cD.out.mono ?_
  rintro e_ w1 ⟨hD, hb⟩
  replace R6 := keep hb R6
  replace R7 := keep hb R7
  have szb := hb.size
  replace hw := Below.after hw hb
  clear hb cD cg cg0
  obtain ⟨R, hR⟩ : ∃ R, dec8 ts d 0 = R := ⟨_, rfl⟩
  unfold DcE at hD
  rw [hR] at hD
  cases R with
  | some x =>
    simp only at hD
    subst hD
    unfold frw at *
    replace hR := hide hR
    have oneA : (#[Value.int .u64 0, .slice none 0 0, .slice none 0 0] : Array Value).all (·.oneCell') = true := by simp [Value.oneCell']
    have oneB : (#[Value.int .i64 x.line, .int .i64 x.at_, .int .i64 x.why] : Array Value).all (·.oneCell') = true := by simp [Value.oneCell']
    have R7b := (setRow_other w1 (w.heap.size) (w.heap.size + 1) #[.int .u64 0, .slice none 0 0, .slice none 0 0] (by omega)).trans R7
    go_wp2_with (first | (refine wpList_store_row rfl 76 _ _ rfl (w.heap.size) #[.int .u64 0, .slice none 0 0, .slice none 0 0] rfl rfl 76 _ R6 infoV rfl oneA ?_) | (refine wpList_store_row rfl 35 _ _ rfl (w.heap.size + 1) #[.int .i64 x.line, .int .i64 x.at_, .int .i64 x.why] rfl rfl 35 _ R7b infoFt rfl oneB ?_) | fail)
    clear R7b
    replace R7 := (setRow_other w1 (w.heap.size) (w.heap.size + 1) #[.int .u64 0, .slice none 0 0, .slice none 0 0] (by omega)).trans R7
    replace R6 := setRow_heap w1 (w.heap.size) _ (#[.int .u64 0, .slice none 0 0, .slice none 0 0]) _ _ R6
    replace hw := below_setRow hw (show w.heap.size ≤ w.heap.size by omega) #[.int .u64 0, .slice none 0 0, .slice none 0 0]
    generalize hx3 : w1.setRow (w.heap.size) #[.int .u64 0, .slice none 0 0, .slice none 0 0] = x3 at *
    replace hx3 := hide hx3
    replace R6 := (setRow_other x3 (w.heap.size + 1) (w.heap.size) #[.int .i64 x.line, .int .i64 x.at_, .int .i64 x.why] (by omega)).trans R6
    replace R7 := setRow_heap x3 (w.heap.size + 1) _ (#[.int .i64 x.line, .int .i64 x.at_, .int .i64 x.why]) _ _ R7
    replace hw := below_setRow hw (show w.heap.size ≤ w.heap.size + 1 by omega) #[.int .i64 x.line, .int .i64 x.at_, .int .i64 x.why]
    exact bodyPost_ret (v := .tuple #[.agg #[.int .u64 0, .slice none 0 0, .slice none 0 0], .agg #[.int .i64 x.line, .int .i64 x.at_, .int .i64 x.why]]) (results_cell_cell Tryz.results32 _ _ (w.heap.size) (w.heap.size + 1) _ _ _ _ _ _ _ _ rfl R6 Tryz.underlying76 rfl infoV rfl R7 Tryz.underlying35 rfl infoFt) rfl ⟨by unfold DcE; rw [hR.out]; rfl, hw⟩
  | none =>
    obtain ⟨pv, fv, us, rfl, hO, hF⟩ := hD
    obtain ⟨po, pc, rfl⟩ := own_slice hO
    replace hR := hide hR
    have hmv : ∀ q o, w.heap.size + 1 < q → w1.heap[q]? = some o → ((w1.setRow (w.heap.size) #[.int .u64 0, .slice none 0 0, .slice po (dfs (dwh d)).length pc]).setRow (w.heap.size + 1) #[.int .i64 0, .int .i64 0, .int .i64 0]).heap[q]? = some o := fun q o hq ho => (setRow_other _ (w.heap.size + 1) q #[.int .i64 0, .int .i64 0, .int .i64 0] (by omega)).trans ((setRow_other w1 (w.heap.size) q #[.int .u64 0, .slice none 0 0, .slice po (dfs (dwh d)).length pc] (by omega)).trans ho)
    have hOF := own_down_row (own_move_row hO (fun q o hq ho => hmv q o (by omega) ho)) (show w.heap.size ≤ w0.heap.size by omega)
    have hFF := Fts.down (Fts.move hF (fun q o hq ho => hmv q o (by omega) ho)) (show w.heap.size ≤ w0.heap.size by omega)
    have hfin : Hid (DcE w.heap.size ts d 0 (.returned (.tuple #[.agg #[.int .u64 0, .slice none 0 0, .slice po (dfs (dwh d)).length pc], .agg #[.int .i64 0, .int .i64 0, .int .i64 0]])) ((w1.setRow (w.heap.size) #[.int .u64 0, .slice none 0 0, .slice po (dfs (dwh d)).length pc]).setRow (w.heap.size + 1) #[.int .i64 0, .int .i64 0, .int .i64 0])) := hide (by unfold DcE; rw [hR.out]; exact ⟨_, _, us, rfl, hOF, hFF⟩)
    clear hO hF hmv hOF hFF
    generalize (dfs (dwh d)).length = pn at *
    have oneA : (#[Value.int .u64 0, .slice none 0 0, .slice po pn pc] : Array Value).all (·.oneCell') = true := by simp [Value.oneCell']
    have oneB : (#[Value.int .i64 0, .int .i64 0, .int .i64 0] : Array Value).all (·.oneCell') = true := by simp [Value.oneCell']
    have R7b := (setRow_other w1 (w.heap.size) (w.heap.size + 1) #[.int .u64 0, .slice none 0 0, .slice po pn pc] (by omega)).trans R7
    go_wp2_with (first | (refine wpList_store_row rfl 76 _ _ rfl (w.heap.size) #[.int .u64 0, .slice none 0 0, .slice po pn pc] rfl rfl 76 _ R6 infoV rfl oneA ?_) | (refine wpList_store_row rfl 35 _ _ rfl (w.heap.size + 1) #[.int .i64 0, .int .i64 0, .int .i64 0] rfl rfl 35 _ R7b infoFt rfl oneB ?_) | fail)
    clear R7b
    replace R7 := (setRow_other w1 (w.heap.size) (w.heap.size + 1) #[.int .u64 0, .slice none 0 0, .slice po pn pc] (by omega)).trans R7
    replace R6 := setRow_heap w1 (w.heap.size) _ (#[.int .u64 0, .slice none 0 0, .slice po pn pc]) _ _ R6
    replace hw := below_setRow hw (show w.heap.size ≤ w.heap.size by omega) #[.int .u64 0, .slice none 0 0, .slice po pn pc]
    generalize hx3 : w1.setRow (w.heap.size) #[.int .u64 0, .slice none 0 0, .slice po pn pc] = x3 at *
    replace hx3 := hide hx3
    replace R6 := (setRow_other x3 (w.heap.size + 1) (w.heap.size) #[.int .i64 0, .int .i64 0, .int .i64 0] (by omega)).trans R6
    replace R7 := setRow_heap x3 (w.heap.size + 1) _ (#[.int .i64 0, .int .i64 0, .int .i64 0]) _ _ R7
    replace hw := below_setRow hw (show w.heap.size ≤ w.heap.size + 1 by omega) #[.int .i64 0, .int .i64 0, .int .i64 0]
    exact bodyPost_ret (v := .tuple #[.agg #[.int .u64 0, .slice none 0 0, .slice po pn pc], .agg #[.int .i64 0, .int .i64 0, .int .i64 0]]) (results_cell_cell Tryz.results32 _ _ (w.heap.size) (w.heap.size + 1) _ _ _ _ _ _ _ _ rfl R6 Tryz.underlying76 rfl infoV rfl R7 Tryz.underlying35 rfl infoFt) rfl ⟨hfin.out, hw⟩
end Go.Proofs.YtlbndkfllegacaaGreatDoor
