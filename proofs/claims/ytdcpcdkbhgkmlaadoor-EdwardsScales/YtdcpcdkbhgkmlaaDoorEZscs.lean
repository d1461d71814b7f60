import Derived.Test.YtdcpcdkbhgkmlaaDoorRows
import Derived.Test.YtdcpcdkbhgkmlaaDoorTie
import Derived.Test.YtdcpcdkbhgkmlaaDoorCards
import Derived.Test.YtdcpcdkbhgkmlaaDoorEOpen
import Derived.Test.YtdcpcdkbhgkmlaaDoorEDwc
import Derived.Test.YtdcpcdkbhgkmlaaDoorESrf
import Derived.WalkKit
import Derived.ProofKit
import Derived.OpenShut
import Derived.ShutString
import Derived.ChangeOld
import Derived.Below
import Derived.LaidMore
import Derived.Stop.Joined
import Derived.SevenTiedAt
import Derived.ChangeSlices
import Derived.SizedLaws
namespace Go.Proofs.YtdcpcdkbhgkmlaaDoor
set_option maxRecDepth 100000
open Go.ChangeShapes Go.WideShapes Go.ChangeAt Go.RowKit
theorem own : ownKnob Tryd.prog.godebug = none := by kernel_rfl
theorem laidOut : laidOutB Tryd.prog = true := by kernel_rfl
theorem cellsKey : Tryd.prog.cellsOf 23 = 32 := by kernel_rfl
theorem key_of_list (l : List Int) (hl : l.length = 32) (wl : ∀ x ∈ l, (Lit.int .u8 x).wf = true) : ∃ N, KeyOf (l.map (Value.int .u8)).toArray N := by
  obtain ⟨b0, b1, b2, b3, b4, b5, b6, b7, b8, b9, b10, b11, b12, b13, b14, b15, b16, b17, b18, b19, b20, b21, b22, b23, b24, b25, b26, b27, b28, b29, b30, b31, rfl⟩ := list32 l hl
  have bd : ∀ x ∈ [b0, b1, b2, b3, b4, b5, b6, b7, b8, b9, b10, b11, b12, b13, b14, b15, b16, b17, b18, b19, b20, b21, b22, b23, b24, b25, b26, b27, b28, b29, b30, b31], 0 ≤ x ∧ x < 256 := fun x hx => u8_of_wf (wl x hx)
  exact ⟨_, b0, b1, b2, b3, b4, b5, b6, b7, b8, b9, b10, b11, b12, b13, b14, b15, b16, b17, b18, b19, b20, b21, b22, b23, b24, b25, b26, b27, b28, b29, b30, b31, rfl, ⟨bd b0 (by simp), bd b1 (by simp), bd b2 (by simp), bd b3 (by simp), bd b4 (by simp), bd b5 (by simp), bd b6 (by simp), bd b7 (by simp), bd b8 (by simp), bd b9 (by simp), bd b10 (by simp), bd b11 (by simp), bd b12 (by simp), bd b13 (by simp), bd b14 (by simp), bd b15 (by simp), bd b16 (by simp), bd b17 (by simp), bd b18 (by simp), bd b19 (by simp), bd b20 (by simp), bd b21 (by simp), bd b22 (by simp), bd b23 (by simp), bd b24 (by simp), bd b25 (by simp), bd b26 (by simp), bd b27 (by simp), bd b28 (by simp), bd b29 (by simp), bd b30 (by simp), bd b31 (by simp)⟩, rfl⟩
theorem door_met (os : Os) (args : Array Value) : laidMetH Tryd.prog [("pawl/field.fourfold", Rows.laid_pawl_field_fourfold), ("pawl/field.unit", Rows.laid_pawl_field_unit), ("pawl/edwards.baseX", Rows.laid_pawl_edwards_baseX), ("pawl/edwards.baseY", Rows.laid_pawl_edwards_baseY)] ((World.doorLaid Tryd.prog 400 os).forCall (fun _ _ => 0) ⟨#[], args, []⟩).memory :=
  laidMetH_of_parts3 (fuel := 8) (laidMet_of_run' 8 (by kernel_rfl) (by kernel_rfl)) (by kernel_rfl) (by kernel_rfl)
theorem addr_add' (b off j : Nat) : (⟨b, off, none⟩ : Addr).add j = ⟨b, off + j, none⟩ := by
  unfold Addr.add
  split
  · rename_i h; rw [h]; rfl
  · rfl
theorem bytesU8 : Tryd.prog.bytesOf 5 = 1 := by kernel_rfl
theorem block_of_cell {w : World} {b o : Nat} {v : Value} (h : w.cell? ⟨b, o, none⟩ = some v) : b < w.heap.size := by
  rcases Nat.lt_or_ge b w.heap.size with q | q
  · exact q
  · simp [World.cell?, Array.getElem?_eq_none q] at h
set_option maxRecDepth 100000 in
theorem edwardsScales_lifted (os : Os) (started : os.Started) (H : Type) (enc : TypeId × Value → H) :
    ReturnsInHanded {} Tryd.checked os 3 .any (fun w args => (Rows.edwardsScalesSpec.pre enc Tryd.prog Tryd.f3 [] false w args ∧ laidMetH Tryd.prog [("pawl/field.fourfold", Rows.laid_pawl_field_fourfold), ("pawl/field.unit", Rows.laid_pawl_field_unit), ("pawl/edwards.baseX", Rows.laid_pawl_edwards_baseX), ("pawl/edwards.baseY", Rows.laid_pawl_edwards_baseY)] w) ∧ sizedMet enc Tryd.prog Tryd.f3 (OpenSpec.ofChange Rows.edwardsScalesSpec) false w args)
      (Rows.edwardsScalesSpec.post enc Tryd.prog Tryd.f3 false true false false) := by
  refine returnsInHanded_of_change_and (C := Tryd.checked) (X := fun w _ => laidMetH Tryd.prog [("pawl/field.fourfold", Rows.laid_pawl_field_fourfold), ("pawl/field.unit", Rows.laid_pawl_field_unit), ("pawl/edwards.baseX", Rows.laid_pawl_edwards_baseX), ("pawl/edwards.baseY", Rows.laid_pawl_edwards_baseY)] w) (fun _ _ _ hh h => h.of_heap hh) own started (by kernel_rfl) Tryd.func3
    (ChangeSpec.witness_shaped (enc := enc) (C := Tryd.checked) (os := os) (X := fun w _ => laidMetH Tryd.prog [("pawl/field.fourfold", Rows.laid_pawl_field_fourfold), ("pawl/field.unit", Rows.laid_pawl_field_unit), ("pawl/edwards.baseX", Rows.laid_pawl_edwards_baseX), ("pawl/edwards.baseY", Rows.laid_pawl_edwards_baseY)] w) false (World.doorLaid Tryd.prog 400 os) #[.agg q32, .slice none 0 0] 8 rfl (World.shaped_of_RefB (by kernel_rfl) (by kernel_rfl)) (by kernel_rfl) (by kernel_rfl) (by kernel_rfl) (door_met os _)) ?_
  intro W base args ds gs before hval0 hW _ hsz0 hL _
  have hval : ∀ (j : Nat) t v, Tryd.f3.params[j]? = some t → args[j]? = some v → Value.okWide Tryd.prog W .any base t v := hval0
  have hsz : (DataW.weightsEach Tryd.prog (Tryd.f3.params.toList ++ Rows.edwardsScalesSpec.plain.varTypes Tryd.prog) (ds ++ gs)).all (· ≤ reachBytes) = true := hsz0
  have hW' := hW
  obtain ⟨p, q, hA0, hV, rfl, hfz, hnd⟩ := hW
  have hA : DataW.TrodAll enc Tryd.prog W 0 (fun _ => true) true Tryd.f3.params.toList args.toList ds p := hA0
  rw [Tryd.params3] at hA hval hsz
  obtain ⟨v0, vs0, d0, ds0, p0, q0, hargs, rfl, rfl, h0, r0⟩ := trodAll_cons hA
  obtain ⟨v1, vs1, d1, ds1, p1, q1, rfl, rfl, rfl, h1, r1⟩ := trodAll_cons r0
  obtain ⟨rfl, rfl, rfl⟩ := trodAll_nil r1
  obtain rfl : args = #[v0, v1] := by cases args; simp_all
  obtain ⟨rfl, rfl⟩ := trodVars_none hV
  have k0 := h0
  have lt0 : ∀ x ∈ p0, x.block < W.heap.size := by obtain ⟨m, hm⟩ := k0; exact DataW.trod_lt m _ _ _ hm
  obtain ⟨l0, hl0, rfl, wl0⟩ := open_array Tryd.underlying23 Tryd.underlying5 Tryd.cellsU8 cellsKey (hval 0 23 v0 rfl rfl) h0
  obtain ⟨N0, K0⟩ := key_of_list l0 hl0 wl0
  have k1 := h1
  have lt1 : ∀ x ∈ p1, x.block < W.heap.size := by obtain ⟨m, hm⟩ := k1; exact DataW.trod_lt m _ _ _ hm
  have hS : ∃ bs : List Int, (∀ z ∈ bs, 0 ≤ z ∧ z < 256) ∧ bs.length + 140737488359424 ≤ 281474976710656 ∧ Bys W v1 bs ∧ ∀ a l c, v1 = .slice a l c → l ≤ c ∧ (a = none → c = 0) := by
    obtain ⟨a0, len, cap, rfl⟩ := okWide_slice Tryd.underlying24 (hval 1 24 v1 rfl rfl)
    obtain ⟨fuel, hf⟩ := h1
    rcases open_ints Tryd.underlying24 Tryd.underlying5 Tryd.cellsU8 hf with ⟨hcs, hx⟩ | ⟨a, len', cap', zs, hcs, _, hl, hm, hz, hx, hcell, hwz⟩
    · simp [Value.cells] at hcs
      obtain ⟨rfl, rfl, rfl⟩ := hcs
      exact ⟨[], by simp, by decide, ⟨none, 0, rfl, by decide, fun j hj => by simp at hj, by simp⟩, fun a l c h => by cases h; exact ⟨Nat.le_refl _, fun _ => rfl⟩⟩
    · simp [Value.cells] at hcs
      obtain ⟨rfl, rfl, rfl⟩ := hcs
      simp only [Prod.mk.injEq] at hx
      obtain ⟨rfl, rfl⟩ := hx
      simp only [if_true] at hz
      have hb := sized_slice hsz (j := 1) (t := 24) (e := 5) rfl rfl Tryd.underlying24
      rw [bytesU8] at hb
      simp only [lits, List.length_map, List.length_take, List.length_drop, reachBytes] at hb
      have hlen : (zs.take len).length = len := by rw [List.length_take]; omega
      refine ⟨zs.take len, fun z h => u8_of_wf (hwz z (List.mem_of_mem_take h)), by rw [hlen]; omega, ⟨some a, cap, by rw [hlen], by rw [hlen]; omega, fun j hj => ?_, fun z h => u8_of_wf (hwz z (List.mem_of_mem_take h))⟩, fun a l c h => by cases h; exact ⟨hl, fun e => by cases e⟩⟩
      rw [hlen] at hj
      have hc := hcell j (by omega)
      obtain ⟨bb, off, spot⟩ := a
      have hspot : spot = none := by simpa [Addr.add] using World.cell?_spot (hcell 0 (by omega))
      subst hspot
      rw [addr_add'] at hc
      refine ⟨bb, off, rfl, block_of_cell hc, ?_⟩
      rw [hc, List.getD_eq_getElem?_getD, List.getD_eq_getElem?_getD, List.getElem?_take_of_lt hj]
  obtain ⟨bs1, hz1, hl1, hB1, hC1⟩ := hS
  have hK1 : BysK W v1 bs1 := ⟨hB1, fun a l c h => (hC1 a l c h).1, by omega⟩
  clear hA0 hval0
  refine (scales_any K0 W (edw_of_laid hL) hK1 (by omega) hz1 (fun a l c h => (hC1 a l c h).2)).mono fun e W' ⟨he, bel⟩ => ?_
  subst he
  exact ⟨_, rfl, _, _, _, [], _, [], hW', trodAll_mk1 (shut_bool Tryd.underlying4 _), (trodAll_cons_mk (Below.trod laidOut (by kernel_rfl) (of_decide_eq_true (by kernel_rfl)) k0 bel lt0) (trodAll_cons_mk (Below.trod laidOut (by kernel_rfl) (of_decide_eq_true (by kernel_rfl)) k1 bel lt1) trodAll_mk0)), rfl, bel.frame _, fun h => by cases h⟩
theorem edwardsScales_row : Rows.EdwardsScalesSaid :=
  OpenClaim.holds_of_wide 3 Tryd.f3 rfl rfl rfl rfl rfl rfl rfl ⟨rfl, rfl, rfl, rfl, rfl⟩ rfl rfl rfl rfl rfl (by kernel_rfl) Tryd.func3 (by kernel_rfl)
    (of_decide_eq_true (by kernel_rfl)) (by unfold Func.isWrapper; first | (rw [if_pos (by decide +kernel)]; kernel_rfl) | (rw [if_neg (by decide +kernel)]; exact ⟨rfl, rfl⟩))
    (fun os started H enc _ => edwardsScales_lifted os started H enc)
theorem edwardsScales_holds : Rows.EdwardsScalesCardSaid :=
  Claim7.holds_tied_plain_at .later [] [.data, .data, .data, .data] true (true, "befcf1b1d1e3651b26d20262929b65d0a26fac13e67a21a735e5fac8c8a5d770") false
    edwardsScales_row (fun _ h => by cases h) (by kernel_rfl) (fun _ h => by cases h) edwardsScales_row_tie rfl ⟨rfl, rfl⟩ (by kernel_rfl) rfl
    (fun f fn hf hfn => by
      obtain rfl : f = 3 := Option.some.inj ((show Tryd.prog.funcNamed "pawl/pawllaw19.EdwardsScales" = some 3 by kernel_rfl).symm.trans hf) |>.symm
      obtain rfl : fn = Tryd.f3 := (Option.some.inj (Tryd.func3.symm.trans hfn)).symm
      exact ⟨by kernel_rfl, fun j t ht => by
        rw [Tryd.params3] at ht
        have hm : t ∈ [23, 24] := by have := Array.mem_of_getElem? ht; simp at this; simp [this]
        have hall : ([23, 24].all fun u => !Tryd.prog.wantsStandIn u) = true := by kernel_rfl
        exact (show Tryd.prog.wantsStandIn t = false by simpa using List.all_eq_true.1 hall t hm)⟩)
    (by kernel_rfl)
#print axioms edwardsScales_holds
end Go.Proofs.YtdcpcdkbhgkmlaaDoor

