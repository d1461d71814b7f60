import Derived.Test.YtdcpcdkbhgkmlaaDoorRows
import Derived.Test.YtdcpcdkbhgkmlaaDoorTie
import Derived.Test.YtdcpcdkbhgkmlaaDoorCards
import Derived.Test.YtdcpcdkbhgkmlaaDoorDOpen
import Derived.Test.YtdcpcdkbhgkmlaaDoorDSrd
import Derived.WalkKit
import Derived.ProofKit
import Derived.OpenShut
import Derived.ShutString
import Derived.ChangeOld
import Derived.Below
import Derived.LaidMore
import Derived.Stop.Joined
import Derived.SevenTiedAt
import Derived.ChangeSlices
import Derived.SizedLaws
namespace Go.Proofs.YtdcpcdkbhgkmlaaDoor
set_option maxRecDepth 100000
open Go.ChangeShapes Go.WideShapes Go.ChangeAt Go.RowKit
theorem gOr : Tryd.prog.globalNamed "pawl/edwards.order" = some 2 := by kernel_rfl
theorem tOr : (Tryd.prog.globals[2]?).map (·.type) = some 51 := by kernel_rfl
theorem cU64 : Tryd.prog.cellsOf 25 = 1 := by kernel_rfl
theorem cW4 : Tryd.prog.cellsOf 51 = 4 := by kernel_rfl
theorem rowN_of {P : Program} {t e : TypeId} {n : Nat} {k : IntKind} (ht : P.underlying t = some (.array n e)) (he : P.underlying e = some (.int k)) (hce : P.cellsOf e = 1) (hct : P.cellsOf t = n) {W : World} {m : Nat} {cs : Array Value} {p : List MemPlace} {ks : List Int}
    (h : DataW.trod (fun _ => ()) P W 0 (fun _ => true) false m t cs.toList = some (.agg (ks.map fun x => .lit (.int k x)), p)) : cs = (ks.map (Value.int k)).toArray := by
  obtain ⟨xs, m1, _, hx, hlen, hn, hel⟩ := DataW.trod_array ht h
  rw [hct] at hlen
  simp only [Prod.mk.injEq, DataW.agg.injEq] at hx
  have hk : ks.length = n := by
    have := congrArg List.length hx.1
    simp only [List.length_map] at this
    omega
  apply Array.ext'
  apply List.ext_getElem
  · simp only [List.length_map]; omega
  · intro i h1 h2
    have hin : i < n := by omega
    have hx' : xs[i]? = some xs[i] := List.getElem?_eq_getElem (by omega)
    have e1 := hel i hin
    rw [hce, hx'] at e1
    obtain ⟨a, q0, q1, _⟩ := DataW.trod_int he e1
    simp only [Nat.mul_one] at q0
    rw [List.drop_eq_getElem_cons h1] at q0
    have q0' : cs.toList[i] = .int k a := by simpa using q0
    rw [q0']
    have hi := congrArg (fun l => l[i]?) hx.1
    simp only [List.getElem?_map, List.getElem?_eq_getElem (show i < ks.length by omega), hx', Option.map_some, Option.some.injEq] at hi
    rw [q1] at hi
    simp only [DataW.lit.injEq, Lit.int.injEq, true_and] at hi
    simp [hi]
theorem row_of_var {W : World} {s : String} {g : Nat} (hg : Tryd.prog.globalNamed s = some g) {cs : Array Value} (hv : World.var? Tryd.prog W s = some cs) : ∃ t fr, W.heap[g]? = some (.cells cs t fr) := by
  unfold World.var? at hv
  rw [hg] at hv
  simp only [Option.bind_some] at hv
  split at hv
  · rename_i cs' t fr hh
    obtain rfl := Option.some.inj hv
    exact ⟨t, fr, hh⟩
  · cases hv
theorem ord_of_laid {W : World} (h : laidMet Tryd.prog [("pawl/edwards.order", Rows.laid_pawl_edwards_order)] W) : Ord W := by
  obtain ⟨ps, ⟨g4, t4, cs4, f4, p4, q4, hg4, ht4, hv4, hd4, _⟩, _⟩ := h
  obtain rfl := Option.some.inj (gOr.symm.trans hg4)
  obtain rfl := Option.some.inj (tOr.symm.trans ht4)
  obtain rfl := rowN_of (ks := [6346243789798364141, 1503914060200516822, 0, 1152921504606846976]) Tryd.underlying51 Tryd.underlying25 cU64 cW4 hd4
  have e3 : wd L19 = ([6346243789798364141, 1503914060200516822, 0, 1152921504606846976].map (Value.int .u64)).toArray := by unfold L19; rfl
  unfold Ord
  rw [e3]; exact row_of_var gOr hv4
theorem own : ownKnob Tryd.prog.godebug = none := by kernel_rfl
theorem laidOut : laidOutB Tryd.prog = true := by kernel_rfl
theorem cellsKey : Tryd.prog.cellsOf 23 = 32 := by kernel_rfl
theorem key_of_list (l : List Int) (hl : l.length = 32) (wl : ∀ x ∈ l, (Lit.int .u8 x).wf = true) : ∃ N, KeyOf (l.map (Value.int .u8)).toArray N := by
  obtain ⟨b0, b1, b2, b3, b4, b5, b6, b7, b8, b9, b10, b11, b12, b13, b14, b15, b16, b17, b18, b19, b20, b21, b22, b23, b24, b25, b26, b27, b28, b29, b30, b31, rfl⟩ := list32 l hl
  have bd : ∀ x ∈ [b0, b1, b2, b3, b4, b5, b6, b7, b8, b9, b10, b11, b12, b13, b14, b15, b16, b17, b18, b19, b20, b21, b22, b23, b24, b25, b26, b27, b28, b29, b30, b31], 0 ≤ x ∧ x < 256 := fun x hx => u8_of_wf (wl x hx)
  exact ⟨_, b0, b1, b2, b3, b4, b5, b6, b7, b8, b9, b10, b11, b12, b13, b14, b15, b16, b17, b18, b19, b20, b21, b22, b23, b24, b25, b26, b27, b28, b29, b30, b31, rfl, ⟨bd b0 (by simp), bd b1 (by simp), bd b2 (by simp), bd b3 (by simp), bd b4 (by simp), bd b5 (by simp), bd b6 (by simp), bd b7 (by simp), bd b8 (by simp), bd b9 (by simp), bd b10 (by simp), bd b11 (by simp), bd b12 (by simp), bd b13 (by simp), bd b14 (by simp), bd b15 (by simp), bd b16 (by simp), bd b17 (by simp), bd b18 (by simp), bd b19 (by simp), bd b20 (by simp), bd b21 (by simp), bd b22 (by simp), bd b23 (by simp), bd b24 (by simp), bd b25 (by simp), bd b26 (by simp), bd b27 (by simp), bd b28 (by simp), bd b29 (by simp), bd b30 (by simp), bd b31 (by simp)⟩, rfl⟩
theorem door_met (os : Os) (args : Array Value) : laidMetH Tryd.prog [("pawl/edwards.order", Rows.laid_pawl_edwards_order)] ((World.doorLaid Tryd.prog 400 os).forCall (fun _ _ => 0) ⟨#[], args, []⟩).memory :=
  laidMetH_of_parts3 (fuel := 8) (laidMet_of_run' 8 (by kernel_rfl) (by kernel_rfl)) (by kernel_rfl) (by kernel_rfl)
theorem addr_add' (b off j : Nat) : (⟨b, off, none⟩ : Addr).add j = ⟨b, off + j, none⟩ := by
  unfold Addr.add
  split
  · rename_i h; rw [h]; rfl
  · rfl
theorem bytesU8 : Tryd.prog.bytesOf 5 = 1 := by kernel_rfl
theorem block_of_cell {w : World} {b o : Nat} {v : Value} (h : w.cell? ⟨b, o, none⟩ = some v) : b < w.heap.size := by
  rcases Nat.lt_or_ge b w.heap.size with q | q
  · exact q
  · simp [World.cell?, Array.getElem?_eq_none q] at h
set_option maxRecDepth 100000 in
theorem edwardsScalars_lifted (os : Os) (started : os.Started) (H : Type) (enc : TypeId × Value → H) :
    ReturnsInHanded {} Tryd.checked os 4 .any (fun w args => (Rows.edwardsScalarsSpec.pre enc Tryd.prog Tryd.f4 [] false w args ∧ laidMetH Tryd.prog [("pawl/edwards.order", Rows.laid_pawl_edwards_order)] w) ∧ sizedMet enc Tryd.prog Tryd.f4 (OpenSpec.ofChange Rows.edwardsScalarsSpec) false w args)
      (Rows.edwardsScalarsSpec.post enc Tryd.prog Tryd.f4 false true false false) := by
  refine returnsInHanded_of_change_and (C := Tryd.checked) (X := fun w _ => laidMetH Tryd.prog [("pawl/edwards.order", Rows.laid_pawl_edwards_order)] w) (fun _ _ _ hh h => h.of_heap hh) own started (by kernel_rfl) Tryd.func4
    (ChangeSpec.witness_shaped (enc := enc) (C := Tryd.checked) (os := os) (X := fun w _ => laidMetH Tryd.prog [("pawl/edwards.order", Rows.laid_pawl_edwards_order)] w) false (World.doorLaid Tryd.prog 400 os) #[.slice none 0 0, .slice none 0 0, .agg q32] 8 rfl (World.shaped_of_RefB (by kernel_rfl) (by kernel_rfl)) (by kernel_rfl) (by kernel_rfl) (by kernel_rfl) (door_met os _)) ?_
  intro W base args ds gs before hval0 hW _ hsz0 hL _
  have hval : ∀ (j : Nat) t v, Tryd.f4.params[j]? = some t → args[j]? = some v → Value.okWide Tryd.prog W .any base t v := hval0
  have hsz : (DataW.weightsEach Tryd.prog (Tryd.f4.params.toList ++ Rows.edwardsScalarsSpec.plain.varTypes Tryd.prog) (ds ++ gs)).all (· ≤ reachBytes) = true := hsz0
  have hW' := hW
  obtain ⟨p, q, hA0, hV, rfl, hfz, hnd⟩ := hW
  have hA : DataW.TrodAll enc Tryd.prog W 0 (fun _ => true) true Tryd.f4.params.toList args.toList ds p := hA0
  rw [Tryd.params4] at hA hval hsz
  obtain ⟨v0, vs0, d0, ds0, p0, q0, hargs, rfl, rfl, h0, r0⟩ := trodAll_cons hA
  obtain ⟨v1, vs1, d1, ds1, p1, q1, rfl, rfl, rfl, h1, r1⟩ := trodAll_cons r0
  obtain ⟨v2, vs2, d2, ds2, p2, q2, rfl, rfl, rfl, h2, r2⟩ := trodAll_cons r1
  obtain ⟨rfl, rfl, rfl⟩ := trodAll_nil r2
  obtain rfl : args = #[v0, v1, v2] := by cases args; simp_all
  obtain ⟨rfl, rfl⟩ := trodVars_none hV
  have k0 := h0
  have lt0 : ∀ x ∈ p0, x.block < W.heap.size := by obtain ⟨m, hm⟩ := k0; exact DataW.trod_lt m _ _ _ hm
  have hS : ∃ bs : List Int, (∀ z ∈ bs, 0 ≤ z ∧ z < 256) ∧ bs.length + 140737488359424 ≤ 281474976710656 ∧ Bys W v0 bs ∧ ∀ a l c, v0 = .slice a l c → l ≤ c ∧ (a = none → c = 0) := by
    obtain ⟨a0, len, cap, rfl⟩ := okWide_slice Tryd.underlying24 (hval 0 24 v0 rfl rfl)
    obtain ⟨fuel, hf⟩ := h0
    rcases open_ints Tryd.underlying24 Tryd.underlying5 Tryd.cellsU8 hf with ⟨hcs, hx⟩ | ⟨a, len', cap', zs, hcs, _, hl, hm, hz, hx, hcell, hwz⟩
    · simp [Value.cells] at hcs
      obtain ⟨rfl, rfl, rfl⟩ := hcs
      exact ⟨[], by simp, by decide, ⟨none, 0, rfl, by decide, fun j hj => by simp at hj, by simp⟩, fun a l c h => by cases h; exact ⟨Nat.le_refl _, fun _ => rfl⟩⟩
    · simp [Value.cells] at hcs
      obtain ⟨rfl, rfl, rfl⟩ := hcs
      simp only [Prod.mk.injEq] at hx
      obtain ⟨rfl, rfl⟩ := hx
      simp only [if_true] at hz
      have hb := sized_slice hsz (j := 0) (t := 24) (e := 5) rfl rfl Tryd.underlying24
      rw [bytesU8] at hb
      simp only [lits, List.length_map, List.length_take, List.length_drop, reachBytes] at hb
      have hlen : (zs.take len).length = len := by rw [List.length_take]; omega
      refine ⟨zs.take len, fun z h => u8_of_wf (hwz z (List.mem_of_mem_take h)), by rw [hlen]; omega, ⟨some a, cap, by rw [hlen], by rw [hlen]; omega, fun j hj => ?_, fun z h => u8_of_wf (hwz z (List.mem_of_mem_take h))⟩, fun a l c h => by cases h; exact ⟨hl, fun e => by cases e⟩⟩
      rw [hlen] at hj
      have hc := hcell j (by omega)
      obtain ⟨bb, off, spot⟩ := a
      have hspot : spot = none := by simpa [Addr.add] using World.cell?_spot (hcell 0 (by omega))
      subst hspot
      rw [addr_add'] at hc
      refine ⟨bb, off, rfl, block_of_cell hc, ?_⟩
      rw [hc, List.getD_eq_getElem?_getD, List.getD_eq_getElem?_getD, List.getElem?_take_of_lt hj]
  obtain ⟨bs0, hz0, hl0, hB0, hC0⟩ := hS
  have hK0 : BysK W v0 bs0 := ⟨hB0, fun a l c h => (hC0 a l c h).1, by omega⟩
  have k1 := h1
  have lt1 : ∀ x ∈ p1, x.block < W.heap.size := by obtain ⟨m, hm⟩ := k1; exact DataW.trod_lt m _ _ _ hm
  have hS : ∃ bs : List Int, (∀ z ∈ bs, 0 ≤ z ∧ z < 256) ∧ bs.length + 140737488359424 ≤ 281474976710656 ∧ Bys W v1 bs ∧ ∀ a l c, v1 = .slice a l c → l ≤ c ∧ (a = none → c = 0) := by
    obtain ⟨a0, len, cap, rfl⟩ := okWide_slice Tryd.underlying24 (hval 1 24 v1 rfl rfl)
    obtain ⟨fuel, hf⟩ := h1
    rcases open_ints Tryd.underlying24 Tryd.underlying5 Tryd.cellsU8 hf with ⟨hcs, hx⟩ | ⟨a, len', cap', zs, hcs, _, hl, hm, hz, hx, hcell, hwz⟩
    · simp [Value.cells] at hcs
      obtain ⟨rfl, rfl, rfl⟩ := hcs
      exact ⟨[], by simp, by decide, ⟨none, 0, rfl, by decide, fun j hj => by simp at hj, by simp⟩, fun a l c h => by cases h; exact ⟨Nat.le_refl _, fun _ => rfl⟩⟩
    · simp [Value.cells] at hcs
      obtain ⟨rfl, rfl, rfl⟩ := hcs
      simp only [Prod.mk.injEq] at hx
      obtain ⟨rfl, rfl⟩ := hx
      simp only [if_true] at hz
      have hb := sized_slice hsz (j := 1) (t := 24) (e := 5) rfl rfl Tryd.underlying24
      rw [bytesU8] at hb
      simp only [lits, List.length_map, List.length_take, List.length_drop, reachBytes] at hb
      have hlen : (zs.take len).length = len := by rw [List.length_take]; omega
      refine ⟨zs.take len, fun z h => u8_of_wf (hwz z (List.mem_of_mem_take h)), by rw [hlen]; omega, ⟨some a, cap, by rw [hlen], by rw [hlen]; omega, fun j hj => ?_, fun z h => u8_of_wf (hwz z (List.mem_of_mem_take h))⟩, fun a l c h => by cases h; exact ⟨hl, fun e => by cases e⟩⟩
      rw [hlen] at hj
      have hc := hcell j (by omega)
      obtain ⟨bb, off, spot⟩ := a
      have hspot : spot = none := by simpa [Addr.add] using World.cell?_spot (hcell 0 (by omega))
      subst hspot
      rw [addr_add'] at hc
      refine ⟨bb, off, rfl, block_of_cell hc, ?_⟩
      rw [hc, List.getD_eq_getElem?_getD, List.getD_eq_getElem?_getD, List.getElem?_take_of_lt hj]
  obtain ⟨bs1, hz1, hl1, hB1, hC1⟩ := hS
  have hK1 : BysK W v1 bs1 := ⟨hB1, fun a l c h => (hC1 a l c h).1, by omega⟩
  have k2 := h2
  have lt2 : ∀ x ∈ p2, x.block < W.heap.size := by obtain ⟨m, hm⟩ := k2; exact DataW.trod_lt m _ _ _ hm
  obtain ⟨l2, hl2, rfl, wl2⟩ := open_array Tryd.underlying23 Tryd.underlying5 Tryd.cellsU8 cellsKey (hval 2 23 v2 rfl rfl) h2
  obtain ⟨N2, K2⟩ := key_of_list l2 hl2 wl2
  clear hA0 hval0
  refine (scalars_any K2 W (ord_of_laid hL) hK0 hK1).mono fun e W' ⟨he, bel⟩ => ?_
  subst he
  exact ⟨_, rfl, _, _, _, [], _, [], hW', trodAll_mk1 (shut_bool Tryd.underlying4 _), (trodAll_cons_mk (Below.trod laidOut (by kernel_rfl) (of_decide_eq_true (by kernel_rfl)) k0 bel lt0) (trodAll_cons_mk (Below.trod laidOut (by kernel_rfl) (of_decide_eq_true (by kernel_rfl)) k1 bel lt1) (trodAll_cons_mk (Below.trod laidOut (by kernel_rfl) (of_decide_eq_true (by kernel_rfl)) k2 bel lt2) trodAll_mk0))), rfl, bel.frame _, fun h => by cases h⟩
theorem edwardsScalars_row : Rows.EdwardsScalarsSaid :=
  OpenClaim.holds_of_wide 4 Tryd.f4 rfl rfl rfl rfl rfl rfl rfl ⟨rfl, rfl, rfl, rfl, rfl⟩ rfl rfl rfl rfl rfl (by kernel_rfl) Tryd.func4 (by kernel_rfl)
    (of_decide_eq_true (by kernel_rfl)) (by unfold Func.isWrapper; first | (rw [if_pos (by decide +kernel)]; kernel_rfl) | (rw [if_neg (by decide +kernel)]; exact ⟨rfl, rfl⟩))
    (fun os started H enc _ => edwardsScalars_lifted os started H enc)
theorem edwardsScalars_holds : Rows.EdwardsScalarsCardSaid :=
  Claim7.holds_tied_plain_at .later [] [.wider] true (true, "befcf1b1d1e3651b26d20262929b65d0a26fac13e67a21a735e5fac8c8a5d770") false
    edwardsScalars_row (fun _ h => by cases h) (by kernel_rfl) (fun _ h => by cases h) edwardsScalars_row_tie rfl ⟨rfl, rfl⟩ (by kernel_rfl) rfl
    (fun f fn hf hfn => by
      obtain rfl : f = 4 := Option.some.inj ((show Tryd.prog.funcNamed "pawl/pawllaw19.EdwardsScalars" = some 4 by kernel_rfl).symm.trans hf) |>.symm
      obtain rfl : fn = Tryd.f4 := (Option.some.inj (Tryd.func4.symm.trans hfn)).symm
      exact ⟨by kernel_rfl, fun j t ht => by
        rw [Tryd.params4] at ht
        have hm : t ∈ [24, 23] := by have := Array.mem_of_getElem? ht; simp at this; simp [this]
        have hall : ([24, 23].all fun u => !Tryd.prog.wantsStandIn u) = true := by kernel_rfl
        exact (show Tryd.prog.wantsStandIn t = false by simpa using List.all_eq_true.1 hall t hm)⟩)
    (by kernel_rfl)
#print axioms edwardsScalars_holds
end Go.Proofs.YtdcpcdkbhgkmlaaDoor

