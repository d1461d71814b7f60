import Derived.Test.YtjeighghommldaaDoorRows
import Derived.Test.YtjeighghommldaaDoorTie
import Derived.Test.YtjeighghommldaaDoorCards
import Derived.Test.YtjeighghommldaaDoorCOpen
import Derived.Test.YtjeighghommldaaDoorCSon
import Derived.WalkKit
import Derived.ProofKit
import Derived.OpenShut
import Derived.ShutString
import Derived.ChangeOld
import Derived.ChangeSlices
import Derived.SizedLaws
import Derived.Below
import Derived.LaidMore
import Derived.Stop.Joined
import Derived.SevenTiedAt
import Derived.Deep.DeepHandedRow
namespace Go.Proofs.YtjeighghommldaaDoor
set_option maxRecDepth 100000
open Go.ChangeShapes Go.WideShapes Go.ChangeAt Go.WideMaps Go.WideElems Go.RowKit
theorem gOr : Tryd.prog.globalNamed "pawl/edwards.order" = some 2 := by kernel_rfl
theorem tOr : (Tryd.prog.globals[2]?).map (·.type) = some 39 := by kernel_rfl
theorem cU64 : Tryd.prog.cellsOf 26 = 1 := by kernel_rfl
theorem cW4 : Tryd.prog.cellsOf 39 = 4 := by kernel_rfl
theorem rowN_of {P : Program} {t e : TypeId} {n : Nat} {k : IntKind} (ht : P.underlying t = some (.array n e)) (he : P.underlying e = some (.int k)) (hce : P.cellsOf e = 1) (hct : P.cellsOf t = n) {W : World} {m : Nat} {cs : Array Value} {p : List MemPlace} {ks : List Int}
    (h : DataW.trod (fun _ => ()) P W 0 (fun _ => true) false m t cs.toList = some (.agg (ks.map fun x => .lit (.int k x)), p)) : cs = (ks.map (Value.int k)).toArray := by
  obtain ⟨xs, m1, _, hx, hlen, hn, hel⟩ := DataW.trod_array ht h
  rw [hct] at hlen
  simp only [Prod.mk.injEq, DataW.agg.injEq] at hx
  have hk : ks.length = n := by
    have := congrArg List.length hx.1
    simp only [List.length_map] at this
    omega
  apply Array.ext'
  apply List.ext_getElem
  · simp only [List.length_map]; omega
  · intro i h1 h2
    have hin : i < n := by omega
    have hx' : xs[i]? = some xs[i] := List.getElem?_eq_getElem (by omega)
    have e1 := hel i hin
    rw [hce, hx'] at e1
    obtain ⟨a, q0, q1, _⟩ := DataW.trod_int he e1
    simp only [Nat.mul_one] at q0
    rw [List.drop_eq_getElem_cons h1] at q0
    have q0' : cs.toList[i] = .int k a := by simpa using q0
    rw [q0']
    have hi := congrArg (fun l => l[i]?) hx.1
    simp only [List.getElem?_map, List.getElem?_eq_getElem (show i < ks.length by omega), hx', Option.map_some, Option.some.injEq] at hi
    rw [q1] at hi
    simp only [DataW.lit.injEq, Lit.int.injEq, true_and] at hi
    simp [hi]
theorem row_of_var {W : World} {s : String} {g : Nat} (hg : Tryd.prog.globalNamed s = some g) {cs : Array Value} (hv : World.var? Tryd.prog W s = some cs) : ∃ t fr, W.heap[g]? = some (.cells cs t fr) := by
  unfold World.var? at hv
  rw [hg] at hv
  simp only [Option.bind_some] at hv
  split at hv
  · rename_i cs' t fr hh
    obtain rfl := Option.some.inj hv
    exact ⟨t, fr, hh⟩
  · cases hv
theorem ord_of_laid {W : World} (h : laidMet Tryd.prog [("pawl/edwards.order", Rows.laid_pawl_edwards_order)] W) : Ord W := by
  obtain ⟨ps, ⟨g4, t4, cs4, f4, p4, q4, hg4, ht4, hv4, hd4, _⟩, _⟩ := h
  obtain rfl := Option.some.inj (gOr.symm.trans hg4)
  obtain rfl := Option.some.inj (tOr.symm.trans ht4)
  obtain rfl := rowN_of (ks := [6346243789798364141, 1503914060200516822, 0, 1152921504606846976]) Tryd.underlying39 Tryd.underlying26 cU64 cW4 hd4
  have e3 : wd L19 = ([6346243789798364141, 1503914060200516822, 0, 1152921504606846976].map (Value.int .u64)).toArray := by unfold L19; rfl
  unfold Ord
  rw [e3]; exact row_of_var gOr hv4
theorem addr_add' (b off j : Nat) : (⟨b, off, none⟩ : Addr).add j = ⟨b, off + j, none⟩ := by
  unfold Addr.add
  split
  · rename_i h; rw [h]; rfl
  · rfl
theorem own : ownKnob Tryd.prog.godebug = none := by kernel_rfl
theorem laidOut : laidOutB Tryd.prog = true := by kernel_rfl
theorem cellsU8 : Tryd.prog.cellsOf 5 = 1 := by kernel_rfl
theorem block_of_cell {w : World} {b o : Nat} {v : Value} (h : w.cell? ⟨b, o, none⟩ = some v) : b < w.heap.size := by
  rcases Nat.lt_or_ge b w.heap.size with q | q
  · exact q
  · simp [World.cell?, Array.getElem?_eq_none q] at h
theorem laid_met (os : Os) : laidMet Tryd.prog Rows.edwardsNumbersUptoRow.laid ((World.doorLaid Tryd.prog 400 os).forCall (fun _ _ => 0) ⟨#[], #[.slice none 0 0, .slice none 0 0, .slice none 0 0], []⟩).memory :=
  laidMet_of_run' 8 (by kernel_rfl) (by kernel_rfl)
theorem reads (os : Os) {H : Type} (enc : TypeId × Value → H) : ∃ places, DataW.whole enc Tryd.prog ((World.doorLaid Tryd.prog 400 os).forCall (fun _ _ => 0) ⟨#[], #[.slice none 0 0, .slice none 0 0, .slice none 0 0], []⟩).memory Tryd.f4.params.toList Rows.edwardsNumbersSpec.vars false #[.slice none 0 0, .slice none 0 0, .slice none 0 0].toList 8 = some ([.nil, .nil, .nil], [], places) :=
  ⟨[], by kernel_rfl⟩
set_option maxRecDepth 100000 in
theorem edwardsNumbers_lifted (os : Os) (started : os.Started) (H : Type) (enc : TypeId × Value → H) (F : Stop.Interp) :
    ReturnsInHanded {} Tryd.checked os 4 .any ((Rows.OpenSpec.upto Rows.edwardsNumbersSpec).preRow enc Tryd.prog Tryd.f4 Rows.edwardsNumbersUptoRow.domain false Rows.edwardsNumbersUptoRow.laid) (((Rows.OpenSpec.upto Rows.edwardsNumbersSpec).at F).post enc Tryd.prog Tryd.f4 false true false false) := by
  obtain ⟨places, hx⟩ := reads os enc
  refine returnsInHanded_of_row (C := Tryd.checked) (s := Rows.OpenSpec.upto Rows.edwardsNumbersSpec) own started (by kernel_rfl) Tryd.func4
    (witness_row_at (enc := enc) (C := Tryd.checked) false (World.doorLaid Tryd.prog 400 os) #[.slice none 0 0, .slice none 0 0, .slice none 0 0] rfl (by kernel_rfl) (by kernel_rfl) (by kernel_rfl)
      (OpenSpec.preRow_of_cond 8 hx (by kernel_rfl) (fun k hk => by cases hk; kernel_rfl) (by kernel_rfl) (laid_met os))) ?_
  intro W base args ds gs before hval0 hW q1 hcond q3 hL q4 q5
  have hval : ∀ (j : Nat) t v, Tryd.f4.params[j]? = some t → args[j]? = some v → Value.okWide Tryd.prog W .any base t v := hval0
  have hW' := hW
  obtain ⟨p, q, hA0, hV, rfl, hfz, hnd⟩ := hW
  have hA : DataW.TrodAll enc Tryd.prog W 0 (fun _ => true) true Tryd.f4.params.toList args.toList ds p := hA0
  rw [Tryd.params4] at hA hval
  obtain ⟨v0, vs0, d0, ds0, p0, q0, hargs, rfl, rfl, h0, r0⟩ := trodAll_cons hA
  obtain ⟨v1, vs1, d1, ds1, p1, q1, rfl, rfl, rfl, h1, r1⟩ := trodAll_cons r0
  obtain ⟨v2, vs2, d2, ds2, p2, q2, rfl, rfl, rfl, h2, r2⟩ := trodAll_cons r1
  obtain ⟨rfl, rfl, rfl⟩ := trodAll_nil r2
  obtain rfl : args = #[v0, v1, v2] := by cases args; simp_all
  obtain ⟨rfl, rfl⟩ := trodVars_none hV
  have hk := bulk_bound (hcond _ rfl)
  simp only [List.append_nil, Rows.uptoBulkAll] at hk
  have k0 := h0
  have lt0 : ∀ x ∈ p0, x.block < W.heap.size := by obtain ⟨m, hm⟩ := k0; exact DataW.trod_lt m _ _ _ hm
  have hS0 : ∃ bs : List Int, Bys W v0 bs ∧ bs.length ≤ Rows.uptoBulk d0 ∧ (∀ a l c, v0 = .slice a l c → a = none → c = 0) ∧ (∀ a l c, v0 = .slice a l c → l ≤ c) := by
    obtain ⟨a0, len, cap, rfl⟩ := okWide_slice Tryd.underlying24 (hval 0 24 v0 rfl rfl)
    obtain ⟨fuel, hf⟩ := h0
    rcases open_ints Tryd.underlying24 Tryd.underlying5 cellsU8 hf with ⟨hcs, hx⟩ | ⟨a, len', cap', zs, hcs, _, hl, hm, hz, hx, hcell, hwz⟩
    · simp [Value.cells] at hcs
      obtain ⟨rfl, rfl, rfl⟩ := hcs
      exact ⟨[], ⟨none, 0, rfl, by decide, fun j hj => by simp at hj, by simp⟩, Nat.zero_le _, fun a l c h _ => by cases h; rfl, fun a l c h => by cases h; exact Nat.le_refl _⟩
    · simp [Value.cells] at hcs
      obtain ⟨rfl, rfl, rfl⟩ := hcs
      simp only [Prod.mk.injEq] at hx
      obtain ⟨rfl, rfl⟩ := hx
      simp only [if_true] at hz
      have hb := bulk_slice (lits (H := H) .u8 (zs.take len)) (lits .u8 (zs.drop len))
      simp only [lits, List.length_map] at hb
      have hlen : (zs.take len).length = len := by rw [List.length_take]; omega
      simp only [maxLen] at hm
      refine ⟨zs.take len, ⟨some a, cap, by rw [hlen], by rw [hlen]; omega, fun j hj => ?_, fun z h => u8_of_wf (hwz z (List.mem_of_mem_take h))⟩, by simp only [lits]; omega, (fun a l c h h2 => by cases h; cases h2), (fun a l c h => by cases h; exact hl)⟩
      rw [hlen] at hj
      have hc := hcell j (by omega)
      obtain ⟨bb, off, spot⟩ := a
      have hspot : spot = none := by simpa [Addr.add] using World.cell?_spot (hcell 0 (by omega))
      subst hspot
      rw [addr_add'] at hc
      refine ⟨bb, off, rfl, block_of_cell hc, ?_⟩
      rw [hc, List.getD_eq_getElem?_getD, List.getD_eq_getElem?_getD, List.getElem?_take_of_lt hj]
  obtain ⟨bs0, hB0, hl0, hn0, hC0⟩ := hS0
  have hK0 : BysK W v0 bs0 := ⟨hB0, hC0, by omega⟩
  have k1 := h1
  have lt1 : ∀ x ∈ p1, x.block < W.heap.size := by obtain ⟨m, hm⟩ := k1; exact DataW.trod_lt m _ _ _ hm
  have hS1 : ∃ bs : List Int, Bys W v1 bs ∧ bs.length ≤ Rows.uptoBulk d1 ∧ (∀ a l c, v1 = .slice a l c → a = none → c = 0) ∧ (∀ a l c, v1 = .slice a l c → l ≤ c) := by
    obtain ⟨a0, len, cap, rfl⟩ := okWide_slice Tryd.underlying24 (hval 1 24 v1 rfl rfl)
    obtain ⟨fuel, hf⟩ := h1
    rcases open_ints Tryd.underlying24 Tryd.underlying5 cellsU8 hf with ⟨hcs, hx⟩ | ⟨a, len', cap', zs, hcs, _, hl, hm, hz, hx, hcell, hwz⟩
    · simp [Value.cells] at hcs
      obtain ⟨rfl, rfl, rfl⟩ := hcs
      exact ⟨[], ⟨none, 0, rfl, by decide, fun j hj => by simp at hj, by simp⟩, Nat.zero_le _, fun a l c h _ => by cases h; rfl, fun a l c h => by cases h; exact Nat.le_refl _⟩
    · simp [Value.cells] at hcs
      obtain ⟨rfl, rfl, rfl⟩ := hcs
      simp only [Prod.mk.injEq] at hx
      obtain ⟨rfl, rfl⟩ := hx
      simp only [if_true] at hz
      have hb := bulk_slice (lits (H := H) .u8 (zs.take len)) (lits .u8 (zs.drop len))
      simp only [lits, List.length_map] at hb
      have hlen : (zs.take len).length = len := by rw [List.length_take]; omega
      simp only [maxLen] at hm
      refine ⟨zs.take len, ⟨some a, cap, by rw [hlen], by rw [hlen]; omega, fun j hj => ?_, fun z h => u8_of_wf (hwz z (List.mem_of_mem_take h))⟩, by simp only [lits]; omega, (fun a l c h h2 => by cases h; cases h2), (fun a l c h => by cases h; exact hl)⟩
      rw [hlen] at hj
      have hc := hcell j (by omega)
      obtain ⟨bb, off, spot⟩ := a
      have hspot : spot = none := by simpa [Addr.add] using World.cell?_spot (hcell 0 (by omega))
      subst hspot
      rw [addr_add'] at hc
      refine ⟨bb, off, rfl, block_of_cell hc, ?_⟩
      rw [hc, List.getD_eq_getElem?_getD, List.getD_eq_getElem?_getD, List.getElem?_take_of_lt hj]
  obtain ⟨bs1, hB1, hl1, hn1, hC1⟩ := hS1
  have hK1 : BysK W v1 bs1 := ⟨hB1, hC1, by omega⟩
  have k2 := h2
  have lt2 : ∀ x ∈ p2, x.block < W.heap.size := by obtain ⟨m, hm⟩ := k2; exact DataW.trod_lt m _ _ _ hm
  have hS2 : ∃ bs : List Int, Bys W v2 bs ∧ bs.length ≤ Rows.uptoBulk d2 ∧ (∀ a l c, v2 = .slice a l c → a = none → c = 0) ∧ (∀ a l c, v2 = .slice a l c → l ≤ c) := by
    obtain ⟨a0, len, cap, rfl⟩ := okWide_slice Tryd.underlying24 (hval 2 24 v2 rfl rfl)
    obtain ⟨fuel, hf⟩ := h2
    rcases open_ints Tryd.underlying24 Tryd.underlying5 cellsU8 hf with ⟨hcs, hx⟩ | ⟨a, len', cap', zs, hcs, _, hl, hm, hz, hx, hcell, hwz⟩
    · simp [Value.cells] at hcs
      obtain ⟨rfl, rfl, rfl⟩ := hcs
      exact ⟨[], ⟨none, 0, rfl, by decide, fun j hj => by simp at hj, by simp⟩, Nat.zero_le _, fun a l c h _ => by cases h; rfl, fun a l c h => by cases h; exact Nat.le_refl _⟩
    · simp [Value.cells] at hcs
      obtain ⟨rfl, rfl, rfl⟩ := hcs
      simp only [Prod.mk.injEq] at hx
      obtain ⟨rfl, rfl⟩ := hx
      simp only [if_true] at hz
      have hb := bulk_slice (lits (H := H) .u8 (zs.take len)) (lits .u8 (zs.drop len))
      simp only [lits, List.length_map] at hb
      have hlen : (zs.take len).length = len := by rw [List.length_take]; omega
      simp only [maxLen] at hm
      refine ⟨zs.take len, ⟨some a, cap, by rw [hlen], by rw [hlen]; omega, fun j hj => ?_, fun z h => u8_of_wf (hwz z (List.mem_of_mem_take h))⟩, by simp only [lits]; omega, (fun a l c h h2 => by cases h; cases h2), (fun a l c h => by cases h; exact hl)⟩
      rw [hlen] at hj
      have hc := hcell j (by omega)
      obtain ⟨bb, off, spot⟩ := a
      have hspot : spot = none := by simpa [Addr.add] using World.cell?_spot (hcell 0 (by omega))
      subst hspot
      rw [addr_add'] at hc
      refine ⟨bb, off, rfl, block_of_cell hc, ?_⟩
      rw [hc, List.getD_eq_getElem?_getD, List.getD_eq_getElem?_getD, List.getElem?_take_of_lt hj]
  obtain ⟨bs2, hB2, hl2, hn2, hC2⟩ := hS2
  have hK2 : BysK W v2 bs2 := ⟨hB2, hC2, by omega⟩
  clear hA0 hval0
  refine (numbers_any W (ord_of_laid hL) hK0 hK1 hK2 hn0 hn1 (by omega) (by omega)).mono fun e W' ⟨he, bel⟩ => ?_
  subst he
  exact ⟨_, rfl, _, _, _, [], _, [], hW', trodAll_mk1 (shut_bool Tryd.underlying4 _), (trodAll_cons_mk (Below.trod laidOut (by kernel_rfl) (of_decide_eq_true (by kernel_rfl)) k0 bel lt0) (trodAll_cons_mk (Below.trod laidOut (by kernel_rfl) (of_decide_eq_true (by kernel_rfl)) k1 bel lt1) (trodAll_cons_mk (Below.trod laidOut (by kernel_rfl) (of_decide_eq_true (by kernel_rfl)) k2 bel lt2) trodAll_mk0))), rfl, bel.frame _, fun h => by cases h⟩
theorem edwardsNumbers_row : Rows.EdwardsNumbersUptoSaid :=
  OpenClaim.holds_of_cond 4 Tryd.f4 rfl rfl rfl rfl rfl rfl rfl ⟨rfl, rfl, rfl, rfl, rfl⟩ rfl rfl rfl rfl rfl (by kernel_rfl) Tryd.func4 (by kernel_rfl)
    (of_decide_eq_true (by kernel_rfl)) (by unfold Func.isWrapper; first | (rw [if_pos (by decide +kernel)]; kernel_rfl) | (rw [if_neg (by decide +kernel)]; exact ⟨rfl, rfl⟩))
    (fun os started H enc _ F => by rw [OpenClaim.pre_eq_preRow]; exact edwardsNumbers_lifted os started H enc F)
theorem edwardsNumbers_plain (f : FuncId) (fn : Func) (hf : Tryd.pinned.checked.prog.funcNamed "pawl/pawllaw19.EdwardsNumbers" = some f) (hfn : Tryd.pinned.checked.prog.funcs[f]? = some fn) :
    false = Tryd.pinned.checked.prog.looks [] ∧ ∀ (j : Nat) t, fn.params[j]? = some t → Tryd.pinned.checked.prog.wantsStandIn t = false := by
  obtain rfl : f = 4 := Option.some.inj ((show Tryd.prog.funcNamed "pawl/pawllaw19.EdwardsNumbers" = some 4 by kernel_rfl).symm.trans hf) |>.symm
  obtain rfl : fn = Tryd.f4 := (Option.some.inj (Tryd.func4.symm.trans hfn)).symm
  refine ⟨by kernel_rfl, fun j t ht => ?_⟩
  rw [Tryd.params4] at ht
  have hm : t ∈ [24] := by have := Array.mem_of_getElem? ht; simp at this; simp [this]
  have hall : ([24].all fun u => !Tryd.prog.wantsStandIn u) = true := by kernel_rfl
  exact (show Tryd.prog.wantsStandIn t = false by simpa using List.all_eq_true.1 hall t hm)
theorem edwardsNumbersUpto_holds : Rows.EdwardsNumbersUptoCardSaid :=
  Claim7.holds_tied_plain_at .later [] _ _ _ _ edwardsNumbers_row (fun _ h => by cases h) (by kernel_rfl) (fun _ h => by cases h) edwardsNumbersUpto_row_tie rfl ⟨rfl, rfl⟩ (by kernel_rfl) rfl edwardsNumbers_plain (by kernel_rfl)
#print axioms edwardsNumbersUpto_holds
end Go.Proofs.YtjeighghommldaaDoor

