import Derived.Test.YtmcokphkaekdaaaDoorS3
import Derived.Test.YtmcokphkaekdaaaDoorS4
import Derived.WalkKit
import Derived.ProofKit
import Derived.OpenShut
import Derived.ChangeSlices
import Derived.ChangeArms
import Derived.Deep.Slices
import Derived.Test.YtmcokphkaekdaaaDoorProg
import Derived.WalkSpells
import Derived.WalkLawsBesides
import Derived.Lib.QuietBelow
import Derived.BigQuiet
import Derived.Test.YtmcokphkaekdaaaDoorS0
import Derived.Deep.RegionLaw
import Derived.Deep.RegionHeld3
import Derived.OwnWalk
namespace Go.Proofs.YtmcokphkaekdaaaDoor
open Go Go.ChangeShapes Go.WideShapes Go.ChangeAt Go.RowKit Go.Deep

/-- A step, as its three cells say it. -/
def OpOf (W : World) (cs : List Value) (P : List Int) : Prop := ∃ (K : Int) (O : Bool) (u : Option Addr) (uc : Nat), cs = [.int .i64 K, .bool O, .slice u P.length uc] ∧ Bys W (.slice u P.length uc) P ∧ (u = none → uc = 0) ∧ P.length ≤ uc
theorem cellsInt : Tryd.prog.cellsOf 3 = 1 := by kernel_rfl
theorem cellsOp : Tryd.prog.cellsOf 37 = 3 := by kernel_rfl
theorem op_of_trod {H : Type} {enc : TypeId × Value → H} {W : World} {m : Nat} {cs : List Value} {x : DataW H × List MemPlace} (h : DataW.trod enc Tryd.prog W 0 (fun _ => true) true m 37 cs = some x) : ∃ P : List Int, OpOf W cs P ∧ P.length ≤ Rows.uptoBulk x.1 := by
  obtain ⟨xs, m, rfl, rfl, hlen, hxl, hf⟩ := DataW.trod_struct Tryd.underlying37 h
  rw [cellsOp] at hlen
  have g0 := hf 0 _ rfl; have g1 := hf 1 _ rfl; have g2 := hf 2 _ rfl
  clear hf h
  match cs, hlen, xs, hxl, g0, g1, g2 with
  | [c0, c1, c2], _, [x0, x1, x2], _, g0, g1, g2 =>
    obtain ⟨K, e0, _, _⟩ := DataW.trod_int Tryd.underlying3 g0
    obtain ⟨O, e1, _⟩ := DataW.trod_bool Tryd.underlying4 g1
    have q0 : c0 = .int .i64 K := by
      have q : ([c0, c1, c2].drop 0).take (Tryd.prog.cellsOf 3) = [.int .i64 K] := e0
      rw [cellsInt] at q
      simpa using q
    have q1 : c1 = .bool O := by
      have q : ([c0, c1, c2].drop 1).take (Tryd.prog.cellsOf 4) = [.bool O] := e1
      rw [cellsBo] at q
      simpa using q
    have q2 : DataW.trod enc Tryd.prog W 0 (fun _ => true) true m 22 [c2] = some x2 := by
      have q : DataW.trod enc Tryd.prog W 0 (fun _ => true) true m 22 (([c0, c1, c2].drop 2).take (Tryd.prog.cellsOf 22)) = some x2 := g2
      rw [cellsSl] at q
      simpa using q
    obtain ⟨P, u, uc, h1, h2, h3, h4, h5⟩ := bytes_of_trod q2
    refine ⟨P, ⟨K, O, u, uc, by rw [q0, q1, h1], h2, h3, h4⟩, ?_⟩
    have hb : Rows.uptoBulk x2.1 ≤ Rows.uptoBulk (DataW.agg (List.map (·.1) [x0, x1, x2])) := by
      simp only [List.map_cons, List.map_nil, Rows.uptoBulk, Rows.uptoBulkAll]
      omega
    exact Nat.le_trans h5 hb
/-- The list of steps, as it lies in a world. -/
def Ocs (W : World) (v : Value) (ps : List (List Int)) : Prop := ∃ ao cap, v = .slice ao ps.length cap ∧ ps.length ≤ 9223372036854775807 ∧ ∀ i, i < ps.length → ∃ b off cs, ao = some ⟨b, off, none⟩ ∧ b < W.heap.size ∧ W.rangeAt b (off + i * 3) cs ∧ OpOf W cs (ps.getD i [])
theorem ocs_of_trod {H : Type} {enc : TypeId × Value → H} {W : World} {m : Nat} {v : Value} {x : DataW H × List MemPlace} (hf : DataW.trod enc Tryd.prog W 0 (fun _ => true) true m 29 [v] = some x) :
    ∃ ps : List (List Int), Ocs W v ps ∧ ps.flatten.length ≤ Rows.uptoBulk x.1 := by
  rcases open_slice Tryd.underlying29 hf with ⟨hcs, hx⟩ | ⟨a, len, cap, m, n, D, Pl, hcs, _, hl, hm, hmm, hx, hel⟩
  · injection hcs with hv _
    subst hv
    exact ⟨[], ⟨none, 0, rfl, by decide, fun i hi => by simp at hi⟩, Nat.zero_le _⟩
  · injection hcs with hv _
    subst hv
    subst hx
    simp only [if_true] at hmm
    subst hmm
    rw [cellsOp] at hel
    obtain ⟨PS, hPS⟩ := choose_lt (α := List Int) (p := fun i P => ∃ cs', W.cells? 0 (a.add (i * 3)) 3 = some cs' ∧ OpOf W cs' P ∧ P.length ≤ Rows.uptoBulk (D i)) (n := len) (fun i hi => by
      obtain ⟨cs', h1, h2⟩ := hel i (by omega)
      obtain ⟨P, h3, h4⟩ := op_of_trod h2
      exact ⟨P, cs', h1, h3, h4⟩)
    have hb := bulk_elems ((List.range len).map D) ((List.range (m - len)).map fun j => D (len + j))
    have hfb := flat_bulk PS D (List.range len) (fun i hi => by
      obtain ⟨_, _, _, h⟩ := hPS i (List.mem_range.1 hi)
      exact h)
    simp only [maxLen] at hm
    refine ⟨(List.range len).map PS, ⟨some a, _, by simp; rfl, by simp; omega, fun i hi => ?_⟩, by show _ ≤ Rows.uptoBulk (DataW.slice _ _); omega⟩
    have hi' : i < len := by simpa using hi
    obtain ⟨cs', h1, h2, _⟩ := hPS i hi'
    obtain ⟨_, hln, hc⟩ := World.cells?_some h1
    obtain ⟨bb, off, spot⟩ := a
    have hspot : spot = none := by
      obtain ⟨cs0, h0, _⟩ := hel 0 (by omega)
      obtain ⟨_, hl0, hc0⟩ := World.cells?_some h0
      have := hc0 0 (by omega)
      rw [List.getElem?_eq_getElem (by omega)] at this
      simpa [Addr.add] using World.cell?_spot this
    subst hspot
    rw [range_getD PS [] len i hi']
    have hr : W.rangeAt bb (off + i * 3) cs' := by
      intro j v hv
      have hj : j < 3 := by have := (List.getElem?_eq_some_iff.1 hv).1; omega
      have := hc j hj
      rw [addr_add, addr_add, hv] at this
      exact this
    refine ⟨bb, off, cs', rfl, ?_, hr, h2⟩
    have h0 := hr 0 _ (List.getElem?_eq_getElem (by omega))
    exact blk_of_cell h0
end Go.Proofs.YtmcokphkaekdaaaDoor

namespace Go.Proofs.YtmcokphkaekdaaaDoor
open Go Go.RowKit Go.Sort
attribute [local go_sem] setCell_drewN alloc_drewN

theorem ad_yes (salt sec info : List Int) (n : Nat) (w : World) (vs vc vi : Value) (hS : Sta w) (hK : Kon w) (hA : Bys w vs salt) (hca : ∀ a l c, vs = .slice a l c → l ≤ c) (hal : salt.length ≤ 4611686018427370000) (hC : Bys w vc sec) (hcc : ∀ a l c, vc = .slice a l c → l ≤ c) (hcl : sec.length ≤ 4611686018427370000) (hI : Bys w vi info) (hci : ∀ a l c, vi = .slice a l c → l ≤ c) (hil : info.length ≤ 4611686018427370000) (hn : n ≤ 8160) :
    Calls Tryd.prog 28 #[vs, vc, vi, .int .i64 (n : Int)] w fun e w' => ∃ v, e = .returned v ∧ ∃ g, v = .tuple #[.slice (some ⟨g, 0, none⟩) n n, .int .i64 0] ∧ w.heap.size ≤ g ∧ w'.heap[g]? = some (.cells (irow .u8 (xpd (hm salt sec) info n)) 5 (0, 0)) ∧ Below w.heap.size w w' := by
  refine (a_derive salt sec info (n : Int) w vs vc vi hS hK hA hca hal hC hcc hcl hI hci hil).mono ?_
  rintro e_ w' ⟨v, rfl, ⟨m, g, e1, hm, rfl, hg, r⟩ | ⟨hn', _⟩, hb⟩
  · obtain rfl : n = m := by omega
    exact ⟨_, rfl, g, rfl, hg, r, hb⟩
  · omega
theorem ad_no (salt sec info : List Int) (n : Int) (w : World) (vs vc vi : Value) (hS : Sta w) (hK : Kon w) (hA : Bys w vs salt) (hca : ∀ a l c, vs = .slice a l c → l ≤ c) (hal : salt.length ≤ 4611686018427370000) (hC : Bys w vc sec) (hcc : ∀ a l c, vc = .slice a l c → l ≤ c) (hcl : sec.length ≤ 4611686018427370000) (hI : Bys w vi info) (hci : ∀ a l c, vi = .slice a l c → l ≤ c) (hil : info.length ≤ 4611686018427370000) (hn : n < 0 ∨ 8160 < n) :
    Calls Tryd.prog 28 #[vs, vc, vi, .int .i64 n] w fun e w' => ∃ v, e = .returned v ∧ v = .tuple #[.slice none 0 0, .int .i64 (if n < 0 then 1 else 2)] ∧ Below w.heap.size w w' := by
  refine (a_derive salt sec info n w vs vc vi hS hK hA hca hal hC hcc hcl hI hci hil).mono ?_
  rintro e_ w' ⟨v, rfl, ⟨m, g, rfl, hm, rfl, hg, r⟩ | ⟨hn', rfl⟩, hb⟩
  · omega
  · exact ⟨_, rfl, rfl, hb⟩
theorem rd_yes (salt sec info : List Int) (n : Nat) (w : World) (vs vc vi : Value) (hA : BysM w vs salt) (hC : BysM w vc sec) (hcl : sec.length ≤ 140737488355200) (hI : BysM w vi info) (hil : info.length ≤ 140737488355200) (hn : n ≤ 8160) :
    Calls Tryd.prog 29 #[vs, vc, vi, .int .i64 (n : Int)] w fun e w' => ∃ u, e = .returned (.tuple #[u, .int .i64 0]) ∧ NB w' u (xpd (hm salt sec) info n) ∧ Below w.heap.size w w' := by
  refine (r_derive4 salt sec info (n : Int) w vs vc vi hA hC hcl hI hil).mono ?_
  rintro e_ w' ⟨v, rfl, ⟨m, u, e1, hm, rfl, r⟩ | ⟨hn', _⟩, hb⟩
  · obtain rfl : n = m := by omega
    exact ⟨u, rfl, r, hb⟩
  · omega
theorem rd_no (salt sec info : List Int) (n : Int) (w : World) (vs vc vi : Value) (hA : BysM w vs salt) (hC : BysM w vc sec) (hcl : sec.length ≤ 140737488355200) (hI : BysM w vi info) (hil : info.length ≤ 140737488355200) (hn : n < 0 ∨ 8160 < n) :
    Calls Tryd.prog 29 #[vs, vc, vi, .int .i64 n] w fun e w' => e = .returned (.tuple #[.slice none 0 0, .int .i64 (if n < 0 then 1 else 2)]) ∧ Below w.heap.size w w' := by
  refine (r_derive4 salt sec info n w vs vc vi hA hC hcl hI hil).mono ?_
  rintro e_ w' ⟨v, rfl, ⟨m, u, rfl, hm, rfl, r⟩ | ⟨hn', rfl⟩, hb⟩
  · omega
  · exact ⟨rfl, hb⟩
set_option maxRecDepth 100000 in
set_option maxHeartbeats 4000000 in
theorem macDerives_A (salt sec info : List Int) (n : Nat) (w : World) (vs vc vi : Value) (hS : Sta w) (hK : Kon w) (hA : BysN w vs salt) (hC : BysN w vc sec) (hI : BysN w vi info) (hn : n ≤ 8160) : Calls Tryd.prog 7 #[vs, vc, vi, .int .i64 (n : Int)] w fun e w' => e = .returned (.bool true) ∧ Below w.heap.size w w' := by
  have zhA := bys_bd hA.1
  have lhA : salt.length ≤ 140737488351232 := hA.2.1
  replace hA := hA.toM
  have shA : ∀ g W, _ := fun g W => slice_to (some ⟨g, 0, none⟩) (salt.length + 80) (salt.length + 80) salt.length (by omega) W
  have zhC := bys_bd hC.1
  have lhC : sec.length ≤ 140737488351232 := hC.2.1
  replace hC := hC.toM
  have shC : ∀ g W, _ := fun g W => slice_to (some ⟨g, 0, none⟩) (sec.length + 80) (sec.length + 80) sec.length (by omega) W
  have zhI := bys_bd hI.1
  have lhI : info.length ≤ 140737488351232 := hI.2.1
  replace hI := hI.toM
  have shI : ∀ g W, _ := fun g W => slice_to (some ⟨g, 0, none⟩) (info.length + 80) (info.length + 80) info.length (by omega) W
  obtain ⟨us, usc, rfl, _⟩ := id hA.1
  obtain ⟨uc, ucc, rfl, _⟩ := id hC.1
  obtain ⟨ui, uic, rfl, _⟩ := id hI.1
  have hw := Below.refl w.heap.size w
  go_enter Tryd.func7, Tryd.ntmps7
  go_wp2_with (fail)
  refine (l_hand salt w _ (hA.1.keep hw) (by omega)).mono ?_
  rintro e_ w1 ⟨rfl, rA, hb⟩
  have s0 := hb.size
  replace hw := Below.after hw hb
  clear hb
  generalize ega_ : w.heap.size = ga_ at rA ⊢
  have ltga_ := lt_of_row rA
  go_wp2_with (fail)
  refine (l_hand sec w1 _ (hC.1.keep hw) (by omega)).mono ?_
  rintro e_ w2 ⟨rfl, rC, hb⟩
  have s1 := hb.size
  replace rA := keep hb rA
  replace hw := Below.after hw hb
  clear hb
  generalize egc_ : w1.heap.size = gc_ at rC ⊢
  have ltgc_ := lt_of_row rC
  go_wp2_with (fail)
  refine (l_hand info w2 _ (hI.1.keep hw) (by omega)).mono ?_
  rintro e_ w3 ⟨rfl, rI, hb⟩
  have s2 := hb.size
  replace rA := keep hb rA
  replace rC := keep hb rC
  replace hw := Below.after hw hb
  clear hb
  generalize egi_ : w2.heap.size = gi_ at rI ⊢
  have ltgi_ := lt_of_row rI
  go_wp2_with (fail)
  have hbd : Below w3.heap.size w3 w3.drew := below_drN (Below.refl _ _) 1
  have bhA : Bys w3.drew (.slice (some ⟨ga_, 0, none⟩) salt.length (salt.length + 80)) salt := Bys.of_prefix (keep hbd rA) (by omega) zhA _
  have bhC : Bys w3.drew (.slice (some ⟨gc_, 0, none⟩) sec.length (sec.length + 80)) sec := Bys.of_prefix (keep hbd rC) (by omega) zhC _
  have bhI : Bys w3.drew (.slice (some ⟨gi_, 0, none⟩) info.length (info.length + 80)) info := Bys.of_prefix (keep hbd rI) (by omega) zhI _
  have cX := ad_yes salt sec info n w3.drew _ _ _ ((hS.below hw).below hbd) ((hK.below hw).below hbd) bhA (fun a l c h => by cases h; omega) (by omega) bhC (fun a l c h => by cases h; omega) (by omega) bhI (fun a l c h => by cases h; omega) (by omega) hn
  refine wp_region_noPanic ?_
  refine wp_region_any (by kernel_rfl) ?_
  change wpAny _ _ _ _ _ _ _ (World.drew _)
  refine wpAny_take (i := 0) (v := ?v1) rfl (by kernel_rfl) (by kernel_rfl) (by kernel_rfl) (fun _ _ _ h => h) (Or.inl ⟨by rfl, ?y1⟩) ?r1
  case y1 =>
    intro w_
    go_simp
    try with_reducible rfl
  simp only [Act.put, List.getElem_toArray, List.getElem_cons_zero, List.setIfInBounds_toArray, List.set_cons_succ, List.set_cons_zero]
  refine wpAny_take (i := 1) (v := ?v2) rfl (by kernel_rfl) (by kernel_rfl) (by kernel_rfl) (fun _ _ _ h => h) (Or.inl ⟨by rfl, ?y2⟩) ?r2
  case y2 =>
    intro w_
    go_simp
    try with_reducible rfl
  simp only [Act.put, List.getElem_toArray, List.getElem_cons_succ, List.getElem_cons_zero, List.setIfInBounds_toArray, List.set_cons_succ, List.set_cons_zero]
  refine wpAny_take (i := 2) (v := ?v3) rfl (by kernel_rfl) (by kernel_rfl) (by kernel_rfl) (fun _ _ _ h => h) (Or.inl ⟨by rfl, ?y3⟩) ?r3
  case y3 =>
    intro w_
    go_simp
    try with_reducible rfl
  simp only [Act.put, List.getElem_toArray, List.getElem_cons_succ, List.getElem_cons_zero, List.setIfInBounds_toArray, List.set_cons_succ, List.set_cons_zero]
  refine wpAny_take (i := 3) (v := ?v4) rfl (by kernel_rfl) (by kernel_rfl) (by kernel_rfl) (fun _ _ _ h => h) (Or.inl ⟨by rfl, ?y4⟩) ?r4
  case y4 =>
    intro w_
    go_simp
    try with_reducible rfl
  simp only [Act.put, List.getElem_toArray, List.getElem_cons_succ, List.getElem_cons_zero, List.setIfInBounds_toArray, List.set_cons_succ, List.set_cons_zero]
  refine wpAny_take (i := 4) (v := ?v5) rfl (by kernel_rfl) (by kernel_rfl) (by kernel_rfl) (fun _ _ _ h => h) (Or.inl ⟨by rfl, ?y5⟩) ?r5
  case y5 =>
    intro w_
    go_simp
    try with_reducible rfl
  simp only [Act.put, List.getElem_toArray, List.getElem_cons_succ, List.getElem_cons_zero, List.setIfInBounds_toArray, List.set_cons_succ, List.set_cons_zero]
  refine wpAny_take (i := 5) (v := ?v6) rfl (by kernel_rfl) (by kernel_rfl) (by kernel_rfl) (fun _ _ _ h => h) (Or.inl ⟨by rfl, ?y6⟩) ?r6
  case y6 =>
    intro w_
    go_simp
    try with_reducible rfl
  simp only [Act.put, List.getElem_toArray, List.getElem_cons_succ, List.getElem_cons_zero, List.setIfInBounds_toArray, List.set_cons_succ, List.set_cons_zero]
  refine wpAny_take (i := 6) (v := ?v7) rfl (by kernel_rfl) (by kernel_rfl) (by kernel_rfl) (fun _ _ _ h => h) (Or.inl ⟨by rfl, ?y7⟩) ?r7
  case y7 =>
    intro w_
    go_simp
    try with_reducible rfl
  simp only [Act.put, List.getElem_toArray, List.getElem_cons_succ, List.getElem_cons_zero, List.setIfInBounds_toArray, List.set_cons_succ, List.set_cons_zero]
  refine wpAny_take (i := 7) (v := ?v8) rfl (by kernel_rfl) (by kernel_rfl) (by kernel_rfl) (fun _ _ _ h => h) (Or.inl ⟨by rfl, ?y8⟩) ?r8
  case y8 =>
    intro w_
    go_simp
    try with_reducible rfl
  simp only [Act.put, List.getElem_toArray, List.getElem_cons_succ, List.getElem_cons_zero, List.setIfInBounds_toArray, List.set_cons_succ, List.set_cons_zero]
  refine wpAny_take (i := 8) (v := ?v9) rfl (by kernel_rfl) (by kernel_rfl) (by kernel_rfl) (fun _ _ _ h => h) (Or.inl ⟨by rfl, ?y9⟩) ?r9
  case y9 =>
    intro w_
    go_simp
    try with_reducible rfl
  simp only [Act.put, List.getElem_toArray, List.getElem_cons_succ, List.getElem_cons_zero, List.setIfInBounds_toArray, List.set_cons_succ, List.set_cons_zero]
  refine wpAny_take (i := 9) (v := ?v10) rfl (by kernel_rfl) (by kernel_rfl) (by kernel_rfl) (fun _ _ _ h => h) (Or.inl ⟨by rfl, ?y10⟩) ?r10
  case y10 =>
    intro w_
    go_simp
    try with_reducible rfl
  simp only [Act.put, List.getElem_toArray, List.getElem_cons_succ, List.getElem_cons_zero, List.setIfInBounds_toArray, List.set_cons_succ, List.set_cons_zero]
  refine wpAny_take (i := 10) (v := ?v11) rfl (by kernel_rfl) (by kernel_rfl) (by kernel_rfl) (fun _ _ _ h => h) (Or.inl ⟨by rfl, ?y11⟩) ?r11
  case y11 =>
    intro w_
    go_simp
    try with_reducible rfl
  simp only [Act.put, List.getElem_toArray, List.getElem_cons_succ, List.getElem_cons_zero, List.setIfInBounds_toArray, List.set_cons_succ, List.set_cons_zero]
  refine wpAny_take (i := 11) (v := ?v12) rfl (by kernel_rfl) (by kernel_rfl) (by kernel_rfl) (fun _ _ _ h => h) (Or.inl ⟨by rfl, ?y12⟩) ?r12
  case y12 =>
    intro w_
    go_simp
    try with_reducible rfl
  simp only [Act.put, List.getElem_toArray, List.getElem_cons_succ, List.getElem_cons_zero, List.setIfInBounds_toArray, List.set_cons_succ, List.set_cons_zero]
  refine wpAny_take (i := 12) (v := ?v13) rfl (by kernel_rfl) (by kernel_rfl) (by kernel_rfl) (fun _ _ _ h => h) (Or.inl ⟨by rfl, ?y13⟩) ?r13
  case y13 =>
    intro w_
    go_simp
    try with_reducible rfl
  simp only [Act.put, List.getElem_toArray, List.getElem_cons_succ, List.getElem_cons_zero, List.setIfInBounds_toArray, List.set_cons_succ, List.set_cons_zero]
  refine wpAny_ready (rs := [13]) (fuel := 5) (by kernel_rfl) (by simp) (AllReady.cons rfl (fun K' hK => ?_) AllReady.nil)
  rw [if_pos (by kernel_rfl)]
  simp only [List.getElem_toArray, List.getElem_cons_succ, List.getElem_cons_zero]
  refine wp_call_ex (f := 28) (by kernel_rfl) (cX) (fun v_ w4 hX => hK _ _ ?_)
  simp only [Act.put, List.setIfInBounds_toArray, List.set_cons_succ, List.set_cons_zero]
  clear hK
  obtain ⟨ga, rfl, lga, ra, hb⟩ := hX
  refine wpAny_take (i := 14) (v := ?v14) rfl (by kernel_rfl) (by kernel_rfl) (by kernel_rfl) (fun _ _ _ h => h) (Or.inl ⟨by rfl, ?y14⟩) ?r14
  case y14 =>
    intro w_
    go_simp
    try with_reducible rfl
  simp only [Act.put, List.getElem_toArray, List.getElem_cons_succ, List.getElem_cons_zero, List.setIfInBounds_toArray, List.set_cons_succ, List.set_cons_zero]
  refine wpAny_take (i := 15) (v := ?v15) rfl (by kernel_rfl) (by kernel_rfl) (by kernel_rfl) (fun _ _ _ h => h) (Or.inl ⟨by rfl, ?y15⟩) ?r15
  case y15 =>
    intro w_
    go_simp
    try with_reducible rfl
  simp only [Act.put, List.getElem_toArray, List.getElem_cons_succ, List.getElem_cons_zero, List.setIfInBounds_toArray, List.set_cons_succ, List.set_cons_zero]
  refine wpAny_take (i := 16) (v := ?v16) rfl (by kernel_rfl) (by kernel_rfl) (by kernel_rfl) (fun _ _ _ h => h) (Or.inl ⟨by rfl, ?y16⟩) ?r16
  case y16 =>
    intro w_
    go_simp
    try with_reducible rfl
  simp only [Act.put, List.getElem_toArray, List.getElem_cons_succ, List.getElem_cons_zero, List.setIfInBounds_toArray, List.set_cons_succ, List.set_cons_zero]
  refine wpAny_take (i := 17) (v := ?v17) rfl (by kernel_rfl) (by kernel_rfl) (by kernel_rfl) (fun _ _ _ h => h) (Or.inl ⟨by rfl, ?y17⟩) ?r17
  case y17 =>
    intro w_
    go_simp
    try with_reducible rfl
  simp only [Act.put, List.getElem_toArray, List.getElem_cons_succ, List.getElem_cons_zero, List.setIfInBounds_toArray, List.set_cons_succ, List.set_cons_zero]
  refine wpAny_take (i := 18) (v := ?v18) rfl (by kernel_rfl) (by kernel_rfl) (by kernel_rfl) (fun _ _ _ h => h) (Or.inl ⟨by rfl, ?y18⟩) ?r18
  case y18 =>
    intro w_
    go_simp
    try with_reducible rfl
  simp only [Act.put, List.getElem_toArray, List.getElem_cons_succ, List.getElem_cons_zero, List.setIfInBounds_toArray, List.set_cons_succ, List.set_cons_zero]
  refine wpAny_done (by kernel_rfl) ?_ _
  refine NoPanic.normal ?_
  replace hb : Below w3.heap.size w3 w4 := Below.after hbd hb
  replace lga : w3.heap.size ≤ ga := lga
  clear hbd cX bhA bhC bhI
  have s34 := hb.size
  replace rA := keep hb rA
  replace rC := keep hb rC
  replace rI := keep hb rI
  replace hw := Below.after hw hb
  clear hb
  have la := lt_of_row ra
  go_wp2_with (fail)
  have hbd : Below w4.heap.size w4 w4.drew := below_drN (Below.refl _ _) 1
  have bhA : Bys w4.drew (.slice (some ⟨ga_, 0, none⟩) salt.length (salt.length + 80)) salt := Bys.of_prefix (keep hbd rA) (by omega) zhA _
  have bhC : Bys w4.drew (.slice (some ⟨gc_, 0, none⟩) sec.length (sec.length + 80)) sec := Bys.of_prefix (keep hbd rC) (by omega) zhC _
  have bhI : Bys w4.drew (.slice (some ⟨gi_, 0, none⟩) info.length (info.length + 80)) info := Bys.of_prefix (keep hbd rI) (by omega) zhI _
  have cX := ad_yes salt sec info n w4.drew _ _ _ ((hS.below hw).below hbd) ((hK.below hw).below hbd) bhA (fun a l c h => by cases h; omega) (by omega) bhC (fun a l c h => by cases h; omega) (by omega) bhI (fun a l c h => by cases h; omega) (by omega) hn
  refine wp_region_noPanic ?_
  refine wp_region_any (by kernel_rfl) ?_
  change wpAny _ _ _ _ _ _ _ (World.drew _)
  refine wpAny_take (i := 0) (v := ?v19) rfl (by kernel_rfl) (by kernel_rfl) (by kernel_rfl) (fun _ _ _ h => h) (Or.inl ⟨by rfl, ?y19⟩) ?r19
  case y19 =>
    intro w_
    go_simp
    try with_reducible rfl
  simp only [Act.put, List.getElem_toArray, List.getElem_cons_zero, List.setIfInBounds_toArray, List.set_cons_succ, List.set_cons_zero]
  refine wpAny_take (i := 1) (v := ?v20) rfl (by kernel_rfl) (by kernel_rfl) (by kernel_rfl) (fun _ _ _ h => h) (Or.inl ⟨by rfl, ?y20⟩) ?r20
  case y20 =>
    intro w_
    go_simp
    try with_reducible rfl
  simp only [Act.put, List.getElem_toArray, List.getElem_cons_succ, List.getElem_cons_zero, List.setIfInBounds_toArray, List.set_cons_succ, List.set_cons_zero]
  refine wpAny_take (i := 2) (v := ?v21) rfl (by kernel_rfl) (by kernel_rfl) (by kernel_rfl) (fun _ _ _ h => h) (Or.inl ⟨by rfl, ?y21⟩) ?r21
  case y21 =>
    intro w_
    go_simp
    try with_reducible rfl
  simp only [Act.put, List.getElem_toArray, List.getElem_cons_succ, List.getElem_cons_zero, List.setIfInBounds_toArray, List.set_cons_succ, List.set_cons_zero]
  refine wpAny_take (i := 3) (v := ?v22) rfl (by kernel_rfl) (by kernel_rfl) (by kernel_rfl) (fun _ _ _ h => h) (Or.inl ⟨by rfl, ?y22⟩) ?r22
  case y22 =>
    intro w_
    go_simp
    try with_reducible rfl
  simp only [Act.put, List.getElem_toArray, List.getElem_cons_succ, List.getElem_cons_zero, List.setIfInBounds_toArray, List.set_cons_succ, List.set_cons_zero]
  refine wpAny_take (i := 4) (v := ?v23) rfl (by kernel_rfl) (by kernel_rfl) (by kernel_rfl) (fun _ _ _ h => h) (Or.inl ⟨by rfl, ?y23⟩) ?r23
  case y23 =>
    intro w_
    go_simp
    try with_reducible rfl
  simp only [Act.put, List.getElem_toArray, List.getElem_cons_succ, List.getElem_cons_zero, List.setIfInBounds_toArray, List.set_cons_succ, List.set_cons_zero]
  refine wpAny_take (i := 5) (v := ?v24) rfl (by kernel_rfl) (by kernel_rfl) (by kernel_rfl) (fun _ _ _ h => h) (Or.inl ⟨by rfl, ?y24⟩) ?r24
  case y24 =>
    intro w_
    go_simp
    try with_reducible rfl
  simp only [Act.put, List.getElem_toArray, List.getElem_cons_succ, List.getElem_cons_zero, List.setIfInBounds_toArray, List.set_cons_succ, List.set_cons_zero]
  refine wpAny_take (i := 6) (v := ?v25) rfl (by kernel_rfl) (by kernel_rfl) (by kernel_rfl) (fun _ _ _ h => h) (Or.inl ⟨by rfl, ?y25⟩) ?r25
  case y25 =>
    intro w_
    go_simp
    try with_reducible rfl
  simp only [Act.put, List.getElem_toArray, List.getElem_cons_succ, List.getElem_cons_zero, List.setIfInBounds_toArray, List.set_cons_succ, List.set_cons_zero]
  refine wpAny_take (i := 7) (v := ?v26) rfl (by kernel_rfl) (by kernel_rfl) (by kernel_rfl) (fun _ _ _ h => h) (Or.inl ⟨by rfl, ?y26⟩) ?r26
  case y26 =>
    intro w_
    go_simp
    try with_reducible rfl
  simp only [Act.put, List.getElem_toArray, List.getElem_cons_succ, List.getElem_cons_zero, List.setIfInBounds_toArray, List.set_cons_succ, List.set_cons_zero]
  refine wpAny_take (i := 8) (v := ?v27) rfl (by kernel_rfl) (by kernel_rfl) (by kernel_rfl) (fun _ _ _ h => h) (Or.inl ⟨by rfl, ?y27⟩) ?r27
  case y27 =>
    intro w_
    go_simp
    try with_reducible rfl
  simp only [Act.put, List.getElem_toArray, List.getElem_cons_succ, List.getElem_cons_zero, List.setIfInBounds_toArray, List.set_cons_succ, List.set_cons_zero]
  refine wpAny_take (i := 9) (v := ?v28) rfl (by kernel_rfl) (by kernel_rfl) (by kernel_rfl) (fun _ _ _ h => h) (Or.inl ⟨by rfl, ?y28⟩) ?r28
  case y28 =>
    intro w_
    go_simp
    try with_reducible rfl
  simp only [Act.put, List.getElem_toArray, List.getElem_cons_succ, List.getElem_cons_zero, List.setIfInBounds_toArray, List.set_cons_succ, List.set_cons_zero]
  refine wpAny_take (i := 10) (v := ?v29) rfl (by kernel_rfl) (by kernel_rfl) (by kernel_rfl) (fun _ _ _ h => h) (Or.inl ⟨by rfl, ?y29⟩) ?r29
  case y29 =>
    intro w_
    go_simp
    try with_reducible rfl
  simp only [Act.put, List.getElem_toArray, List.getElem_cons_succ, List.getElem_cons_zero, List.setIfInBounds_toArray, List.set_cons_succ, List.set_cons_zero]
  refine wpAny_take (i := 11) (v := ?v30) rfl (by kernel_rfl) (by kernel_rfl) (by kernel_rfl) (fun _ _ _ h => h) (Or.inl ⟨by rfl, ?y30⟩) ?r30
  case y30 =>
    intro w_
    go_simp
    try with_reducible rfl
  simp only [Act.put, List.getElem_toArray, List.getElem_cons_succ, List.getElem_cons_zero, List.setIfInBounds_toArray, List.set_cons_succ, List.set_cons_zero]
  refine wpAny_take (i := 12) (v := ?v31) rfl (by kernel_rfl) (by kernel_rfl) (by kernel_rfl) (fun _ _ _ h => h) (Or.inl ⟨by rfl, ?y31⟩) ?r31
  case y31 =>
    intro w_
    go_simp
    try with_reducible rfl
  simp only [Act.put, List.getElem_toArray, List.getElem_cons_succ, List.getElem_cons_zero, List.setIfInBounds_toArray, List.set_cons_succ, List.set_cons_zero]
  refine wpAny_ready (rs := [13]) (fuel := 5) (by kernel_rfl) (by simp) (AllReady.cons rfl (fun K' hK => ?_) AllReady.nil)
  rw [if_pos (by kernel_rfl)]
  simp only [List.getElem_toArray, List.getElem_cons_succ, List.getElem_cons_zero]
  refine wp_call_ex (f := 28) (by kernel_rfl) (cX) (fun v_ w5 hX => hK _ _ ?_)
  simp only [Act.put, List.setIfInBounds_toArray, List.set_cons_succ, List.set_cons_zero]
  clear hK
  obtain ⟨gb, rfl, lgb, rb, hb⟩ := hX
  refine wpAny_take (i := 14) (v := ?v32) rfl (by kernel_rfl) (by kernel_rfl) (by kernel_rfl) (fun _ _ _ h => h) (Or.inl ⟨by rfl, ?y32⟩) ?r32
  case y32 =>
    intro w_
    go_simp
    try with_reducible rfl
  simp only [Act.put, List.getElem_toArray, List.getElem_cons_succ, List.getElem_cons_zero, List.setIfInBounds_toArray, List.set_cons_succ, List.set_cons_zero]
  refine wpAny_take (i := 15) (v := ?v33) rfl (by kernel_rfl) (by kernel_rfl) (by kernel_rfl) (fun _ _ _ h => h) (Or.inl ⟨by rfl, ?y33⟩) ?r33
  case y33 =>
    intro w_
    go_simp
    try with_reducible rfl
  simp only [Act.put, List.getElem_toArray, List.getElem_cons_succ, List.getElem_cons_zero, List.setIfInBounds_toArray, List.set_cons_succ, List.set_cons_zero]
  refine wpAny_take (i := 16) (v := ?v34) rfl (by kernel_rfl) (by kernel_rfl) (by kernel_rfl) (fun _ _ _ h => h) (Or.inl ⟨by rfl, ?y34⟩) ?r34
  case y34 =>
    intro w_
    go_simp
    try with_reducible rfl
  simp only [Act.put, List.getElem_toArray, List.getElem_cons_succ, List.getElem_cons_zero, List.setIfInBounds_toArray, List.set_cons_succ, List.set_cons_zero]
  refine wpAny_take (i := 17) (v := ?v35) rfl (by kernel_rfl) (by kernel_rfl) (by kernel_rfl) (fun _ _ _ h => h) (Or.inl ⟨by rfl, ?y35⟩) ?r35
  case y35 =>
    intro w_
    go_simp
    try with_reducible rfl
  simp only [Act.put, List.getElem_toArray, List.getElem_cons_succ, List.getElem_cons_zero, List.setIfInBounds_toArray, List.set_cons_succ, List.set_cons_zero]
  refine wpAny_take (i := 18) (v := ?v36) rfl (by kernel_rfl) (by kernel_rfl) (by kernel_rfl) (fun _ _ _ h => h) (Or.inl ⟨by rfl, ?y36⟩) ?r36
  case y36 =>
    intro w_
    go_simp
    try with_reducible rfl
  simp only [Act.put, List.getElem_toArray, List.getElem_cons_succ, List.getElem_cons_zero, List.setIfInBounds_toArray, List.set_cons_succ, List.set_cons_zero]
  refine wpAny_done (by kernel_rfl) ?_ _
  refine NoPanic.normal ?_
  replace hb : Below w4.heap.size w4 w5 := Below.after hbd hb
  replace lgb : w4.heap.size ≤ gb := lgb
  clear hbd cX bhA bhC bhI
  have s45 := hb.size
  replace rA := keep hb rA
  replace rC := keep hb rC
  replace rI := keep hb rI
  replace ra := keep hb ra
  replace hw := Below.after hw hb
  clear hb
  have lb := lt_of_row rb
  go_wp2_with (fail)
  refine (rd_yes salt sec info n w5 _ _ _ (hA.keep hw) (hC.keep hw) (by omega) (hI.keep hw) (by omega) hn).mono ?_
  rintro e_ w6 ⟨x, rfl, hx, hb⟩
  have s56 := hb.size
  replace rA := keep hb rA
  replace rC := keep hb rC
  replace rI := keep hb rI
  replace ra := keep hb ra
  replace rb := keep hb rb
  replace hw := Below.after hw hb
  clear hb
  go_wp2_with (fail)
  refine (l_same_eq (xpd (hm salt sec) info n) w6 _ _ (Bys.of_rowN ra (by rw [xpd_len]; omega) (xpd_bd _ _ _) (xpd_len _ _ _)) hx.1).mono ?_
  rintro e_ w7 ⟨rfl, hb⟩
  have s67 := hb.size
  replace rA := keep hb rA
  replace rC := keep hb rC
  replace rI := keep hb rI
  replace ra := keep hb ra
  replace rb := keep hb rb
  replace hx := hx.keep hb
  replace hw := Below.after hw hb
  clear hb
  go_wp2_with (fail)
  refine (l_same_eq (xpd (hm salt sec) info n) w7 _ _ (Bys.of_rowN rb (by rw [xpd_len]; omega) (xpd_bd _ _ _) (xpd_len _ _ _)) hx.1).mono ?_
  rintro e_ wa ⟨rfl, hb⟩
  have s78 := hb.size
  replace rA := keep hb rA
  replace rC := keep hb rC
  replace rI := keep hb rI
  replace ra := keep hb ra
  replace rb := keep hb rb
  replace hw := Below.after hw hb
  clear hb hx
  go_wp2_with (fail)
  have hba : Below wa.heap.size wa (wa.alloc (.cells #[.slice (some ⟨ga, 0, none⟩) n n, .slice (some ⟨gb, 0, none⟩) n n] 22)) := (Below.refl _ _).alloc (Nat.le_refl _) _
  have rgl := hp1_0 wa (.cells #[.slice (some ⟨ga, 0, none⟩) n n, .slice (some ⟨gb, 0, none⟩) n n] 22)
  have hT : AptR (wa.alloc (.cells #[.slice (some ⟨ga, 0, none⟩) n n, .slice (some ⟨gb, 0, none⟩) n n] 22)) [(some ga, n), (some gb, n)] fun _ _ => True := aptT_some (keep hba ra) (xpd_len _ _ _) (aptT_some (keep hba rb) (xpd_len _ _ _) (aptT_nil _))
  have hD : AptD [(some ga, n), (some gb, n)] := by
    intro i j g m n hi hj
    rcases i with _ | _ | i <;> rcases j with _ | _ | j <;> simp at hi hj <;> omega
  have hlo : ∀ (i : Nat) g m, ([(some ga, n), (some gb, n)] : List (Option Nat × Nat))[i]? = some (some g, m) → w3.heap.size ≤ g ∧ g ≠ wa.heap.size ∧ m ≤ 140737488350000 := by
    intro i g m hi
    have lwb := lt_of_row rb
    have lwc := lt_of_row ra
    rcases i with _ | _ | i <;> simp at hi <;> omega
  have s1a : w3.heap.size ≤ wa.heap.size := by omega
  replace rA := keep hba rA
  replace rC := keep hba rC
  replace rI := keep hba rI
  replace hw := Below.after hw hba
  refine (l_apart [(some ga, n), (some gb, n)] wa.heap.size w3.heap.size _ (by rw [size_alloc1]; omega) (by simp) rgl hT hD hlo).mono ?_
  rintro e_ wb ⟨rfl, hb⟩
  replace rA : wb.heap[ga_]? = some (.cells (irow .u8 (salt ++ mk4 80)) 5 (0, 0)) := (hb.block _ (by omega)).trans rA
  replace rC : wb.heap[gc_]? = some (.cells (irow .u8 (sec ++ mk4 80)) 5 (0, 0)) := (hb.block _ (by omega)).trans rC
  replace rI : wb.heap[gi_]? = some (.cells (irow .u8 (info ++ mk4 80)) 5 (0, 0)) := (hb.block _ (by omega)).trans rI
  replace hw := hw.trans (hb.mono (show w.heap.size ≤ w3.heap.size by omega))
  clear hb hba rgl hT hD hlo ra rb
  go_wp2_with (fail)
  refine (l_left salt ga_ wb _ (hA.1.keep hw) (by omega) rA).mono ?_
  rintro e_ wc ⟨rfl, hb⟩
  replace rC := keep hb rC
  replace rI := keep hb rI
  replace hw := Below.after hw hb
  clear hb
  go_wp2_with (fail)
  refine (l_left sec gc_ wc _ (hC.1.keep hw) (by omega) rC).mono ?_
  rintro e_ wd ⟨rfl, hb⟩
  replace rI := keep hb rI
  replace hw := Below.after hw hb
  clear hb
  go_wp2_with (fail)
  refine (l_left info gi_ wd _ (hI.1.keep hw) (by omega) rI).mono ?_
  rintro e_ we ⟨rfl, hb⟩
  replace hw := Below.after hw hb
  clear hb
  go_wp2
  go_ret
  exact ⟨rfl, hw⟩
set_option maxRecDepth 100000 in
set_option maxHeartbeats 4000000 in
theorem macDerives_B (salt sec info : List Int) (n : Int) (w : World) (vs vc vi : Value) (hS : Sta w) (hK : Kon w) (hA : BysN w vs salt) (hC : BysN w vc sec) (hI : BysN w vi info) (hn : n < 0 ∨ 8160 < n) : Calls Tryd.prog 7 #[vs, vc, vi, .int .i64 n] w fun e w' => e = .returned (.bool true) ∧ Below w.heap.size w w' := by
  have zhA := bys_bd hA.1
  have lhA : salt.length ≤ 140737488351232 := hA.2.1
  replace hA := hA.toM
  have shA : ∀ g W, _ := fun g W => slice_to (some ⟨g, 0, none⟩) (salt.length + 80) (salt.length + 80) salt.length (by omega) W
  have zhC := bys_bd hC.1
  have lhC : sec.length ≤ 140737488351232 := hC.2.1
  replace hC := hC.toM
  have shC : ∀ g W, _ := fun g W => slice_to (some ⟨g, 0, none⟩) (sec.length + 80) (sec.length + 80) sec.length (by omega) W
  have zhI := bys_bd hI.1
  have lhI : info.length ≤ 140737488351232 := hI.2.1
  replace hI := hI.toM
  have shI : ∀ g W, _ := fun g W => slice_to (some ⟨g, 0, none⟩) (info.length + 80) (info.length + 80) info.length (by omega) W
  obtain ⟨us, usc, rfl, _⟩ := id hA.1
  obtain ⟨uc, ucc, rfl, _⟩ := id hC.1
  obtain ⟨ui, uic, rfl, _⟩ := id hI.1
  generalize hq : (if n < 0 then (1 : Int) else 2) = q
  have hw := Below.refl w.heap.size w
  go_enter Tryd.func7, Tryd.ntmps7
  go_wp2_with (fail)
  refine (l_hand salt w _ (hA.1.keep hw) (by omega)).mono ?_
  rintro e_ w1 ⟨rfl, rA, hb⟩
  have s0 := hb.size
  replace hw := Below.after hw hb
  clear hb
  generalize ega_ : w.heap.size = ga_ at rA ⊢
  have ltga_ := lt_of_row rA
  go_wp2_with (fail)
  refine (l_hand sec w1 _ (hC.1.keep hw) (by omega)).mono ?_
  rintro e_ w2 ⟨rfl, rC, hb⟩
  have s1 := hb.size
  replace rA := keep hb rA
  replace hw := Below.after hw hb
  clear hb
  generalize egc_ : w1.heap.size = gc_ at rC ⊢
  have ltgc_ := lt_of_row rC
  go_wp2_with (fail)
  refine (l_hand info w2 _ (hI.1.keep hw) (by omega)).mono ?_
  rintro e_ w3 ⟨rfl, rI, hb⟩
  have s2 := hb.size
  replace rA := keep hb rA
  replace rC := keep hb rC
  replace hw := Below.after hw hb
  clear hb
  generalize egi_ : w2.heap.size = gi_ at rI ⊢
  have ltgi_ := lt_of_row rI
  go_wp2_with (fail)
  have hbd : Below w3.heap.size w3 w3.drew := below_drN (Below.refl _ _) 1
  have bhA : Bys w3.drew (.slice (some ⟨ga_, 0, none⟩) salt.length (salt.length + 80)) salt := Bys.of_prefix (keep hbd rA) (by omega) zhA _
  have bhC : Bys w3.drew (.slice (some ⟨gc_, 0, none⟩) sec.length (sec.length + 80)) sec := Bys.of_prefix (keep hbd rC) (by omega) zhC _
  have bhI : Bys w3.drew (.slice (some ⟨gi_, 0, none⟩) info.length (info.length + 80)) info := Bys.of_prefix (keep hbd rI) (by omega) zhI _
  have cX := ad_no salt sec info n w3.drew _ _ _ ((hS.below hw).below hbd) ((hK.below hw).below hbd) bhA (fun a l c h => by cases h; omega) (by omega) bhC (fun a l c h => by cases h; omega) (by omega) bhI (fun a l c h => by cases h; omega) (by omega) hn
  rw [hq] at cX
  refine wp_region_noPanic ?_
  refine wp_region_any (by kernel_rfl) ?_
  change wpAny _ _ _ _ _ _ _ (World.drew _)
  refine wpAny_take (i := 0) (v := ?v37) rfl (by kernel_rfl) (by kernel_rfl) (by kernel_rfl) (fun _ _ _ h => h) (Or.inl ⟨by rfl, ?y37⟩) ?r37
  case y37 =>
    intro w_
    go_simp
    try with_reducible rfl
  simp only [Act.put, List.getElem_toArray, List.getElem_cons_zero, List.setIfInBounds_toArray, List.set_cons_succ, List.set_cons_zero]
  refine wpAny_take (i := 1) (v := ?v38) rfl (by kernel_rfl) (by kernel_rfl) (by kernel_rfl) (fun _ _ _ h => h) (Or.inl ⟨by rfl, ?y38⟩) ?r38
  case y38 =>
    intro w_
    go_simp
    try with_reducible rfl
  simp only [Act.put, List.getElem_toArray, List.getElem_cons_succ, List.getElem_cons_zero, List.setIfInBounds_toArray, List.set_cons_succ, List.set_cons_zero]
  refine wpAny_take (i := 2) (v := ?v39) rfl (by kernel_rfl) (by kernel_rfl) (by kernel_rfl) (fun _ _ _ h => h) (Or.inl ⟨by rfl, ?y39⟩) ?r39
  case y39 =>
    intro w_
    go_simp
    try with_reducible rfl
  simp only [Act.put, List.getElem_toArray, List.getElem_cons_succ, List.getElem_cons_zero, List.setIfInBounds_toArray, List.set_cons_succ, List.set_cons_zero]
  refine wpAny_take (i := 3) (v := ?v40) rfl (by kernel_rfl) (by kernel_rfl) (by kernel_rfl) (fun _ _ _ h => h) (Or.inl ⟨by rfl, ?y40⟩) ?r40
  case y40 =>
    intro w_
    go_simp
    try with_reducible rfl
  simp only [Act.put, List.getElem_toArray, List.getElem_cons_succ, List.getElem_cons_zero, List.setIfInBounds_toArray, List.set_cons_succ, List.set_cons_zero]
  refine wpAny_take (i := 4) (v := ?v41) rfl (by kernel_rfl) (by kernel_rfl) (by kernel_rfl) (fun _ _ _ h => h) (Or.inl ⟨by rfl, ?y41⟩) ?r41
  case y41 =>
    intro w_
    go_simp
    try with_reducible rfl
  simp only [Act.put, List.getElem_toArray, List.getElem_cons_succ, List.getElem_cons_zero, List.setIfInBounds_toArray, List.set_cons_succ, List.set_cons_zero]
  refine wpAny_take (i := 5) (v := ?v42) rfl (by kernel_rfl) (by kernel_rfl) (by kernel_rfl) (fun _ _ _ h => h) (Or.inl ⟨by rfl, ?y42⟩) ?r42
  case y42 =>
    intro w_
    go_simp
    try with_reducible rfl
  simp only [Act.put, List.getElem_toArray, List.getElem_cons_succ, List.getElem_cons_zero, List.setIfInBounds_toArray, List.set_cons_succ, List.set_cons_zero]
  refine wpAny_take (i := 6) (v := ?v43) rfl (by kernel_rfl) (by kernel_rfl) (by kernel_rfl) (fun _ _ _ h => h) (Or.inl ⟨by rfl, ?y43⟩) ?r43
  case y43 =>
    intro w_
    go_simp
    try with_reducible rfl
  simp only [Act.put, List.getElem_toArray, List.getElem_cons_succ, List.getElem_cons_zero, List.setIfInBounds_toArray, List.set_cons_succ, List.set_cons_zero]
  refine wpAny_take (i := 7) (v := ?v44) rfl (by kernel_rfl) (by kernel_rfl) (by kernel_rfl) (fun _ _ _ h => h) (Or.inl ⟨by rfl, ?y44⟩) ?r44
  case y44 =>
    intro w_
    go_simp
    try with_reducible rfl
  simp only [Act.put, List.getElem_toArray, List.getElem_cons_succ, List.getElem_cons_zero, List.setIfInBounds_toArray, List.set_cons_succ, List.set_cons_zero]
  refine wpAny_take (i := 8) (v := ?v45) rfl (by kernel_rfl) (by kernel_rfl) (by kernel_rfl) (fun _ _ _ h => h) (Or.inl ⟨by rfl, ?y45⟩) ?r45
  case y45 =>
    intro w_
    go_simp
    try with_reducible rfl
  simp only [Act.put, List.getElem_toArray, List.getElem_cons_succ, List.getElem_cons_zero, List.setIfInBounds_toArray, List.set_cons_succ, List.set_cons_zero]
  refine wpAny_take (i := 9) (v := ?v46) rfl (by kernel_rfl) (by kernel_rfl) (by kernel_rfl) (fun _ _ _ h => h) (Or.inl ⟨by rfl, ?y46⟩) ?r46
  case y46 =>
    intro w_
    go_simp
    try with_reducible rfl
  simp only [Act.put, List.getElem_toArray, List.getElem_cons_succ, List.getElem_cons_zero, List.setIfInBounds_toArray, List.set_cons_succ, List.set_cons_zero]
  refine wpAny_take (i := 10) (v := ?v47) rfl (by kernel_rfl) (by kernel_rfl) (by kernel_rfl) (fun _ _ _ h => h) (Or.inl ⟨by rfl, ?y47⟩) ?r47
  case y47 =>
    intro w_
    go_simp
    try with_reducible rfl
  simp only [Act.put, List.getElem_toArray, List.getElem_cons_succ, List.getElem_cons_zero, List.setIfInBounds_toArray, List.set_cons_succ, List.set_cons_zero]
  refine wpAny_take (i := 11) (v := ?v48) rfl (by kernel_rfl) (by kernel_rfl) (by kernel_rfl) (fun _ _ _ h => h) (Or.inl ⟨by rfl, ?y48⟩) ?r48
  case y48 =>
    intro w_
    go_simp
    try with_reducible rfl
  simp only [Act.put, List.getElem_toArray, List.getElem_cons_succ, List.getElem_cons_zero, List.setIfInBounds_toArray, List.set_cons_succ, List.set_cons_zero]
  refine wpAny_take (i := 12) (v := ?v49) rfl (by kernel_rfl) (by kernel_rfl) (by kernel_rfl) (fun _ _ _ h => h) (Or.inl ⟨by rfl, ?y49⟩) ?r49
  case y49 =>
    intro w_
    go_simp
    try with_reducible rfl
  simp only [Act.put, List.getElem_toArray, List.getElem_cons_succ, List.getElem_cons_zero, List.setIfInBounds_toArray, List.set_cons_succ, List.set_cons_zero]
  refine wpAny_ready (rs := [13]) (fuel := 5) (by kernel_rfl) (by simp) (AllReady.cons rfl (fun K' hK => ?_) AllReady.nil)
  rw [if_pos (by kernel_rfl)]
  simp only [List.getElem_toArray, List.getElem_cons_succ, List.getElem_cons_zero]
  refine wp_call_ex (f := 28) (by kernel_rfl) (cX) (fun v_ w4 hX => hK _ _ ?_)
  simp only [Act.put, List.setIfInBounds_toArray, List.set_cons_succ, List.set_cons_zero]
  clear hK
  obtain ⟨rfl, hb⟩ := hX
  refine wpAny_take (i := 14) (v := ?v50) rfl (by kernel_rfl) (by kernel_rfl) (by kernel_rfl) (fun _ _ _ h => h) (Or.inl ⟨by rfl, ?y50⟩) ?r50
  case y50 =>
    intro w_
    go_simp
    try with_reducible rfl
  simp only [Act.put, List.getElem_toArray, List.getElem_cons_succ, List.getElem_cons_zero, List.setIfInBounds_toArray, List.set_cons_succ, List.set_cons_zero]
  refine wpAny_take (i := 15) (v := ?v51) rfl (by kernel_rfl) (by kernel_rfl) (by kernel_rfl) (fun _ _ _ h => h) (Or.inl ⟨by rfl, ?y51⟩) ?r51
  case y51 =>
    intro w_
    go_simp
    try with_reducible rfl
  simp only [Act.put, List.getElem_toArray, List.getElem_cons_succ, List.getElem_cons_zero, List.setIfInBounds_toArray, List.set_cons_succ, List.set_cons_zero]
  refine wpAny_take (i := 16) (v := ?v52) rfl (by kernel_rfl) (by kernel_rfl) (by kernel_rfl) (fun _ _ _ h => h) (Or.inl ⟨by rfl, ?y52⟩) ?r52
  case y52 =>
    intro w_
    go_simp
    try with_reducible rfl
  simp only [Act.put, List.getElem_toArray, List.getElem_cons_succ, List.getElem_cons_zero, List.setIfInBounds_toArray, List.set_cons_succ, List.set_cons_zero]
  refine wpAny_take (i := 17) (v := ?v53) rfl (by kernel_rfl) (by kernel_rfl) (by kernel_rfl) (fun _ _ _ h => h) (Or.inl ⟨by rfl, ?y53⟩) ?r53
  case y53 =>
    intro w_
    go_simp
    try with_reducible rfl
  simp only [Act.put, List.getElem_toArray, List.getElem_cons_succ, List.getElem_cons_zero, List.setIfInBounds_toArray, List.set_cons_succ, List.set_cons_zero]
  refine wpAny_take (i := 18) (v := ?v54) rfl (by kernel_rfl) (by kernel_rfl) (by kernel_rfl) (fun _ _ _ h => h) (Or.inl ⟨by rfl, ?y54⟩) ?r54
  case y54 =>
    intro w_
    go_simp
    try with_reducible rfl
  simp only [Act.put, List.getElem_toArray, List.getElem_cons_succ, List.getElem_cons_zero, List.setIfInBounds_toArray, List.set_cons_succ, List.set_cons_zero]
  refine wpAny_done (by kernel_rfl) ?_ _
  refine NoPanic.normal ?_
  replace hb : Below w3.heap.size w3 w4 := Below.after hbd hb
  skip
  clear hbd cX bhA bhC bhI
  have s34 := hb.size
  replace rA := keep hb rA
  replace rC := keep hb rC
  replace rI := keep hb rI
  replace hw := Below.after hw hb
  clear hb
  go_wp2_with (fail)
  have hbd : Below w4.heap.size w4 w4.drew := below_drN (Below.refl _ _) 1
  have bhA : Bys w4.drew (.slice (some ⟨ga_, 0, none⟩) salt.length (salt.length + 80)) salt := Bys.of_prefix (keep hbd rA) (by omega) zhA _
  have bhC : Bys w4.drew (.slice (some ⟨gc_, 0, none⟩) sec.length (sec.length + 80)) sec := Bys.of_prefix (keep hbd rC) (by omega) zhC _
  have bhI : Bys w4.drew (.slice (some ⟨gi_, 0, none⟩) info.length (info.length + 80)) info := Bys.of_prefix (keep hbd rI) (by omega) zhI _
  have cX := ad_no salt sec info n w4.drew _ _ _ ((hS.below hw).below hbd) ((hK.below hw).below hbd) bhA (fun a l c h => by cases h; omega) (by omega) bhC (fun a l c h => by cases h; omega) (by omega) bhI (fun a l c h => by cases h; omega) (by omega) hn
  rw [hq] at cX
  refine wp_region_noPanic ?_
  refine wp_region_any (by kernel_rfl) ?_
  change wpAny _ _ _ _ _ _ _ (World.drew _)
  refine wpAny_take (i := 0) (v := ?v55) rfl (by kernel_rfl) (by kernel_rfl) (by kernel_rfl) (fun _ _ _ h => h) (Or.inl ⟨by rfl, ?y55⟩) ?r55
  case y55 =>
    intro w_
    go_simp
    try with_reducible rfl
  simp only [Act.put, List.getElem_toArray, List.getElem_cons_zero, List.setIfInBounds_toArray, List.set_cons_succ, List.set_cons_zero]
  refine wpAny_take (i := 1) (v := ?v56) rfl (by kernel_rfl) (by kernel_rfl) (by kernel_rfl) (fun _ _ _ h => h) (Or.inl ⟨by rfl, ?y56⟩) ?r56
  case y56 =>
    intro w_
    go_simp
    try with_reducible rfl
  simp only [Act.put, List.getElem_toArray, List.getElem_cons_succ, List.getElem_cons_zero, List.setIfInBounds_toArray, List.set_cons_succ, List.set_cons_zero]
  refine wpAny_take (i := 2) (v := ?v57) rfl (by kernel_rfl) (by kernel_rfl) (by kernel_rfl) (fun _ _ _ h => h) (Or.inl ⟨by rfl, ?y57⟩) ?r57
  case y57 =>
    intro w_
    go_simp
    try with_reducible rfl
  simp only [Act.put, List.getElem_toArray, List.getElem_cons_succ, List.getElem_cons_zero, List.setIfInBounds_toArray, List.set_cons_succ, List.set_cons_zero]
  refine wpAny_take (i := 3) (v := ?v58) rfl (by kernel_rfl) (by kernel_rfl) (by kernel_rfl) (fun _ _ _ h => h) (Or.inl ⟨by rfl, ?y58⟩) ?r58
  case y58 =>
    intro w_
    go_simp
    try with_reducible rfl
  simp only [Act.put, List.getElem_toArray, List.getElem_cons_succ, List.getElem_cons_zero, List.setIfInBounds_toArray, List.set_cons_succ, List.set_cons_zero]
  refine wpAny_take (i := 4) (v := ?v59) rfl (by kernel_rfl) (by kernel_rfl) (by kernel_rfl) (fun _ _ _ h => h) (Or.inl ⟨by rfl, ?y59⟩) ?r59
  case y59 =>
    intro w_
    go_simp
    try with_reducible rfl
  simp only [Act.put, List.getElem_toArray, List.getElem_cons_succ, List.getElem_cons_zero, List.setIfInBounds_toArray, List.set_cons_succ, List.set_cons_zero]
  refine wpAny_take (i := 5) (v := ?v60) rfl (by kernel_rfl) (by kernel_rfl) (by kernel_rfl) (fun _ _ _ h => h) (Or.inl ⟨by rfl, ?y60⟩) ?r60
  case y60 =>
    intro w_
    go_simp
    try with_reducible rfl
  simp only [Act.put, List.getElem_toArray, List.getElem_cons_succ, List.getElem_cons_zero, List.setIfInBounds_toArray, List.set_cons_succ, List.set_cons_zero]
  refine wpAny_take (i := 6) (v := ?v61) rfl (by kernel_rfl) (by kernel_rfl) (by kernel_rfl) (fun _ _ _ h => h) (Or.inl ⟨by rfl, ?y61⟩) ?r61
  case y61 =>
    intro w_
    go_simp
    try with_reducible rfl
  simp only [Act.put, List.getElem_toArray, List.getElem_cons_succ, List.getElem_cons_zero, List.setIfInBounds_toArray, List.set_cons_succ, List.set_cons_zero]
  refine wpAny_take (i := 7) (v := ?v62) rfl (by kernel_rfl) (by kernel_rfl) (by kernel_rfl) (fun _ _ _ h => h) (Or.inl ⟨by rfl, ?y62⟩) ?r62
  case y62 =>
    intro w_
    go_simp
    try with_reducible rfl
  simp only [Act.put, List.getElem_toArray, List.getElem_cons_succ, List.getElem_cons_zero, List.setIfInBounds_toArray, List.set_cons_succ, List.set_cons_zero]
  refine wpAny_take (i := 8) (v := ?v63) rfl (by kernel_rfl) (by kernel_rfl) (by kernel_rfl) (fun _ _ _ h => h) (Or.inl ⟨by rfl, ?y63⟩) ?r63
  case y63 =>
    intro w_
    go_simp
    try with_reducible rfl
  simp only [Act.put, List.getElem_toArray, List.getElem_cons_succ, List.getElem_cons_zero, List.setIfInBounds_toArray, List.set_cons_succ, List.set_cons_zero]
  refine wpAny_take (i := 9) (v := ?v64) rfl (by kernel_rfl) (by kernel_rfl) (by kernel_rfl) (fun _ _ _ h => h) (Or.inl ⟨by rfl, ?y64⟩) ?r64
  case y64 =>
    intro w_
    go_simp
    try with_reducible rfl
  simp only [Act.put, List.getElem_toArray, List.getElem_cons_succ, List.getElem_cons_zero, List.setIfInBounds_toArray, List.set_cons_succ, List.set_cons_zero]
  refine wpAny_take (i := 10) (v := ?v65) rfl (by kernel_rfl) (by kernel_rfl) (by kernel_rfl) (fun _ _ _ h => h) (Or.inl ⟨by rfl, ?y65⟩) ?r65
  case y65 =>
    intro w_
    go_simp
    try with_reducible rfl
  simp only [Act.put, List.getElem_toArray, List.getElem_cons_succ, List.getElem_cons_zero, List.setIfInBounds_toArray, List.set_cons_succ, List.set_cons_zero]
  refine wpAny_take (i := 11) (v := ?v66) rfl (by kernel_rfl) (by kernel_rfl) (by kernel_rfl) (fun _ _ _ h => h) (Or.inl ⟨by rfl, ?y66⟩) ?r66
  case y66 =>
    intro w_
    go_simp
    try with_reducible rfl
  simp only [Act.put, List.getElem_toArray, List.getElem_cons_succ, List.getElem_cons_zero, List.setIfInBounds_toArray, List.set_cons_succ, List.set_cons_zero]
  refine wpAny_take (i := 12) (v := ?v67) rfl (by kernel_rfl) (by kernel_rfl) (by kernel_rfl) (fun _ _ _ h => h) (Or.inl ⟨by rfl, ?y67⟩) ?r67
  case y67 =>
    intro w_
    go_simp
    try with_reducible rfl
  simp only [Act.put, List.getElem_toArray, List.getElem_cons_succ, List.getElem_cons_zero, List.setIfInBounds_toArray, List.set_cons_succ, List.set_cons_zero]
  refine wpAny_ready (rs := [13]) (fuel := 5) (by kernel_rfl) (by simp) (AllReady.cons rfl (fun K' hK => ?_) AllReady.nil)
  rw [if_pos (by kernel_rfl)]
  simp only [List.getElem_toArray, List.getElem_cons_succ, List.getElem_cons_zero]
  refine wp_call_ex (f := 28) (by kernel_rfl) (cX) (fun v_ w5 hX => hK _ _ ?_)
  simp only [Act.put, List.setIfInBounds_toArray, List.set_cons_succ, List.set_cons_zero]
  clear hK
  obtain ⟨rfl, hb⟩ := hX
  refine wpAny_take (i := 14) (v := ?v68) rfl (by kernel_rfl) (by kernel_rfl) (by kernel_rfl) (fun _ _ _ h => h) (Or.inl ⟨by rfl, ?y68⟩) ?r68
  case y68 =>
    intro w_
    go_simp
    try with_reducible rfl
  simp only [Act.put, List.getElem_toArray, List.getElem_cons_succ, List.getElem_cons_zero, List.setIfInBounds_toArray, List.set_cons_succ, List.set_cons_zero]
  refine wpAny_take (i := 15) (v := ?v69) rfl (by kernel_rfl) (by kernel_rfl) (by kernel_rfl) (fun _ _ _ h => h) (Or.inl ⟨by rfl, ?y69⟩) ?r69
  case y69 =>
    intro w_
    go_simp
    try with_reducible rfl
  simp only [Act.put, List.getElem_toArray, List.getElem_cons_succ, List.getElem_cons_zero, List.setIfInBounds_toArray, List.set_cons_succ, List.set_cons_zero]
  refine wpAny_take (i := 16) (v := ?v70) rfl (by kernel_rfl) (by kernel_rfl) (by kernel_rfl) (fun _ _ _ h => h) (Or.inl ⟨by rfl, ?y70⟩) ?r70
  case y70 =>
    intro w_
    go_simp
    try with_reducible rfl
  simp only [Act.put, List.getElem_toArray, List.getElem_cons_succ, List.getElem_cons_zero, List.setIfInBounds_toArray, List.set_cons_succ, List.set_cons_zero]
  refine wpAny_take (i := 17) (v := ?v71) rfl (by kernel_rfl) (by kernel_rfl) (by kernel_rfl) (fun _ _ _ h => h) (Or.inl ⟨by rfl, ?y71⟩) ?r71
  case y71 =>
    intro w_
    go_simp
    try with_reducible rfl
  simp only [Act.put, List.getElem_toArray, List.getElem_cons_succ, List.getElem_cons_zero, List.setIfInBounds_toArray, List.set_cons_succ, List.set_cons_zero]
  refine wpAny_take (i := 18) (v := ?v72) rfl (by kernel_rfl) (by kernel_rfl) (by kernel_rfl) (fun _ _ _ h => h) (Or.inl ⟨by rfl, ?y72⟩) ?r72
  case y72 =>
    intro w_
    go_simp
    try with_reducible rfl
  simp only [Act.put, List.getElem_toArray, List.getElem_cons_succ, List.getElem_cons_zero, List.setIfInBounds_toArray, List.set_cons_succ, List.set_cons_zero]
  refine wpAny_done (by kernel_rfl) ?_ _
  refine NoPanic.normal ?_
  replace hb : Below w4.heap.size w4 w5 := Below.after hbd hb
  skip
  clear hbd cX bhA bhC bhI
  have s45 := hb.size
  replace rA := keep hb rA
  replace rC := keep hb rC
  replace rI := keep hb rI
  replace hw := Below.after hw hb
  clear hb
  have cN := rd_no salt sec info n w5 _ _ _ (hA.keep hw) (hC.keep hw) (by omega) (hI.keep hw) (by omega) hn
  rw [hq] at cN
  go_wp2_with (fail)
  refine cN.mono ?_
  rintro e_ w6 ⟨rfl, hb⟩
  clear cN
  have s56 := hb.size
  replace rA := keep hb rA
  replace rC := keep hb rC
  replace rI := keep hb rI
  replace hw := Below.after hw hb
  clear hb
  go_wp2_with (fail)
  refine (l_same_eq [] w6 _ _ (bys_nil _) (bys_nil _)).mono ?_
  rintro e_ w7 ⟨rfl, hb⟩
  have s67 := hb.size
  replace rA := keep hb rA
  replace rC := keep hb rC
  replace rI := keep hb rI
  replace hw := Below.after hw hb
  clear hb
  go_wp2_with (fail)
  refine (l_same_eq [] w7 _ _ (bys_nil _) (bys_nil _)).mono ?_
  rintro e_ wa ⟨rfl, hb⟩
  have s78 := hb.size
  replace rA := keep hb rA
  replace rC := keep hb rC
  replace rI := keep hb rI
  replace hw := Below.after hw hb
  clear hb 
  go_wp2_with (fail)
  have hba : Below wa.heap.size wa (wa.alloc (.cells #[.slice none 0 0, .slice none 0 0] 22)) := (Below.refl _ _).alloc (Nat.le_refl _) _
  have rgl := hp1_0 wa (.cells #[.slice none 0 0, .slice none 0 0] 22)
  have hT : AptR (wa.alloc (.cells #[.slice none 0 0, .slice none 0 0] 22)) [(none, 0), (none, 0)] fun _ _ => True := aptT_none (aptT_none (aptT_nil _))
  have hD : AptD [(none, 0), (none, 0)] := by
    intro i j g m n hi hj
    rcases i with _ | _ | i <;> rcases j with _ | _ | j <;> simp at hi hj <;> omega
  have hlo : ∀ (i : Nat) g m, ([(none, 0), (none, 0)] : List (Option Nat × Nat))[i]? = some (some g, m) → w3.heap.size ≤ g ∧ g ≠ wa.heap.size ∧ m ≤ 140737488350000 := by
    intro i g m hi
    skip
    skip
    rcases i with _ | _ | i <;> simp at hi <;> omega
  have s1a : w3.heap.size ≤ wa.heap.size := by omega
  replace rA := keep hba rA
  replace rC := keep hba rC
  replace rI := keep hba rI
  replace hw := Below.after hw hba
  refine (l_apart [(none, 0), (none, 0)] wa.heap.size w3.heap.size _ (by rw [size_alloc1]; omega) (by simp) rgl hT hD hlo).mono ?_
  rintro e_ wb ⟨rfl, hb⟩
  replace rA : wb.heap[ga_]? = some (.cells (irow .u8 (salt ++ mk4 80)) 5 (0, 0)) := (hb.block _ (by omega)).trans rA
  replace rC : wb.heap[gc_]? = some (.cells (irow .u8 (sec ++ mk4 80)) 5 (0, 0)) := (hb.block _ (by omega)).trans rC
  replace rI : wb.heap[gi_]? = some (.cells (irow .u8 (info ++ mk4 80)) 5 (0, 0)) := (hb.block _ (by omega)).trans rI
  replace hw := hw.trans (hb.mono (show w.heap.size ≤ w3.heap.size by omega))
  clear hb hba rgl hT hD hlo 
  go_wp2_with (fail)
  refine (l_left salt ga_ wb _ (hA.1.keep hw) (by omega) rA).mono ?_
  rintro e_ wc ⟨rfl, hb⟩
  replace rC := keep hb rC
  replace rI := keep hb rI
  replace hw := Below.after hw hb
  clear hb
  go_wp2_with (fail)
  refine (l_left sec gc_ wc _ (hC.1.keep hw) (by omega) rC).mono ?_
  rintro e_ wd ⟨rfl, hb⟩
  replace rI := keep hb rI
  replace hw := Below.after hw hb
  clear hb
  go_wp2_with (fail)
  refine (l_left info gi_ wd _ (hI.1.keep hw) (by omega) rI).mono ?_
  rintro e_ we ⟨rfl, hb⟩
  replace hw := Below.after hw hb
  clear hb
  go_wp2
  go_ret
  exact ⟨rfl, hw⟩
theorem macDerives_any (salt sec info : List Int) (n : Int) (w : World) (vs vc vi : Value) (hS : Sta w) (hK : Kon w) (hA : BysN w vs salt) (hC : BysN w vc sec) (hI : BysN w vi info) : Calls Tryd.prog 7 #[vs, vc, vi, .int .i64 n] w fun e w' => e = .returned (.bool true) ∧ Below w.heap.size w w' := by
  by_cases hn : n < 0 ∨ 8160 < n
  · exact macDerives_B salt sec info n w vs vc vi hS hK hA hC hI hn
  · obtain ⟨m, rfl⟩ := Int.eq_ofNat_of_zero_le (show 0 ≤ n by omega)
    exact macDerives_A salt sec info m w vs vc vi hS hK hA hC hI (by omega)

end Go.Proofs.YtmcokphkaekdaaaDoor

namespace Go.Proofs.YtmcokphkaekdaaaDoor
open Go Go.RowKit Go.Sort
attribute [local go_sem] setCell_drewN alloc_drewN

theorem wrapI (x : Int) (h0 : 0 ≤ x) (h1 : x < 9223372036854775808) : IntKind.i64.wrap x = x := by
  have e : x % 2 ^ IntKind.i64.bits = x := Int.emod_eq_of_lt h0 (by show x < 2 ^ 64; omega)
  unfold IntKind.wrap
  simp only [e]
  rw [if_neg]
  simp only [IntKind.signed, IntKind.bits, Bool.true_and]
  intro h
  have h2 : x ≥ 2 ^ 63 := of_decide_eq_true h
  omega
/-- A list of sixty-four words is a block's. -/
def ckW (b L : List Int) : Bool := (List.range 64).all fun t => decide (L.getD t 0 = if t < 16 then wrd b t else (lo1 (L.getD (t - 2) 0) + L.getD (t - 7) 0 + lo0 (L.getD (t - 15) 0) + L.getD (t - 16) 0) % 4294967296)
theorem wds_of {b L : List Int} (h : ckW b L = true) : ∀ t, t < 64 → wds b t = L.getD t 0 := by
  have hc : ∀ t, t < 64 → L.getD t 0 = if t < 16 then wrd b t else (lo1 (L.getD (t - 2) 0) + L.getD (t - 7) 0 + lo0 (L.getD (t - 15) 0) + L.getD (t - 16) 0) % 4294967296 := fun t ht => of_decide_eq_true (List.all_eq_true.1 h t (List.mem_range.2 ht))
  intro t
  induction t using Nat.strongRecOn with
  | ind t ih =>
    intro ht
    rw [hc t ht]
    by_cases h16 : t < 16
    · rw [wds_lo b h16, if_pos h16]
    · rw [wds_hi b h16, if_neg h16, ih (t - 2) (by omega) (by omega), ih (t - 7) (by omega) (by omega), ih (t - 15) (by omega) (by omega), ih (t - 16) (by omega) (by omega)]
theorem rs_congr {h : List Int} {W V : Nat → Int} : ∀ t, (∀ j, j < t → W j = V j) → rs h W t = rs h V t
  | 0, _ => rfl
  | t + 1, e => by rw [rs, rs, rs_congr t (fun j hj => e j (by omega)), e t (by omega)]
theorem blk_of {h b L v : List Int} (hw : ckW b L = true) (hs : sums h (rs h (fun t => L.getD t 0) 64).list 8 = v) : blk h b = v := by
  rw [blk, rs_congr 64 (fun j hj => wds_of hw j hj), hs]
theorem sum_cert (m L0 L1 h1 h2 out : List Int) (q : (m ++ padL m.length).length / 64 = 2) (w0 : ckW (chunk (m ++ padL m.length) 0) L0 = true) (s0 : sums sl (rs sl (fun t => L0.getD t 0) 64).list 8 = h1) (w1 : ckW (chunk (m ++ padL m.length) 1) L1 = true) (s1 : sums h1 (rs h1 (fun t => L1.getD t 0) 64).list 8 = h2) (o : byts h2 = out) : sumL m = out := by
  rw [sumL, sumW, q, fol, fol, fol, blk_of w0 s0, blk_of w1 s1, o]
theorem hm_cert {key bs D out : List Int} (h1 : sumL (kin key ++ bs) = D) (h2 : sumL (kout key ++ D) = out) : hm key bs = out := by
  rw [hm, h1, h2]
theorem xpd_cert {K info T1 T2 : List Int} (h1 : hm K (info ++ [1]) = T1) (h2 : hm K (T1 ++ (info ++ [2])) = T2) : xpd K info 42 = (T1 ++ T2).take 42 := by
  have e1 : tp K info 1 = T1 := by rw [tp, tp, ← h1]; rfl
  have e2 : tp K info 2 = T2 := by rw [tp, e1, ← h2]; rfl
  rw [xpd]
  show (tall K info 2).take 42 = _
  rw [tall, tall, tall, e1, e2, List.nil_append]
set_option maxRecDepth 100000 in
theorem v_fox : hm [107, 101, 121] [84, 104, 101, 32, 113, 117, 105, 99, 107, 32, 98, 114, 111, 119, 110, 32, 102, 111, 120, 32, 106, 117, 109, 112, 115, 32, 111, 118, 101, 114, 32, 116, 104, 101, 32, 108, 97, 122, 121, 32, 100, 111, 103] = [247, 188, 131, 244, 48, 83, 132, 36, 177, 50, 152, 230, 170, 111, 177, 67, 239, 77, 89, 161, 73, 70, 23, 89, 151, 71, 157, 188, 45, 26, 60, 216] := hm_cert (sum_cert (kin [107, 101, 121] ++ [84, 104, 101, 32, 113, 117, 105, 99, 107, 32, 98, 114, 111, 119, 110, 32, 102, 111, 120, 32, 106, 117, 109, 112, 115, 32, 111, 118, 101, 114, 32, 116, 104, 101, 32, 108, 97, 122, 121, 32, 100, 111, 103]) [1565740854, 909522486, 909522486, 909522486, 909522486, 909522486, 909522486, 909522486, 909522486, 909522486, 909522486, 909522486, 909522486, 909522486, 909522486, 909522486, 1484848355, 828629987, 3046079234, 3776264696, 2791310139, 2408496505, 1432802191, 4279136217, 40131307, 3440696412, 2761625533, 3109296823, 2464963315, 15183730, 3262041459, 1301009130, 494097387, 911498773, 3591502981, 2081777627, 3068146072, 300753484, 4189014784, 316684472, 482755238, 1789643473, 2292660537, 4028708497, 808784977, 80985466, 663664670, 349427506, 1313325631, 3200613697, 3221973858, 3913925113, 1731109990, 3732668420, 293673707, 3227921096, 3874275074, 2802869092, 2861148269, 1991861016, 193996981, 1258338248, 2361588754, 3500943187] [1416127776, 1903520099, 1797284466, 1870097952, 1718581280, 1786080624, 1931505526, 1701978228, 1751457900, 1635416352, 1685022592, 0, 0, 0, 0, 856, 1215789539, 3369772837, 1438141474, 147128942, 1286988929, 2236494754, 777899669, 724914221, 1652101295, 2398219790, 395259173, 396037982, 4169268895, 345964178, 2628613065, 352212796, 3932672556, 519796785, 508523907, 1183815677, 2400673158, 3074333110, 2481456119, 3422383585, 4199991306, 1280787848, 2556776200, 1348430178, 1461863882, 3731819580, 3261972228, 655793655, 1593858064, 759378383, 2909831118, 1747216474, 2074102933, 814742857, 1817559613, 3837537694, 1229741528, 3742076030, 3133341155, 2462041720, 1251173789, 3836026743, 3546991780, 3660136386] [3463233850, 1209983353, 1948250410, 931006173, 2786082441, 1688769380, 1812149899, 2195516213] [2060471898, 2711547506, 405576309, 2893134355, 2201768956, 1305004053, 3468137581, 1445869105] [122, 208, 78, 90, 161, 158, 238, 114, 24, 44, 154, 117, 172, 113, 186, 19, 131, 60, 83, 252, 77, 200, 200, 21, 206, 183, 148, 109, 86, 46, 54, 49] (by decide +kernel) (by decide +kernel) (by decide +kernel) (by decide +kernel) (by decide +kernel) (by decide +kernel)) (sum_cert (kout [107, 101, 121] ++ [122, 208, 78, 90, 161, 158, 238, 114, 24, 44, 154, 117, 172, 113, 186, 19, 131, 60, 83, 252, 77, 200, 200, 21, 206, 183, 148, 109, 86, 46, 54, 49]) [926491996, 1549556828, 1549556828, 1549556828, 1549556828, 1549556828, 1549556828, 1549556828, 1549556828, 1549556828, 1549556828, 1549556828, 1549556828, 1549556828, 1549556828, 1549556828, 3714865294, 42962830, 71224041, 2467512273, 419793414, 1427315712, 3508693916, 3414310394, 2073676349, 1580214183, 1876669726, 817288029, 30058875, 2238447637, 3449114864, 1750348975, 1034487982, 1870231200, 1492350634, 2551253359, 1091581649, 2177230372, 3132317206, 1613577344, 4237171436, 3444518892, 3735190717, 1080276738, 825345298, 2577826517, 1725666600, 266232400, 3552217556, 3447915245, 1034235887, 1366263077, 762175820, 141195417, 1526492843, 3893978693, 2423250948, 2852858871, 495248698, 2978091584, 1082942764, 4181982254, 1183382068, 866141841] [2060471898, 2711547506, 405576309, 2893134355, 2201768956, 1305004053, 3468137581, 1445869105, 2147483648, 0, 0, 0, 0, 0, 0, 768, 3317470927, 1931967203, 1309560555, 4232161875, 2199878961, 1433815007, 96181441, 401345156, 2971748208, 3525689588, 2277224760, 3681548119, 68224421, 187918824, 3138597301, 763112752, 2900329290, 3674177272, 776586084, 4245826450, 2384189663, 3331990788, 3540178663, 3245945101, 1100636370, 1287433186, 1245692687, 906843348, 4020893555, 2410450418, 2964470209, 2794221402, 2330270090, 2633729803, 1156228097, 4175975732, 3162069086, 4157531122, 1351189059, 782109178, 3087681302, 1048681065, 2852675464, 2029214994, 3811510533, 3228741452, 4281665153, 2739037895] [1038912318, 2125183980, 2145836365, 388479433, 382557374, 3463237723, 1494055132, 2848212322] [4156326900, 810779684, 2972883174, 2859446595, 4014823841, 1229330265, 2538053052, 756694232] [247, 188, 131, 244, 48, 83, 132, 36, 177, 50, 152, 230, 170, 111, 177, 67, 239, 77, 89, 161, 73, 70, 23, 89, 151, 71, 157, 188, 45, 26, 60, 216] (by decide +kernel) (by decide +kernel) (by decide +kernel) (by decide +kernel) (by decide +kernel) (by decide +kernel))
set_option maxRecDepth 100000 in
theorem v_nil : hm [] [] = [182, 19, 103, 154, 8, 20, 217, 236, 119, 47, 149, 215, 120, 195, 95, 197, 255, 22, 151, 196, 147, 113, 86, 83, 198, 199, 18, 20, 66, 146, 197, 173] := hm_cert (sum_cert (kin [] ++ []) [909522486, 909522486, 909522486, 909522486, 909522486, 909522486, 909522486, 909522486, 909522486, 909522486, 909522486, 909522486, 909522486, 909522486, 909522486, 909522486, 828629987, 828629987, 3776264696, 3776264696, 2408496505, 2408496505, 3703810348, 3622917849, 4031120979, 2146747560, 3260165887, 2815092747, 4286359742, 592337967, 3066442673, 1154308805, 3381820581, 2642411924, 2658340976, 790776156, 3936322321, 1548620120, 1346974071, 2760948351, 3128084265, 3576817954, 3867676740, 2754198265, 855811989, 1459331653, 925716054, 1917319745, 3902710584, 3177888799, 4165673166, 1242241643, 1967333460, 718933646, 2081681304, 3384580195, 658678898, 1033513033, 3234119599, 4034058430, 2396173866, 61000443, 2165945604, 2579069648] [2147483648, 0, 0, 0, 0, 0, 0, 0, 0, 0, 0, 0, 0, 0, 0, 512, 2147483648, 20971520, 2117632, 20616, 570427392, 575995924, 84449090, 2684354592, 1518862336, 6067200, 1496221, 4202700544, 3543279056, 291985753, 4142317530, 3003913545, 145928272, 2642168871, 216179603, 2296832490, 2771075893, 1738633033, 3610378607, 1324035729, 1572820453, 2397971253, 3803995842, 2822718356, 1168996599, 921948365, 3650881000, 2958106055, 1773959876, 3172022107, 3820646885, 991993842, 419360279, 3797604839, 322392134, 85264541, 1326255876, 640108622, 822159570, 3328750644, 1107837388, 1657999800, 3852183409, 2242356356] [4099202733, 2535792975, 2430268064, 3742509290, 1692759311, 2744271233, 2185925419, 4175449650] [3878403405, 1117440276, 2829501885, 1231237110, 2953662447, 1118811203, 4038591613, 4033643986] [231, 43, 189, 77, 66, 154, 201, 20, 168, 166, 197, 189, 73, 99, 47, 246, 176, 13, 79, 239, 66, 175, 180, 67, 240, 184, 4, 125, 240, 108, 133, 210] (by decide +kernel) (by decide +kernel) (by decide +kernel) (by decide +kernel) (by decide +kernel) (by decide +kernel)) (sum_cert (kout [] ++ [231, 43, 189, 77, 66, 154, 201, 20, 168, 166, 197, 189, 73, 99, 47, 246, 176, 13, 79, 239, 66, 175, 180, 67, 240, 184, 4, 125, 240, 108, 133, 210]) [1549556828, 1549556828, 1549556828, 1549556828, 1549556828, 1549556828, 1549556828, 1549556828, 1549556828, 1549556828, 1549556828, 1549556828, 1549556828, 1549556828, 1549556828, 1549556828, 42962830, 42962830, 2467512273, 2467512273, 1427315712, 1427315712, 1249001928, 4037375226, 1809826037, 2826030956, 2886905781, 872774085, 1469776800, 1590296612, 3537354104, 133472730, 3554710565, 4062847664, 2657847936, 216629829, 891106106, 586986791, 1227446114, 2824269971, 2665413624, 3263572534, 775620046, 3292793133, 542824600, 840372110, 1326296352, 2178981808, 4036745216, 1824838472, 3842077899, 1596028657, 1666037942, 2687211640, 3302866841, 3022413000, 1930114701, 3862987069, 3425946126, 4202727519, 918644712, 1850158742, 4178356858, 1365291507] [3878403405, 1117440276, 2829501885, 1231237110, 2953662447, 1118811203, 4038591613, 4033643986, 2147483648, 0, 0, 0, 0, 0, 0, 768, 2042575203, 598067241, 1382921180, 1092021291, 2202992977, 3541650942, 3958644533, 178279665, 804027820, 1934737389, 4068431167, 1801897214, 320726691, 2800631971, 1524728299, 536142871, 36254232, 3805423660, 1657676815, 412830594, 3046563981, 1813400218, 2933921196, 999842265, 3598641367, 3353225525, 4108631770, 813209095, 192433196, 1831918571, 3671060795, 3922647203, 2686999280, 718692840, 2400707038, 3604077068, 3686502092, 1732471487, 4239030454, 3274252720, 1845550752, 2425922155, 1849983951, 2617490701, 835200059, 2742970757, 2706529429, 899933550] [3548727311, 2059101303, 935970104, 1574446183, 2382641778, 1966355632, 3736610840, 907888038] [3054725018, 135584236, 1999607255, 2026069957, 4279670724, 2473678419, 3334935060, 1116915117] [182, 19, 103, 154, 8, 20, 217, 236, 119, 47, 149, 215, 120, 195, 95, 197, 255, 22, 151, 196, 147, 113, 86, 83, 198, 199, 18, 20, 66, 146, 197, 173] (by decide +kernel) (by decide +kernel) (by decide +kernel) (by decide +kernel) (by decide +kernel) (by decide +kernel))
set_option maxRecDepth 100000 in
theorem v_ext : hm [0, 1, 2, 3, 4, 5, 6, 7, 8, 9, 10, 11, 12] [11, 11, 11, 11, 11, 11, 11, 11, 11, 11, 11, 11, 11, 11, 11, 11, 11, 11, 11, 11, 11, 11] = [7, 119, 9, 54, 44, 46, 50, 223, 13, 220, 63, 13, 196, 123, 186, 99, 144, 182, 199, 59, 181, 15, 156, 49, 34, 236, 132, 74, 215, 194, 179, 229] := hm_cert (sum_cert (kin [0, 1, 2, 3, 4, 5, 6, 7, 8, 9, 10, 11, 12] ++ [11, 11, 11, 11, 11, 11, 11, 11, 11, 11, 11, 11, 11, 11, 11, 11, 11, 11, 11, 11, 11, 11]) [909587509, 842215473, 1044331581, 976631350, 909522486, 909522486, 909522486, 909522486, 909522486, 909522486, 909522486, 909522486, 909522486, 909522486, 909522486, 909522486, 4067166117, 4176383271, 3729748756, 4003253340, 2876439237, 1395777857, 1973702652, 3697652872, 3295201273, 1754217796, 2267867713, 1105261243, 1490581223, 4196163145, 796689231, 4088555497, 543614175, 3993037237, 1715891977, 3520519854, 2426106532, 486934527, 2811232072, 2597289587, 4250942056, 3374473093, 3042644427, 244310664, 4227221402, 1780852143, 163067316, 1527205083, 1382651823, 2030181214, 1581247690, 2755876358, 2198998823, 1662361123, 1960827148, 718481170, 326391247, 1685547669, 3815243465, 2769457055, 2592874324, 1499747830, 802294681, 1070700149] [185273099, 185273099, 185273099, 185273099, 185273099, 185303040, 0, 0, 0, 0, 0, 0, 0, 0, 0, 688, 3770728640, 3788423360, 1493245192, 2566971438, 2578831540, 2000707480, 1466611018, 82028063, 3991436469, 13530892, 3405255044, 2401078423, 2181079487, 3479545432, 2857916378, 61261893, 815156264, 3334591028, 1305845998, 4204250243, 4151685088, 1872295283, 2488641669, 47305310, 2617052911, 917786093, 1240793365, 2097529610, 3560461332, 1939836913, 105577783, 2604150987, 2388661178, 3962294377, 3219922092, 365641081, 3480381311, 3799926929, 2008659321, 243791417, 1140328233, 1616939620, 3468288694, 3339263435, 2472361886, 1783540314, 3578712240, 3219883392] [1784750611, 2853270880, 3180738319, 2658168091, 2684039533, 1518253954, 2643136863, 2237080248] [4096779594, 235279805, 3390916088, 2846254001, 863980144, 1509551393, 3631672609, 713664059] [244, 47, 229, 74, 14, 6, 21, 189, 202, 29, 69, 248, 169, 166, 99, 177, 51, 127, 74, 112, 89, 249, 237, 33, 216, 118, 237, 33, 42, 137, 166, 59] (by decide +kernel) (by decide +kernel) (by decide +kernel) (by decide +kernel) (by decide +kernel) (by decide +kernel)) (sum_cert (kout [0, 1, 2, 3, 4, 5, 6, 7, 8, 9, 10, 11, 12] ++ [244, 47, 229, 74, 14, 6, 21, 189, 202, 29, 69, 248, 169, 166, 99, 177, 51, 127, 74, 112, 89, 249, 237, 33, 216, 118, 237, 33, 42, 137, 166, 59]) [1549622879, 1482250843, 1414878807, 1348230236, 1549556828, 1549556828, 1549556828, 1549556828, 1549556828, 1549556828, 1549556828, 1549556828, 1549556828, 1549556828, 1549556828, 1549556828, 1234812246, 1277181660, 1065444711, 1770226807, 4209866053, 260838892, 1896994386, 3529679624, 513798715, 1171509692, 1902202967, 2389103724, 2454299956, 573220380, 3103485068, 1303840070, 705878393, 2960192357, 142613686, 767076014, 125671981, 4016424156, 3762716046, 3768825268, 1153331252, 4018399244, 317894933, 826342626, 635570848, 966780887, 573091550, 3806119320, 1040888981, 668467213, 3068183287, 2417196051, 2401984619, 2179608041, 938920387, 1848350805, 680964649, 3923718965, 802411602, 110241694, 2301226177, 1552606392, 2032607372, 3135736743] [4096779594, 235279805, 3390916088, 2846254001, 863980144, 1509551393, 3631672609, 713664059, 2147483648, 0, 0, 0, 0, 0, 0, 768, 4074992231, 3381638768, 2414670017, 201301201, 1285484455, 2078314219, 2637579697, 2233688913, 869885724, 1842391982, 2875262623, 2371387167, 530024328, 3448088265, 3105246607, 2827516999, 1699440656, 1430512731, 984951570, 3073239125, 1161534446, 1609909747, 1876210360, 1553635217, 3552070153, 760250945, 3228993784, 371710538, 4168744967, 4009174289, 3678402596, 3904512060, 3671085418, 3552933550, 992613011, 4164206631, 998606651, 2229891338, 1490100162, 3913424619, 4209905156, 12417525, 3760313404, 4134517434, 1162659527, 517519650, 2901752502, 168838420] [2112077073, 3057433206, 2552936001, 4191071174, 3687650927, 303284172, 864514861, 4109337351] [125241654, 741225183, 232537869, 3296442979, 2427897659, 3037699121, 585925706, 3619861477] [7, 119, 9, 54, 44, 46, 50, 223, 13, 220, 63, 13, 196, 123, 186, 99, 144, 182, 199, 59, 181, 15, 156, 49, 34, 236, 132, 74, 215, 194, 179, 229] (by decide +kernel) (by decide +kernel) (by decide +kernel) (by decide +kernel) (by decide +kernel) (by decide +kernel))
set_option maxRecDepth 100000 in
theorem v_t1 : hm [7, 119, 9, 54, 44, 46, 50, 223, 13, 220, 63, 13, 196, 123, 186, 99, 144, 182, 199, 59, 181, 15, 156, 49, 34, 236, 132, 74, 215, 194, 179, 229] ([240, 241, 242, 243, 244, 245, 246, 247, 248, 249] ++ [1]) = [60, 178, 95, 37, 250, 172, 213, 122, 144, 67, 79, 100, 208, 54, 47, 42, 45, 45, 10, 144, 207, 26, 90, 76, 93, 176, 45, 86, 236, 196, 197, 191] := hm_cert (sum_cert (kin [7, 119, 9, 54, 44, 46, 50, 223, 13, 220, 63, 13, 196, 123, 186, 99, 144, 182, 199, 59, 181, 15, 156, 49, 34, 236, 132, 74, 215, 194, 179, 229] ++ ([240, 241, 242, 243, 244, 245, 246, 247, 248, 249] ++ [1])) [826359552, 437781737, 1005193531, 4065168469, 2793468173, 2201594375, 349876860, 3790898643, 909522486, 909522486, 909522486, 909522486, 909522486, 909522486, 909522486, 909522486, 362101656, 560129854, 2207449768, 2345846034, 867795864, 1235723900, 3612236873, 110406816, 609765236, 1689650872, 3566052133, 346616897, 3435689880, 1499020450, 1493063645, 2430678995, 485461174, 889680696, 1429228750, 126347843, 3577157201, 3378717700, 1040117628, 391352352, 28333982, 2917796654, 3137225901, 1688252810, 2177529096, 178185073, 3709864683, 3438230729, 2029937370, 4011104342, 862486221, 3842361412, 3930681368, 1202851213, 1206974310, 25937110, 541082936, 1497728675, 4269203364, 1593225926, 3643843302, 2959141344, 1761351218, 2053670568] [4042388211, 4109760247, 4177068416, 0, 0, 0, 0, 0, 0, 0, 0, 0, 0, 0, 0, 600, 2109512449, 1424745220, 3623419855, 2381814288, 1613492028, 1047079587, 2321660227, 768015796, 1083641622, 2036392627, 4101072810, 3443358432, 3716572050, 2625694122, 3689501422, 3588949137, 1966049581, 3874492719, 2969966986, 85189495, 3617480870, 2687417126, 793603508, 355235446, 2489345316, 4075025041, 3189699244, 3539063595, 2711955950, 839111858, 455834353, 2970893541, 2173434791, 3287388869, 485808555, 1899559033, 4178978883, 1432636250, 2760623141, 2256114847, 3022979357, 4209722889, 3372842998, 454015854, 508192513, 1096492352, 4085649829, 4248257842] [2708201138, 2739390184, 1993108387, 1912807976, 2069960831, 48012388, 3116256915, 646972855] [3868559890, 2521607390, 1150162983, 2662202585, 2070949233, 1785851573, 2041541868, 2226943006] [230, 149, 138, 18, 150, 76, 172, 222, 68, 142, 24, 39, 158, 173, 252, 217, 123, 112, 45, 113, 106, 113, 238, 181, 121, 175, 116, 236, 132, 188, 116, 30] (by decide +kernel) (by decide +kernel) (by decide +kernel) (by decide +kernel) (by decide +kernel) (by decide +kernel)) (sum_cert (kout [7, 119, 9, 54, 44, 46, 50, 223, 13, 220, 63, 13, 196, 123, 186, 99, 144, 182, 199, 59, 181, 15, 156, 49, 34, 236, 132, 74, 215, 194, 179, 229] ++ [230, 149, 138, 18, 150, 76, 172, 222, 68, 142, 24, 39, 158, 173, 252, 217, 123, 112, 45, 113, 106, 113, 238, 181, 121, 175, 116, 236, 132, 188, 116, 30]) [1529566570, 1886547587, 1367368529, 2552751679, 3437927271, 3914580077, 2125518870, 2342449081, 1549556828, 1549556828, 1549556828, 1549556828, 1549556828, 1549556828, 1549556828, 1549556828, 4035500425, 583587421, 3143760146, 3612294915, 598765630, 3543352424, 3936874739, 3940134036, 698775768, 2680477678, 3410835452, 358505965, 283571306, 3497455878, 2417402086, 1747778397, 2686784749, 492008078, 3423293599, 596030295, 3513825629, 4191208643, 4264671109, 823673575, 793013436, 1106472847, 4203766005, 740090562, 4077004558, 855005848, 2710300619, 134515593, 880843369, 3738830675, 1568597060, 3923279521, 1562269187, 1173788265, 3238378086, 1713038287, 1171048749, 3113516996, 2608236445, 3283477531, 1823575110, 3174763815, 826965422, 659364872] [3868559890, 2521607390, 1150162983, 2662202585, 2070949233, 1785851573, 2041541868, 2226943006, 2147483648, 0, 0, 0, 0, 0, 0, 768, 1801991011, 1480440565, 1144233669, 4020551800, 1414707328, 1836589034, 3045983037, 221768853, 2584857323, 1343162763, 3417504432, 3123935812, 2410983419, 2278705598, 3491317762, 3476963900, 3619097455, 1931095414, 1066205278, 1986365773, 3672090193, 2688132490, 2100983900, 2182610626, 1596597030, 1451402990, 3634092581, 1776910618, 3320386429, 1130657113, 4010274269, 3926012091, 2743151399, 2780776016, 1355378452, 3650356148, 551984068, 975588116, 1892009856, 3792815510, 3755750577, 666401299, 2832300620, 1694218054, 974219861, 3200681609, 1346579065, 1872203352] [1440055723, 2838736765, 208627038, 3485149605, 1361890849, 1284592081, 558188339, 2939309240] [1018322725, 4205630842, 2420330340, 3493211946, 757926544, 3474610764, 1571827030, 3972318655] [60, 178, 95, 37, 250, 172, 213, 122, 144, 67, 79, 100, 208, 54, 47, 42, 45, 45, 10, 144, 207, 26, 90, 76, 93, 176, 45, 86, 236, 196, 197, 191] (by decide +kernel) (by decide +kernel) (by decide +kernel) (by decide +kernel) (by decide +kernel) (by decide +kernel))
set_option maxRecDepth 100000 in
theorem v_t2 : hm [7, 119, 9, 54, 44, 46, 50, 223, 13, 220, 63, 13, 196, 123, 186, 99, 144, 182, 199, 59, 181, 15, 156, 49, 34, 236, 132, 74, 215, 194, 179, 229] ([60, 178, 95, 37, 250, 172, 213, 122, 144, 67, 79, 100, 208, 54, 47, 42, 45, 45, 10, 144, 207, 26, 90, 76, 93, 176, 45, 86, 236, 196, 197, 191] ++ ([240, 241, 242, 243, 244, 245, 246, 247, 248, 249] ++ [2])) = [52, 0, 114, 8, 213, 184, 135, 24, 88, 101, 180, 176, 168, 90, 153, 59, 137, 185, 182, 86, 131, 214, 15, 1, 6, 210, 143, 255, 3, 157, 11, 111] := hm_cert (sum_cert (kin [7, 119, 9, 54, 44, 46, 50, 223, 13, 220, 63, 13, 196, 123, 186, 99, 144, 182, 199, 59, 181, 15, 156, 49, 34, 236, 132, 74, 215, 194, 179, 229] ++ ([60, 178, 95, 37, 250, 172, 213, 122, 144, 67, 79, 100, 208, 54, 47, 42, 45, 45, 10, 144, 207, 26, 90, 76, 93, 176, 45, 86, 236, 196, 197, 191] ++ ([240, 241, 242, 243, 244, 245, 246, 247, 248, 249] ++ [2]))) [826359552, 437781737, 1005193531, 4065168469, 2793468173, 2201594375, 349876860, 3790898643, 909522486, 909522486, 909522486, 909522486, 909522486, 909522486, 909522486, 909522486, 362101656, 560129854, 2207449768, 2345846034, 867795864, 1235723900, 3612236873, 110406816, 609765236, 1689650872, 3566052133, 346616897, 3435689880, 1499020450, 1493063645, 2430678995, 485461174, 889680696, 1429228750, 126347843, 3577157201, 3378717700, 1040117628, 391352352, 28333982, 2917796654, 3137225901, 1688252810, 2177529096, 178185073, 3709864683, 3438230729, 2029937370, 4011104342, 862486221, 3842361412, 3930681368, 1202851213, 1206974310, 25937110, 541082936, 1497728675, 4269203364, 1593225926, 3643843302, 2959141344, 1761351218, 2053670568] [1018322725, 4205630842, 2420330340, 3493211946, 757926544, 3474610764, 1571827030, 3972318655, 4042388211, 4109760247, 4177068672, 0, 0, 0, 0, 856, 296145866, 4267615068, 138907757, 3180107394, 2119469978, 1429321530, 2239823997, 1897785187, 472600717, 2865628579, 2027274310, 1084464985, 2909240634, 1104716063, 1929724560, 2211227291, 3562809049, 2113267092, 400038928, 3542910954, 3783257230, 1192769035, 3327522280, 820877144, 2986269386, 803984510, 1599479459, 1922514664, 3759225378, 4278642675, 1832447897, 2241400000, 3431798875, 2868244159, 2814284994, 4172224898, 2370282617, 3629929195, 1177161608, 3599219319, 2950074809, 3437744633, 64169183, 706381488, 4047786327, 1565574604, 3104191637, 2547440068] [2708201138, 2739390184, 1993108387, 1912807976, 2069960831, 48012388, 3116256915, 646972855] [766239850, 2622750729, 550760275, 2585969544, 811012804, 654802551, 2732647054, 3409480559] [45, 171, 228, 106, 156, 84, 0, 9, 32, 211, 239, 83, 154, 34, 195, 136, 48, 87, 18, 196, 39, 7, 126, 119, 162, 224, 226, 142, 203, 56, 139, 111] (by decide +kernel) (by decide +kernel) (by decide +kernel) (by decide +kernel) (by decide +kernel) (by decide +kernel)) (sum_cert (kout [7, 119, 9, 54, 44, 46, 50, 223, 13, 220, 63, 13, 196, 123, 186, 99, 144, 182, 199, 59, 181, 15, 156, 49, 34, 236, 132, 74, 215, 194, 179, 229] ++ [45, 171, 228, 106, 156, 84, 0, 9, 32, 211, 239, 83, 154, 34, 195, 136, 48, 87, 18, 196, 39, 7, 126, 119, 162, 224, 226, 142, 203, 56, 139, 111]) [1529566570, 1886547587, 1367368529, 2552751679, 3437927271, 3914580077, 2125518870, 2342449081, 1549556828, 1549556828, 1549556828, 1549556828, 1549556828, 1549556828, 1549556828, 1549556828, 4035500425, 583587421, 3143760146, 3612294915, 598765630, 3543352424, 3936874739, 3940134036, 698775768, 2680477678, 3410835452, 358505965, 283571306, 3497455878, 2417402086, 1747778397, 2686784749, 492008078, 3423293599, 596030295, 3513825629, 4191208643, 4264671109, 823673575, 793013436, 1106472847, 4203766005, 740090562, 4077004558, 855005848, 2710300619, 134515593, 880843369, 3738830675, 1568597060, 3923279521, 1562269187, 1173788265, 3238378086, 1713038287, 1171048749, 3113516996, 2608236445, 3283477531, 1823575110, 3174763815, 826965422, 659364872] [766239850, 2622750729, 550760275, 2585969544, 811012804, 654802551, 2732647054, 3409480559, 2147483648, 0, 0, 0, 0, 0, 0, 768, 777794430, 4156756489, 1933668538, 3497408973, 4225819467, 883770206, 4110283511, 341759616, 3202043302, 618041291, 2680059954, 2448860829, 669398804, 2092366435, 4068492648, 1451688631, 1190011871, 523934388, 3936052944, 3334526740, 1112288315, 642944215, 2517807740, 4246031928, 512490388, 119156527, 1777916819, 3358358578, 1020385653, 2741376882, 1811995926, 2100995116, 2427416690, 4109555339, 225165212, 2868917799, 2544131771, 4156727689, 4124271351, 1737909122, 3317560103, 792115751, 3227053124, 2246865512, 354815795, 1722754264, 2556960975, 3842981987] [1440055723, 2838736765, 208627038, 3485149605, 1361890849, 1284592081, 558188339, 2939309240] [872444424, 3585640216, 1483060400, 2824509755, 2310649430, 2211843841, 114462719, 60623727] [52, 0, 114, 8, 213, 184, 135, 24, 88, 101, 180, 176, 168, 90, 153, 59, 137, 185, 182, 86, 131, 214, 15, 1, 6, 210, 143, 255, 3, 157, 11, 111] (by decide +kernel) (by decide +kernel) (by decide +kernel) (by decide +kernel) (by decide +kernel) (by decide +kernel))
set_option maxRecDepth 100000 in
theorem v_okm : xpd [7, 119, 9, 54, 44, 46, 50, 223, 13, 220, 63, 13, 196, 123, 186, 99, 144, 182, 199, 59, 181, 15, 156, 49, 34, 236, 132, 74, 215, 194, 179, 229] [240, 241, 242, 243, 244, 245, 246, 247, 248, 249] 42 = [60, 178, 95, 37, 250, 172, 213, 122, 144, 67, 79, 100, 208, 54, 47, 42, 45, 45, 10, 144, 207, 26, 90, 76, 93, 176, 45, 86, 236, 196, 197, 191, 52, 0, 114, 8, 213, 184, 135, 24, 88, 101] := by
  rw [xpd_cert v_t1 v_t2]
  rfl
theorem step_append_any {P : Program} (w : World) {ops : Array Oper} {o : Oper} {a : Act} {K : Act → World → Prop} {Q : Exit → Act → World → Prop} {E : Prop} (hgd : o.guard = none) (s x : Operand) (t : TypeId)
    (ho : o.op = .call { callee := .builtin .append, args := #[s, x], argTypes := #[t, t] })
    (base : Nat) (e : TypeId) (i : TypeInfo) (z : Value) (ht : P.underlying t = some (.slice e)) (hi : P.info? e = some i) (hz : i.zero = some z)
    (hsize : i.size = 1) (hby : i.bytes = 1) (hzs : z.cells.size = 1)
    (v : Value) (n : Nat) (xs : List Value) (hs : a.eval s = v) (hown : w.ownsRow base e 1 v n xs)
    (ao : Option Addr) (m c : Nat) (news : List Value) (hx : a.eval x = .slice ao m c) (hl : news.length = m * 1) (hnone : ao = none → m = 0 ∧ c = 0) (hnews : ∀ ad, ao = some ad → ∀ j u, news[j]? = some u → w.cell? (ad.add j) = some u) (h1 : ∀ u ∈ news, u.oneCell' = true)
    (h63 : n + m ≤ maxLen) (hbytes : (n + m) * 1 ≤ 140737488355328) (hbase : base ≤ w.heap.size)
    (h : ∀ v' w', w'.ownsRow base e 1 v' (n + m) (xs ++ news) → w.grownBy w' v.ownBlock → K (a.put o.dst v') w') : if Region.wanted o (yielded ops a.tmps) = true then Oper.wp P o a w K Q else E := by
  have hw : Region.wanted o (yielded ops a.tmps) = true := by simp [Region.wanted, hgd]
  rw [if_pos hw]
  cases ao with
  | some ad => exact wp_append_own w s x t ho base e i z 1 1 ht hi hz hsize hby hzs (by decide) v n xs hs hown ad m c news hx hl (hnews ad rfl) h1 h63 hbytes hbase (fun v' w' h2 h3 _ => h v' w' h2 h3)
  | none =>
    obtain ⟨rfl, rfl⟩ := hnone rfl
    have hn0 : news = [] := List.eq_nil_of_length_eq_zero (by simpa using hl)
    subst hn0
    have hrun := run_append_owned_none (P := P) w base t o.type e i 1 ht hi _ n xs hown
    unfold Oper.wp
    simp [execOp, ho, resolve, invoke, builtin, hs, hx, hrun, Result.andThen]
    have h_ := h v w (by simpa using hown) (World.grownBy.refl _ _)
    exact h_
theorem own_form {W : World} {b n : Nat} {v : Value} {xs : List Value} (h : W.ownsRow b 5 1 v n xs) : ∃ ao cap, v = .slice ao n cap ∧ (ao = none → cap = 0) ∧ (∀ a, ao = some a → b ≤ a.block ∧ a.block < W.heap.size) := by
  obtain ⟨h1, ⟨rfl, rfl⟩ | ⟨g, cap, cur, rfl, hb, hg, hn, hm, hs, ht⟩⟩ := h
  · exact ⟨none, 0, rfl, fun _ => rfl, fun a h => by cases h⟩
  · exact ⟨_, cap, rfl, (fun h => by cases h), (fun a h => by cases h; exact ⟨hb, lt_of_row hg⟩)⟩
theorem own_block {b n cap : Nat} {ao : Option Addr} (h : ∀ a, ao = some a → b ≤ a.block) : ∀ k, (Value.slice ao n cap).ownBlock = some k → b ≤ k := by
  intro k hk
  cases ao with
  | none => cases hk
  | some a =>
    have : a.block = k := by simpa [Value.ownBlock] using hk
    rw [← this]; exact h a rfl
/-- A hexadecimal digit's number. -/
def hx (c : Int) : Int := if 97 ≤ c then c - 87 else c - 48
def isHx (c : Int) : Prop := (48 ≤ c ∧ c ≤ 57) ∨ (97 ≤ c ∧ c ≤ 102)
instance (c : Int) : Decidable (isHx c) := inferInstanceAs (Decidable (_ ∨ _))
def sb (s : ByteArray) (j : Nat) : Int := (s.data.getD j 0).toNat
def vb (s : ByteArray) (j : Nat) : Int := hx (sb s (2 * j)) * 16 + hx (sb s (2 * j + 1))
def hxl (s : ByteArray) (n : Nat) : List Int := (List.range n).map (vb s)
theorem hxl_len (s : ByteArray) (n : Nat) : (hxl s n).length = n := by simp [hxl]
theorem hxl_succ (s : ByteArray) (n : Nat) : hxl s (n + 1) = hxl s n ++ [vb s n] := by simp [hxl, List.range_succ]
theorem hx_bd {c : Int} (h : isHx c) : 0 ≤ hx c ∧ hx c < 16 := by
  unfold isHx at h
  unfold hx
  split <;> omega
theorem hxl_bd (s : ByteArray) (n : Nat) (hh : ∀ j, j < 2 * n → isHx (sb s j)) : ∀ z ∈ hxl s n, 0 ≤ z ∧ z < 256 := by
  intro z hz
  simp only [hxl, List.mem_map, List.mem_range] at hz
  obtain ⟨j, hj, rfl⟩ := hz
  have h1 := hx_bd (hh (2 * j) (by omega))
  have h2 := hx_bd (hh (2 * j + 1) (by omega))
  unfold vb
  omega
set_option maxHeartbeats 4000000 in
theorem digit_any {c : Int} (h : isHx c) : Gives 40 #[.int .u8 c] (.int .u8 (hx c)) := by
  intro w
  unfold isHx at h
  by_cases h9 : 97 ≤ c
  · have hd : decide ((97 : Int) ≤ c) = true := decide_eq_true h9
    have e : hx c = c - 97 + 10 := by unfold hx; rw [if_pos h9]; omega
    rw [e]
    go_enter Tryd.func40, Tryd.ntmps40
    go_wp2
    go_ret
    exact ⟨rfl, Below.refl _ _⟩
  · have hd : decide ((97 : Int) ≤ c) = false := decide_eq_false h9
    have e : hx c = c - 48 := by unfold hx; rw [if_neg h9]
    rw [e]
    go_enter Tryd.func40, Tryd.ntmps40
    go_wp2
    go_ret
    exact ⟨rfl, Below.refl _ _⟩
theorem index_sb (s : ByteArray) (i : Int) (j : Nat) (hi : i = (j : Int)) (hj : j < s.size) (W : World) : (Instr.index 9 (.string s) (.int .i64 i)).run Tryd.prog W = .ok (.int .u8 (sb s j)) W := by
  subst hi
  rw [run_index_string W 9 s .i64 j Tryd.underlying9, dif_pos ⟨by omega, by omega⟩]
  have e : sb s j = (s[((j : Int)).toNat]'(by simp; omega)).toNat := by
    unfold sb
    have h2 : j < s.size := by omega
    simp [Array.getD, h2]
    rfl
  rw [e]
set_option maxRecDepth 100000 in
set_option maxHeartbeats 4000000 in
theorem l_hex (s : ByteArray) (n : Nat) (hs : s.size = 2 * n) (hn : n ≤ 1000) (hh : ∀ j, j < 2 * n → isHx (sb s j)) (w : World) : Calls Tryd.prog 30 #[.string s] w fun e w' => ∃ v, e = .returned v ∧ w'.ownsRow w.heap.size 5 1 v n ((hxl s n).map (Value.int .u8)) ∧ Below w.heap.size w w' := by
  obtain ⟨i0, hi, hz0, hz1, hz2⟩ := info8
  have hown0 : w.ownsRow w.heap.size 5 1 (.slice none 0 0) 0 ((hxl s 0).map (Value.int .u8)) := ⟨rfl, .inl ⟨rfl, rfl⟩⟩
  go_enter Tryd.func30, Tryd.ntmps30
  go_wp2_with (fail)
  go_loopw [3, 4] (fun x i wr => ∃ k : Nat, k ≤ n ∧ i = .int .i64 ((2 * k : Nat) : Int) ∧ wr.ownsRow w.heap.size 5 1 x k ((hxl s k).map (Value.int .u8)) ∧ Below w.heap.size w wr) (fun _ i _ => 2 * n - (intOf i).toNat)
  case atStart => exact ⟨0, by omega, rfl, hown0, Below.refl _ _⟩
  case round =>
    clear hown0
    obtain ⟨k, hk, rfl, hown, hw⟩ := hrel
    obtain ⟨aox, capx, rfl⟩ := slen_own hown
    by_cases hlt : k < n
    · have hd : decide (((2 * k : Nat) : Int) + 1 < (s.size : Int)) = true := by rw [hs]; simp; omega
      have x0 := hh (2 * k) (by omega)
      have x1 := hh (2 * k + 1) (by omega)
      have hi0 := index_sb s ((2 * k : Nat) : Int) (2 * k) rfl (by omega)
      have hi1 := index_sb s (((2 * k : Nat) : Int) + 1) (2 * k + 1) (by omega) (by omega)
      have hvb : hx (sb s (2 * k)) * 16 + hx (sb s (2 * k + 1)) = vb s k := rfl
      have cd1 := digit_any x0
      have cd2 := digit_any x1
      have b0 := hx_bd x0
      have b1 := hx_bd x1
      have hnx := hxl_succ s k
      replace hnx := hide hnx
      replace hvb := hide hvb
      clear x0 x1 hh
      generalize hx (sb s (2 * k)) = d1 at *
      generalize hx (sb s (2 * k + 1)) = d2 at *
      generalize sb s (2 * k) = c1 at *
      generalize sb s (2 * k + 1) = c2 at *
      generalize eI : ((2 * k : Nat) : Int) = I at *
      have hwr : I + 1 < 9223372036854775807 := by omega
      have m1 : IntKind.u8.wrap (d1 * 16) = d1 * 16 := wrap8 _ (by omega) (by omega)
      have m2 : IntKind.u8.wrap (d1 * 16 + d2) = d1 * 16 + d2 := wrap8 _ (by omega) (by omega)
      have hwI : IntKind.i64.wrap (I + 1) = I + 1 := wrapI _ (by omega) (by omega)
      go_wp2
      refine wp_region_noPanic ?_
      go_region_law
        ((first
          | (refine step_call 40 #[.int .u8 c1] (by rfl) (by kernel_rfl) (ex1 (cd1.at wr.drew)) ?_
             rintro v1 w1 ⟨rfl, hb1⟩)
          | (refine step_call 40 #[.int .u8 c2] (by rfl) (by kernel_rfl) (ex1 (cd2.at w1)) ?_
             rintro v2 w2 ⟨rfl, hb2⟩
             have hb12 : Below wr.heap.size wr w2 := Below.after (Below.after (below_drN (Below.refl _ _) 1) hb1) hb2
             have hs12 := hb12.size
             have hown2 := (own_keep hown hb12).alloc (.cells #[.int .u8 (d1 * 16 + d2)] 5)
             replace hw := Below.after hw hb12
             have hnew := new_cell w2 (d1 * 16 + d2)
             clear hb1 hb2)
          | (refine step_append_any _ (by rfl) _ _ _ (by rfl) w.heap.size 5 i0 (.int .u8 0) Tryd.underlying22 hi hz0 hz1 hz2 rfl _ k ((hxl s k).map (Value.int .u8)) (by rfl) hown2 (some ⟨w2.heap.size, 0, none⟩) 1 1 [.int .u8 (d1 * 16 + d2)] (by rfl) (by simp) (fun h => by cases h) (fun ad h => by cases h; exact hnew) (by simp [Value.oneCell']) (by unfold maxLen; omega) (by omega) (by rw [size_alloc1]; have := hw.size; omega) ?_
             intro v3 w3 hown3 hgrow
             have hw3 : Below w.heap.size w w3 := (hw.alloc hw.size _).grown hgrow (by rw [size_alloc1]; have := hw.size; omega) (fun q h => (hown2.lt q h).1))))
      all_goals
        refine NoPanic.normal ?_
        obtain ⟨ao3, cap3, rfl⟩ := slen_own hown3
        rw [hvb.out, show [Value.int .u8 (vb s k)] = [vb s k].map (Value.int .u8) from rfl, ← List.map_append, ← hnx.out] at hown3
        clear hgrow hown2 hw hnew hown
        go_wp2
        refine ⟨⟨k + 1, by omega, by simp; omega, hown3, hw3⟩, ?_⟩
        simp [intOf]; omega
    · obtain rfl : k = n := by omega
      have hd : decide (((2 * k : Nat) : Int) + 1 < (s.size : Int)) = false := by rw [hs]; simp; omega
      go_wp2
      go_ret
      exact ⟨_, rfl, hown, hw⟩

end Go.Proofs.YtmcokphkaekdaaaDoor
