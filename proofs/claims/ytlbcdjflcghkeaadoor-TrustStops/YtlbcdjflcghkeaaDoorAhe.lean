import Derived.Test.YtlbcdjflcghkeaaDoorProg
import Derived.WalkKit
import Derived.Lib.QuietBelow
import Derived.BigQuiet
import Derived.OwnWalk
import Derived.Lib.AppendZeros
import Derived.Test.YtlbcdjflcghkeaaDoorKa
import Derived.Test.YtlbcdjflcghkeaaDoorNn
import Derived.Test.YtlbcdjflcghkeaaDoorAhd
namespace Go.Proofs.YtlbcdjflcghkeaaDoor
set_option maxRecDepth 100000
open Go Go.RowKit Go.Sort
attribute [local go_sem] setCell_drewN alloc_drewN
theorem elemS : Tryd.prog.underlying 69 = some (.slice (Tryd.prog.elem 69)) := by kernel_rfl
theorem sizeS (W : World) : (sizeOf (Tryd.prog.elem 69)).run Tryd.prog W = .ok 1 W := by kernel_rfl
theorem slice_toS (ao : Option Addr) (len cap n : Nat) (h : n ≤ cap) (W : World) : (Instr.sliceAt 69 (.slice ao len cap) none (some (.int .i64 (n : Int))) none).run Tryd.prog W = .ok (.slice ao n cap) W := by
  rw [run_sliceAt_slice _ _ _ _ _ _ elemS, run_slice_h W 69 ao len cap elemS .i64 _ (by omega) (by omega), sizeS]
  show Result.ok (sliced _ _ _ _ 1) W = _
  rw [Int.toNat_natCast, sliced, Nat.zero_mul]
  by_cases e : cap = 0
  · rw [if_pos e]; rfl
  · rw [if_neg e]
    cases ao <;> rfl
theorem slenS {W : World} {b : Nat} {v : Value} {l : List ByteArray} (h : OwnS W b v l) : ∃ ao c, v = .slice ao l.length c := h.form
theorem OwnS.news {W : World} {b g n c : Nat} {l : List ByteArray} (h : OwnS W b (.slice (some ⟨g, 0, none⟩) n c) l) : ∀ j u, (l.map Value.string)[j]? = some u → W.cell? ((⟨g, 0, none⟩ : Addr).add j) = some u := by
  intro j u hj
  have hjl : j < l.length := by simpa using (List.getElem?_eq_some_iff.1 hj).1
  obtain ⟨_, ⟨e, h0⟩ | ⟨g', cap, cur, e, hb, hg, hnc, _, _, ht⟩⟩ := h
  · cases e
  · cases e
    rw [addr_add, cell_of_row _ _ _ _ _ _ hg, Nat.zero_add]
    have e : (cur.toList.take (l.length * 1))[j]? = (l.map Value.string)[j]? := by rw [ht]
    rw [Nat.mul_one, List.getElem?_take_of_lt hjl] at e
    simpa [hj] using e
set_option maxRecDepth 100000 in
set_option maxHeartbeats 4000000 in
theorem a_growS (n : Nat) (h0 : 0 < n) (hn : n ≤ 1000) (w : World) : Calls Tryd.prog 42 #[.slice none 0 0, .int .i64 (n : Int)] w fun e w' => ∃ v, e = .returned v ∧ OwnS w' w.heap.size v [] ∧ Below w.heap.size w w' := by
  obtain ⟨i0, hi, hz0, hz1, hz2⟩ := infS
  have hd1 : decide ((n : Int) < 0) = false := by simp
  have hd2 : decide ((0 : Int) < (n : Int)) = true := by simp; omega
  have hap := fun ty => Go.Lib.run_append_nil_zeros (P := Tryd.prog) w 69 3 ty 9 i0 (.string ⟨#[]⟩) .i64 .i64 Tryd.underlying69 Tryd.underlying3 hi hz0 n h0 (by omega) (by omega) (by rw [hz2]; omega)
  have hge := grownCap_ge w n 0 9
  have hle := grownCap_le_maxLen w n 0 9 (by unfold maxLen; omega)
  have sl0 := slice_toS (some ⟨w.heap.size, 0, none⟩) n (grownCap w n 0 9) 0 (by omega)
  have hcs : (Builtin.zeroCells #[Value.string ⟨#[]⟩] n ++ Builtin.zeroCells #[Value.string ⟨#[]⟩] (grownCap w n 0 9 - n)).size = grownCap w n 0 9 := by
    simp [Builtin.zeroCells]
    omega
  go_enter Tryd.func42, Tryd.ntmps42
  go_wp2_with (at_builtin; refine Go.Lib.wpList_append_run _ rfl _ _ _ _ rfl _ _ rfl rfl _ _ (hap _) ?_)
  clear hap
  generalize grownCap w n 0 9 = cap at *
  go_wp2
  generalize (Builtin.zeroCells #[Value.string ⟨#[]⟩] n ++ Builtin.zeroCells #[Value.string ⟨#[]⟩] (cap - n)) = Z at *
  go_ret
  refine ⟨_, rfl, ⟨rfl, .inr ⟨w.heap.size, cap, Z, rfl, Nat.le_refl _, ?_, Nat.zero_le _, hle, by omega, rfl⟩⟩, ?_⟩
  · exact hp1_0 w _
  · exact below_drN ((Below.refl _ _).alloc (Nat.le_refl _) _) 1
set_option maxRecDepth 100000 in
set_option maxHeartbeats 4000000 in
theorem a_concatS (a b : List ByteArray) (ha : a.length = 6) (hb : b.length = 6) (w : World) (gp ga gb ca cb ba bb : Nat) (hP : w.heap[gp]? = some (.cells #[.slice (some ⟨ga, 0, none⟩) 6 ca, .slice (some ⟨gb, 0, none⟩) 6 cb] 69 (0, 0))) (hA : OwnS w ba (.slice (some ⟨ga, 0, none⟩) 6 ca) a) (hB : OwnS w bb (.slice (some ⟨gb, 0, none⟩) 6 cb) b) : Calls Tryd.prog 32 #[.slice (some ⟨gp, 0, none⟩) 2 2] w fun e w' => ∃ v, e = .returned v ∧ OwnS w' w.heap.size v (a ++ b) ∧ Below w.heap.size w w' := by
  have c0 : w.cell? ⟨gp, 0, none⟩ = some (.slice (some ⟨ga, 0, none⟩) 6 ca) := cell_of hP rfl
  have c1 : w.cell? ⟨gp, 1, none⟩ = some (.slice (some ⟨gb, 0, none⟩) 6 cb) := cell_of hP rfl
  have lgp := lt_of_row hP
  have lb0 := (hB.lt gb rfl).2
  have cG := a_growS 12 (by omega) (by omega) w
  go_enter Tryd.func32, Tryd.ntmps32
  go_wp2
  refine wp_loop_rounds 3 ?_
  rw [rounds_succ]; go_wp2
  rw [rounds_succ]; go_wp2
  rw [rounds_succ]; go_wp2_with (fail)
  refine cG.mono ?_
  rintro e_ w1 ⟨v1, rfl, hO, hw⟩
  obtain ⟨ao1, ac1, rfl⟩ := slenS hO
  clear cG
  replace hA := hA.keep hw
  replace hB := hB.keep hw
  replace c0 : w1.cell? ⟨gp, 0, none⟩ = some (.slice (some ⟨ga, 0, none⟩) 6 ca) := (hw.cell (p := ⟨gp, 0, none⟩) lgp).trans c0
  have lgb := (hB.lt gb rfl).2
  go_wp2_with (fail)
  refine wp_loop_rounds 3 ?_
  rw [rounds_succ]
  go_wp2_with (at_builtin; refine wpList_append_S rfl (.tmp 31) (.tmp 32) rfl w.heap.size _ [] rfl hO ⟨ga, 0, none⟩ a ca (by rw [ha]; rfl) hA.news (by simp [ha]) hw.size ?_)
  intro v2 w2 hO2 hgr
  have hAB : OwnS w2 bb (.slice (some ⟨gb, 0, none⟩) 6 cb) b := hB.move (fun g o eg hz => by
    cases eg
    exact (hgr.block gb lgb (fun e => by have h := hO.lt gb e.symm; omega)).trans hz)
  replace hw := hw.grown hgr hw.size (fun k e => (hO.lt k e).1)
  obtain ⟨ao2, ac2, rfl⟩ := slenS hO2
  clear hgr hO c0
  replace c1 : w2.cell? ⟨gp, 1, none⟩ = some (.slice (some ⟨gb, 0, none⟩) 6 cb) := (hw.cell (p := ⟨gp, 1, none⟩) lgp).trans c1
  go_wp2_with (fail)
  rw [rounds_succ]
  go_wp2_with (at_builtin; refine wpList_append_S rfl (.tmp 31) (.tmp 32) rfl w.heap.size _ a rfl hO2 ⟨gb, 0, none⟩ b cb (by rw [hb]; rfl) hAB.news (by simp [ha, hb]) hw.size ?_)
  intro v3 w3 hO3 hgr
  replace hw := hw.grown hgr hw.size (fun k e => (hO2.lt k (by rw [← e]; cases ao2 <;> rfl)).1)
  obtain ⟨ao3, ac3, rfl⟩ := slenS hO3
  clear hgr hO2 c1
  go_wp2_with (fail)
  rw [rounds_succ]; go_wp2_with (fail)
  go_ret
  exact ⟨_, rfl, hO3, hw⟩
end Go.Proofs.YtlbcdjflcghkeaaDoor
