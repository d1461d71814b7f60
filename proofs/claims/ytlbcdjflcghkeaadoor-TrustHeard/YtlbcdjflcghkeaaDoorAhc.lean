import Derived.Test.YtlbcdjflcghkeaaDoorProg
import Derived.WalkKit
import Derived.WalkSpells
import Derived.WalkLawsBesides
import Derived.Lib.QuietBelow
import Derived.BigQuiet
import Derived.OrdersHeld
import Derived.Deep.RegionHeld3
import Derived.OwnWalk
import Derived.Deep.Cut
import Derived.Test.YtlbcdjflcghkeaaDoorKa
import Derived.Test.YtlbcdjflcghkeaaDoorAhi
import Derived.Test.YtlbcdjflcghkeaaDoorNn
import Derived.Lib.AppendZeros
namespace Go.Proofs.YtlbcdjflcghkeaaDoor
set_option maxRecDepth 100000
open Go Go.RowKit Go.Sort
attribute [local go_sem] setCell_drewN alloc_drewN

theorem row_news {W : World} {g : Nat} {key : List Int} {t : TypeId} (rg : W.heap[g]? = some (.cells (irow .u8 key) t (0, 0))) : ∀ j x, (key.map (Value.int .u8))[j]? = some x → W.cell? ((⟨g, 0, none⟩ : Addr).add j) = some x := by
  intro j x hx
  rw [addr_add, cell_of_row _ _ _ _ _ _ rg, Nat.zero_add]
  simpa [irow] using hx
set_option maxRecDepth 100000 in
set_option maxHeartbeats 4000000 in
theorem a_grow (n : Nat) (h0 : 0 < n) (hn : n ≤ 140737488351232) (w : World) : Calls Tryd.prog 59 #[.slice none 0 0, .int .i64 (n : Int)] w fun e w' => ∃ v, e = .returned v ∧ OwnI w' w.heap.size v [] ∧ Below w.heap.size w w' := by
  obtain ⟨i0, hi, hz0, hz1, hz2⟩ := info8
  have hd1 : decide ((n : Int) < 0) = false := by simp
  have hd2 : decide ((0 : Int) < (n : Int)) = true := by simp; omega
  have hap := fun ty => Go.Lib.run_append_nil_zeros (P := Tryd.prog) w 67 3 ty 5 i0 (.int .u8 0) .i64 .i64 Tryd.underlying67 Tryd.underlying3 hi hz0 n h0 (by omega) (by omega) (by rw [hz2]; omega)
  have hge := grownCap_ge w n 0 5
  have hle := grownCap_le_maxLen w n 0 5 (by unfold maxLen; omega)
  have sl0 := slice_to (some ⟨w.heap.size, 0, none⟩) n (grownCap w n 0 5) 0 (by omega)
  have hcs : (Builtin.zeroCells #[Value.int .u8 0] n ++ Builtin.zeroCells #[Value.int .u8 0] (grownCap w n 0 5 - n)).size = grownCap w n 0 5 := by
    simp [Builtin.zeroCells]
    omega
  go_enter Tryd.func59, Tryd.ntmps59
  go_wp2_with (at_builtin; refine Go.Lib.wpList_append_run _ rfl _ _ _ _ rfl _ _ rfl rfl _ _ (hap _) ?_)
  clear hap
  generalize grownCap w n 0 5 = cap at *
  go_wp2
  generalize (Builtin.zeroCells #[Value.int .u8 0] n ++ Builtin.zeroCells #[Value.int .u8 0] (cap - n)) = Z at *
  go_ret
  refine ⟨_, rfl, ⟨rfl, .inr ⟨w.heap.size, cap, Z, rfl, Nat.le_refl _, ?_, Nat.zero_le _, hle, by omega, rfl⟩⟩, ?_⟩
  · exact hp1_0 w _
  · exact below_drN ((Below.refl _ _).alloc (Nat.le_refl _) _) 1
set_option maxRecDepth 100000 in
set_option maxHeartbeats 4000000 in
theorem a_concatK (a b : List Int) (ha : a.length = 32) (hb : b.length = 32) (w : World) (gp ga gb : Nat) (hP : w.heap[gp]? = some (.cells #[.slice (some ⟨ga, 0, none⟩) 32 32, .slice (some ⟨gb, 0, none⟩) 32 32] 67 (0, 0))) (hA : w.heap[ga]? = some (.cells (irow .u8 a) 23 (0, 0))) (hB : w.heap[gb]? = some (.cells (irow .u8 b) 23 (0, 0))) : Calls Tryd.prog 44 #[.slice (some ⟨gp, 0, none⟩) 2 2] w fun e w' => ∃ v, e = .returned v ∧ OwnI w' w.heap.size v (a ++ b) ∧ Below w.heap.size w w' := by
  have c0 : w.cell? ⟨gp, 0, none⟩ = some (.slice (some ⟨ga, 0, none⟩) 32 32) := cell_of hP rfl
  have c1 : w.cell? ⟨gp, 1, none⟩ = some (.slice (some ⟨gb, 0, none⟩) 32 32) := cell_of hP rfl
  have lgp := lt_of_row hP
  have lb0 := lt_of_row hB
  have cG := a_grow 64 (by omega) (by omega) w
  go_enter Tryd.func44, Tryd.ntmps44
  go_wp2
  refine wp_loop_rounds 3 ?_
  rw [rounds_succ]; go_wp2
  rw [rounds_succ]; go_wp2
  rw [rounds_succ]; go_wp2_with (fail)
  refine cG.mono ?_
  rintro e_ w1 ⟨v1, rfl, hO, hw⟩
  obtain ⟨ao1, ac1, rfl⟩ := slen_own hO
  clear cG
  replace hA := keep hw hA
  replace hB := keep hw hB
  replace c0 : w1.cell? ⟨gp, 0, none⟩ = some (.slice (some ⟨ga, 0, none⟩) 32 32) := (hw.cell (p := ⟨gp, 0, none⟩) lgp).trans c0
  have lga := lt_of_row hA
  have lgb := lt_of_row hB
  go_wp2_with (fail)
  refine wp_loop_rounds 3 ?_
  rw [rounds_succ]
  go_wp2_with (at_builtin; refine wpList_append_sec rfl (.tmp 31) (.tmp 32) rfl w.heap.size _ [] rfl (.inl hO) ⟨ga, 0, none⟩ a 32 (by rw [ha]; rfl) (row_news hA) (by omega) (by simp [ha]) hw.size ?_)
  intro v2 w2 hO2 hgr
  have hAB : w2.heap[gb]? = some (.cells (irow .u8 b) 23 (0, 0)) := (hgr.block gb lgb (fun e => by have h := hO.lt gb e.symm; omega)).trans hB
  replace hw := hw.grown hgr hw.size (fun k e => (hO.lt k e).1)
  obtain ⟨ao2, ac2, rfl⟩ := slen_own hO2
  clear hgr hO c0
  replace c1 : w2.cell? ⟨gp, 1, none⟩ = some (.slice (some ⟨gb, 0, none⟩) 32 32) := (hw.cell (p := ⟨gp, 1, none⟩) lgp).trans c1
  go_wp2_with (fail)
  rw [rounds_succ]
  go_wp2_with (at_builtin; refine wpList_append_sec rfl (.tmp 31) (.tmp 32) rfl w.heap.size _ a rfl (.inl hO2) ⟨gb, 0, none⟩ b 32 (by rw [hb]; rfl) (row_news hAB) (by omega) (by simp [ha, hb]) hw.size ?_)
  intro v3 w3 hO3 hgr
  replace hw := hw.grown hgr hw.size (fun k e => (hO2.lt k (by rw [← e]; cases ao2 <;> rfl)).1)
  obtain ⟨ao3, ac3, rfl⟩ := slen_own hO3
  clear hgr hO2 c1
  go_wp2_with (fail)
  rw [rounds_succ]; go_wp2_with (fail)
  go_ret
  exact ⟨_, rfl, hO3, hw⟩
set_option maxRecDepth 100000 in
set_option maxHeartbeats 4000000 in
theorem a_concat11 (a b : List Int) (ha : a.length = 11) (hb : b.length = 32) (w : World) (gp ga gb : Nat) (hP : w.heap[gp]? = some (.cells #[.slice (some ⟨ga, 0, none⟩) 11 11, .slice (some ⟨gb, 0, none⟩) 32 32] 67 (0, 0))) (lga : ga < w.heap.size) (hA : ∀ j u, (a.map (Value.int .u8))[j]? = some u → w.cell? ((⟨ga, 0, none⟩ : Addr).add j) = some u) (hB : w.heap[gb]? = some (.cells (irow .u8 b) 23 (0, 0))) : Calls Tryd.prog 44 #[.slice (some ⟨gp, 0, none⟩) 2 2] w fun e w' => ∃ v, e = .returned v ∧ OwnI w' w.heap.size v (a ++ b) ∧ Below w.heap.size w w' := by
  have c0 : w.cell? ⟨gp, 0, none⟩ = some (.slice (some ⟨ga, 0, none⟩) 11 11) := cell_of hP rfl
  have c1 : w.cell? ⟨gp, 1, none⟩ = some (.slice (some ⟨gb, 0, none⟩) 32 32) := cell_of hP rfl
  have lgp := lt_of_row hP
  have lb0 := lt_of_row hB
  have cG := a_grow 43 (by omega) (by omega) w
  go_enter Tryd.func44, Tryd.ntmps44
  go_wp2
  refine wp_loop_rounds 3 ?_
  rw [rounds_succ]; go_wp2
  rw [rounds_succ]; go_wp2
  rw [rounds_succ]; go_wp2_with (fail)
  refine cG.mono ?_
  rintro e_ w1 ⟨v1, rfl, hO, hw⟩
  obtain ⟨ao1, ac1, rfl⟩ := slen_own hO
  clear cG
  replace hA : ∀ j u, (a.map (Value.int .u8))[j]? = some u → w1.cell? ((⟨ga, 0, none⟩ : Addr).add j) = some u := fun j u h => (hw.cell (p := (⟨ga, 0, none⟩ : Addr).add j) (by rw [addr_add]; exact lga)).trans (hA j u h)
  replace hB := keep hw hB
  replace c0 : w1.cell? ⟨gp, 0, none⟩ = some (.slice (some ⟨ga, 0, none⟩) 11 11) := (hw.cell (p := ⟨gp, 0, none⟩) lgp).trans c0
  replace lga : ga < w1.heap.size := Nat.lt_of_lt_of_le lga hw.size
  have lgb := lt_of_row hB
  go_wp2_with (fail)
  refine wp_loop_rounds 3 ?_
  rw [rounds_succ]
  go_wp2_with (at_builtin; refine wpList_append_sec rfl (.tmp 31) (.tmp 32) rfl w.heap.size _ [] rfl (.inl hO) ⟨ga, 0, none⟩ a 11 (by rw [ha]; rfl) hA (by omega) (by simp [ha]) hw.size ?_)
  intro v2 w2 hO2 hgr
  have hAB : w2.heap[gb]? = some (.cells (irow .u8 b) 23 (0, 0)) := (hgr.block gb lgb (fun e => by have h := hO.lt gb e.symm; omega)).trans hB
  replace hw := hw.grown hgr hw.size (fun k e => (hO.lt k e).1)
  obtain ⟨ao2, ac2, rfl⟩ := slen_own hO2
  clear hgr hO c0
  replace c1 : w2.cell? ⟨gp, 1, none⟩ = some (.slice (some ⟨gb, 0, none⟩) 32 32) := (hw.cell (p := ⟨gp, 1, none⟩) lgp).trans c1
  go_wp2_with (fail)
  rw [rounds_succ]
  go_wp2_with (at_builtin; refine wpList_append_sec rfl (.tmp 31) (.tmp 32) rfl w.heap.size _ a rfl (.inl hO2) ⟨gb, 0, none⟩ b 32 (by rw [hb]; rfl) (row_news hAB) (by omega) (by simp [ha, hb]) hw.size ?_)
  intro v3 w3 hO3 hgr
  replace hw := hw.grown hgr hw.size (fun k e => (hO2.lt k (by rw [← e]; cases ao2 <;> rfl)).1)
  obtain ⟨ao3, ac3, rfl⟩ := slen_own hO3
  clear hgr hO2 c1
  go_wp2_with (fail)
  rw [rounds_succ]; go_wp2_with (fail)
  go_ret
  exact ⟨_, rfl, hO3, hw⟩

end Go.Proofs.YtlbcdjflcghkeaaDoor
