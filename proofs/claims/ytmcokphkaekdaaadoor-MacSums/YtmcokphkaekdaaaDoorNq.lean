import Derived.Test.YtmcokphkaekdaaaDoorProg
import Derived.WalkKit
import Derived.WalkSpells
import Derived.WalkLawsBesides
import Derived.Lib.QuietBelow
import Derived.BigQuiet
import Derived.Test.YtmcokphkaekdaaaDoorS0
import Derived.Test.YtmcokphkaekdaaaDoorS3
namespace Go.Proofs.YtmcokphkaekdaaaDoor
open Go Go.RowKit Go.Sort
attribute [local go_sem] setCell_drewN alloc_drewN

/-- A call that answers v in every world that keeps what was in w. -/
def GivesB (w : World) (f : FuncId) (args : Array Value) (v : Value) : Prop := ∀ W, Below w.heap.size w W → Calls Tryd.prog f args W fun e w' => e = .returned v ∧ Below W.heap.size W w'
theorem GivesB.keep {w W : World} {f : FuncId} {args : Array Value} {v : Value} (h : GivesB w f args v) (hb : Below w.heap.size w W) : GivesB W f args v := fun V hV => h V (Below.after hb hV)
theorem GivesB.re {w : World} {f : FuncId} {args : Array Value} {v : Value} (h : GivesB w f args v) {d : Nat} {os : Array Obj} : Calls Tryd.prog f args (grow (redrawn w d) os) fun e w'' => e = .returned v ∧ ∃ p : Regrown, w'' = grow (redrawn w p.d) p.os := Calls.regrown_of (h _ (below_regrown w d os))
theorem GivesB.at {w : World} {f : FuncId} {args : Array Value} {v : Value} (h : GivesB w f args v) : Calls Tryd.prog f args w fun e w' => e = .returned v ∧ Below w.heap.size w w' := h w (Below.refl _ _)
theorem eqHm (l : List Int) (hl : l.length = 32) (W : World) : (Op.equalIn 10000 25 (.agg (irow .u8 l)) (.agg (irow .u8 l))).run Tryd.prog W = .ok true W := by
  rw [eqK _ _ hl hl]; simp
set_option maxRecDepth 100000 in
set_option maxHeartbeats 4000000 in
theorem macSums_any (key bs : List Int) (w : World) (vk vb : Value) (hS : Sta w) (hK : Kon w) (hKy : BysN w vk key) (hB : BysN w vb bs) : Calls Tryd.prog 3 #[vk, vb] w fun e w' => e = .returned (.bool true) ∧ Below w.heap.size w w' := by
  have hkz := bys_bd hKy.1
  have hbz := bys_bd hB.1
  have hkl : key.length ≤ 140737488351232 := hKy.2.1
  have hbl : bs.length ≤ 140737488351232 := hB.2.1
  replace hKy := hKy.toM
  replace hB := hB.toM
  have sl1 : ∀ g W, _ := fun g W => slice_to (some ⟨g, 0, none⟩) (key.length + 80) (key.length + 80) key.length (by omega) W
  have sl2 : ∀ g W, _ := fun g W => slice_to (some ⟨g, 0, none⟩) (bs.length + 80) (bs.length + 80) bs.length (by omega) W
  have hHl := hm_len key bs
  have heq := eqHm _ hHl
  obtain ⟨uk, ukc, rfl, _⟩ := id hKy.1
  obtain ⟨ub, ubc, rfl, _⟩ := id hB.1
  go_enter Tryd.func3, Tryd.ntmps3
  go_wp2_with (fail)
  refine (l_hand key w _ hKy.1 (by omega)).mono ?_
  rintro e_ w1 ⟨rfl, rk, hw⟩
  have lgk := lt_of_row rk
  go_wp2_with (fail)
  refine (l_hand bs w1 _ (hB.1.keep hw) (by omega)).mono ?_
  rintro e_ w2 ⟨rfl, ri, hb⟩
  replace rk := keep hb rk
  replace hw := Below.after hw hb
  clear hb
  generalize w1.heap.size = gi at *
  have cA : GivesB w2 10 #[.slice (some ⟨w.heap.size, 0, none⟩) key.length (key.length + 80), .slice (some ⟨gi, 0, none⟩) bs.length (bs.length + 80)] (.agg (irow .u8 (hm key bs))) := fun W hW => a_macSum key bs W _ _ ((hS.below hw).below hW) ((hK.below hw).below hW) (Bys.of_prefix (keep hW rk) (by omega) hkz _) (fun a l c h => by cases h; omega) (by omega) (Bys.of_prefix (keep hW ri) (by omega) hbz _) (fun a l c h => by cases h; omega) (by omega)
  have cR : GivesB w2 11 #[.slice uk key.length ukc, .slice ub bs.length ubc] (.agg (irow .u8 (hm key bs))) := fun W hW => r_sum4 key bs W _ _ ((hKy.keep hw).keep hW) ((hB.keep hw).keep hW) (by omega)
  have cL1 : GivesB w2 12 #[.slice (some ⟨w.heap.size, 0, none⟩) (key.length + 80) (key.length + 80), .slice uk key.length ukc] (.bool true) := fun W hW => l_left key _ W _ ((hKy.1.keep hw).keep hW) (by omega) (keep hW rk)
  have cL2 : GivesB w2 12 #[.slice (some ⟨gi, 0, none⟩) (bs.length + 80) (bs.length + 80), .slice ub bs.length ubc] (.bool true) := fun W hW => l_left bs _ W _ ((hB.1.keep hw).keep hW) (by omega) (keep hW ri)
  generalize eH : hm key bs = H at *
  replace eH := hide eH
  go_wp2_with (fail)
  refine wp_region_alloc_ex 9 10 [7] (fun _ => .cells (irow .u8 (zr 32)) 25 (0, 0)) (by kernel_rfl) (by decide) (by decide) (by kernel_rfl) (by kernel_rfl) (by kernel_rfl) (by kernel_rfl) (by kernel_rfl) (by kernel_rfl) (by kernel_rfl) (by kernel_rfl) (by decide) (by decide) ?_ ?_
  · intro s l u
    obtain rfl : s = 9 := by omega
    exact ⟨_, _, rfl, rfl, rfl, rfl, fun a w => by kernel_rfl⟩
  apply Exists.intro
  constructor
  · intro v_ hb
    have Hrk := keepr (keep hb rk)
    have Hri := keepr (keep hb ri)
    have CcA := cA.keep hb
    have CcR := cR.keep hb
    have CcL1 := cL1.keep hb
    have CcL2 := cL2.keep hb
    clear hb; dsimp only [List.take]
    go_big_quiet_step (fail)
    go_big_quiet_step (fail)
    go_big_quiet_step (fail)
    go_big_quiet_step (fail)
    go_big_quiet_step (fail)
    go_big_quiet_step (fail)
    go_big_quiet_step (fail)
    go_big_quiet_step (fail)
    go_big_quiet_step (exact CcA.re)
    refine wpQuiet_nil ?_
    rfl
  intro w3 g_ hb hg hd_
  obtain ⟨lg_, rx⟩ := hg 7 (by simp)
  replace rx : w3.heap[g_ 7]? = some (.cells (irow .u8 (zr 32)) 25 (0, 0)) := rx
  simp only [List.drop, puts, ptrs, List.map, List.foldl, Act.put, List.setIfInBounds_toArray, List.set_cons_succ, List.set_cons_zero]
  clear hg hd_
  generalize g_ 7 = gx at *
  refine wpList_store_row rfl 25 _ _ rfl (gx) (irow .u8 H) rfl rfl 25 _ rx (infok8 _ hHl) (fit32 _ _ (zr_len 32) hHl) (irow_one _ _) ?_
  simp only [Act.put]
  replace rx := setRow_heap w3 (gx) _ (irow .u8 H) _ _ rx
  have hs_gx := hw.size
  have lo_gx : w.heap.size ≤ gx := by omega
  replace hb := below_setRow hb lg_ (irow .u8 H)
  generalize w3.setRow (gx) (irow .u8 H) = w4 at *
  clear lg_
  replace rk := keep hb rk
  replace ri := keep hb ri
  replace cA := cA.keep hb
  replace cR := cR.keep hb
  replace cL1 := cL1.keep hb
  replace cL2 := cL2.keep hb
  replace hw := Below.after hw hb
  clear hb
  go_wp2_with (fail)
  have Hrk := keepr rk
  have Hri := keepr ri
  have Hrx := keepr rx
  refine wp_region_quiet_below (by kernel_rfl) (by kernel_rfl) ?_
  refine wpQuiet_load_row rfl 25 _ rfl (gx) rfl 25 (irow .u8 H) (0, 0) _ Hrx.out Tryd.underlying25 rfl (infok8 _ hHl) ?_
  simp only [Act.put, List.setIfInBounds_toArray, List.set_cons_succ, List.set_cons_zero]
  go_big_quiet_step (fail)
  go_big_quiet_step (fail)
  go_big_quiet_step (exact cR.re)
  go_big_quiet_step (fail)
  go_big_quiet_step (fail)
  go_big_quiet_step (fail)
  go_big_quiet_step (fail)
  go_big_quiet_step (exact cL1.re)
  go_big_quiet_step (fail)
  go_big_quiet_step (fail)
  go_big_quiet_step (fail)
  go_big_quiet_step (fail)
  go_big_quiet_step (fail)
  go_big_quiet_step (exact cL2.re)
  go_big_quiet_step (fail)
  go_big_quiet_step (fail)
  refine wpQuiet_nil ?_
  rintro _ ⟨p, rfl⟩
  have hb := below_regrown w4 p.d p.os
  generalize grow (redrawn w4 p.d) p.os = w5 at *
  clear Hrk Hri Hrx
  replace rk := keep hb rk
  replace ri := keep hb ri
  replace rx := keep hb rx
  replace cA := cA.keep hb
  replace cR := cR.keep hb
  replace cL1 := cL1.keep hb
  replace cL2 := cL2.keep hb
  replace hw := Below.after hw hb
  clear hb
  clear cA cR cL1 cL2 heq rx
  have hs5 := hw.size
  go_wp2_with (fail)
  refine (l_turned key w.heap.size w5 _ (hKy.1.keep hw) (by omega) rk).mono ?_
  rintro e_ w6 ⟨rfl, ro, rk6, hgr⟩
  have lr := lt_of_row ri
  have l5 := lt_of_row rk
  replace ri : w6.heap[gi]? = _ := (hgr.block gi lr (by intro e; injection e with e; omega)).trans ri
  replace hw := hw.grown hgr hw.size (fun k h => by injection h with h; omega)
  clear hgr
  generalize w5.heap.size = g1 at *
  have hs6 := hw.size
  have l1 := lt_of_row ro
  go_wp2_with (fail)
  refine (l_turned bs gi w6 _ (hB.1.keep hw) (by omega) ri).mono ?_
  rintro e_ w7 ⟨rfl, ro2, ri7, hgr⟩
  have lk := lt_of_row rk6
  replace ro : w7.heap[g1]? = _ := (hgr.block g1 l1 (by intro e; injection e with e; omega)).trans ro
  replace rk6 : w7.heap[w.heap.size]? = _ := (hgr.block w.heap.size lk (by intro e; injection e with e; omega)).trans rk6
  replace hw := hw.grown hgr hw.size (fun k h => by injection h with h; omega)
  clear hgr ri
  generalize w6.heap.size = g2 at *
  have hHl2 := hm_len (tn4 key) (tn4 bs)
  have heq := eqHm _ hHl2
  have tk := tn4_len key
  have tb := tn4_len bs
  have hz1 := tn4_bd key
  have hz2 := tn4_bd bs
  have p1 : ∀ W, Below w7.heap.size w7 W → Bys W (.slice (some ⟨w.heap.size, 0, none⟩) key.length (key.length + 80)) (tn4 key) := fun W hW => by rw [← tk]; exact Bys.of_prefix (keep hW rk6) (by omega) hz1 _
  have p2 : ∀ W, Below w7.heap.size w7 W → Bys W (.slice (some ⟨gi, 0, none⟩) bs.length (bs.length + 80)) (tn4 bs) := fun W hW => by rw [← tb]; exact Bys.of_prefix (keep hW ri7) (by omega) hz2 _
  have cA : GivesB w7 10 #[.slice (some ⟨w.heap.size, 0, none⟩) key.length (key.length + 80), .slice (some ⟨gi, 0, none⟩) bs.length (bs.length + 80)] (.agg (irow .u8 (hm (tn4 key) (tn4 bs)))) := fun W hW => a_macSum (tn4 key) (tn4 bs) W _ _ ((hS.below hw).below hW) ((hK.below hw).below hW) (p1 W hW) (fun a l c h => by cases h; omega) (by omega) (p2 W hW) (fun a l c h => by cases h; omega) (by omega)
  have cR : GivesB w7 11 #[.slice (some ⟨g1, 0, none⟩) key.length key.length, .slice (some ⟨g2, 0, none⟩) bs.length bs.length] (.agg (irow .u8 (hm (tn4 key) (tn4 bs)))) := fun W hW => r_sum4 (tn4 key) (tn4 bs) W _ _ ((NB.of_row (keep hW ro) (by omega) hz1 _ _ tk).m (by omega)) ((NB.of_row (keep hW ro2) (by omega) hz2 _ _ tb).m (by omega)) (by omega)
  clear p1 p2 rk6 ri7 ro ro2
  generalize hm (tn4 key) (tn4 bs) = H2 at *
  go_wp2_with (fail)
  refine wp_region_quiet_below (by kernel_rfl) (by kernel_rfl) ?_
  go_big_quiet_step (fail)
  go_big_quiet_step (fail)
  go_big_quiet_step (fail)
  go_big_quiet_step (fail)
  go_big_quiet_step (fail)
  go_big_quiet_step (fail)
  go_big_quiet_step (fail)
  go_big_quiet_step (fail)
  go_big_quiet_step (exact cA.re)
  go_big_quiet_step (fail)
  go_big_quiet_step (fail)
  go_big_quiet_step (exact cR.re)
  go_big_quiet_step (fail)
  go_big_quiet_step (fail)
  refine wpQuiet_nil ?_
  rintro _ ⟨p, rfl⟩
  have hb := below_regrown w7 p.d p.os
  generalize grow (redrawn w7 p.d) p.os = w8 at *
  replace cA := cA.keep hb
  replace cR := cR.keep hb
  replace hw := Below.after hw hb
  clear hb
  go_wp2
  go_ret
  exact ⟨rfl, hw⟩
set_option maxRecDepth 100000 in
set_option maxHeartbeats 4000000 in
theorem macExtracts_any (key bs : List Int) (w : World) (vk vb : Value) (hS : Sta w) (hK : Kon w) (hKy : BysN w vk key) (hB : BysN w vb bs) : Calls Tryd.prog 5 #[vk, vb] w fun e w' => e = .returned (.bool true) ∧ Below w.heap.size w w' := by
  have hkz := bys_bd hKy.1
  have hbz := bys_bd hB.1
  have hkl : key.length ≤ 140737488351232 := hKy.2.1
  have hbl : bs.length ≤ 140737488351232 := hB.2.1
  replace hKy := hKy.toM
  replace hB := hB.toM
  have sl1 : ∀ g W, _ := fun g W => slice_to (some ⟨g, 0, none⟩) (key.length + 80) (key.length + 80) key.length (by omega) W
  have sl2 : ∀ g W, _ := fun g W => slice_to (some ⟨g, 0, none⟩) (bs.length + 80) (bs.length + 80) bs.length (by omega) W
  have hHl := hm_len key bs
  have heq := eqHm _ hHl
  obtain ⟨uk, ukc, rfl, _⟩ := id hKy.1
  obtain ⟨ub, ubc, rfl, _⟩ := id hB.1
  go_enter Tryd.func5, Tryd.ntmps5
  go_wp2_with (fail)
  refine (l_hand key w _ hKy.1 (by omega)).mono ?_
  rintro e_ w1 ⟨rfl, rk, hw⟩
  have lgk := lt_of_row rk
  go_wp2_with (fail)
  refine (l_hand bs w1 _ (hB.1.keep hw) (by omega)).mono ?_
  rintro e_ w2 ⟨rfl, ri, hb⟩
  replace rk := keep hb rk
  replace hw := Below.after hw hb
  clear hb
  generalize w1.heap.size = gi at *
  have cA : GivesB w2 22 #[.slice (some ⟨w.heap.size, 0, none⟩) key.length (key.length + 80), .slice (some ⟨gi, 0, none⟩) bs.length (bs.length + 80)] (.agg (irow .u8 (hm key bs))) := fun W hW => a_extract key bs W _ _ ((hS.below hw).below hW) ((hK.below hw).below hW) (Bys.of_prefix (keep hW rk) (by omega) hkz _) (fun a l c h => by cases h; omega) (by omega) (Bys.of_prefix (keep hW ri) (by omega) hbz _) (fun a l c h => by cases h; omega) (by omega)
  have cR : GivesB w2 23 #[.slice uk key.length ukc, .slice ub bs.length ubc] (.agg (irow .u8 (hm key bs))) := fun W hW => r_extract4 key bs W _ _ ((hKy.keep hw).keep hW) ((hB.keep hw).keep hW) (by omega)
  have cL1 : GivesB w2 12 #[.slice (some ⟨w.heap.size, 0, none⟩) (key.length + 80) (key.length + 80), .slice uk key.length ukc] (.bool true) := fun W hW => l_left key _ W _ ((hKy.1.keep hw).keep hW) (by omega) (keep hW rk)
  have cL2 : GivesB w2 12 #[.slice (some ⟨gi, 0, none⟩) (bs.length + 80) (bs.length + 80), .slice ub bs.length ubc] (.bool true) := fun W hW => l_left bs _ W _ ((hB.1.keep hw).keep hW) (by omega) (keep hW ri)
  generalize eH : hm key bs = H at *
  replace eH := hide eH
  go_wp2_with (fail)
  refine wp_region_alloc_ex 9 10 [7] (fun _ => .cells (irow .u8 (zr 32)) 25 (0, 0)) (by kernel_rfl) (by decide) (by decide) (by kernel_rfl) (by kernel_rfl) (by kernel_rfl) (by kernel_rfl) (by kernel_rfl) (by kernel_rfl) (by kernel_rfl) (by kernel_rfl) (by decide) (by decide) ?_ ?_
  · intro s l u
    obtain rfl : s = 9 := by omega
    exact ⟨_, _, rfl, rfl, rfl, rfl, fun a w => by kernel_rfl⟩
  apply Exists.intro
  constructor
  · intro v_ hb
    have Hrk := keepr (keep hb rk)
    have Hri := keepr (keep hb ri)
    have CcA := cA.keep hb
    have CcR := cR.keep hb
    have CcL1 := cL1.keep hb
    have CcL2 := cL2.keep hb
    clear hb; dsimp only [List.take]
    go_big_quiet_step (fail)
    go_big_quiet_step (fail)
    go_big_quiet_step (fail)
    go_big_quiet_step (fail)
    go_big_quiet_step (fail)
    go_big_quiet_step (fail)
    go_big_quiet_step (fail)
    go_big_quiet_step (fail)
    go_big_quiet_step (exact CcA.re)
    refine wpQuiet_nil ?_
    rfl
  intro w3 g_ hb hg hd_
  obtain ⟨lg_, rx⟩ := hg 7 (by simp)
  replace rx : w3.heap[g_ 7]? = some (.cells (irow .u8 (zr 32)) 25 (0, 0)) := rx
  simp only [List.drop, puts, ptrs, List.map, List.foldl, Act.put, List.setIfInBounds_toArray, List.set_cons_succ, List.set_cons_zero]
  clear hg hd_
  generalize g_ 7 = gx at *
  refine wpList_store_row rfl 25 _ _ rfl (gx) (irow .u8 H) rfl rfl 25 _ rx (infok8 _ hHl) (fit32 _ _ (zr_len 32) hHl) (irow_one _ _) ?_
  simp only [Act.put]
  replace rx := setRow_heap w3 (gx) _ (irow .u8 H) _ _ rx
  have hs_gx := hw.size
  have lo_gx : w.heap.size ≤ gx := by omega
  replace hb := below_setRow hb lg_ (irow .u8 H)
  generalize w3.setRow (gx) (irow .u8 H) = w4 at *
  clear lg_
  replace rk := keep hb rk
  replace ri := keep hb ri
  replace cA := cA.keep hb
  replace cR := cR.keep hb
  replace cL1 := cL1.keep hb
  replace cL2 := cL2.keep hb
  replace hw := Below.after hw hb
  clear hb
  go_wp2_with (fail)
  have Hrk := keepr rk
  have Hri := keepr ri
  have Hrx := keepr rx
  refine wp_region_quiet_below (by kernel_rfl) (by kernel_rfl) ?_
  refine wpQuiet_load_row rfl 25 _ rfl (gx) rfl 25 (irow .u8 H) (0, 0) _ Hrx.out Tryd.underlying25 rfl (infok8 _ hHl) ?_
  simp only [Act.put, List.setIfInBounds_toArray, List.set_cons_succ, List.set_cons_zero]
  go_big_quiet_step (fail)
  go_big_quiet_step (fail)
  go_big_quiet_step (exact cR.re)
  go_big_quiet_step (fail)
  go_big_quiet_step (fail)
  go_big_quiet_step (fail)
  go_big_quiet_step (fail)
  go_big_quiet_step (exact cL1.re)
  go_big_quiet_step (fail)
  go_big_quiet_step (fail)
  go_big_quiet_step (fail)
  go_big_quiet_step (fail)
  go_big_quiet_step (exact cL2.re)
  go_big_quiet_step (fail)
  go_big_quiet_step (fail)
  refine wpQuiet_nil ?_
  rintro _ ⟨p, rfl⟩
  have hb := below_regrown w4 p.d p.os
  generalize grow (redrawn w4 p.d) p.os = w5 at *
  clear Hrk Hri Hrx
  replace rk := keep hb rk
  replace ri := keep hb ri
  replace rx := keep hb rx
  replace cA := cA.keep hb
  replace cR := cR.keep hb
  replace cL1 := cL1.keep hb
  replace cL2 := cL2.keep hb
  replace hw := Below.after hw hb
  clear hb
  go_wp2
  go_ret
  exact ⟨rfl, hw⟩

end Go.Proofs.YtmcokphkaekdaaaDoor
