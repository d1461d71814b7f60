import Derived.Test.YtdimjlbnjhopgaaDoorProg
import Derived.WalkKit
import Derived.WalkSpells
import Derived.WalkLawsBesides
import Derived.Lib.QuietBelow
import Derived.BigQuiet
import Derived.Test.YtdimjlbnjhopgaaDoorKa
import Derived.Test.YtdimjlbnjhopgaaDoorCy
import Derived.Test.YtdimjlbnjhopgaaDoorEe
namespace Go.Proofs.YtdimjlbnjhopgaaDoor
open Go.RowKit Go.Sort
attribute [local go_sem] setCell_drewN alloc_drewN


set_option maxRecDepth 100000 in
set_option maxHeartbeats 8000000 in
theorem turns_any {ka kc ku : Array Value} {Ka Kb U : Int} (hka : KeyOf ka Ka) (hkc : KeyOf kc Kb) (hku : KeyOf ku U) (w : World) (hF : Four w) :
    Calls Tryd.prog 5 #[.agg ka, .agg kc, .agg ku] w fun e w' => e = .returned (.bool true) ∧ Below w.heap.size w w' := by
  have heq : ∀ (q : Int) W, (Op.equalIn 10000 23 (.agg (kb q)) (.agg (kb q))).run Tryd.prog W = .ok true W := fun q W => by
    have e : kb q = #[.int .u8 (byt q 0), .int .u8 (byt q 1), .int .u8 (byt q 2), .int .u8 (byt q 3), .int .u8 (byt q 4), .int .u8 (byt q 5), .int .u8 (byt q 6), .int .u8 (byt q 7), .int .u8 (byt q 8), .int .u8 (byt q 9), .int .u8 (byt q 10), .int .u8 (byt q 11), .int .u8 (byt q 12), .int .u8 (byt q 13), .int .u8 (byt q 14), .int .u8 (byt q 15), .int .u8 (byt q 16), .int .u8 (byt q 17), .int .u8 (byt q 18), .int .u8 (byt q 19), .int .u8 (byt q 20), .int .u8 (byt q 21), .int .u8 (byt q 22), .int .u8 (byt q 23), .int .u8 (byt q 24), .int .u8 (byt q 25), .int .u8 (byt q 26), .int .u8 (byt q 27), .int .u8 (byt q 28), .int .u8 (byt q 29), .int .u8 (byt q 30), .int .u8 (byt q 31)] := rfl
    rw [e, keys_equal]; simp
  have cV := vectors_any
  have hB : KeyOf (kb (scl Kb U)) (scl Kb U) := kb_key _ (scl_bd _ _).1 (scl_bd _ _).2
  have hA : KeyOf (kb (scl Ka U)) (scl Ka U) := kb_key _ (scl_bd _ _).1 (scl_bd _ _).2
  have s1 := a_scale hkc hku
  have s2 := a_scale hka hB
  have s3 := a_scale hka hku
  have s4 := a_scale hkc hA
  have e : scl Ka (scl Kb U) = scl Kb (scl Ka U) := scl_turn Ka Kb U
  rw [e] at s2
  clear e
  generalize scl Kb (scl Ka U) = Y at *
  generalize scl Kb U = B at *
  generalize scl Ka U = A at *
  have rp0 : (((w.alloc (.cells ka 23)).alloc (.cells kc 23)).alloc (.cells ku 23)).heap[w.heap.size]? = some (.cells ka 23 (0, 0)) := hp3_0 w _ _ _
  have rp1 : (((w.alloc (.cells ka 23)).alloc (.cells kc 23)).alloc (.cells ku 23)).heap[w.heap.size + 1]? = some (.cells kc 23 (0, 0)) := hp3_1 w _ _ _
  have rp2 : (((w.alloc (.cells ka 23)).alloc (.cells kc 23)).alloc (.cells ku 23)).heap[w.heap.size + 1 + 1]? = some (.cells ku 23 (0, 0)) := hp3_2 w _ _ _
  have hw : Below w.heap.size w (((w.alloc (.cells ka 23)).alloc (.cells kc 23)).alloc (.cells ku 23)) := ((((Below.refl _ _).alloc (Nat.le_refl _) _).alloc (by simp) _).alloc (by simp; omega) _)
  have hz0 := hF.1
  have f4 : Four (((w.alloc (.cells ka 23)).alloc (.cells kc 23)).alloc (.cells ku 23)) := (((hF.alloc _).alloc _).alloc _)
  go_enter Tryd.func5, Tryd.ntmps5
  iterate 15 go_step
  generalize (((w.alloc (.cells ka 23)).alloc (.cells kc 23)).alloc (.cells ku 23)) = w0 at *
  go_wp2_with (first | (refine wpList_load_want rfl 23 _ rfl (w.heap.size) rfl 23 ka (0, 0) _ rp0 Tryd.underlying23 rfl hka.info ?_) | (refine wpList_load_want rfl 23 _ rfl (w.heap.size + 1) rfl 23 kc (0, 0) _ rp1 Tryd.underlying23 rfl hkc.info ?_) | (refine wpList_load_want rfl 23 _ rfl (w.heap.size + 1 + 1) rfl 23 ku (0, 0) _ rp2 Tryd.underlying23 rfl hku.info ?_) | fail)
  refine (cV.at f4).mono ?_
  rintro e w1 ⟨rfl, hb⟩
  replace rp0 := keep hb rp0
  replace rp1 := keep hb rp1
  replace rp2 := keep hb rp2
  replace hw := Below.after hw hb
  replace f4 := f4.below hb
  clear hb
  go_wp2_with (first | fail)
  have Hrp0 := keepr rp0
  have Hrp1 := keepr rp1
  have Hrp2 := keepr rp2
  refine wp_region_quiet_below (by kernel_rfl) (by kernel_rfl) ?_
  refine wpQuiet_load_row rfl 23 _ rfl (w.heap.size) rfl 23 ka (0, 0) _ Hrp0.out Tryd.underlying23 rfl hka.info ?_
  simp only [Act.put, List.setIfInBounds_toArray, List.set_cons_succ, List.set_cons_zero]
  refine wpQuiet_load_row rfl 23 _ rfl (w.heap.size + 1) rfl 23 kc (0, 0) _ Hrp1.out Tryd.underlying23 rfl hkc.info ?_
  simp only [Act.put, List.setIfInBounds_toArray, List.set_cons_succ, List.set_cons_zero]
  refine wpQuiet_load_row rfl 23 _ rfl (w.heap.size + 1 + 1) rfl 23 ku (0, 0) _ Hrp2.out Tryd.underlying23 rfl hku.info ?_
  simp only [Act.put, List.setIfInBounds_toArray, List.set_cons_succ, List.set_cons_zero]
  go_big_quiet_step (exact s1.re f4)
  go_big_quiet_step (exact s2.re f4)
  refine wpQuiet_load_row rfl 23 _ rfl (w.heap.size + 1) rfl 23 kc (0, 0) _ Hrp1.out Tryd.underlying23 rfl hkc.info ?_
  simp only [Act.put, List.setIfInBounds_toArray, List.set_cons_succ, List.set_cons_zero]
  refine wpQuiet_load_row rfl 23 _ rfl (w.heap.size) rfl 23 ka (0, 0) _ Hrp0.out Tryd.underlying23 rfl hka.info ?_
  simp only [Act.put, List.setIfInBounds_toArray, List.set_cons_succ, List.set_cons_zero]
  refine wpQuiet_load_row rfl 23 _ rfl (w.heap.size + 1 + 1) rfl 23 ku (0, 0) _ Hrp2.out Tryd.underlying23 rfl hku.info ?_
  simp only [Act.put, List.setIfInBounds_toArray, List.set_cons_succ, List.set_cons_zero]
  go_big_quiet_step (exact s3.re f4)
  go_big_quiet_step (exact s4.re f4)
  go_big_quiet_step (fail)
  go_big_quiet_step (fail)
  refine wpQuiet_nil ?_
  rintro _ ⟨p, rfl⟩
  have hb := below_regrown w1 p.d p.os
  generalize grow (redrawn w1 p.d) p.os = w2 at *
  replace rp0 := keep hb rp0
  replace rp1 := keep hb rp1
  replace rp2 := keep hb rp2
  replace hw := Below.after hw hb
  replace f4 := f4.below hb
  clear hb
  clear Hrp0 Hrp1 Hrp2
  go_wp2
  go_ret
  exact ⟨rfl, hw⟩

end Go.Proofs.YtdimjlbnjhopgaaDoor

