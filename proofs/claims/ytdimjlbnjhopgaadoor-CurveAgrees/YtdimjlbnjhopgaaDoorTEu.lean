import Derived.Test.YtdimjlbnjhopgaaDoorProg
import Derived.WalkKit
import Derived.WalkSpells
import Derived.WalkLawsBesides
import Derived.Lib.QuietBelow
import Derived.BigQuiet
import Derived.Test.YtdimjlbnjhopgaaDoorKa
import Derived.Test.YtdimjlbnjhopgaaDoorCna
import Derived.Test.YtdimjlbnjhopgaaDoorDa
import Derived.Test.YtdimjlbnjhopgaaDoorBg
namespace Go.Proofs.YtdimjlbnjhopgaaDoor
open Go.RowKit Go.Sort
attribute [local go_sem] setCell_drewN alloc_drewN


theorem clp_clp' (N : Int) : clp (clp N) = clp N := by unfold clp; omega
theorem pair_p0 (N : Int) : (pairC N).extract 0 (0 + (kb (clp N)).size) = kb (clp N) := by kernel_rfl
theorem pair_p1 (N : Int) : (pairC N).extract 32 (32 + (kb (scl N 9)).size) = kb (scl N 9) := by kernel_rfl
theorem pair_brow (bs : List Int) : (pairV bs).size = 64 ∧ (pairV bs).all (·.oneCell') = true := by
  unfold pairV
  by_cases h : bs.length = 32
  · rw [if_pos h]; exact ⟨rfl, pairC_one _⟩
  · rw [if_neg h]; exact ⟨rfl, by kernel_rfl⟩


set_option maxRecDepth 100000 in
set_option maxHeartbeats 8000000 in
theorem agrees_TT (cs bs : List Int) (hza : ∀ z ∈ cs, 0 ≤ z ∧ z < 256) (hzb : ∀ z ∈ bs, 0 ≤ z ∧ z < 256) (ha : cs.length = 32) (hb : bs.length = 32) (w : World) (va vb : Value) (hF : Four w) (hBa : Bys w va cs) (hBb : Bys w vb bs) :
    Calls Tryd.prog 6 #[va, vb] w fun e w' => e = .returned (.bool true) ∧ Below w.heap.size w w' := by
  have heq : ∀ (q : Int) W, (Op.equalIn 10000 23 (.agg (kb q)) (.agg (kb q))).run Tryd.prog W = .ok true W := fun q W => by
    have e : kb q = #[.int .u8 (byt q 0), .int .u8 (byt q 1), .int .u8 (byt q 2), .int .u8 (byt q 3), .int .u8 (byt q 4), .int .u8 (byt q 5), .int .u8 (byt q 6), .int .u8 (byt q 7), .int .u8 (byt q 8), .int .u8 (byt q 9), .int .u8 (byt q 10), .int .u8 (byt q 11), .int .u8 (byt q 12), .int .u8 (byt q 13), .int .u8 (byt q 14), .int .u8 (byt q 15), .int .u8 (byt q 16), .int .u8 (byt q 17), .int .u8 (byt q 18), .int .u8 (byt q 19), .int .u8 (byt q 20), .int .u8 (byt q 21), .int .u8 (byt q 22), .int .u8 (byt q 23), .int .u8 (byt q 24), .int .u8 (byt q 25), .int .u8 (byt q 26), .int .u8 (byt q 27), .int .u8 (byt q 28), .int .u8 (byt q 29), .int .u8 (byt q 30), .int .u8 (byt q 31)] := rfl
    rw [e, keys_equal]; simp
  have cA := a_pair cs hza w _ hF hBa
  have cB := fun (w' : World) (h4 : Four w') (h : Bys w' vb bs) => a_pair bs hzb w' vb h4 h
  have i1 : (Tryd.prog.info? 38).map (·.size) = some (pairV cs).size := by rw [(pair_brow cs).1]; exact pair_info
  obtain ⟨s1, o1⟩ := pair_brow cs
  have i2 : (Tryd.prog.info? 38).map (·.size) = some (pairV bs).size := by rw [(pair_brow bs).1]; exact pair_info
  obtain ⟨s2, o2⟩ := pair_brow bs
  have e1 : pairE cs = 0 := if_pos ha
  have e2 : pairE bs = 0 := if_pos hb
  rw [e1] at cA
  rw [e2] at cB
  clear e1 e2
  have hBb' := hBb
  obtain ⟨ao, cap, rfl, _, _, _⟩ := hBa
  obtain ⟨bo, cbp, rfl, _, _, _⟩ := hBb
  have p1 : pairV cs = pairC (valB cs) := if_pos ha
  have p2 : pairV bs = pairC (valB bs) := if_pos hb
  rw [p1] at cA i1 s1 o1
  rw [p2] at cB i2 s2 o2
  have ka : KeyOf (kb (clp (valB cs))) (clp (valB cs)) := kb_key _ (clp_bd _).1 (Int.lt_trans (clp_bd _).2 (by decide))
  have kb' : KeyOf (kb (clp (valB bs))) (clp (valB bs)) := kb_key _ (clp_bd _).1 (Int.lt_trans (clp_bd _).2 (by decide))
  have ua : KeyOf (kb (scl (valB cs) 9)) (scl (valB cs) 9) := kb_key _ (scl_bd _ _).1 (scl_bd _ _).2
  have ub : KeyOf (kb (scl (valB bs) 9)) (scl (valB bs) 9) := kb_key _ (scl_bd _ _).1 (scl_bd _ _).2
  have c1 := a_shared ka ub
  have c2 := a_shared kb' ua
  have q1 : scl (clp (valB cs)) (scl (valB bs) 9) = scl (valB cs) (scl (valB bs) 9) := by unfold scl; rw [clp_clp']
  have q2 : scl (clp (valB bs)) (scl (valB cs) 9) = scl (valB cs) (scl (valB bs) 9) := by
    have : scl (clp (valB bs)) (scl (valB cs) 9) = scl (valB bs) (scl (valB cs) 9) := by unfold scl; rw [clp_clp']
    rw [this]; exact scl_turn _ _ _
  rw [q1] at c1
  rw [q2] at c2
  have hne := scl_secret (valB cs) (valB bs)
  have hY : KeyOf (kb (scl (valB cs) (scl (valB bs) 9))) (scl (valB cs) (scl (valB bs) 9)) := kb_key _ (scl_bd _ _).1 (scl_bd _ _).2
  have heq0 := key_zero_eq (scl (valB cs) (scl (valB bs) 9)) (scl_bd _ _).1 (scl_bd _ _).2
  rw [show weakE (scl (valB cs) (scl (valB bs) 9)) = 0 from if_neg hne] at c1 c2
  rw [decide_eq_false hne] at heq0
  have g1 := pair_p0 (valB cs)
  have g2 := pair_p1 (valB cs)
  have g3 := pair_p0 (valB bs)
  have g4 := pair_p1 (valB bs)
  have hz := key_zero
  clear q1 q2 hne p1 p2
  generalize scl (valB cs) (scl (valB bs) 9) = Y at *
  generalize pairC (valB cs) = PA at *
  generalize pairC (valB bs) = PB at *
  generalize clp (valB cs) = SA at *
  generalize clp (valB bs) = SB at *
  generalize scl (valB cs) 9 = UA at *
  generalize scl (valB bs) 9 = UB at *
  rw [ha] at cA
  rw [hb] at cB hBb'
  rw [ha, hb]
  go_enter Tryd.func6, Tryd.ntmps6
  go_wp2_with (first | fail)
  refine cA.mono ?_
  rintro e w1 ⟨rfl, hw⟩
  clear cA
  have ra : (w1.alloc (.cells PA 38)).heap[w1.heap.size]? = some (.cells PA 38 (0, 0)) := hp1_0 w1 _
  have hb1 : Below w1.heap.size w1 (w1.alloc (.cells PA 38)) := (Below.refl _ _).alloc (Nat.le_refl _) _
  have f4 := (hF.below hw).below hb1
  replace hw := Below.after hw hb1
  have cB1 := cB (w1.alloc (.cells PA 38)) f4 (hBb'.keep hw)
  clear hb1 cB
  go_wp2_with (first | (refine wpList_store_row rfl 38 _ _ rfl (w1.heap.size) PA rfl rfl 38 #[.int .u8 0, .int .u8 0, .int .u8 0, .int .u8 0, .int .u8 0, .int .u8 0, .int .u8 0, .int .u8 0, .int .u8 0, .int .u8 0, .int .u8 0, .int .u8 0, .int .u8 0, .int .u8 0, .int .u8 0, .int .u8 0, .int .u8 0, .int .u8 0, .int .u8 0, .int .u8 0, .int .u8 0, .int .u8 0, .int .u8 0, .int .u8 0, .int .u8 0, .int .u8 0, .int .u8 0, .int .u8 0, .int .u8 0, .int .u8 0, .int .u8 0, .int .u8 0, .int .u8 0, .int .u8 0, .int .u8 0, .int .u8 0, .int .u8 0, .int .u8 0, .int .u8 0, .int .u8 0, .int .u8 0, .int .u8 0, .int .u8 0, .int .u8 0, .int .u8 0, .int .u8 0, .int .u8 0, .int .u8 0, .int .u8 0, .int .u8 0, .int .u8 0, .int .u8 0, .int .u8 0, .int .u8 0, .int .u8 0, .int .u8 0, .int .u8 0, .int .u8 0, .int .u8 0, .int .u8 0, .int .u8 0, .int .u8 0, .int .u8 0, .int .u8 0] (hp1_0 w1 _) i1 s1.symm o1 ?_; rw [setRow_alloc_new _ _ _ _ _ _ rfl]) | fail)
  generalize (w1.alloc (.cells PA 38)) = w2 at *
  generalize w1.heap.size = ga at *
  refine cB1.mono ?_
  rintro e w3 ⟨rfl, hb1⟩
  replace ra := keep hb1 ra
  replace f4 := f4.below hb1
  replace hw := Below.after hw hb1
  clear hb1 cB1
  have rb : (w3.alloc (.cells PB 38)).heap[w3.heap.size]? = some (.cells PB 38 (0, 0)) := hp1_0 w3 _
  have hb1 : Below w3.heap.size w3 (w3.alloc (.cells PB 38)) := (Below.refl _ _).alloc (Nat.le_refl _) _
  replace ra := keep hb1 ra
  replace f4 := f4.below hb1
  replace hw := Below.after hw hb1
  clear hb1
  go_wp2_with (first | (refine wpList_store_row rfl 38 _ _ rfl (w3.heap.size) PB rfl rfl 38 #[.int .u8 0, .int .u8 0, .int .u8 0, .int .u8 0, .int .u8 0, .int .u8 0, .int .u8 0, .int .u8 0, .int .u8 0, .int .u8 0, .int .u8 0, .int .u8 0, .int .u8 0, .int .u8 0, .int .u8 0, .int .u8 0, .int .u8 0, .int .u8 0, .int .u8 0, .int .u8 0, .int .u8 0, .int .u8 0, .int .u8 0, .int .u8 0, .int .u8 0, .int .u8 0, .int .u8 0, .int .u8 0, .int .u8 0, .int .u8 0, .int .u8 0, .int .u8 0, .int .u8 0, .int .u8 0, .int .u8 0, .int .u8 0, .int .u8 0, .int .u8 0, .int .u8 0, .int .u8 0, .int .u8 0, .int .u8 0, .int .u8 0, .int .u8 0, .int .u8 0, .int .u8 0, .int .u8 0, .int .u8 0, .int .u8 0, .int .u8 0, .int .u8 0, .int .u8 0, .int .u8 0, .int .u8 0, .int .u8 0, .int .u8 0, .int .u8 0, .int .u8 0, .int .u8 0, .int .u8 0, .int .u8 0, .int .u8 0, .int .u8 0, .int .u8 0] (hp1_0 w3 _) i2 s2.symm o2 ?_; rw [setRow_alloc_new _ _ _ _ _ _ rfl]) | (refine wpList_load_part rfl 23 _ rfl (ga) 0 rfl 38 PA (0, 0) (kb SA) _ ra g1 Tryd.underlying23 rfl ka.info ?_) | (refine wpList_load_part rfl 23 _ rfl (w3.heap.size) 32 rfl 38 PB (0, 0) (kb UB) _ rb g4 Tryd.underlying23 rfl ub.info ?_) | fail)
  generalize (w3.alloc (.cells PB 38)) = w4 at *
  generalize w3.heap.size = gb at *
  refine (c1.at f4).mono ?_
  rintro e w5 ⟨rfl, hb1⟩
  replace ra := keep hb1 ra
  replace rb := keep hb1 rb
  replace f4 := f4.below hb1
  replace hw := Below.after hw hb1
  clear hb1
  have rx : (w5.alloc (.cells (kb Y) 23)).heap[w5.heap.size]? = some (.cells (kb Y) 23 (0, 0)) := hp1_0 w5 _
  have hb1 : Below w5.heap.size w5 (w5.alloc (.cells (kb Y) 23)) := (Below.refl _ _).alloc (Nat.le_refl _) _
  replace ra := keep hb1 ra
  replace rb := keep hb1 rb
  replace f4 := f4.below hb1
  replace hw := Below.after hw hb1
  clear hb1
  go_wp2_with (first | (refine wpList_store_row rfl 23 _ _ rfl (w5.heap.size) (kb Y) rfl rfl 23 #[.int .u8 0, .int .u8 0, .int .u8 0, .int .u8 0, .int .u8 0, .int .u8 0, .int .u8 0, .int .u8 0, .int .u8 0, .int .u8 0, .int .u8 0, .int .u8 0, .int .u8 0, .int .u8 0, .int .u8 0, .int .u8 0, .int .u8 0, .int .u8 0, .int .u8 0, .int .u8 0, .int .u8 0, .int .u8 0, .int .u8 0, .int .u8 0, .int .u8 0, .int .u8 0, .int .u8 0, .int .u8 0, .int .u8 0, .int .u8 0, .int .u8 0, .int .u8 0] (hp1_0 w5 _) hY.info (hz.size.trans hY.size.symm) hY.one ?_; rw [setRow_alloc_new _ _ _ _ _ _ rfl]) | (refine wpList_load_part rfl 23 _ rfl (gb) 0 rfl 38 PB (0, 0) (kb SB) _ rb g3 Tryd.underlying23 rfl kb'.info ?_) | (refine wpList_load_part rfl 23 _ rfl (ga) 32 rfl 38 PA (0, 0) (kb UA) _ ra g2 Tryd.underlying23 rfl ua.info ?_) | fail)
  generalize (w5.alloc (.cells (kb Y) 23)) = w6 at *
  generalize w5.heap.size = gx at *
  refine (c2.at f4).mono ?_
  rintro e w7 ⟨rfl, hb1⟩
  replace rx := keep hb1 rx
  replace hw := Below.after hw hb1
  clear hb1
  have ry : (w7.alloc (.cells (kb Y) 23)).heap[w7.heap.size]? = some (.cells (kb Y) 23 (0, 0)) := hp1_0 w7 _
  have hb1 : Below w7.heap.size w7 (w7.alloc (.cells (kb Y) 23)) := (Below.refl _ _).alloc (Nat.le_refl _) _
  replace rx := keep hb1 rx
  replace hw := Below.after hw hb1
  clear hb1
  go_wp2_with (first | (refine wpList_store_row rfl 23 _ _ rfl (w7.heap.size) (kb Y) rfl rfl 23 #[.int .u8 0, .int .u8 0, .int .u8 0, .int .u8 0, .int .u8 0, .int .u8 0, .int .u8 0, .int .u8 0, .int .u8 0, .int .u8 0, .int .u8 0, .int .u8 0, .int .u8 0, .int .u8 0, .int .u8 0, .int .u8 0, .int .u8 0, .int .u8 0, .int .u8 0, .int .u8 0, .int .u8 0, .int .u8 0, .int .u8 0, .int .u8 0, .int .u8 0, .int .u8 0, .int .u8 0, .int .u8 0, .int .u8 0, .int .u8 0, .int .u8 0, .int .u8 0] (hp1_0 w7 _) hY.info (hz.size.trans hY.size.symm) hY.one ?_; rw [setRow_alloc_new _ _ _ _ _ _ rfl]) | (refine wpList_load_want rfl 23 _ rfl (gx) rfl 23 (kb Y) (0, 0) _ rx Tryd.underlying23 rfl hY.info ?_) | (refine wpList_load_want rfl 23 _ rfl (w7.heap.size) rfl 23 (kb Y) (0, 0) _ ry Tryd.underlying23 rfl hY.info ?_) | (refine wpList_build_as rfl 23 _ rfl [] rfl #[.int .u8 0, .int .u8 0, .int .u8 0, .int .u8 0, .int .u8 0, .int .u8 0, .int .u8 0, .int .u8 0, .int .u8 0, .int .u8 0, .int .u8 0, .int .u8 0, .int .u8 0, .int .u8 0, .int .u8 0, .int .u8 0, .int .u8 0, .int .u8 0, .int .u8 0, .int .u8 0, .int .u8 0, .int .u8 0, .int .u8 0, .int .u8 0, .int .u8 0, .int .u8 0, .int .u8 0, .int .u8 0, .int .u8 0, .int .u8 0, .int .u8 0, .int .u8 0] built0 ?_) | fail)
  go_ret
  exact ⟨by (simp [*] <;> omega), hw⟩


set_option maxRecDepth 100000 in
set_option maxHeartbeats 8000000 in
theorem agrees_TF (cs bs : List Int) (hza : ∀ z ∈ cs, 0 ≤ z ∧ z < 256) (hzb : ∀ z ∈ bs, 0 ≤ z ∧ z < 256) (ha : cs.length = 32) (hb : bs.length ≠ 32) (w : World) (va vb : Value) (hF : Four w) (hBa : Bys w va cs) (hBb : Bys w vb bs) :
    Calls Tryd.prog 6 #[va, vb] w fun e w' => e = .returned (.bool true) ∧ Below w.heap.size w w' := by
  have heq : ∀ (q : Int) W, (Op.equalIn 10000 23 (.agg (kb q)) (.agg (kb q))).run Tryd.prog W = .ok true W := fun q W => by
    have e : kb q = #[.int .u8 (byt q 0), .int .u8 (byt q 1), .int .u8 (byt q 2), .int .u8 (byt q 3), .int .u8 (byt q 4), .int .u8 (byt q 5), .int .u8 (byt q 6), .int .u8 (byt q 7), .int .u8 (byt q 8), .int .u8 (byt q 9), .int .u8 (byt q 10), .int .u8 (byt q 11), .int .u8 (byt q 12), .int .u8 (byt q 13), .int .u8 (byt q 14), .int .u8 (byt q 15), .int .u8 (byt q 16), .int .u8 (byt q 17), .int .u8 (byt q 18), .int .u8 (byt q 19), .int .u8 (byt q 20), .int .u8 (byt q 21), .int .u8 (byt q 22), .int .u8 (byt q 23), .int .u8 (byt q 24), .int .u8 (byt q 25), .int .u8 (byt q 26), .int .u8 (byt q 27), .int .u8 (byt q 28), .int .u8 (byt q 29), .int .u8 (byt q 30), .int .u8 (byt q 31)] := rfl
    rw [e, keys_equal]; simp
  have cA := a_pair cs hza w _ hF hBa
  have cB := fun (w' : World) (h4 : Four w') (h : Bys w' vb bs) => a_pair bs hzb w' vb h4 h
  have i1 : (Tryd.prog.info? 38).map (·.size) = some (pairV cs).size := by rw [(pair_brow cs).1]; exact pair_info
  obtain ⟨s1, o1⟩ := pair_brow cs
  have i2 : (Tryd.prog.info? 38).map (·.size) = some (pairV bs).size := by rw [(pair_brow bs).1]; exact pair_info
  obtain ⟨s2, o2⟩ := pair_brow bs
  have e1 : pairE cs = 0 := if_pos ha
  have e2 : pairE bs = 3 := if_neg hb
  rw [e1] at cA
  rw [e2] at cB
  clear e1 e2
  have hBb' := hBb
  obtain ⟨ao, cap, rfl, _, _, _⟩ := hBa
  obtain ⟨bo, cbp, rfl, _, _, _⟩ := hBb
  generalize pairV cs = PA at *
  generalize pairV bs = PB at *
  rw [ha] at cA
  rw [ha]
  have hdb : decide ((bs.length : Int) = 32) = false := by simp; omega
  generalize hlb : bs.length = lb at *
  go_enter Tryd.func6, Tryd.ntmps6
  go_wp2_with (first | fail)
  refine cA.mono ?_
  rintro e w1 ⟨rfl, hw⟩
  clear cA
  have ra : (w1.alloc (.cells PA 38)).heap[w1.heap.size]? = some (.cells PA 38 (0, 0)) := hp1_0 w1 _
  have hb1 : Below w1.heap.size w1 (w1.alloc (.cells PA 38)) := (Below.refl _ _).alloc (Nat.le_refl _) _
  have f4 := (hF.below hw).below hb1
  replace hw := Below.after hw hb1
  have cB1 := cB (w1.alloc (.cells PA 38)) f4 (hBb'.keep hw)
  clear hb1 cB
  go_wp2_with (first | (refine wpList_store_row rfl 38 _ _ rfl (w1.heap.size) PA rfl rfl 38 #[.int .u8 0, .int .u8 0, .int .u8 0, .int .u8 0, .int .u8 0, .int .u8 0, .int .u8 0, .int .u8 0, .int .u8 0, .int .u8 0, .int .u8 0, .int .u8 0, .int .u8 0, .int .u8 0, .int .u8 0, .int .u8 0, .int .u8 0, .int .u8 0, .int .u8 0, .int .u8 0, .int .u8 0, .int .u8 0, .int .u8 0, .int .u8 0, .int .u8 0, .int .u8 0, .int .u8 0, .int .u8 0, .int .u8 0, .int .u8 0, .int .u8 0, .int .u8 0, .int .u8 0, .int .u8 0, .int .u8 0, .int .u8 0, .int .u8 0, .int .u8 0, .int .u8 0, .int .u8 0, .int .u8 0, .int .u8 0, .int .u8 0, .int .u8 0, .int .u8 0, .int .u8 0, .int .u8 0, .int .u8 0, .int .u8 0, .int .u8 0, .int .u8 0, .int .u8 0, .int .u8 0, .int .u8 0, .int .u8 0, .int .u8 0, .int .u8 0, .int .u8 0, .int .u8 0, .int .u8 0, .int .u8 0, .int .u8 0, .int .u8 0, .int .u8 0] (hp1_0 w1 _) i1 s1.symm o1 ?_; rw [setRow_alloc_new _ _ _ _ _ _ rfl]) | fail)
  generalize (w1.alloc (.cells PA 38)) = w2 at *
  generalize w1.heap.size = ga at *
  refine cB1.mono ?_
  rintro e w3 ⟨rfl, hb1⟩
  replace ra := keep hb1 ra
  replace f4 := f4.below hb1
  replace hw := Below.after hw hb1
  clear hb1 cB1
  have rb : (w3.alloc (.cells PB 38)).heap[w3.heap.size]? = some (.cells PB 38 (0, 0)) := hp1_0 w3 _
  have hb1 : Below w3.heap.size w3 (w3.alloc (.cells PB 38)) := (Below.refl _ _).alloc (Nat.le_refl _) _
  replace ra := keep hb1 ra
  replace f4 := f4.below hb1
  replace hw := Below.after hw hb1
  clear hb1
  go_wp2_with (first | (refine wpList_store_row rfl 38 _ _ rfl (w3.heap.size) PB rfl rfl 38 #[.int .u8 0, .int .u8 0, .int .u8 0, .int .u8 0, .int .u8 0, .int .u8 0, .int .u8 0, .int .u8 0, .int .u8 0, .int .u8 0, .int .u8 0, .int .u8 0, .int .u8 0, .int .u8 0, .int .u8 0, .int .u8 0, .int .u8 0, .int .u8 0, .int .u8 0, .int .u8 0, .int .u8 0, .int .u8 0, .int .u8 0, .int .u8 0, .int .u8 0, .int .u8 0, .int .u8 0, .int .u8 0, .int .u8 0, .int .u8 0, .int .u8 0, .int .u8 0, .int .u8 0, .int .u8 0, .int .u8 0, .int .u8 0, .int .u8 0, .int .u8 0, .int .u8 0, .int .u8 0, .int .u8 0, .int .u8 0, .int .u8 0, .int .u8 0, .int .u8 0, .int .u8 0, .int .u8 0, .int .u8 0, .int .u8 0, .int .u8 0, .int .u8 0, .int .u8 0, .int .u8 0, .int .u8 0, .int .u8 0, .int .u8 0, .int .u8 0, .int .u8 0, .int .u8 0, .int .u8 0, .int .u8 0, .int .u8 0, .int .u8 0, .int .u8 0] (hp1_0 w3 _) i2 s2.symm o2 ?_; rw [setRow_alloc_new _ _ _ _ _ _ rfl]) | fail)
  go_ret
  exact ⟨by (simp [*] <;> omega), hw⟩


set_option maxRecDepth 100000 in
set_option maxHeartbeats 8000000 in
theorem agrees_FT (cs bs : List Int) (hza : ∀ z ∈ cs, 0 ≤ z ∧ z < 256) (hzb : ∀ z ∈ bs, 0 ≤ z ∧ z < 256) (ha : cs.length ≠ 32) (hb : bs.length = 32) (w : World) (va vb : Value) (hF : Four w) (hBa : Bys w va cs) (hBb : Bys w vb bs) :
    Calls Tryd.prog 6 #[va, vb] w fun e w' => e = .returned (.bool true) ∧ Below w.heap.size w w' := by
  have heq : ∀ (q : Int) W, (Op.equalIn 10000 23 (.agg (kb q)) (.agg (kb q))).run Tryd.prog W = .ok true W := fun q W => by
    have e : kb q = #[.int .u8 (byt q 0), .int .u8 (byt q 1), .int .u8 (byt q 2), .int .u8 (byt q 3), .int .u8 (byt q 4), .int .u8 (byt q 5), .int .u8 (byt q 6), .int .u8 (byt q 7), .int .u8 (byt q 8), .int .u8 (byt q 9), .int .u8 (byt q 10), .int .u8 (byt q 11), .int .u8 (byt q 12), .int .u8 (byt q 13), .int .u8 (byt q 14), .int .u8 (byt q 15), .int .u8 (byt q 16), .int .u8 (byt q 17), .int .u8 (byt q 18), .int .u8 (byt q 19), .int .u8 (byt q 20), .int .u8 (byt q 21), .int .u8 (byt q 22), .int .u8 (byt q 23), .int .u8 (byt q 24), .int .u8 (byt q 25), .int .u8 (byt q 26), .int .u8 (byt q 27), .int .u8 (byt q 28), .int .u8 (byt q 29), .int .u8 (byt q 30), .int .u8 (byt q 31)] := rfl
    rw [e, keys_equal]; simp
  have cA := a_pair cs hza w _ hF hBa
  have cB := fun (w' : World) (h4 : Four w') (h : Bys w' vb bs) => a_pair bs hzb w' vb h4 h
  have i1 : (Tryd.prog.info? 38).map (·.size) = some (pairV cs).size := by rw [(pair_brow cs).1]; exact pair_info
  obtain ⟨s1, o1⟩ := pair_brow cs
  have i2 : (Tryd.prog.info? 38).map (·.size) = some (pairV bs).size := by rw [(pair_brow bs).1]; exact pair_info
  obtain ⟨s2, o2⟩ := pair_brow bs
  have e1 : pairE cs = 3 := if_neg ha
  have e2 : pairE bs = 0 := if_pos hb
  rw [e1] at cA
  rw [e2] at cB
  clear e1 e2
  have hBb' := hBb
  obtain ⟨ao, cap, rfl, _, _, _⟩ := hBa
  obtain ⟨bo, cbp, rfl, _, _, _⟩ := hBb
  generalize pairV cs = PA at *
  generalize pairV bs = PB at *
  rw [hb] at cB hBb'
  rw [hb]
  have hda : decide ((cs.length : Int) = 32) = false := by simp; omega
  generalize cs.length = la at *
  go_enter Tryd.func6, Tryd.ntmps6
  go_wp2_with (first | fail)
  refine cA.mono ?_
  rintro e w1 ⟨rfl, hw⟩
  clear cA
  have ra : (w1.alloc (.cells PA 38)).heap[w1.heap.size]? = some (.cells PA 38 (0, 0)) := hp1_0 w1 _
  have hb1 : Below w1.heap.size w1 (w1.alloc (.cells PA 38)) := (Below.refl _ _).alloc (Nat.le_refl _) _
  have f4 := (hF.below hw).below hb1
  replace hw := Below.after hw hb1
  have cB1 := cB (w1.alloc (.cells PA 38)) f4 (hBb'.keep hw)
  clear hb1 cB
  go_wp2_with (first | (refine wpList_store_row rfl 38 _ _ rfl (w1.heap.size) PA rfl rfl 38 #[.int .u8 0, .int .u8 0, .int .u8 0, .int .u8 0, .int .u8 0, .int .u8 0, .int .u8 0, .int .u8 0, .int .u8 0, .int .u8 0, .int .u8 0, .int .u8 0, .int .u8 0, .int .u8 0, .int .u8 0, .int .u8 0, .int .u8 0, .int .u8 0, .int .u8 0, .int .u8 0, .int .u8 0, .int .u8 0, .int .u8 0, .int .u8 0, .int .u8 0, .int .u8 0, .int .u8 0, .int .u8 0, .int .u8 0, .int .u8 0, .int .u8 0, .int .u8 0, .int .u8 0, .int .u8 0, .int .u8 0, .int .u8 0, .int .u8 0, .int .u8 0, .int .u8 0, .int .u8 0, .int .u8 0, .int .u8 0, .int .u8 0, .int .u8 0, .int .u8 0, .int .u8 0, .int .u8 0, .int .u8 0, .int .u8 0, .int .u8 0, .int .u8 0, .int .u8 0, .int .u8 0, .int .u8 0, .int .u8 0, .int .u8 0, .int .u8 0, .int .u8 0, .int .u8 0, .int .u8 0, .int .u8 0, .int .u8 0, .int .u8 0, .int .u8 0] (hp1_0 w1 _) i1 s1.symm o1 ?_; rw [setRow_alloc_new _ _ _ _ _ _ rfl]) | fail)
  generalize (w1.alloc (.cells PA 38)) = w2 at *
  generalize w1.heap.size = ga at *
  refine cB1.mono ?_
  rintro e w3 ⟨rfl, hb1⟩
  replace ra := keep hb1 ra
  replace f4 := f4.below hb1
  replace hw := Below.after hw hb1
  clear hb1 cB1
  have rb : (w3.alloc (.cells PB 38)).heap[w3.heap.size]? = some (.cells PB 38 (0, 0)) := hp1_0 w3 _
  have hb1 : Below w3.heap.size w3 (w3.alloc (.cells PB 38)) := (Below.refl _ _).alloc (Nat.le_refl _) _
  replace ra := keep hb1 ra
  replace f4 := f4.below hb1
  replace hw := Below.after hw hb1
  clear hb1
  go_wp2_with (first | (refine wpList_store_row rfl 38 _ _ rfl (w3.heap.size) PB rfl rfl 38 #[.int .u8 0, .int .u8 0, .int .u8 0, .int .u8 0, .int .u8 0, .int .u8 0, .int .u8 0, .int .u8 0, .int .u8 0, .int .u8 0, .int .u8 0, .int .u8 0, .int .u8 0, .int .u8 0, .int .u8 0, .int .u8 0, .int .u8 0, .int .u8 0, .int .u8 0, .int .u8 0, .int .u8 0, .int .u8 0, .int .u8 0, .int .u8 0, .int .u8 0, .int .u8 0, .int .u8 0, .int .u8 0, .int .u8 0, .int .u8 0, .int .u8 0, .int .u8 0, .int .u8 0, .int .u8 0, .int .u8 0, .int .u8 0, .int .u8 0, .int .u8 0, .int .u8 0, .int .u8 0, .int .u8 0, .int .u8 0, .int .u8 0, .int .u8 0, .int .u8 0, .int .u8 0, .int .u8 0, .int .u8 0, .int .u8 0, .int .u8 0, .int .u8 0, .int .u8 0, .int .u8 0, .int .u8 0, .int .u8 0, .int .u8 0, .int .u8 0, .int .u8 0, .int .u8 0, .int .u8 0, .int .u8 0, .int .u8 0, .int .u8 0, .int .u8 0] (hp1_0 w3 _) i2 s2.symm o2 ?_; rw [setRow_alloc_new _ _ _ _ _ _ rfl]) | fail)
  go_ret
  exact ⟨by (simp [*] <;> omega), hw⟩


set_option maxRecDepth 100000 in
set_option maxHeartbeats 8000000 in
theorem agrees_FF (cs bs : List Int) (hza : ∀ z ∈ cs, 0 ≤ z ∧ z < 256) (hzb : ∀ z ∈ bs, 0 ≤ z ∧ z < 256) (ha : cs.length ≠ 32) (hb : bs.length ≠ 32) (w : World) (va vb : Value) (hF : Four w) (hBa : Bys w va cs) (hBb : Bys w vb bs) :
    Calls Tryd.prog 6 #[va, vb] w fun e w' => e = .returned (.bool true) ∧ Below w.heap.size w w' := by
  have heq : ∀ (q : Int) W, (Op.equalIn 10000 23 (.agg (kb q)) (.agg (kb q))).run Tryd.prog W = .ok true W := fun q W => by
    have e : kb q = #[.int .u8 (byt q 0), .int .u8 (byt q 1), .int .u8 (byt q 2), .int .u8 (byt q 3), .int .u8 (byt q 4), .int .u8 (byt q 5), .int .u8 (byt q 6), .int .u8 (byt q 7), .int .u8 (byt q 8), .int .u8 (byt q 9), .int .u8 (byt q 10), .int .u8 (byt q 11), .int .u8 (byt q 12), .int .u8 (byt q 13), .int .u8 (byt q 14), .int .u8 (byt q 15), .int .u8 (byt q 16), .int .u8 (byt q 17), .int .u8 (byt q 18), .int .u8 (byt q 19), .int .u8 (byt q 20), .int .u8 (byt q 21), .int .u8 (byt q 22), .int .u8 (byt q 23), .int .u8 (byt q 24), .int .u8 (byt q 25), .int .u8 (byt q 26), .int .u8 (byt q 27), .int .u8 (byt q 28), .int .u8 (byt q 29), .int .u8 (byt q 30), .int .u8 (byt q 31)] := rfl
    rw [e, keys_equal]; simp
  have cA := a_pair cs hza w _ hF hBa
  have cB := fun (w' : World) (h4 : Four w') (h : Bys w' vb bs) => a_pair bs hzb w' vb h4 h
  have i1 : (Tryd.prog.info? 38).map (·.size) = some (pairV cs).size := by rw [(pair_brow cs).1]; exact pair_info
  obtain ⟨s1, o1⟩ := pair_brow cs
  have i2 : (Tryd.prog.info? 38).map (·.size) = some (pairV bs).size := by rw [(pair_brow bs).1]; exact pair_info
  obtain ⟨s2, o2⟩ := pair_brow bs
  have e1 : pairE cs = 3 := if_neg ha
  have e2 : pairE bs = 3 := if_neg hb
  rw [e1] at cA
  rw [e2] at cB
  clear e1 e2
  have hBb' := hBb
  obtain ⟨ao, cap, rfl, _, _, _⟩ := hBa
  obtain ⟨bo, cbp, rfl, _, _, _⟩ := hBb
  generalize pairV cs = PA at *
  generalize pairV bs = PB at *
  skip
  have hda : decide ((cs.length : Int) = 32) = false := by simp; omega
  generalize cs.length = la at *
  have hdb : decide ((bs.length : Int) = 32) = false := by simp; omega
  generalize hlb : bs.length = lb at *
  go_enter Tryd.func6, Tryd.ntmps6
  go_wp2_with (first | fail)
  refine cA.mono ?_
  rintro e w1 ⟨rfl, hw⟩
  clear cA
  have ra : (w1.alloc (.cells PA 38)).heap[w1.heap.size]? = some (.cells PA 38 (0, 0)) := hp1_0 w1 _
  have hb1 : Below w1.heap.size w1 (w1.alloc (.cells PA 38)) := (Below.refl _ _).alloc (Nat.le_refl _) _
  have f4 := (hF.below hw).below hb1
  replace hw := Below.after hw hb1
  have cB1 := cB (w1.alloc (.cells PA 38)) f4 (hBb'.keep hw)
  clear hb1 cB
  go_wp2_with (first | (refine wpList_store_row rfl 38 _ _ rfl (w1.heap.size) PA rfl rfl 38 #[.int .u8 0, .int .u8 0, .int .u8 0, .int .u8 0, .int .u8 0, .int .u8 0, .int .u8 0, .int .u8 0, .int .u8 0, .int .u8 0, .int .u8 0, .int .u8 0, .int .u8 0, .int .u8 0, .int .u8 0, .int .u8 0, .int .u8 0, .int .u8 0, .int .u8 0, .int .u8 0, .int .u8 0, .int .u8 0, .int .u8 0, .int .u8 0, .int .u8 0, .int .u8 0, .int .u8 0, .int .u8 0, .int .u8 0, .int .u8 0, .int .u8 0, .int .u8 0, .int .u8 0, .int .u8 0, .int .u8 0, .int .u8 0, .int .u8 0, .int .u8 0, .int .u8 0, .int .u8 0, .int .u8 0, .int .u8 0, .int .u8 0, .int .u8 0, .int .u8 0, .int .u8 0, .int .u8 0, .int .u8 0, .int .u8 0, .int .u8 0, .int .u8 0, .int .u8 0, .int .u8 0, .int .u8 0, .int .u8 0, .int .u8 0, .int .u8 0, .int .u8 0, .int .u8 0, .int .u8 0, .int .u8 0, .int .u8 0, .int .u8 0, .int .u8 0] (hp1_0 w1 _) i1 s1.symm o1 ?_; rw [setRow_alloc_new _ _ _ _ _ _ rfl]) | fail)
  generalize (w1.alloc (.cells PA 38)) = w2 at *
  generalize w1.heap.size = ga at *
  refine cB1.mono ?_
  rintro e w3 ⟨rfl, hb1⟩
  replace ra := keep hb1 ra
  replace f4 := f4.below hb1
  replace hw := Below.after hw hb1
  clear hb1 cB1
  have rb : (w3.alloc (.cells PB 38)).heap[w3.heap.size]? = some (.cells PB 38 (0, 0)) := hp1_0 w3 _
  have hb1 : Below w3.heap.size w3 (w3.alloc (.cells PB 38)) := (Below.refl _ _).alloc (Nat.le_refl _) _
  replace ra := keep hb1 ra
  replace f4 := f4.below hb1
  replace hw := Below.after hw hb1
  clear hb1
  go_wp2_with (first | (refine wpList_store_row rfl 38 _ _ rfl (w3.heap.size) PB rfl rfl 38 #[.int .u8 0, .int .u8 0, .int .u8 0, .int .u8 0, .int .u8 0, .int .u8 0, .int .u8 0, .int .u8 0, .int .u8 0, .int .u8 0, .int .u8 0, .int .u8 0, .int .u8 0, .int .u8 0, .int .u8 0, .int .u8 0, .int .u8 0, .int .u8 0, .int .u8 0, .int .u8 0, .int .u8 0, .int .u8 0, .int .u8 0, .int .u8 0, .int .u8 0, .int .u8 0, .int .u8 0, .int .u8 0, .int .u8 0, .int .u8 0, .int .u8 0, .int .u8 0, .int .u8 0, .int .u8 0, .int .u8 0, .int .u8 0, .int .u8 0, .int .u8 0, .int .u8 0, .int .u8 0, .int .u8 0, .int .u8 0, .int .u8 0, .int .u8 0, .int .u8 0, .int .u8 0, .int .u8 0, .int .u8 0, .int .u8 0, .int .u8 0, .int .u8 0, .int .u8 0, .int .u8 0, .int .u8 0, .int .u8 0, .int .u8 0, .int .u8 0, .int .u8 0, .int .u8 0, .int .u8 0, .int .u8 0, .int .u8 0, .int .u8 0, .int .u8 0] (hp1_0 w3 _) i2 s2.symm o2 ?_; rw [setRow_alloc_new _ _ _ _ _ _ rfl]) | fail)
  go_ret
  exact ⟨by (simp [*] <;> omega), hw⟩


theorem agrees_any (cs bs : List Int) (hza : ∀ z ∈ cs, 0 ≤ z ∧ z < 256) (hzb : ∀ z ∈ bs, 0 ≤ z ∧ z < 256) (w : World) (va vb : Value) (hF : Four w) (hBa : Bys w va cs) (hBb : Bys w vb bs) :
    Calls Tryd.prog 6 #[va, vb] w fun e w' => e = .returned (.bool true) ∧ Below w.heap.size w w' := by
  by_cases ha : cs.length = 32
  · by_cases hb : bs.length = 32
    · exact agrees_TT cs bs hza hzb ha hb w va vb hF hBa hBb
    · exact agrees_TF cs bs hza hzb ha hb w va vb hF hBa hBb
  · by_cases hb : bs.length = 32
    · exact agrees_FT cs bs hza hzb ha hb w va vb hF hBa hBb
    · exact agrees_FF cs bs hza hzb ha hb w va vb hF hBa hBb

end Go.Proofs.YtdimjlbnjhopgaaDoor

