import Derived.Test.YtdcpcdkbhgkmlaaDoorProg
import Derived.WalkKit
import Derived.WalkSpells
import Derived.WalkLawsBesides
import Derived.Lib.QuietBelow
import Derived.BigQuiet
import Derived.Deep.Cut
import Derived.Deep.CutRange
import Derived.Test.YtdcpcdkbhgkmlaaDoorDSra
namespace Go.Proofs.YtdcpcdkbhgkmlaaDoor
set_option maxRecDepth 100000
open Go Go.RowKit Go.Sort
attribute [local go_sem] setCell_drewN alloc_drewN
theorem s_dbl (a : Int) (e : Nat) : (a * (e : Int) % L19 + a * (e : Int) % L19) % L19 = a * ((e + e : Nat) : Int) % L19 := by
 rw [← Int.add_emod, ← Int.mul_add]; congr 2
theorem s_one (a : Int) (e : Nat) : (a * (e : Int) % L19 + a) % L19 = a * ((e + 1 : Nat) : Int) % L19 := by
 rw [Int.emod_add_emod, show a * ((e + 1 : Nat) : Int) = a * (e : Int) + a by rw [show ((e + 1 : Nat) : Int) = (e : Int) + 1 by omega, Int.mul_add, Int.mul_one]]
def WdR (r : Array Value) : Prop := r.size = 16 ∧ r.all (·.oneCell') = true
theorem WdR.infoR {r : Array Value} (h : WdR r) : (Tryd.prog.info? 58).map (·.size) = some r.size := by rw [h.1]; kernel_rfl
theorem wdr (A : Int) : WdR (d16 A) := ⟨d16_size A, d16_one A⟩
theorem s_zero (a : Int) : d16 (a * ((0 : Nat) : Int) % L19) = d16 0 := by rw [show ((0 : Nat) : Int) = 0 from rfl, Int.mul_zero]; rfl
set_option maxRecDepth 100000 in
set_option maxHeartbeats 8000000 in
theorem red_walk {A : Int} (ha : 0 ≤ A ∧ A < L19) (co : Gives 52 #[] (.agg (d16 A))) (bs : List Int) (w : World) (ev : Value) (hB : Bys w ev bs) : Calls Tryd.prog 17 #[ev] w fun e w' => e = .returned (.agg (d16 (A * (bval bs : Int) % L19))) ∧ Below w.heap.size w w' := by
 obtain ⟨ao, cap, rfl, hl, hc, hz⟩ := hB
 have hall := topv_all bs
 generalize hlen : bs.length = len at *
 have rp0 := hp1_0 w (.cells (d16 0) 58)
 have hw : Below w.heap.size w (w.alloc (.cells (d16 0) 58)) := ((Below.refl _ _).alloc (Nat.le_refl _) _)
 go_enter Tryd.func17, Tryd.ntmps17
 iterate 6 go_step
 try rw [z16]
 generalize (w.alloc (.cells (d16 0) 58)) = w0 at *
 go_wp2_with (fail)
 rw [z16]
 have rg3 := hp1_0 w0 (.cells (d16 0) 58)
 have hb : Below w0.heap.size w0 (w0.alloc (.cells (d16 0) 58)) := (Below.refl _ _).alloc (Nat.le_refl _) _
 generalize w0.alloc (.cells (d16 0) 58) = w1 at *
 have lt_g3_0 := lt_of_row rp0
 have sz_g3 := hw.size
 replace rp0 := keep hb rp0
 replace hw := Below.after hw hb
 clear hb
 generalize w0.heap.size = g3 at *
 go_loopw [4] (fun i wr => ∃ k : Nat, k ≤ len ∧ i = .int .i64 ((len : Int) - 1 - k) ∧ wr.heap[w.heap.size]? = some (.cells (d16 0) 58 (0, 0)) ∧ wr.heap[g3]? = some (.cells (d16 (A * (topv bs k : Int) % L19)) 58 (0, 0)) ∧ Below w.heap.size w wr) (fun i _ => (intOf i + 1).toNat)
 case atStart => exact ⟨0, by omega, by go_num, rp0, by rw [topv_zero, s_zero]; exact rg3, hw⟩
 case round =>
  clear rp0 rg3 hw
  obtain ⟨k, hk, rfl, rp0, rg3, hw⟩ := hrel
  by_cases hlt : k < len
  ·have hi : (len : Int) - 1 - k = ((len - 1 - k : Nat) : Int) := by omega
   rw [hi]
   obtain ⟨bb_, off, rfl, hb1, hb2⟩ := hc (len - 1 - k) (by omega)
   replace hb2 := (hw.cell hb1).trans hb2
   have hbat := bat_bd hz (k := k) (by omega)
   have htop := topv_succ (bs := bs) (k := k) (by omega)
   rw [show bs.getD (len - 1 - k) 0 = bat bs k by unfold bat; rw [hlen]] at hb2
   generalize bat bs k = z at *
   generalize topv bs k = E at *
   go_wp2_with (fail)
   go_loopw [5, 6] (fun x i wv => ∃ j : Nat, j ≤ 8 ∧ i = .int .i64 j ∧ x = .int .u8 (z * 2 ^ j % 256) ∧ wv.heap[w.heap.size]? = some (.cells (d16 0) 58 (0, 0)) ∧ wv.heap[g3]? = some (.cells (d16 (A * ((E * 2 ^ j + z.toNat / 2 ^ (8 - j) : Nat) : Int) % L19)) 58 (0, 0)) ∧ Below w.heap.size w wv) (fun _ i _ => 8 - (intOf i).toNat)
   case atStart =>
    refine ⟨0, by omega, rfl, ?_, rp0, ?_, hw⟩
    ·rw [Int.pow_zero, Int.mul_one, Int.emod_eq_of_lt hbat.1 hbat.2]
    ·rw [show E * 2 ^ 0 + z.toNat / 2 ^ (8 - 0) = E by omega]; exact rg3
   case round =>
    clear rp0 rg3 hw hb2
    obtain ⟨j, hj, rfl, rfl, rp0, rg3, hw⟩ := hrel
    by_cases hlj : j < 8
    ·have hdj : decide ((j : Int) < 8) = true := by simp; omega
     obtain ⟨hbit, hnext, hhalf, h7⟩ := bit8 z j hbat.1 hbat.2 hlj
     have h2 : E * 2 ^ (j + 1) = E * 2 ^ j + E * 2 ^ j := by rw [Nat.pow_succ, ← Nat.mul_assoc]; omega
     have hst : E * 2 ^ (j + 1) + z.toNat / 2 ^ (8 - (j + 1)) = if z.toNat / 2 ^ (7 - j) % 2 = 1 then E * 2 ^ j + z.toNat / 2 ^ (8 - j) + (E * 2 ^ j + z.toNat / 2 ^ (8 - j)) + 1 else E * 2 ^ j + z.toNat / 2 ^ (8 - j) + (E * 2 ^ j + z.toNat / 2 ^ (8 - j)) := by
      rw [h7, h2, ← hhalf]
      split <;> omega
     have hx0 : 0 ≤ z * 2 ^ j % 256 ∧ z * 2 ^ j % 256 < 256 := by omega
     generalize he2 : E * 2 ^ (j + 1) + z.toNat / 2 ^ (8 - (j + 1)) = e2 at *
     generalize E * 2 ^ j + z.toNat / 2 ^ (8 - j) = e1 at *
     generalize hx1 : z * 2 ^ (j + 1) % 256 = x1 at *
     generalize z * 2 ^ j % 256 = x0 at *
     have cs := r_sAdd (mod_L (A * (e1 : Int))) (mod_L (A * (e1 : Int)))
     rw [s_dbl] at cs
     have cm := r_sAdd (mod_L (A * ((e1 + e1 : Nat) : Int))) ha
     rw [s_one] at cm
     obtain ⟨o1, o2, o3⟩ : WdR (d16 (A * (e1 : Int) % L19)) ∧ WdR (d16 (A * ((e1 + e1 : Nat) : Int) % L19)) ∧ WdR (d16 (A * ((e1 + e1 + 1 : Nat) : Int) % L19)) := ⟨wdr _, wdr _, wdr _⟩
     generalize hX1 : d16 (A * (e1 : Int) % L19) = X1 at *
     generalize hX2 : d16 (A * ((e1 + e1 : Nat) : Int) % L19) = X2 at *
     generalize hX3 : d16 (A * ((e1 + e1 + 1 : Nat) : Int) % L19) = X3 at *
     replace hX1 := hide hX1
     replace hX2 := hide hX2
     replace hX3 := hide hX3
     go_wp2_with (first | (refine wpList_load_want rfl 58 _ rfl (g3) rfl 58 X1 (0, 0) _ rg3 Tryd.underlying58 rfl o1.infoR ?_) | fail)
     refine (cs.at _).mono ?_
     rintro e w1 ⟨rfl, hb⟩
     replace rp0 := keep hb rp0
     replace rg3 := keep hb rg3
     replace hw := Below.after hw hb
     clear hb
     clear cs
     by_cases hge : 128 ≤ x0
     ·have hg : decide (128 ≤ x0) = true := decide_eq_true hge
      rw [if_pos (hbit.1 hge)] at hst
      go_wp2_with (first | (refine wpList_store_row rfl 58 _ _ rfl (g3) X2 rfl rfl 58 _ rg3 o2.infoR (o1.1.trans o2.1.symm) o2.2 ?_) | fail)
      replace rp0 := (setRow_other w1 (g3) (w.heap.size) X2 (by omega)).trans rp0
      replace rg3 := setRow_heap w1 (g3) _ X2 _ _ rg3
      replace hw := below_setRow hw (show w.heap.size ≤ g3 by omega) X2
      generalize w1.setRow (g3) X2 = w2 at *
      have HR := keepr rg3
      refine wp_region_tail (C := fun w' => ∃ p : Regrown, w' = grow (redrawn w2 p.d) p.os) 3 _ rfl rfl rfl (by kernel_rfl) (by kernel_rfl) (by kernel_rfl) (by kernel_rfl) ⟨⟨w2.drawn + 1, #[]⟩, by rw [grow_empty]; rfl⟩ ?_
      dsimp only [List.set, idle]
      refine wpQuiet_load_row rfl 58 _ rfl (g3) rfl 58 X2 (0, 0) _ HR.out Tryd.underlying58 rfl o2.infoR ?_
      simp only [Act.put, ZPd, ZPe, ZPf]
      go_big_quiet_step (exact co.re)
      go_big_quiet_step (exact cm.re)
      refine wpQuiet_idle rfl rfl rfl ?_
      rintro _ ⟨p, rfl⟩
      have hb := below_regrown w2 p.d p.os
      generalize grow (redrawn w2 p.d) p.os = w3 at *
      replace rp0 := keep hb rp0
      replace rg3 := keep hb rg3
      replace hw := Below.after hw hb
      clear hb
      clear HR
      go_wp2_with (first | (refine wpList_store_row rfl 58 _ _ rfl (g3) X3 rfl rfl 58 _ rg3 o3.infoR (o2.1.trans o3.1.symm) o3.2 ?_) | fail)
      replace rp0 := (setRow_other w3 (g3) (w.heap.size) X3 (by omega)).trans rp0
      replace rg3 := setRow_heap w3 (g3) _ X3 _ _ rg3
      replace hw := below_setRow hw (show w.heap.size ≤ g3 by omega) X3
      generalize w3.setRow (g3) X3 = w4 at *
      go_roundw
      case rel => exact ⟨j + 1, by omega, by go_num, by rw [hx1, ← hnext], rp0, by rw [he2, hst, hX3.out]; exact rg3, hw⟩
      case measure => simp [intOf]; omega
     ·have hg : decide (128 ≤ x0) = false := decide_eq_false hge
      rw [if_neg (fun q => hge (hbit.2 q))] at hst
      clear cm
      go_wp2_with (first | (refine wpList_store_row rfl 58 _ _ rfl (g3) X2 rfl rfl 58 _ rg3 o2.infoR (o1.1.trans o2.1.symm) o2.2 ?_) | fail)
      replace rp0 := (setRow_other w1 (g3) (w.heap.size) X2 (by omega)).trans rp0
      replace rg3 := setRow_heap w1 (g3) _ X2 _ _ rg3
      replace hw := below_setRow hw (show w.heap.size ≤ g3 by omega) X2
      generalize w1.setRow (g3) X2 = w2 at *
      go_roundw
      case rel => exact ⟨j + 1, by omega, by go_num, by rw [hx1, ← hnext], rp0, by rw [he2, hst, hX2.out]; exact rg3, hw⟩
      case measure => simp [intOf]; omega
    ·obtain rfl : j = 8 := by omega
     have hdj : decide ((8 : Int) < 8) = false := by decide
     go_wp2_with (fail)
     go_roundw
     case rel => exact ⟨k + 1, by omega, by go_num, rp0, by rw [htop, show E * 256 + z.toNat = E * 2 ^ 8 + z.toNat / 2 ^ (8 - 8) by omega]; exact rg3, hw⟩
     case measure => simp [intOf]
  ·obtain rfl : k = len := by omega
   have hi : (k : Int) - 1 - k = -1 := by omega
   rw [hi]
   rw [hall] at rg3
   go_wp2_with (first | (refine wpList_load_want rfl 58 _ rfl (g3) rfl 58 (d16 (A * (bval bs : Int) % L19)) (0, 0) _ rg3 Tryd.underlying58 rfl (d16_infoR _) ?_) | (refine wpList_store_row rfl 58 _ _ rfl (w.heap.size) (d16 (A * (bval bs : Int) % L19)) rfl rfl 58 _ rp0 (d16_infoR _) rfl (d16_one _) ?_) | fail)
   exact bodyPost_ret (v := .agg (d16 (A * (bval bs : Int) % L19))) (results_cell_row Tryd.results17 _ _ (w.heap.size) _ (d16 (A * (bval bs : Int) % L19)) _ _ rfl (setRow_heap _ _ _ _ _ _ rp0) Tryd.underlying58 rfl (d16_infoR _)) rfl ⟨rfl, below_setRow hw (by omega) _⟩
theorem r_Reduce (bs : List Int) (w : World) (ev : Value) (hB : Bys w ev bs) : Calls Tryd.prog 17 #[ev] w fun e w' => e = .returned (.agg (d16 ((bval bs : Int) % L19))) ∧ Below w.heap.size w w' := by
 have h := red_walk (A := 1) ⟨by decide, by decide⟩ r_sone bs w ev hB
 rw [Int.one_mul] at h
 exact h
theorem kb_get (N : Int) (j : Nat) (h : j < 32) : (kb N)[j]? = some (.int .u8 ((b32 N).getD j 0)) := by
 rw [kb_b32, List.getElem?_toArray, List.getElem?_map, List.getD_eq_getElem?_getD, List.getElem?_eq_getElem (show j < (b32 N).length from h)]
 rfl
set_option maxRecDepth 100000 in
set_option maxHeartbeats 8000000 in
theorem mul_walk {A B : Int} (ha : 0 ≤ A ∧ A < L19) : Gives 27 #[.agg (d16 A), .agg (d16 B)] (.agg (d16 (A * (bval (b32 B) : Int) % L19))) := by
 intro w
 have hz := b32_bd B
 have h32 : (b32 B).length = 32 := rfl
 obtain ⟨bs, hbs⟩ : ∃ bs, b32 B = bs := ⟨_, rfl⟩
 rw [hbs] at hz h32 ⊢
 replace hbs := hide hbs.symm
 have hall := topv_all bs
 generalize hlen : bs.length = len at *
 replace h32 := hide h32
 have rp0 := hp3_0 w (.cells (d16 A) 58) (.cells (d16 B) 58) (.cells (d16 0) 58)
 have rp1 := hp3_1 w (.cells (d16 A) 58) (.cells (d16 B) 58) (.cells (d16 0) 58)
 have rp2 := hp3_2 w (.cells (d16 A) 58) (.cells (d16 B) 58) (.cells (d16 0) 58)
 have hw : Below w.heap.size w (((w.alloc (.cells (d16 A) 58)).alloc (.cells (d16 B) 58)).alloc (.cells (d16 0) 58)) := ((((Below.refl _ _).alloc (Nat.le_refl _) _).alloc (by simp) _).alloc (by simp; omega) _)
 go_enter Tryd.func27, Tryd.ntmps27
 iterate 12 go_step
 try rw [z16]
 generalize (((w.alloc (.cells (d16 A) 58)).alloc (.cells (d16 B) 58)).alloc (.cells (d16 0) 58)) = w0 at *
 iterate 7 go_step
 rw [z16]
 have rg5 := hp1_0 w0 (.cells (d16 0) 58)
 have hb : Below w0.heap.size w0 (w0.alloc (.cells (d16 0) 58)) := (Below.refl _ _).alloc (Nat.le_refl _) _
 generalize w0.alloc (.cells (d16 0) 58) = w1 at *
 have lt_g5_0 := lt_of_row rp0
 have lt_g5_1 := lt_of_row rp1
 have lt_g5_2 := lt_of_row rp2
 have sz_g5 := hw.size
 replace rp0 := keep hb rp0
 replace rp1 := keep hb rp1
 replace rp2 := keep hb rp2
 replace hw := Below.after hw hb
 clear hb
 generalize w0.heap.size = g5 at *
 go_wp2_with (first | (refine wpList_load_want rfl 58 _ rfl (w.heap.size) rfl 58 (d16 A) (0, 0) _ rp0 Tryd.underlying58 rfl (d16_infoR _) ?_) | (refine wpList_load_want rfl 58 _ rfl (w.heap.size + 1) rfl 58 (d16 B) (0, 0) _ rp1 Tryd.underlying58 rfl (d16_infoR _) ?_) | (refine wpList_load_want rfl 58 _ rfl (w.heap.size + 1 + 1) rfl 58 (d16 0) (0, 0) _ rp2 Tryd.underlying58 rfl (d16_infoR _) ?_) | (refine wpList_load_want rfl 58 _ rfl (g5) rfl 58 (d16 0) (0, 0) _ rg5 Tryd.underlying58 rfl (d16_infoD _) ?_) | fail)
 refine ((r_sBytes B).at _).mono ?_
 rintro e_ w2 ⟨rfl, hb⟩
 replace rp0 := keep hb rp0
 replace rp1 := keep hb rp1
 replace rp2 := keep hb rp2
 replace rg5 := keep hb rg5
 replace hw := Below.after hw hb
 clear hb
 go_wp2_with (first | (refine wpList_store_row rfl 23 _ _ rfl (w2.heap.size) (kb B) rfl rfl 23 (kb 0) (hp1_0 w2 _) (kb_info _) ((kb_size _).trans (kb_size _).symm) (kb_one _) ?_; rw [setRow_alloc_new _ _ _ _ _ _ (by simp)]; refine wpList_stay ?_) | fail)
 unfold WpStay
 try simp only [Act.put]
 have rl6 : (w2.alloc (.cells (kb B) 23)).heap[w2.heap.size]? = some (.cells (kb B) 23 (0, 0)) := hp1_0 w2 _
 have hb : Below w2.heap.size w2 (w2.alloc (.cells (kb B) 23)) := ((Below.refl _ _).alloc (Nat.le_refl _) _)
 generalize (w2.alloc (.cells (kb B) 23)) = w3 at *
 have lt_g6_0 := lt_of_row rp0
 have lt_g6_1 := lt_of_row rp1
 have lt_g6_2 := lt_of_row rp2
 have lt_g6_3 := lt_of_row rg5
 have sz_g6 := hw.size
 replace rp0 := keep hb rp0
 replace rp1 := keep hb rp1
 replace rp2 := keep hb rp2
 replace rg5 := keep hb rg5
 replace hw := Below.after hw hb
 clear hb
 generalize w2.heap.size = g6 at *
 clear w2
 go_wp2_with (fail)
 go_loopw [7] (fun i wr => ∃ k : Nat, k ≤ len ∧ i = .int .i64 ((len : Int) - 1 - k) ∧ wr.heap[w.heap.size]? = some (.cells (d16 A) 58 (0, 0)) ∧ wr.heap[w.heap.size + 1]? = some (.cells (d16 B) 58 (0, 0)) ∧ wr.heap[w.heap.size + 1 + 1]? = some (.cells (d16 0) 58 (0, 0)) ∧ wr.heap[g6]? = some (.cells (kb B) 23 (0, 0)) ∧ wr.heap[g5]? = some (.cells (d16 (A * (topv bs k : Int) % L19)) 58 (0, 0)) ∧ Below w.heap.size w wr) (fun i _ => (intOf i + 1).toNat)
 case atStart => exact ⟨0, by omega, by rw [h32.out]; rfl, rp0, rp1, rp2, rl6, by rw [topv_zero, s_zero]; exact rg5, hw⟩
 case round =>
  clear rp0 rp1 rp2 rl6 rg5 hw
  obtain ⟨k, hk, rfl, rp0, rp1, rp2, rl6, rg5, hw⟩ := hrel
  by_cases hlt : k < len
  ·have hi : (len : Int) - 1 - k = ((len - 1 - k : Nat) : Int) := by omega
   rw [hi]
   have hb2 : wr.cell? ⟨g6, len - 1 - k, none⟩ = some (.int .u8 (bs.getD (len - 1 - k) 0)) := by
    rw [cell_of_row wr g6 (len - 1 - k) _ _ _ rl6, hbs.out]
    exact kb_get B (len - 1 - k) (by have := h32.out; omega)
   have hix : 0 ≤ ((len - 1 - k : Nat) : Int) ∧ ((len - 1 - k : Nat) : Int) < 32 := by have := h32.out; omega
   have hbat := bat_bd hz (k := k) (by omega)
   have htop := topv_succ (bs := bs) (k := k) (by omega)
   rw [show bs.getD (len - 1 - k) 0 = bat bs k by unfold bat; rw [hlen]] at hb2
   generalize bat bs k = z at *
   generalize topv bs k = E at *
   go_wp2_with (fail)
   go_loopw [8, 9] (fun x i wv => ∃ j : Nat, j ≤ 8 ∧ i = .int .i64 j ∧ x = .int .u8 (z * 2 ^ j % 256) ∧ wv.heap[w.heap.size]? = some (.cells (d16 A) 58 (0, 0)) ∧ wv.heap[w.heap.size + 1]? = some (.cells (d16 B) 58 (0, 0)) ∧ wv.heap[w.heap.size + 1 + 1]? = some (.cells (d16 0) 58 (0, 0)) ∧ wv.heap[g6]? = some (.cells (kb B) 23 (0, 0)) ∧ wv.heap[g5]? = some (.cells (d16 (A * ((E * 2 ^ j + z.toNat / 2 ^ (8 - j) : Nat) : Int) % L19)) 58 (0, 0)) ∧ Below w.heap.size w wv) (fun _ i _ => 8 - (intOf i).toNat)
   case atStart =>
    refine ⟨0, by omega, rfl, ?_, rp0, rp1, rp2, rl6, ?_, hw⟩
    ·rw [Int.pow_zero, Int.mul_one, Int.emod_eq_of_lt hbat.1 hbat.2]
    ·rw [show E * 2 ^ 0 + z.toNat / 2 ^ (8 - 0) = E by omega]; exact rg5
   case round =>
    clear rp0 rp1 rp2 rl6 rg5 hw hb2
    obtain ⟨j, hj, rfl, rfl, rp0, rp1, rp2, rl6, rg5, hw⟩ := hrel
    by_cases hlj : j < 8
    ·have hdj : decide ((j : Int) < 8) = true := by simp; omega
     obtain ⟨hbit, hnext, hhalf, h7⟩ := bit8 z j hbat.1 hbat.2 hlj
     have h2 : E * 2 ^ (j + 1) = E * 2 ^ j + E * 2 ^ j := by rw [Nat.pow_succ, ← Nat.mul_assoc]; omega
     have hst : E * 2 ^ (j + 1) + z.toNat / 2 ^ (8 - (j + 1)) = if z.toNat / 2 ^ (7 - j) % 2 = 1 then E * 2 ^ j + z.toNat / 2 ^ (8 - j) + (E * 2 ^ j + z.toNat / 2 ^ (8 - j)) + 1 else E * 2 ^ j + z.toNat / 2 ^ (8 - j) + (E * 2 ^ j + z.toNat / 2 ^ (8 - j)) := by
      rw [h7, h2, ← hhalf]
      split <;> omega
     have hx0 : 0 ≤ z * 2 ^ j % 256 ∧ z * 2 ^ j % 256 < 256 := by omega
     generalize he2 : E * 2 ^ (j + 1) + z.toNat / 2 ^ (8 - (j + 1)) = e2 at *
     generalize E * 2 ^ j + z.toNat / 2 ^ (8 - j) = e1 at *
     generalize hx1 : z * 2 ^ (j + 1) % 256 = x1 at *
     generalize z * 2 ^ j % 256 = x0 at *
     have cs := r_sAdd (mod_L (A * (e1 : Int))) (mod_L (A * (e1 : Int)))
     rw [s_dbl] at cs
     have cm := r_sAdd (mod_L (A * ((e1 + e1 : Nat) : Int))) ha
     rw [s_one] at cm
     obtain ⟨o1, o2, o3⟩ : WdR (d16 (A * (e1 : Int) % L19)) ∧ WdR (d16 (A * ((e1 + e1 : Nat) : Int) % L19)) ∧ WdR (d16 (A * ((e1 + e1 + 1 : Nat) : Int) % L19)) := ⟨wdr _, wdr _, wdr _⟩
     generalize hX1 : d16 (A * (e1 : Int) % L19) = X1 at *
     generalize hX2 : d16 (A * ((e1 + e1 : Nat) : Int) % L19) = X2 at *
     generalize hX3 : d16 (A * ((e1 + e1 + 1 : Nat) : Int) % L19) = X3 at *
     replace hX1 := hide hX1
     replace hX2 := hide hX2
     replace hX3 := hide hX3
     go_wp2_with (first | (refine wpList_load_want rfl 58 _ rfl (g5) rfl 58 X1 (0, 0) _ rg5 Tryd.underlying58 rfl o1.infoR ?_) | fail)
     refine (cs.at _).mono ?_
     rintro e w1 ⟨rfl, hb⟩
     replace rp0 := keep hb rp0
     replace rp1 := keep hb rp1
     replace rp2 := keep hb rp2
     replace rl6 := keep hb rl6
     replace rg5 := keep hb rg5
     replace hw := Below.after hw hb
     clear hb
     clear cs
     by_cases hge : 128 ≤ x0
     ·have hg : decide (128 ≤ x0) = true := decide_eq_true hge
      rw [if_pos (hbit.1 hge)] at hst
      go_wp2_with (first | (refine wpList_store_row rfl 58 _ _ rfl (g5) X2 rfl rfl 58 _ rg5 o2.infoR (o1.1.trans o2.1.symm) o2.2 ?_) | (refine wpList_load_want rfl 58 _ rfl (g5) rfl 58 X2 (0, 0) _ (setRow_heap w1 (g5) _ X2 _ _ rg5) Tryd.underlying58 rfl o2.infoR ?_) | (refine wpList_load_want rfl 58 _ rfl (w.heap.size) rfl 58 (d16 A) (0, 0) _ ((setRow_other w1 (g5) (w.heap.size) X2 (by omega)).trans rp0) Tryd.underlying58 rfl (d16_infoR _) ?_) | fail)
      replace rp0 := (setRow_other w1 (g5) (w.heap.size) X2 (by omega)).trans rp0
      replace rp1 := (setRow_other w1 (g5) (w.heap.size + 1) X2 (by omega)).trans rp1
      replace rp2 := (setRow_other w1 (g5) (w.heap.size + 1 + 1) X2 (by omega)).trans rp2
      replace rl6 := (setRow_other w1 (g5) (g6) X2 (by omega)).trans rl6
      replace rg5 := setRow_heap w1 (g5) _ X2 _ _ rg5
      replace hw := below_setRow hw (show w.heap.size ≤ g5 by omega) X2
      generalize w1.setRow (g5) X2 = w2 at *
      refine (cm.at _).mono ?_
      rintro e w3 ⟨rfl, hb⟩
      replace rp0 := keep hb rp0
      replace rp1 := keep hb rp1
      replace rp2 := keep hb rp2
      replace rl6 := keep hb rl6
      replace rg5 := keep hb rg5
      replace hw := Below.after hw hb
      clear hb
      go_wp2_with (first | (refine wpList_store_row rfl 58 _ _ rfl (g5) X3 rfl rfl 58 _ rg5 o3.infoR (o2.1.trans o3.1.symm) o3.2 ?_) | fail)
      replace rp0 := (setRow_other w3 (g5) (w.heap.size) X3 (by omega)).trans rp0
      replace rp1 := (setRow_other w3 (g5) (w.heap.size + 1) X3 (by omega)).trans rp1
      replace rp2 := (setRow_other w3 (g5) (w.heap.size + 1 + 1) X3 (by omega)).trans rp2
      replace rl6 := (setRow_other w3 (g5) (g6) X3 (by omega)).trans rl6
      replace rg5 := setRow_heap w3 (g5) _ X3 _ _ rg5
      replace hw := below_setRow hw (show w.heap.size ≤ g5 by omega) X3
      generalize w3.setRow (g5) X3 = w4 at *
      go_roundw
      case rel => exact ⟨j + 1, by omega, by go_num, by rw [hx1, ← hnext], rp0, rp1, rp2, rl6, by rw [he2, hst, hX3.out]; exact rg5, hw⟩
      case measure => simp [intOf]; omega
     ·have hg : decide (128 ≤ x0) = false := decide_eq_false hge
      rw [if_neg (fun q => hge (hbit.2 q))] at hst
      clear cm
      go_wp2_with (first | (refine wpList_store_row rfl 58 _ _ rfl (g5) X2 rfl rfl 58 _ rg5 o2.infoR (o1.1.trans o2.1.symm) o2.2 ?_) | fail)
      replace rp0 := (setRow_other w1 (g5) (w.heap.size) X2 (by omega)).trans rp0
      replace rp1 := (setRow_other w1 (g5) (w.heap.size + 1) X2 (by omega)).trans rp1
      replace rp2 := (setRow_other w1 (g5) (w.heap.size + 1 + 1) X2 (by omega)).trans rp2
      replace rl6 := (setRow_other w1 (g5) (g6) X2 (by omega)).trans rl6
      replace rg5 := setRow_heap w1 (g5) _ X2 _ _ rg5
      replace hw := below_setRow hw (show w.heap.size ≤ g5 by omega) X2
      generalize w1.setRow (g5) X2 = w2 at *
      go_roundw
      case rel => exact ⟨j + 1, by omega, by go_num, by rw [hx1, ← hnext], rp0, rp1, rp2, rl6, by rw [he2, hst, hX2.out]; exact rg5, hw⟩
      case measure => simp [intOf]; omega
    ·obtain rfl : j = 8 := by omega
     have hdj : decide ((8 : Int) < 8) = false := by decide
     go_wp2_with (fail)
     go_roundw
     case rel => exact ⟨k + 1, by omega, by go_num, rp0, rp1, rp2, rl6, by rw [htop, show E * 256 + z.toNat = E * 2 ^ 8 + z.toNat / 2 ^ (8 - 8) by omega]; exact rg5, hw⟩
     case measure => simp [intOf]
  ·obtain rfl : k = len := by omega
   have hi : (k : Int) - 1 - k = -1 := by omega
   rw [hi]
   rw [hall] at rg5
   go_wp2_with (first | (refine wpList_load_want rfl 58 _ rfl (g5) rfl 58 (d16 (A * (bval bs : Int) % L19)) (0, 0) _ rg5 Tryd.underlying58 rfl (d16_infoR _) ?_) | (refine wpList_store_row rfl 58 _ _ rfl (w.heap.size + 1 + 1) (d16 (A * (bval bs : Int) % L19)) rfl rfl 58 _ rp2 (d16_infoR _) rfl (d16_one _) ?_) | fail)
   exact bodyPost_ret (v := .agg (d16 (A * (bval bs : Int) % L19))) (results_cell_row Tryd.results27 _ _ (w.heap.size + 1 + 1) _ (d16 (A * (bval bs : Int) % L19)) _ _ rfl (setRow_heap _ _ _ _ _ _ rp2) Tryd.underlying58 rfl (d16_infoR _)) rfl ⟨rfl, below_setRow hw (by omega) _⟩
theorem r_sMul {A B : Int} (ha : 0 ≤ A ∧ A < L19) (hB : 0 ≤ B ∧ B < L19) : Gives 27 #[.agg (d16 A), .agg (d16 B)] (.agg (d16 (A * B % L19))) := by
 have h := mul_walk (B := B) ha
 rw [bval_b32 B hB.1 (by have := hB.2; unfold L19 at this; omega), Int.toNat_of_nonneg hB.1] at h
 exact h
set_option maxRecDepth 100000 in
set_option maxHeartbeats 8000000 in
theorem whole_lo {N : Int} (hK : KeyOf (kb N) N) (hlt : N < L19) : Gives 19 #[.agg (kb N)] (.tuple #[.agg (d16 N), .int .i64 0]) := by
 intro w
 have hd := hK.bd
 have q1 : ∀ W, (Op.equalIn 10000 23 (.agg (kb N)) (.agg (kb N))).run Tryd.prog W = .ok true W := fun W => by
  have hL := L_lt
  rw [kb_equal _ _ hd.1 hd.2 hd.1 hd.2]
  simp
 have hv : d16 ((bval (b32 N) : Int) % L19) = d16 N := by rw [bval_b32 N hd.1 hd.2, Int.toNat_of_nonneg hd.1, Int.emod_eq_of_lt hd.1 hlt]
 have rp0 := hp2_0 w (.cells (kb N) 23) (.cells (d16 0) 58)
 have rp1 := hp2_1 w (.cells (kb N) 23) (.cells (d16 0) 58)
 have hw : Below w.heap.size w ((w.alloc (.cells (kb N) 23)).alloc (.cells (d16 0) 58)) := (((Below.refl _ _).alloc (Nat.le_refl _) _).alloc (by simp) _)
 go_enter Tryd.func19, Tryd.ntmps19
 iterate 9 go_step
 try rw [z16]
 generalize ((w.alloc (.cells (kb N) 23)).alloc (.cells (d16 0) 58)) = w0 at *
 go_wp2_with (fail)
 refine (r_Reduce (b32 N) _ _ (bys_row rp0 hK)).mono ?_
 rintro e_ w1 ⟨rfl, hb⟩
 replace rp0 := keep hb rp0
 replace rp1 := keep hb rp1
 replace hw := Below.after hw hb
 clear hb
 rw [hv]
 clear hv
 go_wp2_with (first | (refine wpList_store_row rfl 58 _ _ rfl (w1.heap.size) (d16 N) rfl rfl 58 (d16 0) (hp1_0 w1 _) (d16_infoR _) ((d16_size _).trans (d16_size _).symm) (d16_one _) ?_; rw [setRow_alloc_new _ _ _ _ _ _ (by simp)]; refine wpList_stay ?_) | fail)
 unfold WpStay
 try simp only [Act.put]
 have rl4 : (w1.alloc (.cells (d16 N) 58)).heap[w1.heap.size]? = some (.cells (d16 N) 58 (0, 0)) := hp1_0 w1 _
 have hb : Below w1.heap.size w1 (w1.alloc (.cells (d16 N) 58)) := ((Below.refl _ _).alloc (Nat.le_refl _) _)
 generalize (w1.alloc (.cells (d16 N) 58)) = w2 at *
 have lt_g4_0 := lt_of_row rp0
 have lt_g4_1 := lt_of_row rp1
 have sz_g4 := hw.size
 replace rp0 := keep hb rp0
 replace rp1 := keep hb rp1
 replace hw := Below.after hw hb
 clear hb
 generalize w1.heap.size = g4 at *
 clear w1
 go_wp2_with (fail)
 have hb : Below w2.heap.size w2 w2.drew := below_drN (Below.refl _ _) 1
 replace rp0 := keep hb rp0
 replace rp1 := keep hb rp1
 replace rl4 := keep hb rl4
 replace hw := Below.after hw hb
 clear hb
 refine wp_region_noPanic ?_
 refine wp_region_held (S := fun W_ => W_.heap[g4]? = some (.cells (d16 N) 58 (0, 0)) ∧ W_.heap[w.heap.size]? = some (.cells (kb N) 23 (0, 0))) (by kernel_rfl) ?_
 change wpAnyH _ _ _ _ _ _ _ _ (World.drew _)
 generalize w2.drew = wd1 at *
 refine wpAnyH_take (i := 0) (v := .agg (d16 N)) rfl (by kernel_rfl) (by kernel_rfl) (by kernel_rfl) (fun _ _ _ h => h) (Or.inl ⟨by rfl, ?y2⟩) (⟨rl4, rp0⟩) ?r2
 case y2 =>
  intro w_ hS_
  simp only [List.getElem_toArray, List.getElem_cons_zero]
  exact e_load_part 58 _ (by rfl) (g4) 0 (by rfl) 58 (d16 N) (0, 0) (d16 N) _ (hS_.1) (all_rowe _) Tryd.underlying58 rfl (d16_infoR _)
 simp only [Act.put, ZPa, ZPc, ZPd, ZPe, ZPf]
 refine wpAnyH_take (i := 2) (v := .agg (kb N)) rfl (by kernel_rfl) (by kernel_rfl) (by kernel_rfl) (fun _ _ _ h => h) (Or.inl ⟨by rfl, ?y3⟩) (⟨rl4, rp0⟩) ?r3
 case y3 =>
  intro w_ hS_
  simp only [List.getElem_toArray, List.getElem_cons_succ, List.getElem_cons_zero]
  exact e_load_part 23 _ (by rfl) (w.heap.size) 0 (by rfl) 23 (kb N) (0, 0) (kb N) _ (hS_.2) (all_rowe _) Tryd.underlying23 rfl (kb_info _)
 simp only [Act.put, ZPa, ZPb, ZPc, ZPd, ZPe, ZPf]
 refine eH_one (k := 1) (fuel := 1) (by kernel_rfl) rfl (by kernel_rfl) (fun K_ hK_ => ?_)
 refine wp_call_ex (f := 21) (by kernel_rfl) (ex1e ((r_sBytes N).at _)) (fun v_ wq4 hX_ => ?_)
 obtain ⟨rfl, hb⟩ := hX_
 replace rp0 := keep hb rp0
 replace rp1 := keep hb rp1
 replace rl4 := keep hb rl4
 replace hw := Below.after hw hb
 clear hb
 refine hK_ _ _ (⟨rl4, rp0⟩) ?_
 simp only [Act.put, ZPa, ZPb, ZPc, ZPd, ZPe, ZPf]
 clear hK_
 refine wpAnyH_take (i := 3) (v := ?v5) rfl (by kernel_rfl) (by kernel_rfl) (by kernel_rfl) (fun _ _ _ h => h) (Or.inl ⟨by rfl, ?y5⟩) (⟨rl4, rp0⟩) ?r5
 case y5 =>
  intro w_ hS_
  go_simp
  try with_reducible rfl
 simp only [Act.put, ZPa, ZPb, ZPc, ZPd, ZPe, ZPf]
 refine wpAnyH_done (by kernel_rfl) ?_ _
 refine NoPanic.normal ?_
 go_wp2_with (first | (refine wpList_load_want rfl 23 _ rfl (w.heap.size) rfl 23 (kb N) (0, 0) _ rp0 Tryd.underlying23 rfl (kb_info _) ?_) | (refine wpList_load_want rfl 58 _ rfl (w.heap.size + 1) rfl 58 (d16 0) (0, 0) _ rp1 Tryd.underlying58 rfl (d16_infoR _) ?_) | (refine wpList_load_want rfl 58 _ rfl (g4) rfl 58 (d16 N) (0, 0) _ rl4 Tryd.underlying58 rfl (d16_infoR _) ?_) | (refine wpList_store_row rfl 58 _ _ rfl (w.heap.size + 1) (d16 N) rfl rfl 58 _ rp1 (d16_infoR _) ((d16_size _).trans (d16_size _).symm) (d16_one _) ?_) | fail)
 exact bodyPost_ret (v := .tuple #[.agg (d16 N), .int .i64 0]) (results_row_slot Tryd.results19 _ _ (w.heap.size + 1) _ (d16 N) _ _ _ rfl (setRow_heap _ _ _ _ _ _ rp1) rfl Tryd.underlying58 rfl (d16_infoR _)) rfl ⟨rfl, below_setRow hw (by omega) _⟩
set_option maxRecDepth 100000 in
set_option maxHeartbeats 8000000 in
theorem whole_hi {N M : Int} (hK : KeyOf (kb N) N) (hlt : L19 ≤ N) (hM : N % L19 = M) : Gives 19 #[.agg (kb N)] (.tuple #[.agg (d16 0), .int .i64 191]) := by
 intro w
 have hd := hK.bd
 have q1 : ∀ W, (Op.equalIn 10000 23 (.agg (kb M)) (.agg (kb N))).run Tryd.prog W = .ok false W := fun W => by
  have hL := L_lt
  rw [kb_equal _ _ (by rw [← hM]; unfold L19; omega) (by rw [← hM]; unfold L19; omega) hd.1 hd.2]
  simp
  rw [← hM]
  unfold L19 at *
  omega
 have hv : d16 ((bval (b32 N) : Int) % L19) = d16 M := by rw [bval_b32 N hd.1 hd.2, Int.toNat_of_nonneg hd.1, hM]
 have rp0 := hp2_0 w (.cells (kb N) 23) (.cells (d16 0) 58)
 have rp1 := hp2_1 w (.cells (kb N) 23) (.cells (d16 0) 58)
 have hw : Below w.heap.size w ((w.alloc (.cells (kb N) 23)).alloc (.cells (d16 0) 58)) := (((Below.refl _ _).alloc (Nat.le_refl _) _).alloc (by simp) _)
 go_enter Tryd.func19, Tryd.ntmps19
 iterate 9 go_step
 try rw [z16]
 generalize ((w.alloc (.cells (kb N) 23)).alloc (.cells (d16 0) 58)) = w0 at *
 go_wp2_with (fail)
 refine (r_Reduce (b32 N) _ _ (bys_row rp0 hK)).mono ?_
 rintro e_ w1 ⟨rfl, hb⟩
 replace rp0 := keep hb rp0
 replace rp1 := keep hb rp1
 replace hw := Below.after hw hb
 clear hb
 rw [hv]
 clear hv
 go_wp2_with (first | (refine wpList_store_row rfl 58 _ _ rfl (w1.heap.size) (d16 M) rfl rfl 58 (d16 0) (hp1_0 w1 _) (d16_infoR _) ((d16_size _).trans (d16_size _).symm) (d16_one _) ?_; rw [setRow_alloc_new _ _ _ _ _ _ (by simp)]; refine wpList_stay ?_) | fail)
 unfold WpStay
 try simp only [Act.put]
 have rl4 : (w1.alloc (.cells (d16 M) 58)).heap[w1.heap.size]? = some (.cells (d16 M) 58 (0, 0)) := hp1_0 w1 _
 have hb : Below w1.heap.size w1 (w1.alloc (.cells (d16 M) 58)) := ((Below.refl _ _).alloc (Nat.le_refl _) _)
 generalize (w1.alloc (.cells (d16 M) 58)) = w2 at *
 have lt_g4_0 := lt_of_row rp0
 have lt_g4_1 := lt_of_row rp1
 have sz_g4 := hw.size
 replace rp0 := keep hb rp0
 replace rp1 := keep hb rp1
 replace hw := Below.after hw hb
 clear hb
 generalize w1.heap.size = g4 at *
 clear w1
 go_wp2_with (fail)
 have hb : Below w2.heap.size w2 w2.drew := below_drN (Below.refl _ _) 1
 replace rp0 := keep hb rp0
 replace rp1 := keep hb rp1
 replace rl4 := keep hb rl4
 replace hw := Below.after hw hb
 clear hb
 refine wp_region_noPanic ?_
 refine wp_region_held (S := fun W_ => W_.heap[g4]? = some (.cells (d16 M) 58 (0, 0)) ∧ W_.heap[w.heap.size]? = some (.cells (kb N) 23 (0, 0))) (by kernel_rfl) ?_
 change wpAnyH _ _ _ _ _ _ _ _ (World.drew _)
 generalize w2.drew = wd6 at *
 refine wpAnyH_take (i := 0) (v := .agg (d16 M)) rfl (by kernel_rfl) (by kernel_rfl) (by kernel_rfl) (fun _ _ _ h => h) (Or.inl ⟨by rfl, ?y7⟩) (⟨rl4, rp0⟩) ?r7
 case y7 =>
  intro w_ hS_
  simp only [List.getElem_toArray, List.getElem_cons_zero]
  exact e_load_part 58 _ (by rfl) (g4) 0 (by rfl) 58 (d16 M) (0, 0) (d16 M) _ (hS_.1) (all_rowe _) Tryd.underlying58 rfl (d16_infoR _)
 simp only [Act.put, ZPa, ZPc, ZPd, ZPe, ZPf]
 refine wpAnyH_take (i := 2) (v := .agg (kb N)) rfl (by kernel_rfl) (by kernel_rfl) (by kernel_rfl) (fun _ _ _ h => h) (Or.inl ⟨by rfl, ?y8⟩) (⟨rl4, rp0⟩) ?r8
 case y8 =>
  intro w_ hS_
  simp only [List.getElem_toArray, List.getElem_cons_succ, List.getElem_cons_zero]
  exact e_load_part 23 _ (by rfl) (w.heap.size) 0 (by rfl) 23 (kb N) (0, 0) (kb N) _ (hS_.2) (all_rowe _) Tryd.underlying23 rfl (kb_info _)
 simp only [Act.put, ZPa, ZPb, ZPc, ZPd, ZPe, ZPf]
 refine eH_one (k := 1) (fuel := 1) (by kernel_rfl) rfl (by kernel_rfl) (fun K_ hK_ => ?_)
 refine wp_call_ex (f := 21) (by kernel_rfl) (ex1e ((r_sBytes M).at _)) (fun v_ wq9 hX_ => ?_)
 obtain ⟨rfl, hb⟩ := hX_
 replace rp0 := keep hb rp0
 replace rp1 := keep hb rp1
 replace rl4 := keep hb rl4
 replace hw := Below.after hw hb
 clear hb
 refine hK_ _ _ (⟨rl4, rp0⟩) ?_
 simp only [Act.put, ZPa, ZPb, ZPc, ZPd, ZPe, ZPf]
 clear hK_
 refine wpAnyH_take (i := 3) (v := ?v10) rfl (by kernel_rfl) (by kernel_rfl) (by kernel_rfl) (fun _ _ _ h => h) (Or.inl ⟨by rfl, ?y10⟩) (⟨rl4, rp0⟩) ?r10
 case y10 =>
  intro w_ hS_
  go_simp
  try with_reducible rfl
 simp only [Act.put, ZPa, ZPb, ZPc, ZPd, ZPe, ZPf]
 refine wpAnyH_done (by kernel_rfl) ?_ _
 refine NoPanic.normal ?_
 go_wp2_with (first | (refine wpList_load_want rfl 23 _ rfl (w.heap.size) rfl 23 (kb N) (0, 0) _ rp0 Tryd.underlying23 rfl (kb_info _) ?_) | (refine wpList_load_want rfl 58 _ rfl (w.heap.size + 1) rfl 58 (d16 0) (0, 0) _ rp1 Tryd.underlying58 rfl (d16_infoR _) ?_) | (refine wpList_load_want rfl 58 _ rfl (g4) rfl 58 (d16 M) (0, 0) _ rl4 Tryd.underlying58 rfl (d16_infoR _) ?_) | (refine wpList_build_as rfl 58 _ rfl [] rfl (d16 0) (by kernel_rfl) ?_) | (refine wpList_store_row rfl 58 _ _ rfl (w.heap.size + 1) (d16 0) rfl rfl 58 _ rp1 (d16_infoR _) ((d16_size _).trans (d16_size _).symm) (d16_one _) ?_) | fail)
 exact bodyPost_ret (v := .tuple #[.agg (d16 0), .int .i64 191]) (results_row_slot Tryd.results19 _ _ (w.heap.size + 1) _ (d16 0) _ _ _ rfl (setRow_heap _ _ _ _ _ _ rp1) rfl Tryd.underlying58 rfl (d16_infoR _)) rfl ⟨rfl, below_setRow hw (by omega) _⟩
theorem r_Whole {N : Int} (hK : KeyOf (kb N) N) : Gives 19 #[.agg (kb N)] (.tuple #[.agg (d16 (if L19 ≤ N then 0 else N)), .int .i64 (if L19 ≤ N then 191 else 0)]) := by
 by_cases h : L19 ≤ N
 ·rw [if_pos h, if_pos h]
  exact whole_hi hK h rfl
 ·rw [if_neg h, if_neg h]
  exact whole_lo hK (by omega)
end Go.Proofs.YtdcpcdkbhgkmlaaDoor

