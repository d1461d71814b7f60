import Derived.Test.YtcjdglckbkdheaaDoorProg
import Derived.WalkKit
import Derived.WalkSpells
import Derived.WalkLawsBesides
import Derived.Lib.QuietBelow
import Derived.BigQuiet
import Derived.Test.YtcjdglckbkdheaaDoorKa
import Derived.Test.YtcjdglckbkdheaaDoorGp
import Derived.Test.YtcjdglckbkdheaaDoorRg
namespace Go.Proofs.YtcjdglckbkdheaaDoor
open Go.RowKit Go.Sort
attribute [local go_sem] setCell_drewN alloc_drewN


theorem sq_pow (m : Int) (e : Nat) : m ^ e % prm * (m ^ e % prm) % prm = m ^ (e + e) % prm := by rw [← Int.mul_emod, ← Int.pow_add]
theorem mul_pow1 (m : Int) (e : Nat) : m ^ e % prm * m % prm = m ^ (e + 1) % prm := by rw [Int.mul_emod, Int.emod_emod, ← Int.mul_emod, ← Int.pow_succ]
theorem bit8 (z : Int) (j : Nat) (h0 : 0 ≤ z) (h1 : z < 256) (hj : j < 8) : (128 ≤ z * 2 ^ j % 256 ↔ z.toNat / 2 ^ (7 - j) % 2 = 1) ∧ z * 2 ^ j % 256 % 128 * 2 = z * 2 ^ (j + 1) % 256 ∧ z.toNat / 2 ^ (7 - j) / 2 = z.toNat / 2 ^ (8 - j) ∧ 8 - (j + 1) = 7 - j := by
  rcases (by omega : j = 0 ∨ j = 1 ∨ j = 2 ∨ j = 3 ∨ j = 4 ∨ j = 5 ∨ j = 6 ∨ j = 7) with rfl | rfl | rfl | rfl | rfl | rfl | rfl | rfl <;> simp <;> omega
set_option maxHeartbeats 4000000 in
set_option maxRecDepth 10000 in
theorem r_power {m : Int} (h : inP m) (bs : List Int) (w : World) (ev : Value) (hB : Bys w ev bs) :
    Calls Tryd.prog 45 #[.agg (rd m), ev] w fun e w' => e = .returned (.agg (rd (m ^ bval bs % prm))) ∧ Below w.heap.size w w' := by
  obtain ⟨ao, cap, rfl, hl, hc, hz⟩ := hB
  have hall := topv_all bs
  have co := r_small 1 (by decide) (by decide)
  have zinfo : (Tryd.prog.info? 30).map (·.size) = some (#[.int .u64 0, .int .u64 0, .int .u64 0, .int .u64 0, .int .u64 0, .int .u64 0, .int .u64 0, .int .u64 0, .int .u64 0, .int .u64 0, .int .u64 0, .int .u64 0, .int .u64 0, .int .u64 0, .int .u64 0, .int .u64 0] : Array Value).size := rd_info 0
  generalize hlen : bs.length = len at *
  go_enter Tryd.func45, Tryd.ntmps45
  go_wp2_with (first | (refine wpList_load_want rfl 30 _ rfl (w.heap.size) rfl 30 (rd m) (0, 0) _ (hp2_0 w _ _) Tryd.underlying30 rfl (rd_info m) ?_) | (refine wpList_load_want rfl 30 _ rfl (w.heap.size + 1) rfl 30 #[.int .u64 0, .int .u64 0, .int .u64 0, .int .u64 0, .int .u64 0, .int .u64 0, .int .u64 0, .int .u64 0, .int .u64 0, .int .u64 0, .int .u64 0, .int .u64 0, .int .u64 0, .int .u64 0, .int .u64 0, .int .u64 0] (0, 0) _ (hp2_1 w _ _) Tryd.underlying30 rfl zinfo ?_) | fail)
  have rp0 : ((w.alloc (.cells (rd m) 30)).alloc (.cells #[.int .u64 0, .int .u64 0, .int .u64 0, .int .u64 0, .int .u64 0, .int .u64 0, .int .u64 0, .int .u64 0, .int .u64 0, .int .u64 0, .int .u64 0, .int .u64 0, .int .u64 0, .int .u64 0, .int .u64 0, .int .u64 0] 30)).heap[w.heap.size]? = some (.cells (rd m) 30 (0, 0)) := hp2_0 w _ _
  have rp1 : ((w.alloc (.cells (rd m) 30)).alloc (.cells #[.int .u64 0, .int .u64 0, .int .u64 0, .int .u64 0, .int .u64 0, .int .u64 0, .int .u64 0, .int .u64 0, .int .u64 0, .int .u64 0, .int .u64 0, .int .u64 0, .int .u64 0, .int .u64 0, .int .u64 0, .int .u64 0] 30)).heap[w.heap.size + 1]? = some (.cells #[.int .u64 0, .int .u64 0, .int .u64 0, .int .u64 0, .int .u64 0, .int .u64 0, .int .u64 0, .int .u64 0, .int .u64 0, .int .u64 0, .int .u64 0, .int .u64 0, .int .u64 0, .int .u64 0, .int .u64 0, .int .u64 0] 30 (0, 0)) := hp2_1 w _ _
  have hw : Below w.heap.size w ((w.alloc (.cells (rd m) 30)).alloc (.cells #[.int .u64 0, .int .u64 0, .int .u64 0, .int .u64 0, .int .u64 0, .int .u64 0, .int .u64 0, .int .u64 0, .int .u64 0, .int .u64 0, .int .u64 0, .int .u64 0, .int .u64 0, .int .u64 0, .int .u64 0, .int .u64 0] 30)) := (((Below.refl _ _).alloc (Nat.le_refl _) _).alloc (by simp) _)
  generalize ((w.alloc (.cells (rd m) 30)).alloc (.cells #[.int .u64 0, .int .u64 0, .int .u64 0, .int .u64 0, .int .u64 0, .int .u64 0, .int .u64 0, .int .u64 0, .int .u64 0, .int .u64 0, .int .u64 0, .int .u64 0, .int .u64 0, .int .u64 0, .int .u64 0, .int .u64 0] 30)) = w0 at *
  refine (co.at _).mono ?_
  rintro e w2 ⟨rfl, hb⟩
  replace rp0 := keep hb rp0
  replace rp1 := keep hb rp1
  replace hw := Below.after hw hb
  clear hb
  go_wp2_with (first | (refine wpList_store_row rfl 30 _ _ rfl (w2.heap.size) (rd 1) rfl rfl 30 #[.int .u64 0, .int .u64 0, .int .u64 0, .int .u64 0, .int .u64 0, .int .u64 0, .int .u64 0, .int .u64 0, .int .u64 0, .int .u64 0, .int .u64 0, .int .u64 0, .int .u64 0, .int .u64 0, .int .u64 0, .int .u64 0] (hp1_0 w2 _) (rd_info 1) rfl (rd_one 1) ?_; rw [setRow_alloc_new _ _ _ _ _ _ (by simp)]) | fail | fail)
  have rl5 : (w2.alloc (.cells (rd 1) 30)).heap[w2.heap.size]? = some (.cells (rd 1) 30 (0, 0)) := hp1_0 w2 _
  have hb : Below w2.heap.size w2 (w2.alloc (.cells (rd 1) 30)) := ((Below.refl _ _).alloc (Nat.le_refl _) _)
  generalize (w2.alloc (.cells (rd 1) 30)) = wa at *
  have yg5_0 := lt_of_row rp0
  have yg5_1 := lt_of_row rp1
  have yg5 := hw.size
  replace rp0 := keep hb rp0
  replace rp1 := keep hb rp1
  replace hw := Below.after hw hb
  clear hb
  generalize w2.heap.size = g5 at *
  clear w2
  go_loopw [6] (fun i wr => ∃ k : Nat, k ≤ len ∧ i = .int .i64 ((len : Int) - 1 - k) ∧ wr.heap[w.heap.size]? = some (.cells (rd m) 30 (0, 0)) ∧ wr.heap[w.heap.size + 1]? = some (.cells #[.int .u64 0, .int .u64 0, .int .u64 0, .int .u64 0, .int .u64 0, .int .u64 0, .int .u64 0, .int .u64 0, .int .u64 0, .int .u64 0, .int .u64 0, .int .u64 0, .int .u64 0, .int .u64 0, .int .u64 0, .int .u64 0] 30 (0, 0)) ∧ wr.heap[g5]? = some (.cells (rd (m ^ topv bs k % prm)) 30 (0, 0)) ∧ Below w.heap.size w wr) (fun i _ => (intOf i + 1).toNat)
  case atStart => exact ⟨0, by omega, by go_num, rp0, rp1, by rw [topv_zero, Int.pow_zero, show (1 : Int) % prm = 1 by decide]; exact rl5, hw⟩
  case round =>
    clear rp0 rp1 rl5 hw
    obtain ⟨k, hk, rfl, rp0, rp1, rl5, hw⟩ := hrel
    by_cases hlt : k < len
    · have hi : (len : Int) - 1 - k = ((len - 1 - k : Nat) : Int) := by omega
      rw [hi]
      obtain ⟨b, off, rfl, hb1, hb2⟩ := hc (len - 1 - k) (by omega)
      replace hb2 := (hw.cell hb1).trans hb2
      have hbat := bat_bd hz (k := k) (by omega)
      have htop := topv_succ (bs := bs) (k := k) (by omega)
      rw [show bs.getD (len - 1 - k) 0 = bat bs k by unfold bat; rw [hlen]] at hb2
      generalize bat bs k = z at *
      generalize topv bs k = E at *
      go_wp2
      go_loopw [7, 8] (fun x i wv => ∃ j : Nat, j ≤ 8 ∧ i = .int .i64 j ∧ x = .int .u8 (z * 2 ^ j % 256) ∧ wv.heap[w.heap.size]? = some (.cells (rd m) 30 (0, 0)) ∧ wv.heap[w.heap.size + 1]? = some (.cells #[.int .u64 0, .int .u64 0, .int .u64 0, .int .u64 0, .int .u64 0, .int .u64 0, .int .u64 0, .int .u64 0, .int .u64 0, .int .u64 0, .int .u64 0, .int .u64 0, .int .u64 0, .int .u64 0, .int .u64 0, .int .u64 0] 30 (0, 0)) ∧ wv.heap[g5]? = some (.cells (rd (m ^ (E * 2 ^ j + z.toNat / 2 ^ (8 - j)) % prm)) 30 (0, 0)) ∧ Below w.heap.size w wv) (fun _ i _ => 8 - (intOf i).toNat)
      case atStart =>
        refine ⟨0, by omega, rfl, ?_, rp0, rp1, ?_, hw⟩
        · rw [Int.pow_zero, Int.mul_one, Int.emod_eq_of_lt hbat.1 hbat.2]
        · rw [show E * 2 ^ 0 + z.toNat / 2 ^ (8 - 0) = E by omega]; exact rl5
      case round =>
        clear rp0 rp1 rl5 hw hb2
        obtain ⟨j, hj, rfl, rfl, rp0, rp1, rl5, hw⟩ := hrel
        by_cases hlj : j < 8
        · have hdj : decide ((j : Int) < 8) = true := by simp; omega
          obtain ⟨hbit, hnext, hhalf, h7⟩ := bit8 z j hbat.1 hbat.2 hlj
          have cs := r_square (inP_mod (m ^ (E * 2 ^ j + z.toNat / 2 ^ (8 - j))))
          rw [sq_pow] at cs
          have cm := r_mul (inP_mod (m ^ (E * 2 ^ j + z.toNat / 2 ^ (8 - j) + (E * 2 ^ j + z.toNat / 2 ^ (8 - j))))) h
          rw [mul_pow1] at cm
          have h2 : E * 2 ^ (j + 1) = E * 2 ^ j + E * 2 ^ j := by rw [Nat.pow_succ, ← Nat.mul_assoc]; omega
          have hst : E * 2 ^ (j + 1) + z.toNat / 2 ^ (8 - (j + 1)) = if z.toNat / 2 ^ (7 - j) % 2 = 1 then E * 2 ^ j + z.toNat / 2 ^ (8 - j) + (E * 2 ^ j + z.toNat / 2 ^ (8 - j)) + 1 else E * 2 ^ j + z.toNat / 2 ^ (8 - j) + (E * 2 ^ j + z.toNat / 2 ^ (8 - j)) := by
            rw [h7, h2, ← hhalf]
            split <;> omega
          have hx0 : 0 ≤ z * 2 ^ j % 256 ∧ z * 2 ^ j % 256 < 256 := by omega
          generalize he2 : E * 2 ^ (j + 1) + z.toNat / 2 ^ (8 - (j + 1)) = e2 at *
          generalize E * 2 ^ j + z.toNat / 2 ^ (8 - j) = e1 at *
          generalize hx1 : z * 2 ^ (j + 1) % 256 = x1 at *
          generalize z * 2 ^ j % 256 = x0 at *
          go_wp2_with (first | (refine wpList_load_want rfl 30 _ rfl (g5) rfl 30 (rd (m ^ e1 % prm)) (0, 0) _ rl5 Tryd.underlying30 rfl (rd_info _) ?_) | fail)
          refine (cs.at _).mono ?_
          rintro e w1 ⟨rfl, hb⟩
          replace rp0 := keep hb rp0
          replace rp1 := keep hb rp1
          replace rl5 := keep hb rl5
          replace hw := Below.after hw hb
          clear hb
          by_cases hge : 128 ≤ x0
          · have hg : decide (128 ≤ x0) = true := decide_eq_true hge
            rw [if_pos (hbit.1 hge)] at hst
            go_wp2_with (first | (refine wpList_store_row rfl 30 _ _ rfl (g5) (rd (m ^ (e1 + e1) % prm)) rfl rfl 30 _ rl5 (rd_info _) rfl (rd_one _) ?_) | (refine wpList_load_want rfl 30 _ rfl (g5) rfl 30 (rd (m ^ (e1 + e1) % prm)) (0, 0) _ (setRow_heap w1 g5 _ (rd (m ^ (e1 + e1) % prm)) _ _ rl5) Tryd.underlying30 rfl (rd_info _) ?_) | (refine wpList_load_want rfl 30 _ rfl (w.heap.size) rfl 30 (rd m) (0, 0) _ ((setRow_other w1 g5 (w.heap.size) (rd (m ^ (e1 + e1) % prm)) (by omega)).trans rp0) Tryd.underlying30 rfl (rd_info _) ?_) | fail)
            replace rp0 := (setRow_other w1 g5 (w.heap.size) (rd (m ^ (e1 + e1) % prm)) (by omega)).trans rp0
            replace rp1 := (setRow_other w1 g5 (w.heap.size + 1) (rd (m ^ (e1 + e1) % prm)) (by omega)).trans rp1
            replace rl5 := setRow_heap w1 g5 _ (rd (m ^ (e1 + e1) % prm)) _ _ rl5
            replace hw := below_setRow hw (show w.heap.size ≤ g5 by omega) (rd (m ^ (e1 + e1) % prm))
            generalize w1.setRow g5 (rd (m ^ (e1 + e1) % prm)) = w2 at *
            refine (cm.at _).mono ?_
            rintro e w3 ⟨rfl, hb⟩
            replace rp0 := keep hb rp0
            replace rp1 := keep hb rp1
            replace rl5 := keep hb rl5
            replace hw := Below.after hw hb
            clear hb
            go_wp2_with (first | (refine wpList_store_row rfl 30 _ _ rfl (g5) (rd (m ^ (e1 + e1 + 1) % prm)) rfl rfl 30 _ rl5 (rd_info _) rfl (rd_one _) ?_) | fail)
            replace rp0 := (setRow_other w3 g5 (w.heap.size) (rd (m ^ (e1 + e1 + 1) % prm)) (by omega)).trans rp0
            replace rp1 := (setRow_other w3 g5 (w.heap.size + 1) (rd (m ^ (e1 + e1 + 1) % prm)) (by omega)).trans rp1
            replace rl5 := setRow_heap w3 g5 _ (rd (m ^ (e1 + e1 + 1) % prm)) _ _ rl5
            replace hw := below_setRow hw (show w.heap.size ≤ g5 by omega) (rd (m ^ (e1 + e1 + 1) % prm))
            generalize w3.setRow g5 (rd (m ^ (e1 + e1 + 1) % prm)) = w4 at *
            go_roundw
            case rel => exact ⟨j + 1, by omega, by go_num, by rw [hx1, ← hnext], rp0, rp1, by rw [he2, hst]; exact rl5, hw⟩
            case measure => simp [intOf]; omega
          · have hg : decide (128 ≤ x0) = false := decide_eq_false hge
            rw [if_neg (fun q => hge (hbit.2 q))] at hst
            go_wp2_with (first | (refine wpList_store_row rfl 30 _ _ rfl (g5) (rd (m ^ (e1 + e1) % prm)) rfl rfl 30 _ rl5 (rd_info _) rfl (rd_one _) ?_) | fail)
            replace rp0 := (setRow_other w1 g5 (w.heap.size) (rd (m ^ (e1 + e1) % prm)) (by omega)).trans rp0
            replace rp1 := (setRow_other w1 g5 (w.heap.size + 1) (rd (m ^ (e1 + e1) % prm)) (by omega)).trans rp1
            replace rl5 := setRow_heap w1 g5 _ (rd (m ^ (e1 + e1) % prm)) _ _ rl5
            replace hw := below_setRow hw (show w.heap.size ≤ g5 by omega) (rd (m ^ (e1 + e1) % prm))
            generalize w1.setRow g5 (rd (m ^ (e1 + e1) % prm)) = w2 at *
            go_roundw
            case rel => exact ⟨j + 1, by omega, by go_num, by rw [hx1, ← hnext], rp0, rp1, by rw [he2, hst]; exact rl5, hw⟩
            case measure => simp [intOf]; omega
        · obtain rfl : j = 8 := by omega
          have hdj : decide ((8 : Int) < 8) = false := by decide
          go_wp2
          go_roundw
          case rel => exact ⟨k + 1, by omega, by go_num, rp0, rp1, by rw [htop, show E * 256 + z.toNat = E * 2 ^ 8 + z.toNat / 2 ^ (8 - 8) by omega]; exact rl5, hw⟩
          case measure => simp [intOf]
    · obtain rfl : k = len := by omega
      have hi : (k : Int) - 1 - k = -1 := by omega
      rw [hi]
      go_wp2_with (first | (refine wpList_load_want rfl 30 _ rfl (g5) rfl 30 (rd (m ^ topv bs k % prm)) (0, 0) _ rl5 Tryd.underlying30 rfl (rd_info _) ?_) | (refine wpList_store_row rfl 30 _ _ rfl (w.heap.size + 1) (rd (m ^ topv bs k % prm)) rfl rfl 30 _ rp1 (rd_info _) rfl (rd_one _) ?_) | fail)
      rw [hall] at *
      exact bodyPost_ret (v := .agg (rd (m ^ bval bs % prm))) (results_cell_row Tryd.results45 _ _ (w.heap.size + 1) _ (rd (m ^ bval bs % prm)) _ _ rfl (setRow_heap _ _ _ _ _ _ rp1) Tryd.underlying30 rfl (rd_info _)) rfl ⟨rfl, below_setRow hw (by omega) _⟩

end Go.Proofs.YtcjdglckbkdheaaDoor

