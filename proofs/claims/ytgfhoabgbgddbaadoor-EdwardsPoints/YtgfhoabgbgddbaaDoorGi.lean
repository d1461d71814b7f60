import Derived.Test.YtgfhoabgbgddbaaDoorProg
import Derived.WalkKit
import Derived.WalkSpells
import Derived.WalkLawsBesides
import Derived.Lib.QuietBelow
import Derived.BigQuiet
import Derived.Test.YtgfhoabgbgddbaaDoorKa
import Derived.Test.YtgfhoabgbgddbaaDoorAb
import Derived.Test.YtgfhoabgbgddbaaDoorAe
namespace Go.Proofs.YtgfhoabgbgddbaaDoor
set_option maxRecDepth 100000
open Go.RowKit Go.Sort
attribute [local go_sem] setCell_drewN alloc_drewN


/-- What Square answers, whatever the cells. -/
noncomputable def nextSq (r : Array Value) : Array Value := open Classical in if h : ∃ x, NumOf r x then Classical.choose (a_square (Classical.choose_spec h)) else r
theorem num_inj {r : Array Value} {x y : Int} (h : NumOf r x) (g : NumOf r y) : x % prm = y % prm := by
  obtain ⟨a0, a1, a2, a3, a4, e, _, ha⟩ := h
  obtain ⟨b0, b1, b2, b3, b4, e', _, hb⟩ := g
  rw [e] at e'
  simp only [Array.mk.injEq, List.cons.injEq, Value.int.injEq] at e'
  obtain ⟨⟨_, rfl⟩, ⟨_, rfl⟩, ⟨_, rfl⟩, ⟨_, rfl⟩, ⟨_, rfl⟩, _⟩ := e'
  rw [← ha, ← hb]
theorem nextSq_spec {r : Array Value} {x : Int} (h : NumOf r x) : NumOf (nextSq r) (x * x) ∧ Gives 51 #[.agg r] (.agg (nextSq r)) := by
  have hx : ∃ x, NumOf r x := ⟨x, h⟩
  have e : nextSq r = Classical.choose (a_square (Classical.choose_spec hx)) := by unfold nextSq; exact dif_pos hx
  have sp := Classical.choose_spec (a_square (Classical.choose_spec hx))
  rw [← e] at sp
  refine ⟨sp.1.congr ?_, sp.2⟩
  have i := num_inj (Classical.choose_spec hx) h
  rw [Int.mul_emod, i, ← Int.mul_emod]
noncomputable def sqs (r : Array Value) : Nat → Array Value
  | 0 => r
  | k + 1 => nextSq (sqs r k)
theorem sqs_spec {r : Array Value} {x : Int} (h : NumOf r x) : ∀ k, NumOf (sqs r k) (x ^ (2 ^ k))
  | 0 => by rw [Nat.pow_zero, Int.pow_succ, Int.pow_zero, Int.one_mul]; exact h
  | k + 1 => by
    have := (nextSq_spec (sqs_spec h k)).1
    rw [← Int.pow_add, show 2 ^ k + 2 ^ k = 2 ^ (k + 1) by rw [Nat.pow_succ]; omega] at this
    exact this
set_option maxHeartbeats 2000000 in
theorem a_squares {r : Array Value} {x : Int} (h : NumOf r x) (t : Nat) (ht : t < 1000) : ∃ s, NumOf s (x ^ (2 ^ t)) ∧ Gives 100 #[.agg r, .int .i64 t] (.agg s) := by
  refine ⟨sqs r t, sqs_spec h t, fun w => ?_⟩
  go_enter Tryd.func100, Tryd.ntmps100
  go_wp2
  go_loopw [6] (fun i wr => ∃ k : Nat, k ≤ t ∧ i = .int .i64 k ∧ wr.heap[w.heap.size]? = some (.cells (sqs r k) 27 (0, 0)) ∧ wr.heap[w.heap.size + 1]? = some (.cells #[.int .u64 0, .int .u64 0, .int .u64 0, .int .u64 0, .int .u64 0] 27 (0, 0)) ∧ Below w.heap.size w wr) (fun i _ => t - (intOf i).toNat)
  case atStart => exact ⟨0, by omega, rfl, hp2_0 w _ _, hp2_1 w _ _, ((Below.refl _ _).alloc (Nat.le_refl _) _).alloc (by simp) _⟩
  case round =>
    obtain ⟨k, hk, rfl, r0, r1, hw⟩ := hrel
    have hn := sqs_spec h k
    by_cases hlt : k < t
    · have hd : decide ((k : Int) < (t : Int)) = true := by simp; omega
      have hs : NumOf (sqs r (k + 1)) _ ∧ Gives 51 #[.agg (sqs r k)] (.agg (sqs r (k + 1))) := nextSq_spec hn
      obtain ⟨hs, c⟩ := hs
      go_wp2_with (first | (refine wpList_load_want rfl 27 _ rfl (w.heap.size) rfl 27 (sqs r k) (0, 0) _ r0 Tryd.underlying27 rfl hn.info ?_) | fail)
      refine (c.at _).mono ?_
      rintro e w1 ⟨rfl, hb⟩
      replace r0 := keep hb r0
      replace r1 := keep hb r1
      replace hw := Below.after hw hb
      clear hb
      go_wp2_with (first | (refine wpList_store_row rfl 27 _ _ rfl (w.heap.size) (sqs r (k + 1)) rfl rfl 27 _ r0 hs.info (hn.size.trans hs.size.symm) hs.one ?_) | fail)
      go_roundw
      case rel => exact ⟨k + 1, by omega, by go_num, setRow_heap _ _ _ _ _ _ r0, (setRow_other _ _ _ _ (by omega)).trans r1, below_setRow hw (Nat.le_refl _) _⟩
      case measure => simp [intOf]; omega
    · obtain rfl : k = t := by omega
      have hd : decide ((k : Int) < (k : Int)) = false := by simp
      go_wp2_with (first | (refine wpList_load_want rfl 27 _ rfl (w.heap.size) rfl 27 (sqs r k) (0, 0) _ r0 Tryd.underlying27 rfl hn.info ?_) | (refine wpList_store_row rfl 27 _ _ rfl (w.heap.size + 1) (sqs r k) rfl rfl 27 _ r1 hn.info (hn.fits rfl) hn.one ?_) | fail)
      exact bodyPost_ret (v := .agg (sqs r k)) (results_cell_row Tryd.results100 _ _ (w.heap.size + 1) _ (sqs r k) _ _ rfl (setRow_heap _ _ _ _ _ _ r1) Tryd.underlying27 rfl hn.info) rfl ⟨rfl, below_setRow hw (by omega) _⟩


theorem p_squares {r : Array Value} {x : Int} {e : Nat} (h : NumOf r (x ^ e)) (t : Nat) (ht : t < 1000) (k : Nat) (hk : k = e * 2 ^ t) : ∃ s, NumOf s (x ^ k) ∧ Gives 100 #[.agg r, .int .i64 t] (.agg s) := by
  obtain ⟨s, hs, c⟩ := a_squares h t ht
  rw [← Int.pow_mul, ← hk] at hs
  exact ⟨s, hs, c⟩
theorem p_square {r : Array Value} {x : Int} {e : Nat} (h : NumOf r (x ^ e)) (k : Nat) (hk : k = e + e) : ∃ s, NumOf s (x ^ k) ∧ Gives 51 #[.agg r] (.agg s) := by
  obtain ⟨s, hs, c⟩ := a_square h
  rw [← Int.pow_add, ← hk] at hs
  exact ⟨s, hs, c⟩
theorem p_mul {r s : Array Value} {x : Int} {e f : Nat} (h : NumOf r (x ^ e)) (g : NumOf s (x ^ f)) (k : Nat) (hk : k = e + f) : ∃ t, NumOf t (x ^ k) ∧ Gives 49 #[.agg r, .agg s] (.agg t) := by
  obtain ⟨s, hs, c⟩ := a_mul h g
  rw [← Int.pow_add, ← hk] at hs
  exact ⟨s, hs, c⟩

end Go.Proofs.YtgfhoabgbgddbaaDoor

