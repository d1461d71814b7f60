import Derived.Test.YtgfeacnhdlgpoaaDoorProg
import Derived.WalkKit
import Derived.WalkSpells
import Derived.WalkLawsBesides
import Derived.Lib.QuietBelow
import Derived.BigQuiet
import Derived.OrdersHeld
import Derived.OwnWalk
import Derived.Deep.RegionHeld3
import Derived.Deep.Cut
import Derived.Deep.CutRange
import Derived.Test.YtgfeacnhdlgpoaaDoorTrm
import Derived.Test.YtgfeacnhdlgpoaaDoorTrg
namespace Go.Proofs.YtgfeacnhdlgpoaaDoor
set_option maxRecDepth 100000
open Go Go.RowKit Go.Sort
attribute [local go_sem] setCell_drewN alloc_drewN
/-- A Place's cells, and a Claim's: two keys, two numbers, keys. -/
def plrow (r x : List Int) (n i : Int) (v : Value) : Array Value := (r.map (Value.int .u8) ++ (x.map (Value.int .u8) ++ [.int .i64 n, .int .i64 i, v])).toArray
theorem pl_a (r x : List Int) (n i : Int) (v : Value) (hr : r.length = 32) : (plrow r x n i v).extract 0 (0 + (irow .u8 r).size) = irow .u8 r := by
  apply Array.ext'
  rw [irow_size, hr]
  simp only [Array.toList_extract, irow, plrow, List.extract_eq_take_drop, List.drop_zero]
  rw [List.take_left' (by simp [hr])]
theorem pl_b (r x : List Int) (n i : Int) (v : Value) (hr : r.length = 32) (hx : x.length = 32) : (plrow r x n i v).extract 32 (32 + (irow .u8 x).size) = irow .u8 x := by
  apply Array.ext'
  rw [irow_size, hx]
  simp only [Array.toList_extract, irow, plrow, List.extract_eq_take_drop]
  rw [List.drop_left' (by simp [hr]), List.take_left' (by simp [hx])]
theorem pl_at (r x : List Int) (n i : Int) (v : Value) (hr : r.length = 32) (hx : x.length = 32) (k : Nat) : (plrow r x n i v)[64 + k]? = [Value.int .i64 n, .int .i64 i, v][k]? := by
  unfold plrow
  rw [List.getElem?_toArray, List.getElem?_append_right (by simp [hr]; omega), List.getElem?_append_right (by simp [hr, hx]; omega)]
  congr 1
  simp [hr, hx]; omega
set_option maxRecDepth 100000 in
set_option maxHeartbeats 8000000 in
theorem includes_walk {r x : List Int} {E n i : Int} (hr : r.length = 32) (hx : x.length = 32) (p : List (List Int)) (w : World) (v : Value) (hP : Ksl w v p) (hb4 : p.length ≤ 4398046510990) (cA1 : ∀ W, Below w.heap.size w W → ∀ {u : Value}, Ksl W u p → Calls Tryd.prog 29 #[.agg (irow .u8 r), .int .i64 n, .int .i64 i, .agg (irow .u8 x), u] W fun e w' => e = .returned (.int .i64 E) ∧ Below W.heap.size W w') (cA2 : (∀ W, Below w.heap.size w W → Calls Tryd.prog 29 #[.agg (irow .u8 x), .int .i64 1, .int .i64 0, .agg (irow .u8 x), .slice none 0 0] W fun e w' => e = .returned (.int .i64 0) ∧ Below W.heap.size W w')) (cR : (∀ W, Below w.heap.size w W → Calls Tryd.prog 30 #[.agg (irow .u8 r), .int .i64 n, .int .i64 i, .agg (irow .u8 x), v] W fun e w' => e = .returned (.int .i64 E) ∧ Below W.heap.size W w')) (cA3 : (∀ W, Below w.heap.size w W → Calls Tryd.prog 29 #[.agg (irow .u8 x), .int .i64 0, .int .i64 0, .agg (irow .u8 x), .slice none 0 0] W fun e w' => e = .returned (.int .i64 210) ∧ Below W.heap.size W w')) : Calls Tryd.prog 6 #[.agg (plrow r x n i v)] w fun e w' => e = .returned (.bool true) ∧ Below w.heap.size w w' := by
  have hle := hP.le
  obtain ⟨vo, vc, rfl, _, _⟩ := hP.slc
  have rp0 := hp1_0 w (.cells (plrow r x n i (.slice vo p.length vc)) 52)
  have hw : Below w.heap.size w (w.alloc (.cells (plrow r x n i (.slice vo p.length vc)) 52)) := ((Below.refl _ _).alloc (Nat.le_refl _) _)
  go_enter Tryd.func6, Tryd.ntmps6
  iterate 6 go_step
  generalize (w.alloc (.cells (plrow r x n i (.slice vo p.length vc)) 52)) = w0 at *
  have k0 := cell_of rp0 ((pl_at r x n i (.slice vo p.length vc) hr hx 0).trans rfl)
  have k1 := cell_of rp0 ((pl_at r x n i (.slice vo p.length vc) hr hx 1).trans rfl)
  have k2 := cell_of rp0 ((pl_at r x n i (.slice vo p.length vc) hr hx 2).trans rfl)
  go_wp2_with (first | (refine wpList_load_part rfl 24 _ rfl (w.heap.size) 0 rfl 52 (plrow r x n i (.slice vo p.length vc)) (0, 0) (irow .u8 r) _ rp0 (pl_a _ _ _ _ _ hr) Tryd.underlying24 rfl (infok8 _ hr) ?_) | (refine wpList_load_part rfl 24 _ rfl (w.heap.size) 32 rfl 52 (plrow r x n i (.slice vo p.length vc)) (0, 0) (irow .u8 x) _ rp0 (pl_b _ _ _ _ _ hr hx) Tryd.underlying24 rfl (infok8 _ hx) ?_) | fail)
  refine (l_loan p _ _ (hP.keep hw) hb4).mono ?_
  rintro e_ w1 ⟨ao, cap, rfl, hO, hb⟩
  replace rp0 := keep hb rp0
  replace hw := Below.after hw hb
  clear hb
  have hA := hO.ksl (hP.ok.app mks_ok) (by simp [mks]; omega)
  have hc := hA.head (k := p.length) (by simp)
  rw [List.take_left] at hc
  clear hA
  clear k0 k1 k2
  have k0 := cell_of rp0 ((pl_at r x n i (.slice vo p.length vc) hr hx 0).trans rfl)
  have k1 := cell_of rp0 ((pl_at r x n i (.slice vo p.length vc) hr hx 1).trans rfl)
  have k2 := cell_of rp0 ((pl_at r x n i (.slice vo p.length vc) hr hx 2).trans rfl)
  go_wp2_with (first | (refine wpList_load_part rfl 24 _ rfl (w.heap.size) 0 rfl 52 (plrow r x n i (.slice vo p.length vc)) (0, 0) (irow .u8 r) _ rp0 (pl_a _ _ _ _ _ hr) Tryd.underlying24 rfl (infok8 _ hr) ?_) | (refine wpList_load_part rfl 24 _ rfl (w.heap.size) 32 rfl 52 (plrow r x n i (.slice vo p.length vc)) (0, 0) (irow .u8 x) _ rp0 (pl_b _ _ _ _ _ hr hx) Tryd.underlying24 rfl (infok8 _ hx) ?_) | fail)
  refine (cA1 _ hw hc).mono ?_
  rintro e_ w2 ⟨rfl, hb⟩
  replace rp0 := keep hb rp0
  replace hO := hO.keep hb
  replace hc := hc.keep hb
  replace hw := Below.after hw hb
  clear hb
  clear k0 k1 k2
  have k0 := cell_of rp0 ((pl_at r x n i (.slice vo p.length vc) hr hx 0).trans rfl)
  have k1 := cell_of rp0 ((pl_at r x n i (.slice vo p.length vc) hr hx 1).trans rfl)
  have k2 := cell_of rp0 ((pl_at r x n i (.slice vo p.length vc) hr hx 2).trans rfl)
  go_wp2_with (first | (refine wpList_load_part rfl 24 _ rfl (w.heap.size) 0 rfl 52 (plrow r x n i (.slice vo p.length vc)) (0, 0) (irow .u8 r) _ rp0 (pl_a _ _ _ _ _ hr) Tryd.underlying24 rfl (infok8 _ hr) ?_) | (refine wpList_load_part rfl 24 _ rfl (w.heap.size) 32 rfl 52 (plrow r x n i (.slice vo p.length vc)) (0, 0) (irow .u8 x) _ rp0 (pl_b _ _ _ _ _ hr hx) Tryd.underlying24 rfl (infok8 _ hx) ?_) | fail)
  refine (cA2 _ hw).mono ?_
  rintro e_ w3 ⟨rfl, hb⟩
  replace rp0 := keep hb rp0
  replace hO := hO.keep hb
  replace hc := hc.keep hb
  replace hw := Below.after hw hb
  clear hb
  clear k0 k1 k2
  have k0 := cell_of rp0 ((pl_at r x n i (.slice vo p.length vc) hr hx 0).trans rfl)
  have k1 := cell_of rp0 ((pl_at r x n i (.slice vo p.length vc) hr hx 1).trans rfl)
  have k2 := cell_of rp0 ((pl_at r x n i (.slice vo p.length vc) hr hx 2).trans rfl)
  go_wp2_with (first | (refine wpList_load_part rfl 24 _ rfl (w.heap.size) 0 rfl 52 (plrow r x n i (.slice vo p.length vc)) (0, 0) (irow .u8 r) _ rp0 (pl_a _ _ _ _ _ hr) Tryd.underlying24 rfl (infok8 _ hr) ?_) | (refine wpList_load_part rfl 24 _ rfl (w.heap.size) 32 rfl 52 (plrow r x n i (.slice vo p.length vc)) (0, 0) (irow .u8 x) _ rp0 (pl_b _ _ _ _ _ hr hx) Tryd.underlying24 rfl (infok8 _ hx) ?_) | fail)
  refine (cR _ hw).mono ?_
  rintro e_ w4 ⟨rfl, hb⟩
  replace rp0 := keep hb rp0
  replace hO := hO.keep hb
  replace hc := hc.keep hb
  replace hw := Below.after hw hb
  clear hb
  clear k0 k1 k2
  have k0 := cell_of rp0 ((pl_at r x n i (.slice vo p.length vc) hr hx 0).trans rfl)
  have k1 := cell_of rp0 ((pl_at r x n i (.slice vo p.length vc) hr hx 1).trans rfl)
  have k2 := cell_of rp0 ((pl_at r x n i (.slice vo p.length vc) hr hx 2).trans rfl)
  go_wp2_with (first | (refine wpList_load_part rfl 24 _ rfl (w.heap.size) 0 rfl 52 (plrow r x n i (.slice vo p.length vc)) (0, 0) (irow .u8 r) _ rp0 (pl_a _ _ _ _ _ hr) Tryd.underlying24 rfl (infok8 _ hr) ?_) | (refine wpList_load_part rfl 24 _ rfl (w.heap.size) 32 rfl 52 (plrow r x n i (.slice vo p.length vc)) (0, 0) (irow .u8 x) _ rp0 (pl_b _ _ _ _ _ hr hx) Tryd.underlying24 rfl (infok8 _ hx) ?_) | fail)
  refine (l_whole p _ _ _ _ _ hO (hP.keep hw) hb4).mono ?_
  rintro e_ w5 ⟨rfl, hb⟩
  replace rp0 := keep hb rp0
  replace hO := hO.keep hb
  replace hc := hc.keep hb
  replace hw := Below.after hw hb
  clear hb
  clear k0 k1 k2
  have k0 := cell_of rp0 ((pl_at r x n i (.slice vo p.length vc) hr hx 0).trans rfl)
  have k1 := cell_of rp0 ((pl_at r x n i (.slice vo p.length vc) hr hx 1).trans rfl)
  have k2 := cell_of rp0 ((pl_at r x n i (.slice vo p.length vc) hr hx 2).trans rfl)
  go_wp2_with (first | (refine wpList_load_part rfl 24 _ rfl (w.heap.size) 0 rfl 52 (plrow r x n i (.slice vo p.length vc)) (0, 0) (irow .u8 r) _ rp0 (pl_a _ _ _ _ _ hr) Tryd.underlying24 rfl (infok8 _ hr) ?_) | (refine wpList_load_part rfl 24 _ rfl (w.heap.size) 32 rfl 52 (plrow r x n i (.slice vo p.length vc)) (0, 0) (irow .u8 x) _ rp0 (pl_b _ _ _ _ _ hr hx) Tryd.underlying24 rfl (infok8 _ hx) ?_) | fail)
  refine (cA3 _ hw).mono ?_
  rintro e_ w6 ⟨rfl, hb⟩
  replace rp0 := keep hb rp0
  replace hO := hO.keep hb
  replace hc := hc.keep hb
  replace hw := Below.after hw hb
  clear hb
  clear k0 k1 k2
  have k0 := cell_of rp0 ((pl_at r x n i (.slice vo p.length vc) hr hx 0).trans rfl)
  have k1 := cell_of rp0 ((pl_at r x n i (.slice vo p.length vc) hr hx 1).trans rfl)
  have k2 := cell_of rp0 ((pl_at r x n i (.slice vo p.length vc) hr hx 2).trans rfl)
  go_wp2_with (fail)
  go_ret
  exact ⟨rfl, hw⟩
theorem includes_any (r x : List Int) (n i : Int) (p : List (List Int)) (w : World) (v : Value) (hr : Ky r) (hx : Ky x) (hS : Sta w) (hK : Kon w) (hP : Ksl w v p) (hb4 : p.length ≤ 4398046510990) : Calls Tryd.prog 6 #[.agg (plrow r x n i v)] w fun e w' => e = .returned (.bool true) ∧ Below w.heap.size w w' := by
  refine includes_walk (E := inE r n i x p) hr.1 hx.1 p w v hP hb4 (fun W hW u hu => a_Included r x n i p W u hr hx (hS.below hW) (hK.below hW) hu) (fun W hW => ?_) (fun W hW => r_Included r x n i p W v hr hx (hP.keep hW)) (fun W hW => ?_)
  · have h := a_Included x x 1 0 [] W _ hx hx (hS.below hW) (hK.below hW) (Ksl.nil W)
    have e : inE x 1 0 x [] = 0 := by
      unfold inE
      rw [if_neg (by omega), if_pos ⟨by rw [lng_one (by decide)]; rfl, mde_one sumL (by decide) _ _ _⟩]
    rw [e] at h
    exact h
  · have h := a_Included x x 0 0 [] W _ hx hx (hS.below hW) (hK.below hW) (Ksl.nil W)
    have e : inE x 0 0 x [] = 210 := by
      unfold inE
      rw [if_pos (by omega)]
    rw [e] at h
    exact h
end Go.Proofs.YtgfeacnhdlgpoaaDoor
