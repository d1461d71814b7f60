import Derived.Test.YtgfeacnhdlgpoaaDoorProg
import Derived.WalkKit
import Derived.WalkSpells
import Derived.WalkLawsBesides
import Derived.Lib.QuietBelow
import Derived.BigQuiet
import Derived.OrdersHeld
import Derived.OwnWalk
import Derived.Deep.RegionHeld3
import Derived.Deep.Cut
import Derived.Deep.CutRange
import Derived.Test.YtgfeacnhdlgpoaaDoorTru
import Derived.Test.YtgfeacnhdlgpoaaDoorTrn
namespace Go.Proofs.YtgfeacnhdlgpoaaDoor
set_option maxRecDepth 100000
open Go Go.RowKit Go.Sort
attribute [local go_sem] setCell_drewN alloc_drewN
set_option maxRecDepth 100000 in
set_option maxHeartbeats 8000000 in
theorem grows_walk {r x : List Int} {E n i : Int} (hr : r.length = 32) (hx : x.length = 32) (p : List (List Int)) (w : World) (v : Value) (hP : Ksl w v p) (hb4 : p.length ≤ 4398046510990) (cA1 : ∀ W, Below w.heap.size w W → ∀ {u : Value}, Ksl W u p → Calls Tryd.prog 31 #[.agg (irow .u8 r), .int .i64 n, .agg (irow .u8 x), .int .i64 i, u] W fun e w' => e = .returned (.int .i64 E) ∧ Below W.heap.size W w') (cR : (∀ W, Below w.heap.size w W → Calls Tryd.prog 32 #[.agg (irow .u8 r), .int .i64 n, .agg (irow .u8 x), .int .i64 i, v] W fun e w' => e = .returned (.int .i64 E) ∧ Below W.heap.size W w')) (cA3 : (∀ W, Below w.heap.size w W → Calls Tryd.prog 31 #[.agg (irow .u8 r), .int .i64 3, .agg (irow .u8 r), .int .i64 3, .slice none 0 0] W fun e w' => e = .returned (.int .i64 0) ∧ Below W.heap.size W w')) : Calls Tryd.prog 7 #[.agg (plrow r x n i v)] w fun e w' => e = .returned (.bool true) ∧ Below w.heap.size w w' := by
  have hle := hP.le
  obtain ⟨vo, vc, rfl, _, _⟩ := hP.slc
  have rp0 := hp1_0 w (.cells (plrow r x n i (.slice vo p.length vc)) 56)
  have hw : Below w.heap.size w (w.alloc (.cells (plrow r x n i (.slice vo p.length vc)) 56)) := ((Below.refl _ _).alloc (Nat.le_refl _) _)
  go_enter Tryd.func7, Tryd.ntmps7
  iterate 6 go_step
  generalize (w.alloc (.cells (plrow r x n i (.slice vo p.length vc)) 56)) = w0 at *
  have k0 := cell_of rp0 ((pl_at r x n i (.slice vo p.length vc) hr hx 0).trans rfl)
  have k1 := cell_of rp0 ((pl_at r x n i (.slice vo p.length vc) hr hx 1).trans rfl)
  have k2 := cell_of rp0 ((pl_at r x n i (.slice vo p.length vc) hr hx 2).trans rfl)
  go_wp2_with (first | (refine wpList_load_part rfl 24 _ rfl (w.heap.size) 0 rfl 56 (plrow r x n i (.slice vo p.length vc)) (0, 0) (irow .u8 r) _ rp0 (pl_a _ _ _ _ _ hr) Tryd.underlying24 rfl (infok8 _ hr) ?_) | (refine wpList_load_part rfl 24 _ rfl (w.heap.size) 32 rfl 56 (plrow r x n i (.slice vo p.length vc)) (0, 0) (irow .u8 x) _ rp0 (pl_b _ _ _ _ _ hr hx) Tryd.underlying24 rfl (infok8 _ hx) ?_) | fail)
  refine (l_loan p _ _ (hP.keep hw) hb4).mono ?_
  rintro e_ w1 ⟨ao, cap, rfl, hO, hb⟩
  replace rp0 := keep hb rp0
  replace hw := Below.after hw hb
  clear hb
  have hA := hO.ksl (hP.ok.app mks_ok) (by simp [mks]; omega)
  have hc := hA.head (k := p.length) (by simp)
  rw [List.take_left] at hc
  clear hA
  clear k0 k1 k2
  have k0 := cell_of rp0 ((pl_at r x n i (.slice vo p.length vc) hr hx 0).trans rfl)
  have k1 := cell_of rp0 ((pl_at r x n i (.slice vo p.length vc) hr hx 1).trans rfl)
  have k2 := cell_of rp0 ((pl_at r x n i (.slice vo p.length vc) hr hx 2).trans rfl)
  go_wp2_with (first | (refine wpList_load_part rfl 24 _ rfl (w.heap.size) 0 rfl 56 (plrow r x n i (.slice vo p.length vc)) (0, 0) (irow .u8 r) _ rp0 (pl_a _ _ _ _ _ hr) Tryd.underlying24 rfl (infok8 _ hr) ?_) | (refine wpList_load_part rfl 24 _ rfl (w.heap.size) 32 rfl 56 (plrow r x n i (.slice vo p.length vc)) (0, 0) (irow .u8 x) _ rp0 (pl_b _ _ _ _ _ hr hx) Tryd.underlying24 rfl (infok8 _ hx) ?_) | fail)
  refine (cA1 _ hw hc).mono ?_
  rintro e_ w2 ⟨rfl, hb⟩
  replace rp0 := keep hb rp0
  replace hO := hO.keep hb
  replace hc := hc.keep hb
  replace hw := Below.after hw hb
  clear hb
  clear k0 k1 k2
  have k0 := cell_of rp0 ((pl_at r x n i (.slice vo p.length vc) hr hx 0).trans rfl)
  have k1 := cell_of rp0 ((pl_at r x n i (.slice vo p.length vc) hr hx 1).trans rfl)
  have k2 := cell_of rp0 ((pl_at r x n i (.slice vo p.length vc) hr hx 2).trans rfl)
  go_wp2_with (first | (refine wpList_load_part rfl 24 _ rfl (w.heap.size) 0 rfl 56 (plrow r x n i (.slice vo p.length vc)) (0, 0) (irow .u8 r) _ rp0 (pl_a _ _ _ _ _ hr) Tryd.underlying24 rfl (infok8 _ hr) ?_) | (refine wpList_load_part rfl 24 _ rfl (w.heap.size) 32 rfl 56 (plrow r x n i (.slice vo p.length vc)) (0, 0) (irow .u8 x) _ rp0 (pl_b _ _ _ _ _ hr hx) Tryd.underlying24 rfl (infok8 _ hx) ?_) | fail)
  refine (cR _ hw).mono ?_
  rintro e_ w4 ⟨rfl, hb⟩
  replace rp0 := keep hb rp0
  replace hO := hO.keep hb
  replace hc := hc.keep hb
  replace hw := Below.after hw hb
  clear hb
  clear k0 k1 k2
  have k0 := cell_of rp0 ((pl_at r x n i (.slice vo p.length vc) hr hx 0).trans rfl)
  have k1 := cell_of rp0 ((pl_at r x n i (.slice vo p.length vc) hr hx 1).trans rfl)
  have k2 := cell_of rp0 ((pl_at r x n i (.slice vo p.length vc) hr hx 2).trans rfl)
  go_wp2_with (first | (refine wpList_load_part rfl 24 _ rfl (w.heap.size) 0 rfl 56 (plrow r x n i (.slice vo p.length vc)) (0, 0) (irow .u8 r) _ rp0 (pl_a _ _ _ _ _ hr) Tryd.underlying24 rfl (infok8 _ hr) ?_) | (refine wpList_load_part rfl 24 _ rfl (w.heap.size) 32 rfl 56 (plrow r x n i (.slice vo p.length vc)) (0, 0) (irow .u8 x) _ rp0 (pl_b _ _ _ _ _ hr hx) Tryd.underlying24 rfl (infok8 _ hx) ?_) | fail)
  refine (l_whole p _ _ _ _ _ hO (hP.keep hw) hb4).mono ?_
  rintro e_ w5 ⟨rfl, hb⟩
  replace rp0 := keep hb rp0
  replace hO := hO.keep hb
  replace hc := hc.keep hb
  replace hw := Below.after hw hb
  clear hb
  clear k0 k1 k2
  have k0 := cell_of rp0 ((pl_at r x n i (.slice vo p.length vc) hr hx 0).trans rfl)
  have k1 := cell_of rp0 ((pl_at r x n i (.slice vo p.length vc) hr hx 1).trans rfl)
  have k2 := cell_of rp0 ((pl_at r x n i (.slice vo p.length vc) hr hx 2).trans rfl)
  go_wp2_with (first | (refine wpList_load_part rfl 24 _ rfl (w.heap.size) 0 rfl 56 (plrow r x n i (.slice vo p.length vc)) (0, 0) (irow .u8 r) _ rp0 (pl_a _ _ _ _ _ hr) Tryd.underlying24 rfl (infok8 _ hr) ?_) | (refine wpList_load_part rfl 24 _ rfl (w.heap.size) 32 rfl 56 (plrow r x n i (.slice vo p.length vc)) (0, 0) (irow .u8 x) _ rp0 (pl_b _ _ _ _ _ hr hx) Tryd.underlying24 rfl (infok8 _ hx) ?_) | fail)
  refine (cA3 _ hw).mono ?_
  rintro e_ w6 ⟨rfl, hb⟩
  replace rp0 := keep hb rp0
  replace hO := hO.keep hb
  replace hc := hc.keep hb
  replace hw := Below.after hw hb
  clear hb
  clear k0 k1 k2
  have k0 := cell_of rp0 ((pl_at r x n i (.slice vo p.length vc) hr hx 0).trans rfl)
  have k1 := cell_of rp0 ((pl_at r x n i (.slice vo p.length vc) hr hx 1).trans rfl)
  have k2 := cell_of rp0 ((pl_at r x n i (.slice vo p.length vc) hr hx 2).trans rfl)
  go_wp2_with (fail)
  go_ret
  exact ⟨rfl, hw⟩
theorem grows_any (r x : List Int) (n i : Int) (p : List (List Int)) (w : World) (v : Value) (hr : Ky r) (hx : Ky x) (hS : Sta w) (hK : Kon w) (hP : Ksl w v p) (hb4 : p.length ≤ 4398046510990) : Calls Tryd.prog 7 #[.agg (plrow r x n i v)] w fun e w' => e = .returned (.bool true) ∧ Below w.heap.size w w' := by
  refine grows_walk (E := grE r n x i p) hr.1 hx.1 p w v hP hb4 (fun W hW u hu => a_Grown r x n i p W u hr hx (hS.below hW) (hK.below hW) hu) (fun W hW => r_Grown r x n i p W v hr hx (hP.keep hW)) (fun W hW => ?_)
  have h := a_Grown r r 3 3 [] W _ hr hr (hS.below hW) (hK.below hW) (Ksl.nil W)
  have e : grE r 3 r 3 [] = 0 := by
    unfold grE
    rw [if_neg (by omega), if_neg (by omega), show (3 : Int).toNat = 3 from rfl, kys_end (Nat.le_refl _), bde_end sumL (Nat.le_refl _)]
    simp
  rw [e] at h
  exact h
end Go.Proofs.YtgfeacnhdlgpoaaDoor
