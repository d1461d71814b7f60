import Derived.Test.YtkogejglfgghmaaDoorProg
import Derived.WalkKit
import Derived.WalkSpells
import Derived.WalkLawsBesides
import Derived.Lib.QuietBelow
import Derived.BigQuiet
import Derived.Test.YtkogejglfgghmaaDoorSa
import Derived.Test.YtkogejglfgghmaaDoorSe
import Derived.Deep.MidRow
import Derived.Test.YtkogejglfgghmaaDoorSd
namespace Go.Proofs.YtkogejglfgghmaaDoor
open Go.RowKit Go.Sort
attribute [local go_sem] setCell_drewN alloc_drewN


theorem key_zero : KeyOf #[.int .u8 0, .int .u8 0, .int .u8 0, .int .u8 0, .int .u8 0, .int .u8 0, .int .u8 0, .int .u8 0, .int .u8 0, .int .u8 0, .int .u8 0, .int .u8 0, .int .u8 0, .int .u8 0, .int .u8 0, .int .u8 0, .int .u8 0, .int .u8 0, .int .u8 0, .int .u8 0, .int .u8 0, .int .u8 0, .int .u8 0, .int .u8 0, .int .u8 0, .int .u8 0, .int .u8 0, .int .u8 0, .int .u8 0, .int .u8 0, .int .u8 0, .int .u8 0] 0 := ⟨0, 0, 0, 0, 0, 0, 0, 0, 0, 0, 0, 0, 0, 0, 0, 0, 0, 0, 0, 0, 0, 0, 0, 0, 0, 0, 0, 0, 0, 0, 0, 0, rfl, by decide, rfl⟩
theorem scl_bd (K U : Int) : 0 ≤ scl K U ∧ scl K U < 115792089237316195423570985008687907853269984665640564039457584007913129639936 := ⟨(scn_bd _ _).1, Int.lt_trans (scn_bd _ _).2 (by decide)⟩


set_option maxHeartbeats 4000000 in
set_option maxRecDepth 10000 in
theorem r_clamp {r : Array Value} {N : Int} (h : KeyOf r N) : Gives 61 #[.agg r] (.agg (kb (clp N))) := by
  have q0 : r[0]? = some (.int .u8 (byt N 0)) := by rw [key_kb h]; rfl
  have q31 : r[31]? = some (.int .u8 (byt N 31)) := by rw [key_kb h]; rfl
  have hs := h.size
  have hE := clp_cells h
  have b0 := byt_bd N 0
  have b31 := byt_bd N 31
  have hk : KeyOf (kb (clp N)) (clp N) := kb_key _ (clp_bd N).1 (Int.lt_trans (clp_bd N).2 (by decide))
  have hi := h.info
  have ho := h.one
  clear h
  skip
  skip
  generalize byt N 0 = k0 at *
  generalize byt N 31 = k31 at *
  generalize kb (clp N) = r' at *
  generalize clp N = N' at *
  intro w
  have r0 := hp2_0 w (.cells r 34) (.cells #[.int .u8 0, .int .u8 0, .int .u8 0, .int .u8 0, .int .u8 0, .int .u8 0, .int .u8 0, .int .u8 0, .int .u8 0, .int .u8 0, .int .u8 0, .int .u8 0, .int .u8 0, .int .u8 0, .int .u8 0, .int .u8 0, .int .u8 0, .int .u8 0, .int .u8 0, .int .u8 0, .int .u8 0, .int .u8 0, .int .u8 0, .int .u8 0, .int .u8 0, .int .u8 0, .int .u8 0, .int .u8 0, .int .u8 0, .int .u8 0, .int .u8 0, .int .u8 0] 34)
  have r1 := hp2_1 w (.cells r 34) (.cells #[.int .u8 0, .int .u8 0, .int .u8 0, .int .u8 0, .int .u8 0, .int .u8 0, .int .u8 0, .int .u8 0, .int .u8 0, .int .u8 0, .int .u8 0, .int .u8 0, .int .u8 0, .int .u8 0, .int .u8 0, .int .u8 0, .int .u8 0, .int .u8 0, .int .u8 0, .int .u8 0, .int .u8 0, .int .u8 0, .int .u8 0, .int .u8 0, .int .u8 0, .int .u8 0, .int .u8 0, .int .u8 0, .int .u8 0, .int .u8 0, .int .u8 0, .int .u8 0] 34)
  have hw : Below w.heap.size w ((w.alloc (.cells r 34)).alloc (.cells #[.int .u8 0, .int .u8 0, .int .u8 0, .int .u8 0, .int .u8 0, .int .u8 0, .int .u8 0, .int .u8 0, .int .u8 0, .int .u8 0, .int .u8 0, .int .u8 0, .int .u8 0, .int .u8 0, .int .u8 0, .int .u8 0, .int .u8 0, .int .u8 0, .int .u8 0, .int .u8 0, .int .u8 0, .int .u8 0, .int .u8 0, .int .u8 0, .int .u8 0, .int .u8 0, .int .u8 0, .int .u8 0, .int .u8 0, .int .u8 0, .int .u8 0, .int .u8 0] 34)) := ((Below.refl _ _).alloc (Nat.le_refl _) _).alloc (by simp) _
  go_enter Tryd.func61, Tryd.ntmps61
  iterate 9 go_step
  generalize ((w.alloc (.cells r 34)).alloc (.cells #[.int .u8 0, .int .u8 0, .int .u8 0, .int .u8 0, .int .u8 0, .int .u8 0, .int .u8 0, .int .u8 0, .int .u8 0, .int .u8 0, .int .u8 0, .int .u8 0, .int .u8 0, .int .u8 0, .int .u8 0, .int .u8 0, .int .u8 0, .int .u8 0, .int .u8 0, .int .u8 0, .int .u8 0, .int .u8 0, .int .u8 0, .int .u8 0, .int .u8 0, .int .u8 0, .int .u8 0, .int .u8 0, .int .u8 0, .int .u8 0, .int .u8 0, .int .u8 0] 34)) = w0 at *
  have c0 : w0.cell? ⟨w.heap.size, 0, none⟩ = some (.int .u8 k0) := (cell_of_row _ _ _ _ _ _ r0).trans q0
  have c31 : w0.cell? ⟨w.heap.size, 31, none⟩ = some (.int .u8 k31) := (cell_of_row _ _ _ _ _ _ r0).trans q31
  have f0 : w0.frozen? ⟨w.heap.size, 0, none⟩ = false := by simp [World.frozen?, r0]
  have f31 : w0.frozen? ⟨w.heap.size, 31, none⟩ = false := by simp [World.frozen?, r0]
  have R0 : ((w0.setCell ⟨w.heap.size, 0, none⟩ (.int .u8 (k0 / 8 * 8))).setCell ⟨w.heap.size, 31, none⟩ (.int .u8 (k31 % 64 + 64))).heap[w.heap.size]? = some (.cells r' 34 (0, 0)) := by rw [← hE]; exact heap_setCell_same _ _ _ _ _ _ (heap_setCell_same _ _ _ _ _ _ r0)
  have R1 : ((w0.setCell ⟨w.heap.size, 0, none⟩ (.int .u8 (k0 / 8 * 8))).setCell ⟨w.heap.size, 31, none⟩ (.int .u8 (k31 % 64 + 64))).heap[w.heap.size + 1]? = some (.cells #[.int .u8 0, .int .u8 0, .int .u8 0, .int .u8 0, .int .u8 0, .int .u8 0, .int .u8 0, .int .u8 0, .int .u8 0, .int .u8 0, .int .u8 0, .int .u8 0, .int .u8 0, .int .u8 0, .int .u8 0, .int .u8 0, .int .u8 0, .int .u8 0, .int .u8 0, .int .u8 0, .int .u8 0, .int .u8 0, .int .u8 0, .int .u8 0, .int .u8 0, .int .u8 0, .int .u8 0, .int .u8 0, .int .u8 0, .int .u8 0, .int .u8 0, .int .u8 0] 34 (0, 0)) := (heap_setCell_other _ _ _ _ (by simp)).trans ((heap_setCell_other _ _ _ _ (by simp)).trans r1)
  have hw2 : Below w.heap.size w ((w0.setCell ⟨w.heap.size, 0, none⟩ (.int .u8 (k0 / 8 * 8))).setCell ⟨w.heap.size, 31, none⟩ (.int .u8 (k31 % 64 + 64))) := (hw.setCell (Nat.le_refl _) _).setCell (Nat.le_refl _) _
  go_wp2_with (first | (refine wpList_load_want rfl 34 _ rfl (w.heap.size) rfl 34 r' (0, 0) _ R0 Tryd.underlying34 rfl hk.info ?_) | (refine wpList_store_row rfl 34 _ _ rfl (w.heap.size + 1) r' rfl rfl 34 _ R1 hk.info hk.size.symm hk.one ?_) | fail)
  exact bodyPost_ret (v := .agg r') (results_cell_row Tryd.results61 _ _ (w.heap.size + 1) _ r' _ _ rfl (setRow_heap _ _ _ _ _ _ R1) Tryd.underlying34 rfl hk.info) rfl ⟨rfl, below_setRow hw2 (by omega) _⟩


set_option maxHeartbeats 4000000 in
set_option maxRecDepth 10000 in
theorem a_clamp {r : Array Value} {N : Int} (h : KeyOf r N) : Gives 58 #[.agg r] (.agg (kb (clp N))) := by
  have q0 : r[0]? = some (.int .u8 (byt N 0)) := by rw [key_kb h]; rfl
  have q31 : r[31]? = some (.int .u8 (byt N 31)) := by rw [key_kb h]; rfl
  have hs := h.size
  have hE := clp_cells h
  have b0 := byt_bd N 0
  have b31 := byt_bd N 31
  have hk : KeyOf (kb (clp N)) (clp N) := kb_key _ (clp_bd N).1 (Int.lt_trans (clp_bd N).2 (by decide))
  have hi := h.info
  have ho := h.one
  clear h
  have e0 := and248 (byt N 0) b0
  have e31 := clamp31 (byt N 31) b31
  generalize byt N 0 = k0 at *
  generalize byt N 31 = k31 at *
  generalize kb (clp N) = r' at *
  generalize clp N = N' at *
  intro w
  have r0 := hp2_0 w (.cells r 34) (.cells #[.int .u8 0, .int .u8 0, .int .u8 0, .int .u8 0, .int .u8 0, .int .u8 0, .int .u8 0, .int .u8 0, .int .u8 0, .int .u8 0, .int .u8 0, .int .u8 0, .int .u8 0, .int .u8 0, .int .u8 0, .int .u8 0, .int .u8 0, .int .u8 0, .int .u8 0, .int .u8 0, .int .u8 0, .int .u8 0, .int .u8 0, .int .u8 0, .int .u8 0, .int .u8 0, .int .u8 0, .int .u8 0, .int .u8 0, .int .u8 0, .int .u8 0, .int .u8 0] 34)
  have r1 := hp2_1 w (.cells r 34) (.cells #[.int .u8 0, .int .u8 0, .int .u8 0, .int .u8 0, .int .u8 0, .int .u8 0, .int .u8 0, .int .u8 0, .int .u8 0, .int .u8 0, .int .u8 0, .int .u8 0, .int .u8 0, .int .u8 0, .int .u8 0, .int .u8 0, .int .u8 0, .int .u8 0, .int .u8 0, .int .u8 0, .int .u8 0, .int .u8 0, .int .u8 0, .int .u8 0, .int .u8 0, .int .u8 0, .int .u8 0, .int .u8 0, .int .u8 0, .int .u8 0, .int .u8 0, .int .u8 0] 34)
  have hw : Below w.heap.size w ((w.alloc (.cells r 34)).alloc (.cells #[.int .u8 0, .int .u8 0, .int .u8 0, .int .u8 0, .int .u8 0, .int .u8 0, .int .u8 0, .int .u8 0, .int .u8 0, .int .u8 0, .int .u8 0, .int .u8 0, .int .u8 0, .int .u8 0, .int .u8 0, .int .u8 0, .int .u8 0, .int .u8 0, .int .u8 0, .int .u8 0, .int .u8 0, .int .u8 0, .int .u8 0, .int .u8 0, .int .u8 0, .int .u8 0, .int .u8 0, .int .u8 0, .int .u8 0, .int .u8 0, .int .u8 0, .int .u8 0] 34)) := ((Below.refl _ _).alloc (Nat.le_refl _) _).alloc (by simp) _
  go_enter Tryd.func58, Tryd.ntmps58
  iterate 9 go_step
  generalize ((w.alloc (.cells r 34)).alloc (.cells #[.int .u8 0, .int .u8 0, .int .u8 0, .int .u8 0, .int .u8 0, .int .u8 0, .int .u8 0, .int .u8 0, .int .u8 0, .int .u8 0, .int .u8 0, .int .u8 0, .int .u8 0, .int .u8 0, .int .u8 0, .int .u8 0, .int .u8 0, .int .u8 0, .int .u8 0, .int .u8 0, .int .u8 0, .int .u8 0, .int .u8 0, .int .u8 0, .int .u8 0, .int .u8 0, .int .u8 0, .int .u8 0, .int .u8 0, .int .u8 0, .int .u8 0, .int .u8 0] 34)) = w0 at *
  have c0 : w0.cell? ⟨w.heap.size, 0, none⟩ = some (.int .u8 k0) := (cell_of_row _ _ _ _ _ _ r0).trans q0
  have c31 : w0.cell? ⟨w.heap.size, 31, none⟩ = some (.int .u8 k31) := (cell_of_row _ _ _ _ _ _ r0).trans q31
  have f0 : w0.frozen? ⟨w.heap.size, 0, none⟩ = false := by simp [World.frozen?, r0]
  have f31 : w0.frozen? ⟨w.heap.size, 31, none⟩ = false := by simp [World.frozen?, r0]
  have R0 : ((w0.setCell ⟨w.heap.size, 0, none⟩ (.int .u8 (k0 / 8 * 8))).setCell ⟨w.heap.size, 31, none⟩ (.int .u8 (k31 % 64 + 64))).heap[w.heap.size]? = some (.cells r' 34 (0, 0)) := by rw [← hE]; exact heap_setCell_same _ _ _ _ _ _ (heap_setCell_same _ _ _ _ _ _ r0)
  have R1 : ((w0.setCell ⟨w.heap.size, 0, none⟩ (.int .u8 (k0 / 8 * 8))).setCell ⟨w.heap.size, 31, none⟩ (.int .u8 (k31 % 64 + 64))).heap[w.heap.size + 1]? = some (.cells #[.int .u8 0, .int .u8 0, .int .u8 0, .int .u8 0, .int .u8 0, .int .u8 0, .int .u8 0, .int .u8 0, .int .u8 0, .int .u8 0, .int .u8 0, .int .u8 0, .int .u8 0, .int .u8 0, .int .u8 0, .int .u8 0, .int .u8 0, .int .u8 0, .int .u8 0, .int .u8 0, .int .u8 0, .int .u8 0, .int .u8 0, .int .u8 0, .int .u8 0, .int .u8 0, .int .u8 0, .int .u8 0, .int .u8 0, .int .u8 0, .int .u8 0, .int .u8 0] 34 (0, 0)) := (heap_setCell_other _ _ _ _ (by simp)).trans ((heap_setCell_other _ _ _ _ (by simp)).trans r1)
  have hw2 : Below w.heap.size w ((w0.setCell ⟨w.heap.size, 0, none⟩ (.int .u8 (k0 / 8 * 8))).setCell ⟨w.heap.size, 31, none⟩ (.int .u8 (k31 % 64 + 64))) := (hw.setCell (Nat.le_refl _) _).setCell (Nat.le_refl _) _
  go_wp2_with (first | (refine wpList_load_want rfl 34 _ rfl (w.heap.size) rfl 34 r' (0, 0) _ R0 Tryd.underlying34 rfl hk.info ?_) | (refine wpList_store_row rfl 34 _ _ rfl (w.heap.size + 1) r' rfl rfl 34 _ R1 hk.info hk.size.symm hk.one ?_) | fail)
  exact bodyPost_ret (v := .agg r') (results_cell_row Tryd.results58 _ _ (w.heap.size + 1) _ r' _ _ rfl (setRow_heap _ _ _ _ _ _ R1) Tryd.underlying34 rfl hk.info) rfl ⟨rfl, below_setRow hw2 (by omega) _⟩

end Go.Proofs.YtkogejglfgghmaaDoor


namespace Go.Proofs.YtkogejglfgghmaaDoor
open Go.RowKit Go.Sort
attribute [local go_sem] setCell_drewN alloc_drewN

theorem div_bd (z : Int) (j : Nat) (h : 0 ≤ z ∧ z < 256) : 0 ≤ z / 2 ^ j ∧ z / 2 ^ j < 256 := by
  have h1 := Int.ediv_nonneg h.1 (Int.le_of_lt (Int.pow_pos (n := 2) (m := j) (by decide)))
  have h2 := Int.ediv_le_self (2 ^ j) h.1
  omega
theorem and_one (x : Int) (h : 0 ≤ x ∧ x < 256) : bits .and .u8 x 1 = x % 2 := by
  obtain ⟨n, rfl⟩ := Int.eq_ofNat_of_zero_le h.1
  have : ∀ n : Nat, n < 256 → bits .and .u8 (n : Int) 1 = (n : Int) % 2 := by decide +kernel
  exact this n (by omega)
theorem bit_int (z : Int) (j : Nat) (h : 0 ≤ z ∧ z < 256) : (bits .and .u8 (z / 2 ^ j) 1 == 1) = decide (z / 2 ^ j % 2 = 1) := by
  rw [and_one _ (div_bd z j h)]
  by_cases e : z / 2 ^ j % 2 = 1
  · rw [decide_eq_true e, beq_iff_eq]; exact e
  · rw [decide_eq_false e, beq_eq_false_iff_ne]; exact e
theorem bit_int' (z : Int) (j : Nat) (h : 0 ≤ z ∧ z < 256) : ((z / 2 ^ j).tmod 2 == 1) = decide (z / 2 ^ j % 2 = 1) := by
  rw [Int.tmod_eq_emod_of_nonneg (div_bd z j h).1]
  by_cases e : z / 2 ^ j % 2 = 1
  · rw [decide_eq_true e, beq_iff_eq]; exact e
  · rw [decide_eq_false e, beq_eq_false_iff_ne]; exact e
set_option maxHeartbeats 4000000 in
/-- The closure's bit. -/
theorem bit_any (S : Int) (g t : Nat) (ht : t < 256) (W : World) (hg : W.heap[g]? = some (.cells (kb S) 34 (0, 0))) :
    Calls Tryd.prog 59 #[.int .i64 t, .pointer (some ⟨g, 0, none⟩)] W fun e w' => e = .returned (.bool (bt S t)) ∧ Below W.heap.size W w' := by
  have hc : W.cell? ⟨g, t / 8, none⟩ = some (.int .u8 (byt S (t / 8))) := (cell_of_row _ _ _ _ _ _ hg).trans (kb_at S (t / 8) (by omega))
  have hb := byt_bd S (t / 8)
  rw [bt_byt]
  generalize byt S (t / 8) = z at *
  go_enter Tryd.func59, Tryd.ntmps59
  go_wp2
  go_ret
  exact ⟨ret_bool (bit_int z (t % 8) hb), Below.refl _ _⟩
set_option maxHeartbeats 4000000 in
set_option maxRecDepth 10000 in
/-- The reference's bit. -/
theorem r_bit (S : Int) (t : Nat) (ht : t < 256) : Gives 62 #[.agg (kb S), .int .i64 t] (.bool (bt S t)) := by
  intro w
  have hb := byt_bd S (t / 8)
  have q := kb_at S (t / 8) (by omega)
  have r0 := hp1_0 w (.cells (kb S) 34)
  have hw : Below w.heap.size w (w.alloc (.cells (kb S) 34)) := (Below.refl _ _).alloc (Nat.le_refl _) _
  rw [bt_byt]
  generalize byt S (t / 8) = z at *
  go_enter Tryd.func62, Tryd.ntmps62
  iterate 9 go_step
  generalize (w.alloc (.cells (kb S) 34)) = w0 at *
  have hc : w0.cell? ⟨w.heap.size, t / 8, none⟩ = some (.int .u8 z) := (cell_of_row _ _ _ _ _ _ r0).trans q
  go_wp2
  go_ret
  exact ⟨ret_bool (bit_int' z (t % 8) hb), hw⟩
end Go.Proofs.YtkogejglfgghmaaDoor

namespace Go.Proofs.YtkogejglfgghmaaDoor
open Go Go.RowKit Go.Sort

/-- Cells written over, from a place on. -/
def ovw : Array Value → Nat → List Value → Array Value
  | cs, _, [] => cs
  | cs, o, v :: r => ovw (cs.setIfInBounds o v) (o + 1) r
theorem world_eq {w v : World} (h : w.heap = v.heap) (h1 : w.tape = v.tape) (h2 : w.drawn = v.drawn) (h3 : w.os = v.os) (h4 : w.output = v.output) : w = v := by
  cases w; cases v; simp_all
theorem setRow_same {w : World} {g : Nat} {cs : Array Value} {t : TypeId} {fr : Nat × Nat} (h : w.heap[g]? = some (.cells cs t fr)) : w.setRow g cs = w := by
  refine world_eq ?_ rfl rfl rfl rfl
  apply Array.ext_getElem?
  intro k
  by_cases hk : k = g
  · subst hk; rw [setRow_heap w k cs cs t fr h, h]
  · rw [setRow_other w g k cs hk]
theorem setRow_setRow {w : World} {g : Nat} {cs : Array Value} {t : TypeId} {fr : Nat × Nat} (h : w.heap[g]? = some (.cells cs t fr)) (a b : Array Value) : (w.setRow g a).setRow g b = w.setRow g b := by
  refine world_eq ?_ rfl rfl rfl rfl
  apply Array.ext_getElem?
  intro k
  by_cases hk : k = g
  · subst hk; rw [setRow_heap _ k a b t fr (setRow_heap w k cs a t fr h), setRow_heap w k cs b t fr h]
  · rw [setRow_other _ g k b hk, setRow_other w g k a hk, setRow_other w g k b hk]
theorem setCells_eq {g : Nat} {t : TypeId} {fr : Nat × Nat} : ∀ (vs : List Value) (o : Nat) (w : World) (cs : Array Value), w.heap[g]? = some (.cells cs t fr) → w.setCells g o vs = w.setRow g (ovw cs o vs)
  | [], _, w, cs, h => (setRow_same h).symm
  | v :: r, o, w, cs, h => by
    have h1 : w.setCell ⟨g, o, none⟩ v = w.setRow g (cs.setIfInBounds o v) := setCell_eq_setRow w g o cs t fr v h
    rw [World.setCells, h1, setCells_eq r (o + 1) _ (cs.setIfInBounds o v) (setRow_heap w g cs _ t fr h), setRow_setRow h]
    rfl
theorem there_row {w : World} {g : Nat} {cs : Array Value} {t : TypeId} (h : w.heap[g]? = some (.cells cs t (0, 0))) {o n : Nat} (hn : o + n ≤ cs.size) : w.there g o n := by
  intro j hj
  refine ⟨?_, ?_⟩
  · rw [cell_of_row w g (o + j) cs t (0, 0) h, Array.getElem?_eq_getElem (by omega)]; rfl
  · simp [World.frozen?, h]
/-- A part of a row read, in an ordered region. -/
theorem wpList_load_part {P : Program} {ops : Array Oper} {rest : List Oper} {o : Oper} {a : Act} {w : World} {Q : Exit → Act → World → Prop} (hw : Region.wanted o (yielded ops a.tmps) = true) (ty : TypeId) (x : Operand) (ho : o.op = .load ty x)
    (g off : Nat) (hx : a.eval x = .pointer (some ⟨g, off, none⟩)) (t : TypeId) (cs : Array Value) (fr : Nat × Nat) (part : Array Value) (d : TypeDesc) (hg : w.heap[g]? = some (.cells cs t fr)) (hp : cs.extract off (off + part.size) = part)
    (hu : P.underlying ty = some d) (hd : d.isRow = true) (hi : (P.info? ty).map (·.size) = some part.size)
    (h : wpList P ops Q rest (a.put o.dst (.agg part)) w) : wpList P ops Q (o :: rest) a w := by
  refine BigFrame.wpList_want hw fun _ hK => ?_
  have hr := World.rangeAt_of_block hg off part.size
  rw [hp] at hr
  exact wp_load_mid ty x ho g off hx part.toList d hr hu hd (by simpa using hi) (hK _ _ (by simpa using h))
/-- The same in a drawn region. -/
theorem wpQuiet_load_part {P : Program} {C : World → Prop} {ops : Array Oper} {Q : Act → Prop} {a : Act} {o : Oper} {rest : List Oper} (hw : Region.wanted o (yielded ops a.tmps) = true) (ty : TypeId) (x : Operand) (ho : o.op = .load ty x)
    (g off : Nat) (hx : a.eval x = .pointer (some ⟨g, off, none⟩)) (t : TypeId) (cs : Array Value) (fr : Nat × Nat) (part : Array Value) (d : TypeDesc) (hg : ∀ w, C w → w.heap[g]? = some (.cells cs t fr)) (hp : cs.extract off (off + part.size) = part)
    (hu : P.underlying ty = some d) (hd : d.isRow = true) (hi : (P.info? ty).map (·.size) = some part.size)
    (h : wpQuiet P ops C Q rest (a.put o.dst (.agg part))) : wpQuiet P ops C Q (o :: rest) a := by
  refine BigFrame.wpQuiet_want hw fun K hK => ⟨.agg part, fun w hw => ?_, hK _ h⟩
  have hr := World.rangeAt_of_block (hg w hw) off part.size
  rw [hp] at hr
  have hl := run_loadVar_mid (P := P) w g off ty part.toList d hr hu hd (by simpa using hi)
  unfold Oper.quietAt execOp
  simp only [ho, hx, Instr.loadAt, Instr.sureAddr, Sem.run_bind, Sem.run_pure, Result.andThen_ok, hl]
  exact ⟨by simp, rfl⟩
/-- A part of a row stored, in an ordered region. -/
theorem wpList_store_part {P : Program} {ops : Array Oper} {rest : List Oper} {o : Oper} {a : Act} {w : World} {Q : Exit → Act → World → Prop} (hgd : o.guard = none) (ty : TypeId) (x y : Operand) (ho : o.op = .store ty x y)
    (g off : Nat) (cells : Array Value) (hx : a.eval x = .pointer (some ⟨g, off, none⟩)) (hy : a.eval y = .agg cells)
    (t : TypeId) (old new : Array Value) (hg : w.heap[g]? = some (.cells old t (0, 0))) (hle : off + cells.size ≤ old.size) (hnew : ovw old off cells.toList = new) (hi : (P.info? ty).map (·.size) = some cells.size)
    (h1 : cells.all (·.oneCell') = true)
    (h : wpList P ops Q rest (a.put o.dst undef) (w.setRow g new)) : wpList P ops Q (o :: rest) a w := by
  refine wpList_store_mid hgd ty x y ho g off cells hx hy (there_row hg hle) hi h1 ?_
  rw [setCells_eq cells.toList off w old hg, hnew]
  exact h
/-- A value put together of its parts, in a drawn region. -/
theorem wpQuiet_build {P : Program} {C : World → Prop} {ops : Array Oper} {Q : Act → Prop} {a : Act} {o : Oper} {rest : List Oper} (hw : Region.wanted o (yielded ops a.tmps) = true) (t : TypeId) (parts : Array (Nat × Operand)) (ho : o.op = .build t parts)
    (vals : List (Nat × Value)) (hv : parts.toList.map (fun (i, x) => (i, a.eval x)) = vals) (cells : Array Value) (hb : P.built t vals = some cells)
    (h : wpQuiet P ops C Q rest (a.put o.dst (.agg cells))) : wpQuiet P ops C Q (o :: rest) a := by
  rw [← Array.toList_map] at hv
  subst hv
  refine BigFrame.wpQuiet_want hw fun K hK => ⟨.agg cells, fun w hw => ?_, hK _ h⟩
  unfold Oper.quietAt execOp
  simp only [ho, Sem.run_bind, run_build w t _ cells hb, Result.andThen_ok]
  exact ⟨rfl, rfl⟩
theorem wpList_build_as {P : Program} {ops : Array Oper} {rest : List Oper} {o : Oper} {a : Act} {w : World} {Q : Exit → Act → World → Prop} (hg : o.guard = none) (t : TypeId) (parts : Array (Nat × Operand)) (ho : o.op = .build t parts)
    (vals : List (Nat × Value)) (hv : parts.toList.map (fun (i, x) => (i, a.eval x)) = vals) (cells : Array Value) (hb : P.built t vals = some cells)
    (h : wpList P ops Q rest (a.put o.dst (.agg cells)) w) : wpList P ops Q (o :: rest) a w := by
  rw [← Array.toList_map] at hv
  subst hv
  refine wpList_build hg t parts ho (by rw [hb]; rfl) ?_
  rw [hb]
  exact h
theorem five {r : Array Value} (h : r.size = 5) : ∃ a b c d e, r = #[a, b, c, d, e] := by
  obtain ⟨l⟩ := r
  match l, h with
  | [a, b, c, d, e], _ => exact ⟨a, b, c, d, e, rfl⟩
theorem sixteen {r : Array Value} (h : r.size = 16) : ∃ a b c d e f g i j k l m n o p q, r = #[a, b, c, d, e, f, g, i, j, k, l, m, n, o, p, q] := by
  obtain ⟨l⟩ := r
  match l, h with
  | [a, b, c, d, e, f, g, i, j, k, l, m, n, o, p, q], _ => exact ⟨a, b, c, d, e, f, g, i, j, k, l, m, n, o, p, q, rfl⟩
/-- Four rows in one. -/
def r4 (a b c d : Array Value) : Array Value := (a.toList ++ (b.toList ++ (c.toList ++ d.toList))).toArray
theorem r4_size (a b c d : Array Value) : (r4 a b c d).size = a.size + (b.size + (c.size + d.size)) := by simp [r4]
theorem r4_one {a b c d : Array Value} (ha : a.all (·.oneCell') = true) (hb : b.all (·.oneCell') = true) (hc : c.all (·.oneCell') = true) (hd : d.all (·.oneCell') = true) : (r4 a b c d).all (·.oneCell') = true := by
  simp only [Array.all_eq_true_iff_forall_mem] at *
  intro v hv
  simp only [r4, List.mem_toArray, List.mem_append, Array.mem_toList_iff] at hv
  rcases hv with h | h | h | h
  · exact ha v h
  · exact hb v h
  · exact hc v h
  · exact hd v h
theorem r4_get0 {a b c d : Array Value} {o : Nat} (h : o = 0) : (r4 a b c d).extract o (o + a.size) = a := by
  subst h
  apply Array.ext'
  simp [r4]
theorem drop_two (a b c : List Value) : (a ++ (b ++ c)).drop (a.length + b.length) = c := by
  rw [← List.append_assoc, ← List.length_append, List.drop_left]
theorem r4_get1 {a b c d : Array Value} {o : Nat} (h : o = a.size) : (r4 a b c d).extract o (o + b.size) = b := by
  subst h
  apply Array.ext'
  simp [r4]
theorem r4_get2 {a b c d : Array Value} {o : Nat} (h : o = a.size + b.size) : (r4 a b c d).extract o (o + c.size) = c := by
  subst h
  apply Array.ext'
  have := drop_two a.toList b.toList (c.toList ++ d.toList)
  simp [r4] at this ⊢
  rw [this]
  simp
theorem r4_get3 {a b c d : Array Value} {o : Nat} (h : o = a.size + b.size + c.size) : (r4 a b c d).extract o (o + d.size) = d := by
  subst h
  apply Array.ext'
  have := drop_two (a.toList ++ b.toList) c.toList d.toList
  simp [r4] at this ⊢
  rw [this]
  exact List.take_of_length_le (by simp)
end Go.Proofs.YtkogejglfgghmaaDoor

namespace Go.Proofs.YtkogejglfgghmaaDoor
open Go.RowKit Go.Sort
attribute [local go_sem] setCell_drewN alloc_drewN


theorem and1 (x : Int) (h0 : 0 ≤ x) (h1 : x < 256) : bits .and .u8 x 1 = x % 2 := by
  rw [u8_and x 1 h0 h1 (by decide) (by decide)]
  have e : (1 : Int).toNat = 1 := by decide
  rw [e, nat_mask1]
  omega
set_option maxHeartbeats 1000000 in
theorem odd_any (a0 a1 a2 a3 a4 : Int) (la0 : 0 ≤ a0) (ua0 : a0 < 4503599627370496) (la1 : 0 ≤ a1) (ua1 : a1 < 4503599627370496) (la2 : 0 ≤ a2) (ua2 : a2 < 4503599627370496) (la3 : 0 ≤ a3) (ua3 : a3 < 4503599627370496) (la4 : 0 ≤ a4) (ua4 : a4 < 4503599627370496) (w : World) :
    Calls Tryd.prog 53 #[.agg #[.int .u64 a0, .int .u64 a1, .int .u64 a2, .int .u64 a3, .int .u64 a4]] w fun e w' => e = .returned (.bool (byt (v5 a0 a1 a2 a3 a4 % prm) 0 % 2 == 1)) ∧ Below w.heap.size w w' := by
  have c1 := fun W => bytes_any a0 a1 a2 a3 a4 la0 ua0 la1 ua1 la2 ua2 la3 ua3 la4 ua4 W
  generalize v5 a0 a1 a2 a3 a4 % prm = m at *
  have hi : ∀ W, (Instr.index 34 (.agg #[.int .u8 (byt (m) 0), .int .u8 (byt (m) 1), .int .u8 (byt (m) 2), .int .u8 (byt (m) 3), .int .u8 (byt (m) 4), .int .u8 (byt (m) 5), .int .u8 (byt (m) 6), .int .u8 (byt (m) 7), .int .u8 (byt (m) 8), .int .u8 (byt (m) 9), .int .u8 (byt (m) 10), .int .u8 (byt (m) 11), .int .u8 (byt (m) 12), .int .u8 (byt (m) 13), .int .u8 (byt (m) 14), .int .u8 (byt (m) 15), .int .u8 (byt (m) 16), .int .u8 (byt (m) 17), .int .u8 (byt (m) 18), .int .u8 (byt (m) 19), .int .u8 (byt (m) 20), .int .u8 (byt (m) 21), .int .u8 (byt (m) 22), .int .u8 (byt (m) 23), .int .u8 (byt (m) 24), .int .u8 (byt (m) 25), .int .u8 (byt (m) 26), .int .u8 (byt (m) 27), .int .u8 (byt (m) 28), .int .u8 (byt (m) 29), .int .u8 (byt (m) 30), .int .u8 (byt (m) 31)]) (.int .i64 0)).run Tryd.prog W = .ok (.int .u8 (byt m 0)) W := fun W => by kernel_rfl
  have ha := and1 (byt m 0) (byt_bd m 0).1 (byt_bd m 0).2
  have C1 := hide c1
  clear c1 la0 ua0 la1 ua1 la2 ua2 la3 ua3 la4 ua4
  go_enter Tryd.func53, Tryd.ntmps53
  go_wp2_with (first | (refine wpList_load_row rfl 26 _ rfl w.heap.size rfl 26 #[.int .u64 a0, .int .u64 a1, .int .u64 a2, .int .u64 a3, .int .u64 a4] (0, 0) _ (hp1_0 w _) Tryd.underlying26 rfl (by kernel_rfl) ?_) | fail)
  refine (C1.out _).mono ?_
  rintro e w1 ⟨rfl, hb⟩
  go_wp2
  go_ret
  exact ⟨rfl, ((Below.refl _ _).alloc (Nat.le_refl _) _).trans (hb.mono (by simp))⟩

end Go.Proofs.YtkogejglfgghmaaDoor


namespace Go.Proofs.YtkogejglfgghmaaDoor
open Go.RowKit Go.Sort
attribute [local go_sem] setCell_drewN alloc_drewN


/-- The same where the package's variable holds what it was laid with. -/
def Gives4 (f : FuncId) (args : Array Value) (v : Value) : Prop := ∀ W, Four W → Calls Tryd.prog f args W fun e w' => e = .returned v ∧ Below W.heap.size W w'
theorem Gives4.at {f : FuncId} {args : Array Value} {v : Value} (h : Gives4 f args v) {W : World} (hW : Four W) : Calls Tryd.prog f args W fun e w' => e = .returned v ∧ Below W.heap.size W w' := h W hW
theorem Gives4.re {f : FuncId} {args : Array Value} {v : Value} (h : Gives4 f args v) {w : World} {d : Nat} {os : Array Obj} (hw : Four w) : Calls Tryd.prog f args (grow (redrawn w d) os) fun e w'' => e = .returned v ∧ ∃ p : Regrown, w'' = grow (redrawn w p.d) p.os := Calls.regrown_of (h _ (hw.below (below_regrown w d os)))
theorem Four.alloc {w : World} (h : Four w) (o : Obj) : Four (w.alloc o) := h.below ((Below.refl _ _).alloc (Nat.le_refl _) _)

theorem a_add {r s : Array Value} {x y : Int} (h : NumOf r x) (g : NumOf s y) : ∃ t, NumOf t (x + y) ∧ Gives 30 #[.agg r, .agg s] (.agg t) := by
  obtain ⟨a0, a1, a2, a3, a4, rfl, ⟨h0, h1, h2, h3, h4⟩, ha⟩ := h
  obtain ⟨b0, b1, b2, b3, b4, rfl, ⟨g0, g1, g2, g3, g4⟩, hb⟩ := g
  refine ⟨_, ⟨_, _, _, _, _, rfl, nr_bd _ ?_ ?_, ?_⟩, fun W => add_any a0 a1 a2 a3 a4 b0 b1 b2 b3 b4 h0.1 h0.2 h1.1 h1.2 h2.1 h2.2 h3.1 h3.2 h4.1 h4.2 g0.1 g0.2 g1.1 g1.2 g2.1 g2.2 g3.1 g3.2 g4.1 g4.2 W⟩
  rotate_right
  · rw [nr_val, Int.add_emod, ha, hb, ← Int.add_emod]
  all_goals (clear ha hb; simp only [v5]; omega)
theorem a_sub {r s : Array Value} {x y : Int} (h : NumOf r x) (g : NumOf s y) : ∃ t, NumOf t (x - y) ∧ Gives4 31 #[.agg r, .agg s] (.agg t) := by
  obtain ⟨a0, a1, a2, a3, a4, rfl, ⟨h0, h1, h2, h3, h4⟩, ha⟩ := h
  obtain ⟨b0, b1, b2, b3, b4, rfl, ⟨g0, g1, g2, g3, g4⟩, hb⟩ := g
  refine ⟨_, ⟨_, _, _, _, _, rfl, nr_bd _ ?_ ?_, ?_⟩, fun W hW => sub_any a0 a1 a2 a3 a4 b0 b1 b2 b3 b4 h0.1 h0.2 h1.1 h1.2 h2.1 h2.2 h3.1 h3.2 h4.1 h4.2 g0.1 g0.2 g1.1 g1.2 g2.1 g2.2 g3.1 g3.2 g4.1 g4.2 W hW⟩
  rotate_right
  · have e : v5 a0 a1 a2 a3 a4 + 231584178474632390847141970017375815706539969331281128078915168015826259279796 - v5 b0 b1 b2 b3 b4 = v5 a0 a1 a2 a3 a4 - v5 b0 b1 b2 b3 b4 - prm * (-4) := by unfold prm; omega
    rw [nr_val, e, Int.sub_mul_emod_self_left, Int.sub_emod, ha, hb, ← Int.sub_emod]
  all_goals (clear ha hb; simp only [v5]; omega)
theorem a_odd {r : Array Value} {x : Int} (h : NumOf r x) : Gives 53 #[.agg r] (.bool (byt (x % prm) 0 % 2 == 1)) := by
  obtain ⟨a0, a1, a2, a3, a4, rfl, ⟨h0, h1, h2, h3, h4⟩, ha⟩ := h
  intro W
  rw [← ha]
  exact odd_any a0 a1 a2 a3 a4 h0.1 h0.2 h1.1 h1.2 h2.1 h2.2 h3.1 h3.2 h4.1 h4.2 W
set_option maxHeartbeats 1000000 in
theorem a_neg {r : Array Value} {x : Int} (h : NumOf r x) : ∃ t, NumOf t (-x) ∧ Gives4 32 #[.agg r] (.agg t) := by
  obtain ⟨t, ht, c⟩ := a_sub num_zero h
  refine ⟨t, ht.congr (by rw [Int.zero_sub]), fun w hw => ?_⟩
  go_enter Tryd.func32, Tryd.ntmps32
  go_wp2_with (first | (refine wpList_load_row rfl 26 _ rfl w.heap.size rfl 26 r (0, 0) _ (hp2_0 w _ _) Tryd.underlying26 rfl h.info ?_) | fail)
  refine (c.at ((hw.alloc _).alloc _)).mono ?_
  rintro e w1 ⟨rfl, hb⟩
  have rZ : w1.heap[w.heap.size + 1]? = some (.cells #[.int .u64 0, .int .u64 0, .int .u64 0, .int .u64 0, .int .u64 0] 26 (0, 0)) := (hb.block _ (by simp)).trans (hp2_1 w _ _)
  have hbw : Below w.heap.size w w1 := (((Below.refl _ _).alloc (Nat.le_refl _) _).alloc (by simp) _).trans (hb.mono (by simp; omega))
  clear hb
  go_wp2_with (first | (refine wpList_store_row rfl 26 _ _ rfl (w.heap.size + 1) t rfl rfl 26 _ rZ ht.info (ht.fits rfl) ht.one ?_) | fail)
  exact bodyPost_ret (v := .agg t) (results_cell_row Tryd.results32 _ _ (w.heap.size + 1) _ t _ _ rfl (setRow_heap _ _ _ _ _ _ rZ) Tryd.underlying26 rfl ht.info) rfl ⟨rfl, below_setRow hbw (by omega) _⟩

end Go.Proofs.YtkogejglfgghmaaDoor


namespace Go.Proofs.YtkogejglfgghmaaDoor
open Go.RowKit Go.Sort
attribute [local go_sem] setCell_drewN alloc_drewN


theorem Four.belowN {w w' : World} {n : Nat} (h : Four w) (hn : 0 < n) (hb : Below n w w') : Four w' := by
  obtain ⟨h0, k0, k1, k2, k3, k4⟩ := h
  exact ⟨Nat.lt_of_lt_of_le h0 hb.size, (hb.cell (p := ⟨0, 0, none⟩) hn).trans k0, (hb.cell (p := ⟨0, 1, none⟩) hn).trans k1, (hb.cell (p := ⟨0, 2, none⟩) hn).trans k2, (hb.cell (p := ⟨0, 3, none⟩) hn).trans k3, (hb.cell (p := ⟨0, 4, none⟩) hn).trans k4⟩
theorem Four.setRow {w : World} {g : Nat} (h : Four w) (hg : 0 < g) (cs : Array Value) : Four (w.setRow g cs) :=
  h.belowN (n := 1) (by decide) (below_setRow (Below.refl _ _) hg cs)

end Go.Proofs.YtkogejglfgghmaaDoor

