import Derived.Test.YtamieopjigjfiaaDoorProg
import Derived.WalkKit
import Derived.WalkSpells
import Derived.WalkLawsBesides
import Derived.Lib.QuietBelow
import Derived.BigQuiet
import Derived.Test.YtamieopjigjfiaaDoorKa
import Derived.Test.YtamieopjigjfiaaDoorWo
import Derived.Test.YtamieopjigjfiaaDoorNn
import Derived.Laws.BytesArg
import Derived.OwnWalk

namespace Go.Proofs.YtamieopjigjfiaaDoor
set_option maxRecDepth 100000
open Go Go.RowKit Go.Sort
attribute [local go_sem] setCell_drewN alloc_drewN

set_option maxRecDepth 100000 in
set_option maxHeartbeats 4000000 in
theorem s_same (a b : List Int) (w : World) (u v : Value) (hu : Bys w u a) (hv : Bys w v b) : Calls Tryd.prog 14 #[u, v] w fun e w' => e = .returned (.bool (decide (a = b))) ∧ Below w.heap.size w w' := by
  have c1 := conv_bys hu
  have c2 := conv_bys hv
  obtain ⟨ao, cap, rfl, _, _, hza⟩ := hu
  obtain ⟨bo, bcap, rfl, _, _, hzb⟩ := hv
  go_enter Tryd.func14, Tryd.ntmps14
  have hd := str_dec hza hzb
  go_wp2
  go_ret
  exact ⟨rfl, Below.refl _ _⟩
set_option maxRecDepth 100000 in
set_option maxHeartbeats 4000000 in
theorem s_hand (bs : List Int) (w : World) (v : Value) (hB : Bys w v bs) (hl : bs.length ≤ 140737488355200) : Calls Tryd.prog 11 #[v] w fun e w' => e = .returned (.slice (some ⟨w.heap.size, 0, none⟩) (bs.length + 80) (bs.length + 80)) ∧ w'.heap[w.heap.size]? = some (.cells (irow .u8 (bs ++ mk4 80)) 5 (0, 0)) ∧ Below w.heap.size w w' := by
  have hmk := make_len (bs.length + 80) (by omega) w
  rw [show ((bs.length + 80 : Nat) : Int) = (bs.length : Int) + 80 by omega] at hmk
  have r0 := hp1_0 w (.cells (irow .u8 (zr (bs.length + 80))) 5)
  have hw : Below w.heap.size w (w.alloc (.cells (irow .u8 (zr (bs.length + 80))) 5)) := (Below.refl _ _).alloc (Nat.le_refl _) _
  have hcp := copy_bys (o := 0) (dLen := bs.length + 80) (dCap := bs.length + 80) r0 (hB.keep hw) (by omega) (by rw [zr_len]; omega)
  have ez : (zr (bs.length + 80)).take 0 ++ bs ++ (zr (bs.length + 80)).drop (0 + bs.length) = bs ++ mz 0 := by
    rw [List.take_zero, List.nil_append, zr_drop, Nat.zero_add, Nat.add_sub_cancel_left]; rfl
  rw [ez] at hcp
  have hgo : goInt bs.length = .int .i64 (bs.length : Int) := rfl
  rw [hgo] at hcp
  have r1 := setRow_heap _ (w.heap.size) _ (irow .u8 (bs ++ mz 0)) _ _ r0
  replace hw := below_setRow hw (Nat.le_refl _) (irow .u8 (bs ++ mz 0))
  obtain ⟨ao, cap, rfl, _⟩ := id hB
  go_enter Tryd.func11, Tryd.ntmps11
  go_wp2
  generalize (w.alloc (.cells (irow .u8 (zr (bs.length + 80))) 5)).setRow w.heap.size (irow .u8 (bs ++ mz 0)) = w1 at *
  clear hcp ez hgo hmk r0
  go_loopw [4] (fun i wr => ∃ k : Nat, k ≤ 80 ∧ i = .int .i64 k ∧ wr.heap[w.heap.size]? = some (.cells (irow .u8 (bs ++ mz k)) 5 (0, 0)) ∧ Below w.heap.size w wr) (fun i _ => 80 - (intOf i).toNat)
  case atStart => exact ⟨0, by omega, rfl, r1, hw⟩
  case round =>
    clear r1 hw
    obtain ⟨k, hk, rfl, r1, hw⟩ := hrel
    by_cases hlt : k < 80
    · have hd : decide ((k : Int) < 80) = true := by simp; omega
      have hmod : (100 + (k : Int)) % 256 = 100 + (k : Int) := by omega
      have hml := mz_len k (by omega)
      have cf := row_frozen r1 (bs.length + k)
      have cc := irow_cell r1 (j := bs.length + k) (by rw [List.length_append]; omega)
      have r2 := irow_set r1 (bs.length + k) (100 + (k : Int))
      rw [bmz_set bs k hlt] at r2
      have hw2 := hw.setCell (show w.heap.size ≤ (⟨w.heap.size, bs.length + k, none⟩ : Addr).block from Nat.le_refl _) (.int .u8 (100 + (k : Int)))
      clear r1 hw hml
      generalize (bs ++ mz k).getD (bs.length + k) 0 = z at *
      go_wp2
      refine ⟨⟨k + 1, by omega, by go_num, r2, hw2⟩, ?_⟩
      simp [intOf]; omega
    · obtain rfl : k = 80 := by omega
      have hd : decide ((80 : Int) < 80) = false := by decide
      have e80 : bs ++ mz 80 = bs ++ mk4 80 := by rw [mz, Nat.sub_self]; simp [zr]
      rw [e80] at r1
      go_wp2
      go_ret
      exact ⟨rfl, r1, hw⟩
set_option maxRecDepth 100000 in
set_option maxHeartbeats 4000000 in
theorem s_left (bs : List Int) (g : Nat) (w : World) (v : Value) (hB : Bys w v bs) (hl : bs.length ≤ 140737488355200) (rg : w.heap[g]? = some (.cells (irow .u8 (bs ++ mk4 80)) 5 (0, 0))) : Calls Tryd.prog 16 #[.slice (some ⟨g, 0, none⟩) (bs.length + 80) (bs.length + 80), v] w fun e w' => e = .returned (.bool true) ∧ Below w.heap.size w w' := by
  have hml := mk4_len 80
  have sl := slice_to (some ⟨g, 0, none⟩) (bs.length + 80) (bs.length + 80) bs.length (by omega)
  have hBl := Bys.of_prefix rg (by omega) (bys_bd hB) (bs.length + 80)
  have cS := s_same bs bs w _ _ hBl hB
  rw [decide_eq_true rfl] at cS
  replace cS := cS
  obtain ⟨ao, cap, rfl, _⟩ := id hB
  go_enter Tryd.func16, Tryd.ntmps16
  go_wp2
  go_loopw [5] (fun i wr => ∃ k : Nat, k ≤ 80 ∧ i = .int .i64 k ∧ wr = w) (fun i _ => 80 - (intOf i).toNat)
  case atStart => exact ⟨0, by omega, rfl, rfl⟩
  case round =>
    obtain ⟨k, hk, rfl, rfl⟩ := hrel
    by_cases hlt : k < 80
    · have hd : decide ((k : Int) < 80) = true := by simp; omega
      have hmod : (100 + (k : Int)) % 256 = 100 + (k : Int) := by omega
      have cc := irow_cell rg (j := bs.length + k) (by rw [List.length_append]; omega)
      have eg : (bs ++ mk4 80).getD (bs.length + k) 0 = 100 + (k : Int) := by
        rw [List.getD_eq_getElem?_getD, List.getElem?_append_right (by omega), Nat.add_sub_cancel_left, ← List.getD_eq_getElem?_getD, mk4_get 80 k hlt]
      rw [eg] at cc
      clear cS hBl hB rg eg
      go_wp2
      refine ⟨⟨k + 1, by omega, by go_num, trivial⟩, ?_⟩
      simp [intOf]; omega
    · obtain rfl : k = 80 := by omega
      have hd : decide ((80 : Int) < 80) = false := by decide
      go_wp2_with (fail)
      refine cS.mono ?_
      rintro e_ w1 ⟨rfl, hb⟩
      go_wp2
      go_ret
      exact ⟨rfl, hb⟩
set_option maxRecDepth 100000 in
set_option maxHeartbeats 4000000 in
theorem s_turned (bs : List Int) (g : Nat) (w : World) (v : Value) (hB : Bys w v bs) (hl : bs.length ≤ 140737488355200) (rg : w.heap[g]? = some (.cells (irow .u8 (bs ++ mk4 80)) 5 (0, 0))) : Calls Tryd.prog 17 #[.slice (some ⟨g, 0, none⟩) (bs.length + 80) (bs.length + 80), v] w fun e w' => e = .returned (.slice (some ⟨w.heap.size, 0, none⟩) bs.length bs.length) ∧ w'.heap[w.heap.size]? = some (.cells (irow .u8 (tn4 bs)) 5 (0, 0)) ∧ w'.heap[g]? = some (.cells (irow .u8 (tn4 bs ++ mk4 80)) 5 (0, 0)) ∧ w.grownBy w' (some g) := by
  have hlg := lt_of_row rg
  have hmk := make_len bs.length (by omega) w
  have r0 : (w.alloc (.cells (irow .u8 (zr bs.length)) 5)).heap[w.heap.size]? = some (.cells (irow .u8 (mix (tn4 bs) (zr bs.length) 0)) 5 (0, 0)) := by rw [mix_zero]; exact hp1_0 w _
  have hw : Below w.heap.size w (w.alloc (.cells (irow .u8 (zr bs.length)) 5)) := (Below.refl _ _).alloc (Nat.le_refl _) _
  have htl := tn4_len bs
  have htg := tn4_get bs
  have hzl := zr_len bs.length
  obtain ⟨ao, cap, rfl, _, hc, _⟩ := id hB
  go_enter Tryd.func17, Tryd.ntmps17
  go_wp2
  generalize (w.alloc (.cells (irow .u8 (zr bs.length)) 5)) = w1 at *
  clear hmk
  go_loopw [6] (fun i wr => ∃ k : Nat, k ≤ bs.length ∧ i = .int .i64 k ∧ wr.heap[w.heap.size]? = some (.cells (irow .u8 (mix (tn4 bs) (zr bs.length) k)) 5 (0, 0)) ∧ Below w.heap.size w wr) (fun i _ => bs.length - (intOf i).toNat)
  case atStart => exact ⟨0, by omega, rfl, r0, hw⟩
  case round =>
    clear r0 hw
    obtain ⟨k, hk, rfl, r0, hw⟩ := hrel
    by_cases hlt : k < bs.length
    · have hd : decide ((k : Int) < (bs.length : Int)) = true := by simp; omega
      obtain ⟨b, off, rfl, hb1, hb2⟩ := hc (bs.length - 1 - k) (by omega)
      replace hb2 := (hw.cell (p := ⟨b, off + (bs.length - 1 - k), none⟩) hb1).trans hb2
      have hset := mix_set (tn4 bs) (zr bs.length) k (by omega) (by omega)
      rw [htg k hlt] at hset
      have hml := mix_length (tn4 bs) (zr bs.length) k (by omega) (by omega)
      have cf := row_frozen r0 k
      have cc := irow_cell r0 (j := k) (by omega)
      have r2 := irow_set r0 k (bits .xor .u8 (bs.getD (bs.length - 1 - k) 0) 51)
      rw [hset] at r2
      have hw2 := hw.setCell (show w.heap.size ≤ (⟨w.heap.size, k, none⟩ : Addr).block from Nat.le_refl _) (.int .u8 (bits .xor .u8 (bs.getD (bs.length - 1 - k) 0) 51))
      have ej2 : (bs.length : Int) - 1 - (k : Int) = ((bs.length - 1 - k : Nat) : Int) := by omega
      clear r0 hw hset hml hc htg hB
      generalize bs.getD (bs.length - 1 - k) 0 = z at *
      generalize (mix (tn4 bs) (zr bs.length) k).getD k 0 = y at *
      go_wp2
      refine ⟨⟨k + 1, by omega, by go_num, r2, hw2⟩, ?_⟩
      simp [intOf]; omega
    · obtain rfl : k = bs.length := by omega
      have hd : decide ((bs.length : Int) < (bs.length : Int)) = false := by simp
      have em := mix_all (tn4 bs) (zr bs.length) (by omega)
      rw [hzl] at em
      rw [em] at r0
      have rg2 := keep hw rg
      have hBo := Bys.of_row r0 (by omega) (tn4_bd bs) bs.length
      have hcp := copy_bys (o := 0) (dLen := bs.length + 80) (dCap := bs.length + 80) rg2 hBo (by omega) (by rw [List.length_append]; omega)
      have ez : (bs ++ mk4 80).take 0 ++ tn4 bs ++ (bs ++ mk4 80).drop (0 + (tn4 bs).length) = tn4 bs ++ mk4 80 := by
        rw [List.take_zero, List.nil_append, Nat.zero_add, htl, List.drop_left]
      rw [ez] at hcp
      have hgo : goInt (tn4 bs).length = .int .i64 ((tn4 bs).length : Int) := rfl
      rw [hgo, htl] at hcp
      have r1 := setRow_heap _ g _ (irow .u8 (tn4 bs ++ mk4 80)) _ _ rg2
      have r3 : (wr.setRow g (irow .u8 (tn4 bs ++ mk4 80))).heap[w.heap.size]? = _ := (setRow_other wr g (w.heap.size) (irow .u8 (tn4 bs ++ mk4 80)) (by omega)).trans r0
      have hgr : w.grownBy (wr.setRow g (irow .u8 (tn4 bs ++ mk4 80))) (some g) := grown_setRow _ (grown_below (World.grownBy.refl _ _) hw)
      clear hc htg hB r0 hw
      go_wp2
      go_ret
      exact ⟨rfl, r3, r1, hgr⟩

end Go.Proofs.YtamieopjigjfiaaDoor
