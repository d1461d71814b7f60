import Derived.Test.YtamieopjigjfiabDoorProg
import Derived.WalkKit
import Derived.WalkSpells
import Derived.WalkLawsBesides
import Derived.Lib.QuietBelow
import Derived.BigQuiet
import Derived.OrdersHeld
import Derived.OwnWalk
import Derived.Lib.SlBytesConst
import Derived.Laws.BytesArg
import Derived.Deep.RegionHeld3
import Derived.Test.YtamieopjigjfiabDoorKa
import Derived.Test.YtamieopjigjfiabDoorSv
import Derived.Test.YtamieopjigjfiabDoorSw
import Derived.Test.YtamieopjigjfiabDoorSr
namespace Go.Proofs.YtamieopjigjfiabDoor
set_option maxRecDepth 100000
open Go Go.RowKit Go.Sort
attribute [local go_sem] setCell_drewN alloc_drewN

theorem znon (W : World) : (Instr.alloc 25 true (.tuple #[])).run Tryd.prog W = .ok (.pointer (some ⟨W.heap.size, 0, none⟩)) (W.alloc (.cells (irow .u8 (zr 16)) 25)) := by kernel_rfl
def lvX : List B := [120#8]
theorem lv_zk : irow .u8 (bl lvK) = irow .u8 (zr 32) := by rw [lvK, bl_zr]
theorem lv_zn : irow .u8 (bl lvZ) = irow .u8 (zr 16) := by rw [lvZ, bl_zr]
theorem lvx_bys (W : World) : BysB (W.alloc (.cells #[.int .u8 120] 5 (1, 2))) (.slice (some ⟨W.heap.size, 0, none⟩) 1 1) lvX := ⟨bys_rowF (l := bl lvX) (hp1_0 W _) (by decide) (bl_bnd _) rfl, by decide, fun a l c h h2 => by cases h; cases h2⟩
theorem lvh_bys (W : World) : BysB (W.alloc (.cells #[.int .u8 104, .int .u8 101, .int .u8 108, .int .u8 108, .int .u8 111] 5 (5, 6))) (.slice (some ⟨W.heap.size, 0, none⟩) 5 5) lvH := ⟨bys_rowF (l := bl lvH) (hp1_0 W _) (by decide) (bl_bnd _) rfl, by decide, fun a l c h h2 => by cases h; cases h2⟩
theorem lv_str : strOfNums (bl lvH) = ({ data := #[104, 101, 108, 108, 111] } : ByteArray) := by decide +kernel
set_option maxRecDepth 100000 in
set_option maxHeartbeats 4000000 in
theorem l_lives (w : World) (hS : Sta w) (hK : Kon w) : Calls Tryd.prog 6 #[] w fun e w' => e = .returned (.bool true) ∧ Below w.heap.size w w' := by
  have R0 := hp3_0 w (.cells (irow .u8 (zr 32)) 23) (.cells (irow .u8 (zr 32)) 23) (.cells (irow .u8 (zr 16)) 25)
  have R1 := hp3_1 w (.cells (irow .u8 (zr 32)) 23) (.cells (irow .u8 (zr 32)) 23) (.cells (irow .u8 (zr 16)) 25)
  have R2 := hp3_2 w (.cells (irow .u8 (zr 32)) 23) (.cells (irow .u8 (zr 32)) 23) (.cells (irow .u8 (zr 16)) 25)
  have hw : Below w.heap.size w (((w.alloc (.cells (irow .u8 (zr 32)) 23)).alloc (.cells (irow .u8 (zr 32)) 23)).alloc (.cells (irow .u8 (zr 16)) 25)) := ((((Below.refl _ _).alloc (Nat.le_refl _) _).alloc (by simp) _).alloc (by simp; omega) _)
  have d1 := irow_cell R1 (j := 31) (by rw [zr_len]; decide)
  have f1 := row_frozen R1 31
  have hw1 := hw.setCell (show w.heap.size ≤ (⟨w.heap.size + 1, 31, none⟩ : Addr).block from Nat.le_succ _) (.int .u8 1)
  have R0a : ((((w.alloc (.cells (irow .u8 (zr 32)) 23)).alloc (.cells (irow .u8 (zr 32)) 23)).alloc (.cells (irow .u8 (zr 16)) 25)).setCell ⟨w.heap.size + 1, 31, none⟩ (.int .u8 1)).heap[w.heap.size]? = _ := heap_other R0 (by omega)
  have R2a : ((((w.alloc (.cells (irow .u8 (zr 32)) 23)).alloc (.cells (irow .u8 (zr 32)) 23)).alloc (.cells (irow .u8 (zr 16)) 25)).setCell ⟨w.heap.size + 1, 31, none⟩ (.int .u8 1)).heap[w.heap.size + 1 + 1]? = _ := heap_other R2 (by omega)
  have hkl : (zr 32).length = 32 := zr_len 32
  have hiN : (Tryd.prog.info? 25).map (·.size) = some (irow .u8 (zr 16)).size := by
    have h := info_bl infoN lvZ (by decide)
    rw [lv_zn] at h
    exact h
  generalize (zr 32).getD 31 0 = z31 at *
  go_enter Tryd.func6, Tryd.ntmps6
  go_wp2_with (first | (refine wpList_alloc rfl 23 rfl (irow .u8 (zr 32)) zkey ?_) | (refine wpList_alloc rfl 25 rfl (irow .u8 (zr 16)) znon ?_; refine wpList_stay ?_) | fail)
  unfold WpStay
  try simp only [size_alloc1, Act.put, List.setIfInBounds_toArray, List.set_cons_succ, List.set_cons_zero]
  generalize (((w.alloc (.cells (irow .u8 (zr 32)) 23)).alloc (.cells (irow .u8 (zr 32)) 23)).alloc (.cells (irow .u8 (zr 16)) 25)) = w0 at *
  go_wp2_with (first | (refine wpList_load_want rfl 23 _ rfl (w.heap.size) rfl 23 (irow .u8 (zr 32)) (0, 0) _ R0a Tryd.underlying23 rfl (infok8 _ hkl) ?_; refine wpList_stay ?_) | fail)
  unfold WpStay
  clear R0 R1 R2 d1 f1 hw
  generalize w0.setCell ⟨w.heap.size + 1, 31, none⟩ (.int .u8 1) = w1 at *
  have kc := fun (W : World) (C : Array Value) (n c : Nat) => Go.Lib.run_convert_bytes_const (P := Tryd.prog) W 26 5 C n c Tryd.underlying26 Tryd.underlying5
  have kc5 := kc (w1.alloc (.cells #[.int .u8 120] 5 (1, 2))) #[.int .u8 104, .int .u8 101, .int .u8 108, .int .u8 108, .int .u8 111] 5 5
  rw [size_alloc1] at kc5
  have hb1 : Below w1.heap.size w1 (w1.alloc (.cells #[.int .u8 120] 5 (1, 2))) := (Below.refl _ _).alloc (Nat.le_refl _) _
  have hb2 : Below (w1.alloc (.cells #[.int .u8 120] 5 (1, 2))).heap.size (w1.alloc (.cells #[.int .u8 120] 5 (1, 2))) ((w1.alloc (.cells #[.int .u8 120] 5 (1, 2))).alloc (.cells #[.int .u8 104, .int .u8 101, .int .u8 108, .int .u8 108, .int .u8 111] 5 (5, 6))) := (Below.refl _ _).alloc (Nat.le_refl _) _
  have hBx := (lvx_bys w1).keep hb2
  have hBh := lvh_bys (w1.alloc (.cells #[.int .u8 120] 5 (1, 2)))
  rw [size_alloc1] at hBh
  have hw2 := Below.after (Below.after hw1 hb1) hb2
  have R0b := keep hb2 (keep hb1 R0a)
  have R2b := keep hb2 (keep hb1 R2a)
  go_wp2_with (first | (refine wpList_load_want rfl 25 _ rfl (w.heap.size + 1 + 1) rfl 25 (irow .u8 (zr 16)) (0, 0) _ R2a Tryd.underlying25 rfl hiN ?_) | fail)
  clear hb1 hb2 hw1 R0a R2a kc5
  generalize (w1.alloc (.cells #[.int .u8 120] 5 (1, 2))).alloc (.cells #[.int .u8 104, .int .u8 101, .int .u8 108, .int .u8 108, .int .u8 111] 5 (5, 6)) = w2 at *
  have cS := a_seal lvK lvZ lvX lvH (by decide) (by decide) w2 _ _ (hS.below hw2) (hK.below hw2) hBx hBh (fun a l c h => by cases h; exact Nat.le_refl _)
  rw [(slr_ok lvK lvZ lvX lvH (by decide) (by decide)).1, (slr_ok lvK lvZ lvX lvH (by decide) (by decide)).2, lv_zk, lv_zn] at cS
  have hbl : Hid ((bx lvK lvZ lvX lvH).length = 21) := hide (by rw [bx_len]; rfl)
  have hop := ope_bx lvK lvZ lvX lvH (by decide) (by decide)
  have hta : Hid ((bx lvK lvZ lvX lvH).take 5 = cfx lvK lvZ lvH) := hide (bx_text lvK lvZ lvX lvH)
  generalize bx lvK lvZ lvX lvH = Bq at *
  refine cS.mono ?_
  rintro e_ w3 ⟨_, rfl, ⟨v3, rfl, hO⟩, hb⟩
  have qB := own_capB hO
  obtain ⟨ao3, ac3, rfl⟩ := slen_own hO
  rw [hbl.out] at hO qB ⊢
  replace R0b := keep hb R0b
  replace R2b := keep hb R2b
  replace hw2 := Below.after hw2 hb
  clear hb cS hBx hBh
  have hb1 : Below w3.heap.size w3 (w3.alloc (.cells #[.int .u8 120] 5 (1, 2))) := (Below.refl _ _).alloc (Nat.le_refl _) _
  have hBx := lvx_bys w3
  replace hO := hO.keep hb1
  go_wp2_with (first | (refine wpList_load_want rfl 23 _ rfl (w.heap.size) rfl 23 (irow .u8 (zr 32)) (0, 0) _ R0b Tryd.underlying23 rfl (infok8 _ hkl) ?_) | (refine wpList_load_want rfl 25 _ rfl (w.heap.size + 1 + 1) rfl 25 (irow .u8 (zr 16)) (0, 0) _ R2b Tryd.underlying25 rfl hiN ?_) | fail)
  replace hw2 := Below.after hw2 hb1
  clear hb1 R0b R2b kc
  generalize w3.alloc (.cells #[.int .u8 120] 5 (1, 2)) = w4 at *
  have cO := a_open lvK lvZ lvX Bq (by decide) (by decide) w4 _ (.slice ao3 21 ac3) (hS.below hw2) (hK.below hw2) hBx (hO.bysB (by rw [hbl.out]; decide)) (fun a l c h => by cases h; exact Nat.le_refl _) qB
  rw [hop.1, hop.2, lv_zk, lv_zn] at cO
  refine cO.mono ?_
  rintro e_ w5 ⟨_, rfl, ⟨v5, rfl, hP⟩, hb⟩
  obtain ⟨ao5, ac5, rfl⟩ := slen_own hP
  replace hO := hO.keep hb
  replace hw2 := Below.after hw2 hb
  clear hb cO hBx hop
  have h21 : 21 ≤ ac3 := qB _ _ _ rfl
  have cv := conv_bys hP.bys
  rw [lv_str] at cv
  have sl5 := slice_to ao3 21 ac3 5 (by omega)
  have hT := bysB_take (m := 5) (d := Bq) (by rw [hbl.out]; exact hO.bysB (by rw [hbl.out]; decide)) (by rw [hbl.out]; decide)
  rw [hta.out] at hT
  have cQ := sB_same (cfx lvK lvZ lvH) lvH w5 _ _ hT.1 hP.bys
  rw [decide_eq_false lv_not] at cQ
  go_wp2_with (fail)
  refine cQ.mono ?_
  rintro e_ w6 ⟨rfl, hb⟩
  replace hw2 := Below.after hw2 hb
  go_wp2
  go_ret
  exact ⟨rfl, hw2⟩

end Go.Proofs.YtamieopjigjfiabDoor
