import Derived.Test.YtamieopjigjfiabDoorProg
import Derived.WalkKit
import Derived.WalkSpells
import Derived.WalkLawsBesides
import Derived.Lib.QuietBelow
import Derived.BigQuiet
import Derived.Test.YtamieopjigjfiabDoorKa
import Derived.Test.YtamieopjigjfiabDoorWg
namespace Go.Proofs.YtamieopjigjfiabDoor
set_option maxRecDepth 100000
open Go Go.RowKit Go.Sort
attribute [local go_sem] setCell_drewN alloc_drewN


theorem built_st (x0 x1 x2 x3 : Value) (g : Nat) (r : Int) : Tryd.prog.built 85 [(0, .agg #[x0, x1, x2, x3]), (1, .pointer (some ⟨g, 0, none⟩)), (2, .int .i64 r)] = some #[x0, x1, x2, x3, .pointer (some ⟨g, 0, none⟩), .int .i64 r] := by kernel_rfl
theorem wos4 (l : List B) : (irow .u32 (wl (wos l 4))) = #[.int .u32 (wv (wo l 0)), .int .u32 (wv (wo l 1)), .int .u32 (wv (wo l 2)), .int .u32 (wv (wo l 3))] := by
  simp [irow, wl, wos, List.range_succ]
theorem built_w (l : List B) (g : Nat) (r : Int) : Tryd.prog.built 85 [(0, .agg (irow .u32 (wl (wos l 4)))), (1, .pointer (some ⟨g, 0, none⟩)), (2, .int .i64 r)] = some (srow (wos l 4) g r) := by
  rw [srow, wos4, built_st]; rfl
theorem field_w (l : List B) (g : Nat) (r : Int) (W : World) : (Instr.field 85 (.agg (srow (wos l 4) g r)) 0).run Tryd.prog W = .ok (.agg (irow .u32 (wl (wos l 4)))) W := by
  have h : ∀ x0 x1 x2 x3 : Value, (Instr.field 85 (.agg #[x0, x1, x2, x3, .pointer (some ⟨g, 0, none⟩), .int .i64 r]) 0).run Tryd.prog W = .ok (.agg #[x0, x1, x2, x3]) W := fun x0 x1 x2 x3 => by kernel_rfl
  rw [srow, wos4]
  exact h _ _ _ _
theorem zF (W : World) : (Instr.alloc 86 true (.tuple #[])).run Tryd.prog W = .ok (.pointer (some ⟨W.heap.size, 0, none⟩)) (W.alloc (.cells #[.nilFunc, .nilFunc, .nilFunc, .nilFunc] 86)) := by kernel_rfl
set_option maxRecDepth 100000 in
set_option maxHeartbeats 4000000 in
theorem a_encrypt (l K : List B) (hl : l.length = 16) (g : Nat) (w : World) (hC : Cph w g K) : Calls Tryd.prog 23 #[.pointer (some ⟨g, 0, none⟩), .agg (irow .u8 (bl (l)))] w fun e w' => e = .returned (.agg (irow .u8 (bl (enc K l)))) ∧ Below w.heap.size w w' := by
  have hi0 := info_bl infoB l hl
  have hgl : g < w.heap.size := lt_of_row hC
  have hif : (Tryd.prog.info? 86).map (·.size) = some (#[.func (.func 33) #[] #[], .func (.func 34) #[] #[], .func (.func 35) #[] #[], .func (.func 36) #[] #[]] : Array Value).size := by kernel_rfl
  have hx0 : ∀ W, (Instr.index 86 (.agg #[.func (.func 33) #[] #[], .func (.func 34) #[] #[], .func (.func 35) #[] #[], .func (.func 36) #[] #[]]) (.int .i64 0)).run Tryd.prog W = .ok (.func (.func 33) #[] #[]) W := fun W => by kernel_rfl
  have hx1 : ∀ W, (Instr.index 86 (.agg #[.func (.func 33) #[] #[], .func (.func 34) #[] #[], .func (.func 35) #[] #[], .func (.func 36) #[] #[]]) (.int .i64 1)).run Tryd.prog W = .ok (.func (.func 34) #[] #[]) W := fun W => by kernel_rfl
  have hx2 : ∀ W, (Instr.index 86 (.agg #[.func (.func 33) #[] #[], .func (.func 34) #[] #[], .func (.func 35) #[] #[], .func (.func 36) #[] #[]]) (.int .i64 2)).run Tryd.prog W = .ok (.func (.func 35) #[] #[]) W := fun W => by kernel_rfl
  have hx3 : ∀ W, (Instr.index 86 (.agg #[.func (.func 33) #[] #[], .func (.func 34) #[] #[], .func (.func 35) #[] #[], .func (.func 36) #[] #[]]) (.int .i64 3)).run Tryd.prog W = .ok (.func (.func 36) #[] #[]) W := fun W => by kernel_rfl
  have hFo : (#[.func (.func 33) #[] #[], .func (.func 34) #[] #[], .func (.func 35) #[] #[], .func (.func 36) #[] #[]] : Array Value).all (·.oneCell') = true := by simp [Value.oneCell']
  have R0 := hp3_0 w (.cells (irow .u8 (bl (l))) 50) (.cells (irow .u8 (zr 16)) 50) (.cells #[.nilFunc, .nilFunc, .nilFunc, .nilFunc] 86)
  have R1 := hp3_1 w (.cells (irow .u8 (bl (l))) 50) (.cells (irow .u8 (zr 16)) 50) (.cells #[.nilFunc, .nilFunc, .nilFunc, .nilFunc] 86)
  have R2 := hp3_2 w (.cells (irow .u8 (bl (l))) 50) (.cells (irow .u8 (zr 16)) 50) (.cells #[.nilFunc, .nilFunc, .nilFunc, .nilFunc] 86)
  have hw : Below w.heap.size w (((w.alloc (.cells (irow .u8 (bl (l))) 50)).alloc (.cells (irow .u8 (zr 16)) 50)).alloc (.cells #[.nilFunc, .nilFunc, .nilFunc, .nilFunc] 86)) := ((((Below.refl _ _).alloc (Nat.le_refl _) _).alloc (by simp) _).alloc (by simp; omega) _)

  replace hC := hC.keep hw
  go_enter Tryd.func23, Tryd.ntmps23
  go_wp2_with (first | (refine wpList_box rfl 50 _ rfl _ rfl (bBl _) ?_) | (refine wpList_alloc rfl 50 rfl (irow .u8 (zr 16)) zBl ?_) | ((try simp only [size_alloc1]); refine wpList_store_row rfl 86 _ _ rfl (w.heap.size + 1 + 1) #[.func (.func 33) #[] #[], .func (.func 34) #[] #[], .func (.func 35) #[] #[], .func (.func 36) #[] #[]] rfl rfl 86 _ R2 hif rfl hFo ?_; refine wpList_stay ?_) | fail)
  try simp only [size_alloc1, Act.put, List.setIfInBounds_toArray, List.set_cons_succ, List.set_cons_zero]
  unfold WpStay
  replace R0 := (setRow_other _ (w.heap.size + 1 + 1) (w.heap.size) #[.func (.func 33) #[] #[], .func (.func 34) #[] #[], .func (.func 35) #[] #[], .func (.func 36) #[] #[]] (by omega)).trans R0
  replace R1 := (setRow_other _ (w.heap.size + 1 + 1) (w.heap.size + 1) #[.func (.func 33) #[] #[], .func (.func 34) #[] #[], .func (.func 35) #[] #[], .func (.func 36) #[] #[]] (by omega)).trans R1
  replace hC : Cph _ g K := (setRow_other _ (w.heap.size + 1 + 1) g #[.func (.func 33) #[] #[], .func (.func 34) #[] #[], .func (.func 35) #[] #[], .func (.func 36) #[] #[]] (by omega)).trans hC
  replace R2 := setRow_heap _ (w.heap.size + 1 + 1) _ #[.func (.func 33) #[] #[], .func (.func 34) #[] #[], .func (.func 35) #[] #[], .func (.func 36) #[] #[]] _ _ R2
  replace hw := below_setRow hw (show w.heap.size ≤ w.heap.size + 1 + 1 by omega) #[.func (.func 33) #[] #[], .func (.func 34) #[] #[], .func (.func 35) #[] #[], .func (.func 36) #[] #[]]
  generalize World.setRow _ (w.heap.size + 1 + 1) #[.func (.func 33) #[] #[], .func (.func 34) #[] #[], .func (.func 35) #[] #[], .func (.func 36) #[] #[]] = w0 at *
  have cc := a_cut l hl
  go_wp2_with (first | (refine wpList_load_want rfl 50 _ rfl (w.heap.size) rfl 50 (irow .u8 (bl (l))) (0, 0) _ R0 Tryd.underlying50 rfl hi0 ?_) | fail)
  refine (cc.at _).mono ?_
  rintro e_ w1 ⟨rfl, hb⟩
  replace R0 := keep hb R0
  replace R1 := keep hb R1
  replace R2 := keep hb R2
  replace hC := hC.keep hb
  replace hw := Below.after hw hb
  clear hb

  go_wp2_with (first | (refine wpList_build_as rfl 85 _ rfl [(0, .agg (irow .u32 (wl (wos l 4)))), (1, .pointer (some ⟨g, 0, none⟩)), (2, .int .i64 0)] rfl (srow (wos l 4) g 0) (built_w l g 0) ?_) | fail)
  refine (a_keyed l K g 0 (by omega) _ hC).mono ?_
  rintro e_ w2 ⟨rfl, hb⟩
  replace R0 := keep hb R0
  replace R1 := keep hb R1
  replace R2 := keep hb R2
  replace hC := hC.keep hb
  replace hw := Below.after hw hb
  clear hb

  have hi9 := info_sr (wos (rnd5 K l 0) 4) g ((0 : Nat) : Int) (wos_len _ _)
  have hfi : zst.size = (srow (wos (rnd5 K l 0) 4) g ((0 : Nat) : Int)).size := by rw [srow_size, wos_len]; rfl
  have R3 := hp1_0 w2 (.cells zst 85)
  have HB : Below w2.heap.size w2 (w2.alloc (.cells zst 85)) := (Below.refl _ _).alloc (Nat.le_refl _) _
  go_wp2_with (first | (refine wpList_alloc rfl 85 rfl zst zSt ?_) | (refine wpList_store_row rfl 85 _ _ rfl (w2.heap.size) (srow (wos (rnd5 K l 0) 4) g ((0 : Nat) : Int)) rfl rfl 85 _ R3 hi9 hfi (srow_one _ _ _) ?_; refine wpList_stay ?_) | fail)
  unfold WpStay
  have hsz := hw.size
  have l1 := lt_of_row R1
  have l2 := lt_of_row R2
  have l3 := lt_of_row hC
  replace R1 := (setRow_other _ (w2.heap.size) (w.heap.size + 1) (srow (wos (rnd5 K l 0) 4) g ((0 : Nat) : Int)) (by omega)).trans (keep HB R1)
  replace R2 := (setRow_other _ (w2.heap.size) (w.heap.size + 1 + 1) (srow (wos (rnd5 K l 0) 4) g ((0 : Nat) : Int)) (by omega)).trans (keep HB R2)
  replace hC : Cph _ g K := (setRow_other _ (w2.heap.size) g (srow (wos (rnd5 K l 0) 4) g ((0 : Nat) : Int)) (by omega)).trans (keep HB hC)
  replace R3 := setRow_heap _ (w2.heap.size) _ (srow (wos (rnd5 K l 0) 4) g ((0 : Nat) : Int)) _ _ R3
  replace hw := below_setRow (Below.after hw HB) hsz (srow (wos (rnd5 K l 0) 4) g ((0 : Nat) : Int))
  clear HB R0 hi9 hfi l3
  generalize World.setRow _ (w2.heap.size) (srow (wos (rnd5 K l 0) 4) g ((0 : Nat) : Int)) = w3 at *
  generalize w2.heap.size = gS at *
  have c5 := srow_rnd R3 (wos_len _ _)
  have hf5 := row_frozen R3 5
  go_wp2_with (fail)
  clear c5 hf5
  replace R1 := heap_other (j := 5) (v := .int .i64 1) R1 (show w.heap.size + 1 ≠ gS by omega)
  replace R2 := heap_other (j := 5) (v := .int .i64 1) R2 (show w.heap.size + 1 + 1 ≠ gS by omega)
  replace hC : Cph _ g K := heap_other (j := 5) (v := .int .i64 1) hC (show g ≠ gS by omega)
  replace R3 := srow_setr R3 (wos_len _ _) 1
  replace hw : Below w.heap.size w (w3.setCell ⟨gS, 5, none⟩ (.int .i64 1)) := hw.setCell (show w.heap.size ≤ gS by omega) _
  generalize w3.setCell ⟨gS, 5, none⟩ (.int .i64 1) = w4 at *
  go_loopw [] (fun wr => ∃ n : Nat, n ≤ 13 ∧ wr.heap[w.heap.size + 1]? = some (.cells (irow .u8 (zr 16)) 50 (0, 0)) ∧ wr.heap[w.heap.size + 1 + 1]? = some (.cells #[.func (.func 33) #[] #[], .func (.func 34) #[] #[], .func (.func 35) #[] #[], .func (.func 36) #[] #[]] 86 (0, 0)) ∧ wr.heap[gS]? = some (.cells (srow (wos (rnd5 K l n) 4) g (n + 1 : Int)) 85 (0, 0)) ∧ Cph wr g K ∧ Below w.heap.size w wr) (fun wr => match wr.cell? ⟨gS, 5, none⟩ with | some (.int _ z) => 14 - z.toNat | _ => 0)
  case atStart => exact ⟨0, by omega, R1, R2, R3, hC, hw⟩
  case round =>
    clear R1 R2 R3 hC hw cc
    obtain ⟨n, hn, r1, r2, r3, hC, hw⟩ := hrel
    have c5 := srow_rnd r3 (wos_len _ _)
    have c5o := hide c5
    by_cases hlt : n < 13
    · have hd : decide ((n : Int) + 1 < 14) = true := by simp; omega
      go_wp2_with (first | (refine wpList_load_want rfl 86 _ rfl (w.heap.size + 1 + 1) rfl 86 #[.func (.func 33) #[] #[], .func (.func 34) #[] #[], .func (.func 35) #[] #[], .func (.func 36) #[] #[]] (0, 0) _ r2 Tryd.underlying86 rfl hif ?_) | fail)
      refine wp_loop_rounds 5 ?_
      rw [rounds_succ]
      go_wp2_with (first | (refine wpList_load_want rfl 85 _ rfl (gS) rfl 85 (srow (wos (rnd5 K l n) 4) g (n + 1 : Int)) (0, 0) _ r3 Tryd.underlying85 rfl (info_sr (wos (rnd5 K l n) 4) g (n + 1 : Int) (wos_len _ _)) ?_) | fail)
      refine (a_subbed (rnd5 K l n) K g (n + 1 : Int) _ hC).mono ?_
      rintro e_ w5 ⟨rfl, hb⟩
      replace r1 := keep hb r1
      replace r2 := keep hb r2
      replace r3 := keep hb r3
      replace hC := hC.keep hb
      replace hw := Below.after hw hb
      clear hb
      go_wp2_with (first | (refine wpList_store_row rfl 85 _ _ rfl (gS) (srow (wos (subL (rnd5 K l n)) 4) g (n + 1 : Int)) rfl rfl 85 _ r3 (info_sr (wos (subL (rnd5 K l n)) 4) g (n + 1 : Int) (wos_len _ _)) (by rw [srow_size, srow_size, wos_len, wos_len]) (srow_one _ _ _) ?_; refine wpList_stay ?_) | fail)
      unfold WpStay
      replace r1 := (setRow_other w5 gS (w.heap.size + 1) (srow (wos (subL (rnd5 K l n)) 4) g (n + 1 : Int)) (by omega)).trans r1
      replace r2 := (setRow_other w5 gS (w.heap.size + 1 + 1) (srow (wos (subL (rnd5 K l n)) 4) g (n + 1 : Int)) (by omega)).trans r2
      replace hC : Cph _ g K := (setRow_other w5 gS g (srow (wos (subL (rnd5 K l n)) 4) g (n + 1 : Int)) (by omega)).trans hC
      replace r3 := setRow_heap w5 gS _ (srow (wos (subL (rnd5 K l n)) 4) g (n + 1 : Int)) _ _ r3
      replace hw := below_setRow hw (show w.heap.size ≤ gS by omega) (srow (wos (subL (rnd5 K l n)) 4) g (n + 1 : Int))
      generalize w5.setRow gS (srow (wos (subL (rnd5 K l n)) 4) g (n + 1 : Int)) = v5 at *
      go_wp2_with (fail)
      rw [rounds_succ]
      go_wp2_with (first | (refine wpList_load_want rfl 85 _ rfl (gS) rfl 85 (srow (wos (subL (rnd5 K l n)) 4) g (n + 1 : Int)) (0, 0) _ r3 Tryd.underlying85 rfl (info_sr (wos (subL (rnd5 K l n)) 4) g (n + 1 : Int) (wos_len _ _)) ?_) | fail)
      refine (a_shifted (subL (rnd5 K l n)) g (n + 1 : Int) _).mono ?_
      rintro e_ w6 ⟨rfl, hb⟩
      replace r1 := keep hb r1
      replace r2 := keep hb r2
      replace r3 := keep hb r3
      replace hC := hC.keep hb
      replace hw := Below.after hw hb
      clear hb
      go_wp2_with (first | (refine wpList_store_row rfl 85 _ _ rfl (gS) (srow (wos (shiftL (subL (rnd5 K l n))) 4) g (n + 1 : Int)) rfl rfl 85 _ r3 (info_sr (wos (shiftL (subL (rnd5 K l n))) 4) g (n + 1 : Int) (wos_len _ _)) (by rw [srow_size, srow_size, wos_len, wos_len]) (srow_one _ _ _) ?_; refine wpList_stay ?_) | fail)
      unfold WpStay
      replace r1 := (setRow_other w6 gS (w.heap.size + 1) (srow (wos (shiftL (subL (rnd5 K l n))) 4) g (n + 1 : Int)) (by omega)).trans r1
      replace r2 := (setRow_other w6 gS (w.heap.size + 1 + 1) (srow (wos (shiftL (subL (rnd5 K l n))) 4) g (n + 1 : Int)) (by omega)).trans r2
      replace hC : Cph _ g K := (setRow_other w6 gS g (srow (wos (shiftL (subL (rnd5 K l n))) 4) g (n + 1 : Int)) (by omega)).trans hC
      replace r3 := setRow_heap w6 gS _ (srow (wos (shiftL (subL (rnd5 K l n))) 4) g (n + 1 : Int)) _ _ r3
      replace hw := below_setRow hw (show w.heap.size ≤ gS by omega) (srow (wos (shiftL (subL (rnd5 K l n))) 4) g (n + 1 : Int))
      generalize w6.setRow gS (srow (wos (shiftL (subL (rnd5 K l n))) 4) g (n + 1 : Int)) = v6 at *
      go_wp2_with (fail)
      rw [rounds_succ]
      go_wp2_with (first | (refine wpList_load_want rfl 85 _ rfl (gS) rfl 85 (srow (wos (shiftL (subL (rnd5 K l n))) 4) g (n + 1 : Int)) (0, 0) _ r3 Tryd.underlying85 rfl (info_sr (wos (shiftL (subL (rnd5 K l n))) 4) g (n + 1 : Int) (wos_len _ _)) ?_) | fail)
      refine (a_mixed5 (shiftL (subL (rnd5 K l n))) g (n + 1 : Int) _).mono ?_
      rintro e_ w7 ⟨rfl, hb⟩
      replace r1 := keep hb r1
      replace r2 := keep hb r2
      replace r3 := keep hb r3
      replace hC := hC.keep hb
      replace hw := Below.after hw hb
      clear hb
      go_wp2_with (first | (refine wpList_store_row rfl 85 _ _ rfl (gS) (srow (wos (mixL (shiftL (subL (rnd5 K l n)))) 4) g (n + 1 : Int)) rfl rfl 85 _ r3 (info_sr (wos (mixL (shiftL (subL (rnd5 K l n)))) 4) g (n + 1 : Int) (wos_len _ _)) (by rw [srow_size, srow_size, wos_len, wos_len]) (srow_one _ _ _) ?_; refine wpList_stay ?_) | fail)
      unfold WpStay
      replace r1 := (setRow_other w7 gS (w.heap.size + 1) (srow (wos (mixL (shiftL (subL (rnd5 K l n)))) 4) g (n + 1 : Int)) (by omega)).trans r1
      replace r2 := (setRow_other w7 gS (w.heap.size + 1 + 1) (srow (wos (mixL (shiftL (subL (rnd5 K l n)))) 4) g (n + 1 : Int)) (by omega)).trans r2
      replace hC : Cph _ g K := (setRow_other w7 gS g (srow (wos (mixL (shiftL (subL (rnd5 K l n)))) 4) g (n + 1 : Int)) (by omega)).trans hC
      replace r3 := setRow_heap w7 gS _ (srow (wos (mixL (shiftL (subL (rnd5 K l n)))) 4) g (n + 1 : Int)) _ _ r3
      replace hw := below_setRow hw (show w.heap.size ≤ gS by omega) (srow (wos (mixL (shiftL (subL (rnd5 K l n)))) 4) g (n + 1 : Int))
      generalize w7.setRow gS (srow (wos (mixL (shiftL (subL (rnd5 K l n)))) 4) g (n + 1 : Int)) = v7 at *
      go_wp2_with (fail)
      rw [rounds_succ]
      go_wp2_with (first | (refine wpList_load_want rfl 85 _ rfl (gS) rfl 85 (srow (wos (mixL (shiftL (subL (rnd5 K l n)))) 4) g (n + 1 : Int)) (0, 0) _ r3 Tryd.underlying85 rfl (info_sr (wos (mixL (shiftL (subL (rnd5 K l n)))) 4) g (n + 1 : Int) (wos_len _ _)) ?_) | fail)
      refine (a_keyed (mixL (shiftL (subL (rnd5 K l n)))) K g (n + 1) (by omega) _ hC).mono ?_
      rintro e_ w8 ⟨rfl, hb⟩
      replace r1 := keep hb r1
      replace r2 := keep hb r2
      replace r3 := keep hb r3
      replace hC := hC.keep hb
      replace hw := Below.after hw hb
      clear hb
      go_wp2_with (first | (refine wpList_store_row rfl 85 _ _ rfl (gS) (srow (wos (rnd5 K l (n + 1)) 4) g (n + 1 : Int)) rfl rfl 85 _ r3 (info_sr (wos (rnd5 K l (n + 1)) 4) g (n + 1 : Int) (wos_len _ _)) (by rw [srow_size, srow_size, wos_len, wos_len]) (srow_one _ _ _) ?_; refine wpList_stay ?_) | fail)
      unfold WpStay
      replace r1 := (setRow_other w8 gS (w.heap.size + 1) (srow (wos (rnd5 K l (n + 1)) 4) g (n + 1 : Int)) (by omega)).trans r1
      replace r2 := (setRow_other w8 gS (w.heap.size + 1 + 1) (srow (wos (rnd5 K l (n + 1)) 4) g (n + 1 : Int)) (by omega)).trans r2
      replace hC : Cph _ g K := (setRow_other w8 gS g (srow (wos (rnd5 K l (n + 1)) 4) g (n + 1 : Int)) (by omega)).trans hC
      replace r3 := setRow_heap w8 gS _ (srow (wos (rnd5 K l (n + 1)) 4) g (n + 1 : Int)) _ _ r3
      replace hw := below_setRow hw (show w.heap.size ≤ gS by omega) (srow (wos (rnd5 K l (n + 1)) 4) g (n + 1 : Int))
      generalize w8.setRow gS (srow (wos (rnd5 K l (n + 1)) 4) g (n + 1 : Int)) = v8 at *
      go_wp2_with (fail)

      rw [rounds_succ]
      have c5 := srow_rnd r3 (wos_len _ _)
      have hf5 := row_frozen r3 5
      go_wp2_with (fail)
      refine ⟨⟨n + 1, by omega, heap_other r1 (by omega), heap_other r2 (by omega), srow_setr r3 (wos_len _ _) _, heap_other hC (by omega), hw.setCell (show w.heap.size ≤ gS by omega) _⟩, ?_⟩
      have c9 := srow_rnd (srow_setr r3 (wos_len _ _) ((n : Int) + 1 + 1)) (wos_len _ _)
      simp only [c9, c5o.out]
      omega
    · obtain rfl : n = 13 := by omega
      have hd : decide (((13 : Nat) : Int) + 1 < 14) = false := by decide
      have hfe := field_w (xorL (shiftL (subL (rnd5 K l 13))) (kr K 14)) g 14
      have cj : Gives 38 #[.agg (irow .u32 (wl (wos (xorL (shiftL (subL (rnd5 K l 13))) (kr K 14)) 4)))] (.agg (irow .u8 (bl (enc K l)))) := a_joined (enc K l) (enc_len _ _)
      have hi7 := info_bl infoB (enc K l) (enc_len _ _)
      have hf7 : (irow .u8 (zr 16)).size = (irow .u8 (bl (enc K l))).size := by rw [irow_size, irow_size, zr_len, bl_len, enc_len]
      clear hn hlt
      go_wp2_with (first | (refine wpList_load_want rfl 85 _ rfl (gS) rfl 85 (srow (wos (rnd5 K l 13) 4) g ((13 : Nat) + 1 : Int)) (0, 0) _ r3 Tryd.underlying85 rfl (info_sr (wos (rnd5 K l 13) 4) g ((13 : Nat) + 1 : Int) (wos_len _ _)) ?_) | fail)
      refine (a_subbed (rnd5 K l 13) K g 14 _ hC).mono ?_
      rintro e_ w5 ⟨rfl, hb⟩
      replace r1 := keep hb r1
      replace r2 := keep hb r2
      replace hC := hC.keep hb
      replace hw := Below.after hw hb
      clear hb

      go_wp2_with (fail)
      refine (a_shifted (subL (rnd5 K l 13)) g 14 _).mono ?_
      rintro e_ w6 ⟨rfl, hb⟩
      replace r1 := keep hb r1
      replace r2 := keep hb r2
      replace hC := hC.keep hb
      replace hw := Below.after hw hb
      clear hb

      go_wp2_with (fail)
      refine (a_keyed (shiftL (subL (rnd5 K l 13))) K g 14 (by omega) _ hC).mono ?_
      rintro e_ w7 ⟨rfl, hb⟩
      replace r1 := keep hb r1
      replace r2 := keep hb r2
      replace hC := hC.keep hb
      replace hw := Below.after hw hb
      clear hb

      change _
      go_wp2_with (fail)
      refine (cj.at _).mono ?_
      rintro e_ w8 ⟨rfl, hb⟩
      replace r1 := keep hb r1
      replace r2 := keep hb r2
      replace hw := Below.after hw hb
      clear hb

      go_wp2_with (first | (refine wpList_store_row rfl 50 _ _ rfl (w.heap.size + 1) (irow .u8 (bl (enc K l))) rfl rfl 50 _ r1 hi7 hf7 (irow_one _ _) ?_) | fail)
      replace r1 := setRow_heap w8 (w.heap.size + 1) _ (irow .u8 (bl (enc K l))) _ _ r1
      replace hw := below_setRow hw (show w.heap.size ≤ w.heap.size + 1 by omega) (irow .u8 (bl (enc K l)))
      generalize w8.setRow (w.heap.size + 1) (irow .u8 (bl (enc K l))) = w9 at *
      exact bodyPost_ret (v := .agg (irow .u8 (bl (enc K l)))) (results_cell_row Tryd.results23 _ _ (w.heap.size + 1) _ _ _ _ rfl r1 Tryd.underlying50 rfl hi7) rfl ⟨rfl, hw⟩

end Go.Proofs.YtamieopjigjfiabDoor


namespace Go.Proofs.YtamieopjigjfiabDoor
set_option maxRecDepth 100000
open Go Go.RowKit Go.Sort
attribute [local go_sem] setCell_drewN alloc_drewN


end Go.Proofs.YtamieopjigjfiabDoor

