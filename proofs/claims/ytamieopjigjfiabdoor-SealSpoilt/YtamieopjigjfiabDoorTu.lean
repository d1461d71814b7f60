import Derived.Test.YtamieopjigjfiabDoorProg
import Derived.WalkKit
import Derived.WalkSpells
import Derived.WalkLawsBesides
import Derived.Lib.QuietBelow
import Derived.BigQuiet
import Derived.OrdersHeld
import Derived.OwnWalk
import Derived.Lib.SlBytesConst
import Derived.Deep.RegionHeld3
import Derived.Test.YtamieopjigjfiabDoorKa
import Derived.Test.YtamieopjigjfiabDoorSq
import Derived.Test.YtamieopjigjfiabDoorSj
namespace Go.Proofs.YtamieopjigjfiabDoor
set_option maxRecDepth 100000
open Go Go.RowKit Go.Sort
attribute [local go_sem] setCell_drewN alloc_drewN

theorem n8_lit7 (n : Nat) (hn : n ≤ 140737488351000) : irow .u8 (n8 n) = #[.int .u8 ((n : Int) % 256), .int .u8 ((n : Int) / 256 % 256), .int .u8 ((n : Int) / 65536 % 256), .int .u8 ((n : Int) / 16777216 % 256), .int .u8 ((n : Int) / 4294967296 % 256), .int .u8 ((n : Int) / 1099511627776), .int .u8 ((n : Int) / 281474976710656), .int .u8 ((n : Int) / 72057594037927936)] := by
  rw [n8_lit, show (n : Int) / 72057594037927936 % 256 = (n : Int) / 72057594037927936 by omega, show (n : Int) / 281474976710656 % 256 = (n : Int) / 281474976710656 by omega, show (n : Int) / 1099511627776 % 256 = (n : Int) / 1099511627776 by omega]
  rfl
set_option maxRecDepth 100000 in
set_option maxHeartbeats 4000000 in
theorem l_under (nonce extra text : List B) (hno : nonce.length = 16) (w : World) (ve vt : Value) (hE : BysB w ve extra) (hT : BysB w vt text) (hl : extra.length + text.length ≤ 140737488351000) : Calls Tryd.prog 19 #[.agg (irow .u8 (bl nonce)), ve, vt] w fun e w' => ∃ v, e = .returned v ∧ Own w' w.heap.size v (undB nonce extra text) ∧ Below w.heap.size w w' := by
  obtain ⟨ue, uec, rfl⟩ : ∃ ao cap, ve = .slice ao extra.length cap := by
    obtain ⟨⟨ao, cap, h, _⟩, _⟩ := hE
    rw [bl_len] at h
    exact ⟨ao, cap, h⟩
  obtain ⟨ut, utc, rfl⟩ : ∃ ao cap, vt = .slice ao text.length cap := by
    obtain ⟨⟨ao, cap, h, _⟩, _⟩ := hT
    rw [bl_len] at h
    exact ⟨ao, cap, h⟩
  have hnl : (bl nonce).length = 16 := by rw [bl_len, hno]
  have R0 := hp2_0 w (.cells (irow .u8 (bl nonce)) 25) (.cells (irow .u8 (n8 extra.length)) 5)
  have R8 := hp2_1 w (.cells (irow .u8 (bl nonce)) 25) (.cells (irow .u8 (n8 extra.length)) 5)
  have hw : Below w.heap.size w ((w.alloc (.cells (irow .u8 (bl nonce)) 25)).alloc (.cells (irow .u8 (n8 extra.length)) 5)) := ((Below.refl _ _).alloc (Nat.le_refl _) _).alloc (by simp) _
  have hwr : IntKind.u64.wrap ((extra.length : Nat) : Int) = (extra.length : Int) := by rw [IntKind.wrap_u64]; omega
  have hmo : ((extra.length : Nat) : Int) % 18446744073709551616 = (extra.length : Int) := by omega
  have hEh : Hid (∀ V, Below w.heap.size w V → BysB V (.slice ue extra.length uec) extra) := hide (fun V h => hE.keep h)
  have hTh : Hid (∀ V, Below w.heap.size w V → BysB V (.slice ut text.length utc) text) := hide (fun V h => hT.keep h)
  clear hE hT
  have e8 : Hid (lb (n8 extra.length) ++ extra ++ nonce ++ text = undB nonce extra text) := hide rfl
  have l8 : Hid ((lb (n8 extra.length)).length = 8) := hide (by rw [lb_len, n8_len])
  have hO : Own ((w.alloc (.cells (irow .u8 (bl nonce)) 25)).alloc (.cells (irow .u8 (n8 extra.length)) 5)) (w.heap.size + 1) (.slice (some ⟨w.heap.size + 1, 0, none⟩) 8 8) (lb (n8 extra.length)) := by
    unfold Own
    rw [bl_lb (n8_bd _), l8.out]
    exact ⟨by rw [List.length_map, n8_len], .inr ⟨w.heap.size + 1, 8, _, rfl, Nat.le_refl _, R8, Nat.le_refl _, by decide, by rw [irow_size, n8_len], by rw [Nat.mul_one]; exact List.take_of_length_le (by simp [irow, n8_len])⟩⟩
  have hlit := n8_lit7 extra.length (by omega)
  rw [hlit] at R0 R8 hw hO
  have hmk := mk8 (w.alloc (.cells (irow .u8 (bl nonce)) 25))
  rw [size_alloc1] at hmk
  clear hlit R8
  go_enter Tryd.func19, Tryd.ntmps19
  go_wp2_with (first | (refine wpList_box rfl 25 _ rfl _ rfl (bNo _) ?_) | fail)
  refine wp_loop_rounds 9 ?_
  rw [rounds_succ]; go_wp2
  rw [rounds_succ]; go_wp2
  rw [rounds_succ]; go_wp2
  rw [rounds_succ]; go_wp2
  rw [rounds_succ]; go_wp2
  rw [rounds_succ]; go_wp2
  rw [rounds_succ]; go_wp2
  rw [rounds_succ]; go_wp2
  rw [rounds_succ]
  go_wp2_with (at_builtin; refine wpList_stay ?_)
  unfold WpStay
  generalize (w.alloc (.cells (irow .u8 (bl nonce)) 25)).alloc (.cells #[.int .u8 ((extra.length : Int) % 256), .int .u8 ((extra.length : Int) / 256 % 256), .int .u8 ((extra.length : Int) / 65536 % 256), .int .u8 ((extra.length : Int) / 16777216 % 256), .int .u8 ((extra.length : Int) / 4294967296 % 256), .int .u8 ((extra.length : Int) / 1099511627776), .int .u8 ((extra.length : Int) / 281474976710656), .int .u8 ((extra.length : Int) / 72057594037927936)] 5) = w1 at *
  clear hmk hwr hmo
  have hs1 : w.heap.size + 1 ≤ w1.heap.size := lt_of_row R0
  generalize lb (n8 extra.length) = L8 at *
  refine wpList_append_B rfl (.tmp 24) (.tmp 25) rfl (w.heap.size + 1) _ _ rfl hO _ extra rfl (hEh.out _ hw) (by rw [l8.out]; omega) hs1 ?_
  intro v2 w2 hO2 hgr
  have R0b : w2.heap[w.heap.size]? = _ := (hgr.block w.heap.size (lt_of_row R0) (fun e_ => by have := own_low hO _ e_.symm; omega)).trans R0
  replace hw := hw.grown hgr hw.size (fun k h => by have := own_low hO k h; omega)
  have hs2 : w.heap.size + 1 ≤ w2.heap.size := lt_of_row R0b
  have hl2 : (L8 ++ extra).length ≤ 8 + extra.length := by rw [List.length_append, l8.out]; omega
  generalize L8 ++ extra = X2 at *
  obtain ⟨ao2, ac2, rfl⟩ := slen_own hO2
  clear hgr hO R0
  have hBn : BysB w2 (.slice (some ⟨w.heap.size, 0, none⟩) 16 16) nonce := by
    have h := Bys.of_row R0b (by omega) (bl_bnd _) 16
    rw [hnl] at h
    exact ⟨h, by omega, fun a l c h h2 => by cases h; cases h2⟩
  have sn := slice_n w.heap.size
  go_wp2_with (at_builtin; refine wpList_append_B rfl (.tmp 27) (.tmp 28) rfl (w.heap.size + 1) _ _ rfl hO2 _ nonce rfl hBn (by omega) hs2 ?_)
  intro v3 w3 hO3 hgr
  have hs3 := Nat.le_trans hs2 hgr.size
  replace hw := hw.grown hgr hw.size (fun k h => by have := own_low hO2 k h; omega)
  have hl3 : (X2 ++ nonce).length ≤ 24 + extra.length := by rw [List.length_append]; omega
  generalize X2 ++ nonce = X3 at *
  obtain ⟨ao3, ac3, rfl⟩ := slen_own hO3
  clear hgr hO2 hBn R0b
  go_wp2_with (at_builtin; refine wpList_append_B rfl (.tmp 30) (.tmp 31) rfl (w.heap.size + 1) _ _ rfl hO3 _ text rfl (hTh.out _ hw) (by omega) hs3 ?_)
  intro v4 w4 hO4 hgr
  replace hw := hw.grown hgr hw.size (fun k h => by have := own_low hO3 k h; omega)
  rw [e8.out] at hO4
  generalize eY : undB nonce extra text = X4 at *
  replace eY := hide eY
  obtain ⟨ao4, ac4, rfl⟩ := slen_own hO4
  clear hgr hO3
  go_wp2_with (fail)
  go_ret
  exact ⟨_, rfl, by rw [eY.out]; exact own_down hO4 (Nat.le_succ _), hw⟩
set_option maxRecDepth 100000 in
set_option maxHeartbeats 4000000 in
theorem l_tagged_short (key nonce extra box : List B) (hk : key.length = 32) (hno : nonce.length = 16) (w : World) (ve vb : Value) (hS : Sta w) (hK : Kon w) (hE : BysB w ve extra) (hB : BysB w vb box) (hsh : box.length < 16) : Calls Tryd.prog 10 #[.agg (irow .u8 (bl key)), .agg (irow .u8 (bl nonce)), ve, vb] w fun e w' => e = .returned (.bool false) ∧ Below w.heap.size w w' := by
  obtain ⟨ub, ubc, rfl⟩ : ∃ ao cap, vb = .slice ao box.length cap := by
    obtain ⟨⟨ao, cap, h, _⟩, _⟩ := hB
    rw [bl_len] at h
    exact ⟨ao, cap, h⟩
  obtain ⟨ue, uec, rfl⟩ : ∃ ao cap, ve = .slice ao extra.length cap := by
    obtain ⟨⟨ao, cap, h, _⟩, _⟩ := hE
    rw [bl_len] at h
    exact ⟨ao, cap, h⟩
  have q1 : decide ((box.length : Int) < 16) = true := by simp; omega
  clear hE hB
  have hkl : (bl key).length = 32 := by rw [bl_len, hk]
  have hiN := info_bl infoN nonce hno
  have R0 := hp2_0 w (.cells (irow .u8 (bl key)) 23) (.cells (irow .u8 (bl nonce)) 25)
  have R1 := hp2_1 w (.cells (irow .u8 (bl key)) 23) (.cells (irow .u8 (bl nonce)) 25)
  have hw : Below w.heap.size w ((w.alloc (.cells (irow .u8 (bl key)) 23)).alloc (.cells (irow .u8 (bl nonce)) 25)) := (((Below.refl _ _).alloc (Nat.le_refl _) _).alloc (by simp) _)
  have hz0 : ((w.alloc (.cells (irow .u8 (bl key)) 23)).alloc (.cells (irow .u8 (bl nonce)) 25)).heap.size = w.heap.size + 1 + 1 := by rw [size_alloc1, size_alloc1]
  have cvs : (convert 26 26 (.slice (some ⟨w.heap.size + 1 + 1, 0, none⟩) 9 9)).run Tryd.prog (((w.alloc (.cells (irow .u8 (bl key)) 23)).alloc (.cells (irow .u8 (bl nonce)) 25)).alloc (.cells #[.int .u8 112, .int .u8 97, .int .u8 119, .int .u8 108, .int .u8 32, .int .u8 115, .int .u8 101, .int .u8 97, .int .u8 108] 5)) = .ok (.slice (some ⟨w.heap.size + 1 + 1, 0, none⟩) 9 9) (((w.alloc (.cells (irow .u8 (bl key)) 23)).alloc (.cells (irow .u8 (bl nonce)) 25)).alloc (.cells #[.int .u8 112, .int .u8 97, .int .u8 119, .int .u8 108, .int .u8 32, .int .u8 115, .int .u8 101, .int .u8 97, .int .u8 108] 5 (9, 10))) := by
    have h := Go.Lib.run_convert_bytes_const (P := Tryd.prog) ((w.alloc (.cells (irow .u8 (bl key)) 23)).alloc (.cells (irow .u8 (bl nonce)) 25)) 26 5 #[.int .u8 112, .int .u8 97, .int .u8 119, .int .u8 108, .int .u8 32, .int .u8 115, .int .u8 101, .int .u8 97, .int .u8 108] 9 9 Tryd.underlying26 Tryd.underlying5
    rw [hz0] at h
    exact h
  go_enter Tryd.func10, Tryd.ntmps10
  go_wp2_with (first | (refine wpList_box rfl 23 _ rfl _ rfl (bK _) ?_) | (refine wpList_box rfl 25 _ rfl _ rfl (bNo _) ?_) | (refine wpList_load_want rfl 23 _ rfl (w.heap.size) rfl 23 (irow .u8 (bl key)) (0, 0) _ R0 Tryd.underlying23 rfl (infok8 _ hkl) ?_) | fail)
  try simp only [size_alloc1, Act.put, List.setIfInBounds_toArray, List.set_cons_succ, List.set_cons_zero]
  clear cvs
  generalize ((w.alloc (.cells (irow .u8 (bl key)) 23)).alloc (.cells (irow .u8 (bl nonce)) 25)) = w0 at *
  have hba : Below w0.heap.size w0 (w0.alloc (.cells #[.int .u8 112, .int .u8 97, .int .u8 119, .int .u8 108, .int .u8 32, .int .u8 115, .int .u8 101, .int .u8 97, .int .u8 108] 5 (9, 10))) := (Below.refl _ _).alloc (Nat.le_refl _) _
  have hI := ps9_bys w0
  rw [hz0] at hI
  replace R1 := keep hba R1
  replace hw := Below.after hw hba
  generalize w0.alloc (.cells #[.int .u8 112, .int .u8 97, .int .u8 119, .int .u8 108, .int .u8 32, .int .u8 115, .int .u8 101, .int .u8 97, .int .u8 108] 5 (9, 10)) = w1 at *
  have cX := a_expand (bl key) ps9 64 w1 _ (hS.below hw) (hK.below hw) hkl (bl_bnd _) hI (fun a l c h => by cases h; exact Nat.le_refl _) (by decide) (by decide)
  clear hba hI R0 hz0
  refine cX.mono ?_
  rintro e_ w2 ⟨v_, g, rfl, rfl, lg, rg, hb⟩
  have l1 := lt_of_row R1
  replace lg : w1.heap.size ≤ g := lg
  replace R1 := keep hb R1
  replace hw := Below.after hw hb
  clear hb cX
  go_wp2
  go_ret
  exact ⟨rfl, hw⟩
set_option maxRecDepth 100000 in
set_option maxHeartbeats 4000000 in
theorem l_tagged_main (key nonce extra box : List B) (hk : key.length = 32) (hno : nonce.length = 16) (w : World) (ve vb : Value) (hS : Sta w) (hK : Kon w) (hE : BysB w ve extra) (hB : BysB w vb box) (qB : ∀ a l c, vb = .slice a l c → l ≤ c) (h16 : 16 ≤ box.length) (hl : extra.length + box.length ≤ 140737488351000) (b : Bool) (hb : b = decide (otg box = tg key nonce extra (obx box))) : Calls Tryd.prog 10 #[.agg (irow .u8 (bl key)), .agg (irow .u8 (bl nonce)), ve, vb] w fun e w' => e = .returned (.bool b) ∧ Below w.heap.size w w' := by
  obtain ⟨bb, bo, ubc, rfl⟩ := bysB_some hB (by omega)
  replace qB := qB _ _ _ rfl
  obtain ⟨ue, uec, rfl⟩ : ∃ ao cap, ve = .slice ao extra.length cap := by
    obtain ⟨⟨ao, cap, h, _⟩, _⟩ := hE
    rw [bl_len] at h
    exact ⟨ao, cap, h⟩
  have q1 : decide ((box.length : Int) < 16) = false := by simp; omega
  have hwr : IntKind.i64.wrap ((box.length : Int) - 16) = (box.length : Int) - 16 := by rw [IntKind.wrap_i64]; omega
  have sh := sl_head (some ⟨bb, bo, none⟩) box.length ubc h16 qB
  have st_ := sl_tail bb bo box.length ubc h16 qB
  have hEh : Hid (∀ V, Below w.heap.size w V → BysB V (.slice ue extra.length uec) extra) := hide (fun V h => hE.keep h)
  have hXh : Hid (∀ V, Below w.heap.size w V → BysB V (.slice (some ⟨bb, bo, none⟩) (box.length - 16) ubc) (obx box)) := hide (fun V h => bysB_take (hB.keep h) (by omega))
  have hTh : Hid (∀ V, Below w.heap.size w V → BysB V (.slice (some ⟨bb, bo + (box.length - 16), none⟩) 16 (ubc - (box.length - 16))) (otg box)) := hide (fun V h => bysB_drop (hB.keep h) (by omega) (by omega) _)
  have hd : Hid (decide (lb ((su key nonce extra (obx box)).take 16) = otg box) = b) := hide (by
    rw [hb]
    exact decide_eq_decide.2 ⟨fun h => h.symm, fun h => h.symm⟩)
  have hHl : Hid ((su key nonce extra (obx box)).length = 32) := hide (su_len _ _ _ _)
  have hHz : Hid (∀ z ∈ su key nonce extra (obx box), 0 ≤ z ∧ z < 256) := hide (su_bd _ _ _ _)
  have hxl := obx_len box
  have hul : Hid ((undB nonce extra (obx box)).length = 8 + (extra.length + (nonce.length + (obx box).length))) := hide (undB_len _ _ _)
  clear hE hB hb
  generalize eX : obx box = X at *
  generalize otg box = T at *
  clear eX
  have hkl : (bl key).length = 32 := by rw [bl_len, hk]
  have hiN := info_bl infoN nonce hno
  have R0 := hp2_0 w (.cells (irow .u8 (bl key)) 23) (.cells (irow .u8 (bl nonce)) 25)
  have R1 := hp2_1 w (.cells (irow .u8 (bl key)) 23) (.cells (irow .u8 (bl nonce)) 25)
  have hw : Below w.heap.size w ((w.alloc (.cells (irow .u8 (bl key)) 23)).alloc (.cells (irow .u8 (bl nonce)) 25)) := (((Below.refl _ _).alloc (Nat.le_refl _) _).alloc (by simp) _)
  have hz0 : ((w.alloc (.cells (irow .u8 (bl key)) 23)).alloc (.cells (irow .u8 (bl nonce)) 25)).heap.size = w.heap.size + 1 + 1 := by rw [size_alloc1, size_alloc1]
  have cvs : (convert 26 26 (.slice (some ⟨w.heap.size + 1 + 1, 0, none⟩) 9 9)).run Tryd.prog (((w.alloc (.cells (irow .u8 (bl key)) 23)).alloc (.cells (irow .u8 (bl nonce)) 25)).alloc (.cells #[.int .u8 112, .int .u8 97, .int .u8 119, .int .u8 108, .int .u8 32, .int .u8 115, .int .u8 101, .int .u8 97, .int .u8 108] 5)) = .ok (.slice (some ⟨w.heap.size + 1 + 1, 0, none⟩) 9 9) (((w.alloc (.cells (irow .u8 (bl key)) 23)).alloc (.cells (irow .u8 (bl nonce)) 25)).alloc (.cells #[.int .u8 112, .int .u8 97, .int .u8 119, .int .u8 108, .int .u8 32, .int .u8 115, .int .u8 101, .int .u8 97, .int .u8 108] 5 (9, 10))) := by
    have h := Go.Lib.run_convert_bytes_const (P := Tryd.prog) ((w.alloc (.cells (irow .u8 (bl key)) 23)).alloc (.cells (irow .u8 (bl nonce)) 25)) 26 5 #[.int .u8 112, .int .u8 97, .int .u8 119, .int .u8 108, .int .u8 32, .int .u8 115, .int .u8 101, .int .u8 97, .int .u8 108] 9 9 Tryd.underlying26 Tryd.underlying5
    rw [hz0] at h
    exact h
  go_enter Tryd.func10, Tryd.ntmps10
  go_wp2_with (first | (refine wpList_box rfl 23 _ rfl _ rfl (bK _) ?_) | (refine wpList_box rfl 25 _ rfl _ rfl (bNo _) ?_) | (refine wpList_load_want rfl 23 _ rfl (w.heap.size) rfl 23 (irow .u8 (bl key)) (0, 0) _ R0 Tryd.underlying23 rfl (infok8 _ hkl) ?_) | fail)
  try simp only [size_alloc1, Act.put, List.setIfInBounds_toArray, List.set_cons_succ, List.set_cons_zero]
  clear cvs
  generalize ((w.alloc (.cells (irow .u8 (bl key)) 23)).alloc (.cells (irow .u8 (bl nonce)) 25)) = w0 at *
  have hba : Below w0.heap.size w0 (w0.alloc (.cells #[.int .u8 112, .int .u8 97, .int .u8 119, .int .u8 108, .int .u8 32, .int .u8 115, .int .u8 101, .int .u8 97, .int .u8 108] 5 (9, 10))) := (Below.refl _ _).alloc (Nat.le_refl _) _
  have hI := ps9_bys w0
  rw [hz0] at hI
  replace R1 := keep hba R1
  replace hw := Below.after hw hba
  generalize w0.alloc (.cells #[.int .u8 112, .int .u8 97, .int .u8 119, .int .u8 108, .int .u8 32, .int .u8 115, .int .u8 101, .int .u8 97, .int .u8 108] 5 (9, 10)) = w1 at *
  have cX := a_expand (bl key) ps9 64 w1 _ (hS.below hw) (hK.below hw) hkl (bl_bnd _) hI (fun a l c h => by cases h; exact Nat.le_refl _) (by decide) (by decide)
  clear hba hI R0 hz0
  refine cX.mono ?_
  rintro e_ w2 ⟨v_, g, rfl, rfl, lg, rg, hb⟩
  have l1 := lt_of_row R1
  replace lg : w1.heap.size ≤ g := lg
  replace R1 := keep hb R1
  replace hw := Below.after hw hb
  clear hb cX
  have s1 := sl_hi g
  go_wp2_with (fail)
  have hbd : Below w2.heap.size w2 w2.drew := below_drN (Below.refl _ _) 1
  replace R1 := keep hbd R1
  replace rg := keep hbd rg
  replace hw := Below.after hw hbd
  clear hbd
  refine wp_region_noPanic ?_
  refine wp_region_held (S := fun W => W.heap[w.heap.size + 1]? = some (.cells (irow .u8 (bl nonce)) 25 (0, 0))) (by kernel_rfl) ?_
  change wpAnyH _ _ _ _ _ _ _ _ (World.drew _)
  generalize w2.drew = w3 at *
  refine wpAnyH_take (i := 0) (v := ?v5) rfl (by kernel_rfl) (by kernel_rfl) (by kernel_rfl) (fun _ _ _ h => h) (Or.inl ⟨by rfl, ?y5⟩) (R1) ?r5
  case y5 =>
    intro w_ hS_
    go_simp
    try with_reducible rfl
  simp only [Act.put, List.getElem_toArray, List.getElem_cons_zero, List.setIfInBounds_toArray, List.set_cons_succ, List.set_cons_zero]
  refine wpAnyH_take (i := 1) (v := ?v6) rfl (by kernel_rfl) (by kernel_rfl) (by kernel_rfl) (fun _ _ _ h => h) (Or.inl ⟨by rfl, ?y6⟩) (R1) ?r6
  case y6 =>
    intro w_ hS_
    go_simp
    try with_reducible rfl
  simp only [Act.put, List.getElem_toArray, List.getElem_cons_succ, List.getElem_cons_zero, List.setIfInBounds_toArray, List.set_cons_succ, List.set_cons_zero]
  refine wpAnyH_take (i := 2) (v := .agg (irow .u8 (bl nonce))) rfl (by kernel_rfl) (by kernel_rfl) (by kernel_rfl) (fun _ _ _ h => h) (Or.inl ⟨by rfl, ?y7⟩) (R1) ?r7
  case y7 =>
    intro w_ hS_
    simp only [List.getElem_toArray, List.getElem_cons_succ, List.getElem_cons_zero]
    exact run_load_part 25 _ (by rfl) (w.heap.size + 1) 0 (by rfl) 25 (irow .u8 (bl nonce)) (0, 0) (irow .u8 (bl nonce)) _ (hS_) (all_row _) Tryd.underlying25 rfl hiN
  simp only [Act.put, List.getElem_toArray, List.getElem_cons_succ, List.getElem_cons_zero, List.setIfInBounds_toArray, List.set_cons_succ, List.set_cons_zero]
  refine wpAnyH_take (i := 3) (v := ?v8) rfl (by kernel_rfl) (by kernel_rfl) (by kernel_rfl) (fun _ _ _ h => h) (Or.inl ⟨by rfl, ?y8⟩) (R1) ?r8
  case y8 =>
    intro w_ hS_
    go_simp
    try with_reducible rfl
  simp only [Act.put, List.getElem_toArray, List.getElem_cons_succ, List.getElem_cons_zero, List.setIfInBounds_toArray, List.set_cons_succ, List.set_cons_zero]
  refine wpAnyH_take (i := 4) (v := ?v9) rfl (by kernel_rfl) (by kernel_rfl) (by kernel_rfl) (fun _ _ _ h => h) (Or.inl ⟨by rfl, ?y9⟩) (R1) ?r9
  case y9 =>
    intro w_ hS_
    go_simp
    try with_reducible rfl
  simp only [Act.put, List.getElem_toArray, List.getElem_cons_succ, List.getElem_cons_zero, List.setIfInBounds_toArray, List.set_cons_succ, List.set_cons_zero]
  refine wpAnyH_take (i := 5) (v := ?v10) rfl (by kernel_rfl) (by kernel_rfl) (by kernel_rfl) (fun _ _ _ h => h) (Or.inl ⟨by rfl, ?y10⟩) (R1) ?r10
  case y10 =>
    intro w_ hS_
    go_simp
    try with_reducible rfl
  simp only [Act.put, List.getElem_toArray, List.getElem_cons_succ, List.getElem_cons_zero, List.setIfInBounds_toArray, List.set_cons_succ, List.set_cons_zero]
  refine wpAnyH_take (i := 6) (v := ?v11) rfl (by kernel_rfl) (by kernel_rfl) (by kernel_rfl) (fun _ _ _ h => h) (Or.inl ⟨by rfl, ?y11⟩) (R1) ?r11
  case y11 =>
    intro w_ hS_
    go_simp
    try with_reducible rfl
  simp only [Act.put, List.getElem_toArray, List.getElem_cons_succ, List.getElem_cons_zero, List.setIfInBounds_toArray, List.set_cons_succ, List.set_cons_zero]
  refine wpAnyH_take (i := 7) (v := ?v12) rfl (by kernel_rfl) (by kernel_rfl) (by kernel_rfl) (fun _ _ _ h => h) (Or.inl ⟨by rfl, ?y12⟩) (R1) ?r12
  case y12 =>
    intro w_ hS_
    go_simp
    try with_reducible rfl
  simp only [Act.put, List.getElem_toArray, List.getElem_cons_succ, List.getElem_cons_zero, List.setIfInBounds_toArray, List.set_cons_succ, List.set_cons_zero]
  refine wpAnyH_take (i := 8) (v := ?v13) rfl (by kernel_rfl) (by kernel_rfl) (by kernel_rfl) (fun _ _ _ h => h) (Or.inl ⟨by rfl, ?y13⟩) (R1) ?r13
  case y13 =>
    intro w_ hS_
    go_simp
    try with_reducible rfl
  simp only [Act.put, List.getElem_toArray, List.getElem_cons_succ, List.getElem_cons_zero, List.setIfInBounds_toArray, List.set_cons_succ, List.set_cons_zero]
  refine wpAnyH_two (j := 9) (k := 11) (fuel := 3) (by kernel_rfl) rfl rfl (by kernel_rfl) (by kernel_rfl) (fun K_ hK_ => ?_) (fun K_ hK_ => ?_)
  · refine wp_call_ex (f := 19) (by kernel_rfl) (l_under nonce extra X hno w3 _ _ (hEh.out _ hw) (hXh.out _ hw) (by rw [hxl]; omega)) (fun v_ q15 hX_ => ?_)
    obtain ⟨hU, hb_⟩ := hX_
    replace R1 := keep hb_ R1
    replace rg := keep hb_ rg
    replace hw := Below.after hw hb_
    clear hb_
    refine hK_ _ _ (R1) ?_
    simp only [Act.put, List.getElem_toArray, List.getElem_cons_succ, List.getElem_cons_zero, List.setIfInBounds_toArray, List.set_cons_succ, List.set_cons_zero]
    clear hK_
    refine wpAnyH_two (j := 10) (k := 11) (fuel := 2) (by kernel_rfl) rfl rfl (by kernel_rfl) (by kernel_rfl) (fun K_ hK_ => ?_) (fun K_ hK_ => ?_)
    · have hM1 : BysB q15 (.slice (some ⟨g, 32, none⟩) 32 32) (tk key) := by
        have h0 : Bys q15 (.slice (some ⟨g, 0, none⟩) 64 64) (bl (ck key ++ tk key)) := by
          have h := Bys.of_row rg (by rw [xpd_len]; decide) (xpd_bd _ _ _) 64
          rw [xpd_len] at h
          rw [bl_app, ck_tk]
          exact h
        have hl : (ck key ++ tk key).length = 64 := by rw [List.length_append, ck_len, tk_len]
        have h1 : BysB q15 (.slice (some ⟨g, 0, none⟩) (ck key ++ tk key).length 64) (ck key ++ tk key) := ⟨by rw [hl]; exact h0, by rw [hl]; decide, fun a l c h h2 => by cases h; cases h2⟩
        have h2 := bysB_drop (m := 32) (n := 32) h1 (by rw [hl]; decide) (by rw [hl]) 32
        rw [List.drop_left' (ck_len key)] at h2
        exact h2
      have qU := own_capB hU
      have hM2 := hU.bysB (by rw [hul.out]; omega)
      have cU : Calls Tryd.prog 18 #[.slice (some ⟨g, 32, none⟩) 32 32, v_] q15 fun e w' => e = .returned (.agg (irow .u8 (su key nonce extra X))) ∧ Below q15.heap.size q15 w' := by
        have h := a_macSum (bl (tk key)) (bl (undB nonce extra X)) q15 _ _ (hS.below hw) (hK.below hw) hM1.1 (fun a l c h => by cases h; exact Nat.le_refl _) (by rw [bl_len, tk_len]; decide) hM2.1 qU (by rw [bl_len, hul.out]; omega)
        rw [bl_undB] at h
        exact h
      clear hM1 hM2 qU
      clear hU
      refine wp_call_ex (f := 18) (by kernel_rfl) (ex1s cU) (fun v_ q16 hX_ => ?_)
      obtain ⟨rfl, hb_⟩ := hX_
      replace R1 := keep hb_ R1
      replace rg := keep hb_ rg
      replace hw := Below.after hw hb_
      clear hb_
      clear cU
      refine hK_ _ _ (R1) ?_
      simp only [Act.put, List.getElem_toArray, List.getElem_cons_succ, List.getElem_cons_zero, List.setIfInBounds_toArray, List.set_cons_succ, List.set_cons_zero]
      clear hK_
      refine wpAnyH_one (k := 11) (fuel := 1) (by kernel_rfl) rfl (by kernel_rfl) (fun K_ hK_ => ?_)
      refine wp_world_op (.pointer (some ⟨q16.heap.size, 0, none⟩)) (q16.alloc (.cells (irow .u8 (zr 32)) 23)) (by kernel_rfl) ?_
      have hb_ : Below q16.heap.size q16 (q16.alloc (.cells (irow .u8 (zr 32)) 23)) := (Below.refl _ _).alloc (Nat.le_refl _) _
      have sz_g18 : w.heap.size ≤ q16.heap.size := hw.size
      have lt_R1_g18 := lt_of_row R1
      have lt_rg_g18 := lt_of_row rg
      have rA := hp1_0 q16 (.cells (irow .u8 (zr 32)) 23)
      replace R1 := keep hb_ R1
      replace rg := keep hb_ rg
      replace hw := Below.after hw hb_
      clear hb_
      refine hK_ _ _ (R1) ?_
      simp only [Act.put, List.getElem_toArray, List.getElem_cons_succ, List.getElem_cons_zero, List.setIfInBounds_toArray, List.set_cons_succ, List.set_cons_zero]
      clear hK_
      generalize q16.alloc (.cells (irow .u8 (zr 32)) 23) = q17 at *
      generalize q16.heap.size = g18 at *
      refine wpAnyH_one (k := 12) (fuel := 0) (by kernel_rfl) rfl (by kernel_rfl) (fun K_ hK_ => ?_)
      refine wp_store_row 23 _ _ rfl (g18) (irow .u8 (su key nonce extra X)) rfl rfl 23 _ rA (infok8 _ hHl.out) (fit32 _ _ (zr_len 32) hHl.out) (irow_one _ _) ?_
      replace R1 := (setRow_other q17 (g18) (w.heap.size + 1) (irow .u8 (su key nonce extra X)) (by omega)).trans R1
      replace rg := (setRow_other q17 (g18) (g) (irow .u8 (su key nonce extra X)) (by omega)).trans rg
      replace rA := setRow_heap q17 (g18) _ (irow .u8 (su key nonce extra X)) _ _ rA
      replace hw := below_setRow hw (show w.heap.size ≤ g18 by omega) (irow .u8 (su key nonce extra X))
      refine hK_ _ _ (R1) ?_
      simp only [Act.put]
      clear hK_
      generalize q17.setRow (g18) (irow .u8 (su key nonce extra X)) = q19 at *
      refine wpAnyH_done (by kernel_rfl) ?_ _
      refine NoPanic.normal ?_
      have s16 := slice_16 g18
      go_wp2_with (fail)
      have hbd : Below q19.heap.size q19 q19.drew := below_drN (Below.refl _ _) 1
      replace rA := keep hbd rA
      replace hw := Below.after hw hbd
      clear hbd
      refine wp_region_noPanic ?_
      refine wp_region_held (S := fun _ => True) (by kernel_rfl) ?_
      change wpAnyH _ _ _ _ _ _ _ _ (World.drew _)
      generalize q19.drew = wz20 at *
      refine wpAnyH_take (i := 0) (v := ?v14) rfl (by kernel_rfl) (by kernel_rfl) (by kernel_rfl) (fun _ _ _ h => h) (Or.inl ⟨by rfl, ?y14⟩) (trivial) ?r14
      case y14 =>
        intro w_ hS_
        go_simp
        try with_reducible rfl
      simp only [Act.put, List.getElem_toArray, List.getElem_cons_zero, List.setIfInBounds_toArray, List.set_cons_succ, List.set_cons_zero]
      refine wpAnyH_take (i := 1) (v := ?v15) rfl (by kernel_rfl) (by kernel_rfl) (by kernel_rfl) (fun _ _ _ h => h) (Or.inl ⟨by rfl, ?y15⟩) (trivial) ?r15
      case y15 =>
        intro w_ hS_
        go_simp
        try with_reducible rfl
      simp only [Act.put, List.getElem_toArray, List.getElem_cons_succ, List.getElem_cons_zero, List.setIfInBounds_toArray, List.set_cons_succ, List.set_cons_zero]
      refine wpAnyH_take (i := 2) (v := ?v16) rfl (by kernel_rfl) (by kernel_rfl) (by kernel_rfl) (fun _ _ _ h => h) (Or.inl ⟨by rfl, ?y16⟩) (trivial) ?r16
      case y16 =>
        intro w_ hS_
        go_simp
        try with_reducible rfl
      simp only [Act.put, List.getElem_toArray, List.getElem_cons_succ, List.getElem_cons_zero, List.setIfInBounds_toArray, List.set_cons_succ, List.set_cons_zero]
      refine wpAnyH_take (i := 3) (v := ?v17) rfl (by kernel_rfl) (by kernel_rfl) (by kernel_rfl) (fun _ _ _ h => h) (Or.inl ⟨by rfl, ?y17⟩) (trivial) ?r17
      case y17 =>
        intro w_ hS_
        go_simp
        try with_reducible rfl
      simp only [Act.put, List.getElem_toArray, List.getElem_cons_succ, List.getElem_cons_zero, List.setIfInBounds_toArray, List.set_cons_succ, List.set_cons_zero]
      refine wpAnyH_take (i := 4) (v := ?v18) rfl (by kernel_rfl) (by kernel_rfl) (by kernel_rfl) (fun _ _ _ h => h) (Or.inl ⟨by rfl, ?y18⟩) (trivial) ?r18
      case y18 =>
        intro w_ hS_
        go_simp
        try with_reducible rfl
      simp only [Act.put, List.getElem_toArray, List.getElem_cons_succ, List.getElem_cons_zero, List.setIfInBounds_toArray, List.set_cons_succ, List.set_cons_zero]
      refine wpAnyH_take (i := 5) (v := ?v19) rfl (by kernel_rfl) (by kernel_rfl) (by kernel_rfl) (fun _ _ _ h => h) (Or.inl ⟨by rfl, ?y19⟩) (trivial) ?r19
      case y19 =>
        intro w_ hS_
        go_simp
        try with_reducible rfl
      simp only [Act.put, List.getElem_toArray, List.getElem_cons_succ, List.getElem_cons_zero, List.setIfInBounds_toArray, List.set_cons_succ, List.set_cons_zero]
      refine wpAnyH_one (k := 6) (fuel := 1) (by kernel_rfl) rfl (by kernel_rfl) (fun K_ hK_ => ?_)
      have hBt := tag_bys rA hHl.out hHz.out
      have cS := sB_same (lb ((su key nonce extra X).take 16)) T wz20 _ _ hBt.1 (hTh.out _ hw).1
      rw [hd.out] at cS
      clear hBt
      refine wp_call_ex (f := 11) (by kernel_rfl) (ex1s cS) (fun v_ q21 hX_ => ?_)
      obtain ⟨rfl, hb_⟩ := hX_
      replace rA := keep hb_ rA
      replace hw := Below.after hw hb_
      clear hb_
      clear cS
      refine hK_ _ _ (trivial) ?_
      simp only [Act.put, List.getElem_toArray, List.getElem_cons_succ, List.getElem_cons_zero, List.setIfInBounds_toArray, List.set_cons_succ, List.set_cons_zero]
      clear hK_
      refine wpAnyH_take (i := 7) (v := ?v20) rfl (by kernel_rfl) (by kernel_rfl) (by kernel_rfl) (fun _ _ _ h => h) (Or.inl ⟨by rfl, ?y20⟩) (trivial) ?r20
      case y20 =>
        intro w_ hS_
        go_simp
        try with_reducible rfl
      simp only [Act.put, List.getElem_toArray, List.getElem_cons_succ, List.getElem_cons_zero, List.setIfInBounds_toArray, List.set_cons_succ, List.set_cons_zero]
      refine wpAnyH_done (by kernel_rfl) ?_ _
      refine NoPanic.normal ?_
      go_wp2
      go_ret
      exact ⟨rfl, hw⟩
    · refine wp_world_op (.pointer (some ⟨q15.heap.size, 0, none⟩)) (q15.alloc (.cells (irow .u8 (zr 32)) 23)) (by kernel_rfl) ?_
      have hb_ : Below q15.heap.size q15 (q15.alloc (.cells (irow .u8 (zr 32)) 23)) := (Below.refl _ _).alloc (Nat.le_refl _) _
      have sz_g23 : w.heap.size ≤ q15.heap.size := hw.size
      have lt_R1_g23 := lt_of_row R1
      have lt_rg_g23 := lt_of_row rg
      have rA := hp1_0 q15 (.cells (irow .u8 (zr 32)) 23)
      replace R1 := keep hb_ R1
      replace rg := keep hb_ rg
      replace hU := hU.keep hb_
      replace hw := Below.after hw hb_
      clear hb_
      refine hK_ _ _ (R1) ?_
      simp only [Act.put, List.getElem_toArray, List.getElem_cons_succ, List.getElem_cons_zero, List.setIfInBounds_toArray, List.set_cons_succ, List.set_cons_zero]
      clear hK_
      generalize q15.alloc (.cells (irow .u8 (zr 32)) 23) = q22 at *
      generalize q15.heap.size = g23 at *
      refine wpAnyH_one (k := 10) (fuel := 1) (by kernel_rfl) rfl (by kernel_rfl) (fun K_ hK_ => ?_)
      have hM1 : BysB q22 (.slice (some ⟨g, 32, none⟩) 32 32) (tk key) := by
        have h0 : Bys q22 (.slice (some ⟨g, 0, none⟩) 64 64) (bl (ck key ++ tk key)) := by
          have h := Bys.of_row rg (by rw [xpd_len]; decide) (xpd_bd _ _ _) 64
          rw [xpd_len] at h
          rw [bl_app, ck_tk]
          exact h
        have hl : (ck key ++ tk key).length = 64 := by rw [List.length_append, ck_len, tk_len]
        have h1 : BysB q22 (.slice (some ⟨g, 0, none⟩) (ck key ++ tk key).length 64) (ck key ++ tk key) := ⟨by rw [hl]; exact h0, by rw [hl]; decide, fun a l c h h2 => by cases h; cases h2⟩
        have h2 := bysB_drop (m := 32) (n := 32) h1 (by rw [hl]; decide) (by rw [hl]) 32
        rw [List.drop_left' (ck_len key)] at h2
        exact h2
      have qU := own_capB hU
      have hM2 := hU.bysB (by rw [hul.out]; omega)
      have cU : Calls Tryd.prog 18 #[.slice (some ⟨g, 32, none⟩) 32 32, v_] q22 fun e w' => e = .returned (.agg (irow .u8 (su key nonce extra X))) ∧ Below q22.heap.size q22 w' := by
        have h := a_macSum (bl (tk key)) (bl (undB nonce extra X)) q22 _ _ (hS.below hw) (hK.below hw) hM1.1 (fun a l c h => by cases h; exact Nat.le_refl _) (by rw [bl_len, tk_len]; decide) hM2.1 qU (by rw [bl_len, hul.out]; omega)
        rw [bl_undB] at h
        exact h
      clear hM1 hM2 qU
      clear hU
      refine wp_call_ex (f := 18) (by kernel_rfl) (ex1s cU) (fun v_ q24 hX_ => ?_)
      obtain ⟨rfl, hb_⟩ := hX_
      replace R1 := keep hb_ R1
      replace rg := keep hb_ rg
      replace rA := keep hb_ rA
      replace hw := Below.after hw hb_
      clear hb_
      clear cU
      refine hK_ _ _ (R1) ?_
      simp only [Act.put, List.getElem_toArray, List.getElem_cons_succ, List.getElem_cons_zero, List.setIfInBounds_toArray, List.set_cons_succ, List.set_cons_zero]
      clear hK_
      refine wpAnyH_one (k := 12) (fuel := 0) (by kernel_rfl) rfl (by kernel_rfl) (fun K_ hK_ => ?_)
      refine wp_store_row 23 _ _ rfl (g23) (irow .u8 (su key nonce extra X)) rfl rfl 23 _ rA (infok8 _ hHl.out) (fit32 _ _ (zr_len 32) hHl.out) (irow_one _ _) ?_
      replace R1 := (setRow_other q24 (g23) (w.heap.size + 1) (irow .u8 (su key nonce extra X)) (by omega)).trans R1
      replace rg := (setRow_other q24 (g23) (g) (irow .u8 (su key nonce extra X)) (by omega)).trans rg
      replace rA := setRow_heap q24 (g23) _ (irow .u8 (su key nonce extra X)) _ _ rA
      replace hw := below_setRow hw (show w.heap.size ≤ g23 by omega) (irow .u8 (su key nonce extra X))
      refine hK_ _ _ (R1) ?_
      simp only [Act.put]
      clear hK_
      generalize q24.setRow (g23) (irow .u8 (su key nonce extra X)) = q25 at *
      refine wpAnyH_done (by kernel_rfl) ?_ _
      refine NoPanic.normal ?_
      have s16 := slice_16 g23
      go_wp2_with (fail)
      have hbd : Below q25.heap.size q25 q25.drew := below_drN (Below.refl _ _) 1
      replace rA := keep hbd rA
      replace hw := Below.after hw hbd
      clear hbd
      refine wp_region_noPanic ?_
      refine wp_region_held (S := fun _ => True) (by kernel_rfl) ?_
      change wpAnyH _ _ _ _ _ _ _ _ (World.drew _)
      generalize q25.drew = wz26 at *
      refine wpAnyH_take (i := 0) (v := ?v21) rfl (by kernel_rfl) (by kernel_rfl) (by kernel_rfl) (fun _ _ _ h => h) (Or.inl ⟨by rfl, ?y21⟩) (trivial) ?r21
      case y21 =>
        intro w_ hS_
        go_simp
        try with_reducible rfl
      simp only [Act.put, List.getElem_toArray, List.getElem_cons_zero, List.setIfInBounds_toArray, List.set_cons_succ, List.set_cons_zero]
      refine wpAnyH_take (i := 1) (v := ?v22) rfl (by kernel_rfl) (by kernel_rfl) (by kernel_rfl) (fun _ _ _ h => h) (Or.inl ⟨by rfl, ?y22⟩) (trivial) ?r22
      case y22 =>
        intro w_ hS_
        go_simp
        try with_reducible rfl
      simp only [Act.put, List.getElem_toArray, List.getElem_cons_succ, List.getElem_cons_zero, List.setIfInBounds_toArray, List.set_cons_succ, List.set_cons_zero]
      refine wpAnyH_take (i := 2) (v := ?v23) rfl (by kernel_rfl) (by kernel_rfl) (by kernel_rfl) (fun _ _ _ h => h) (Or.inl ⟨by rfl, ?y23⟩) (trivial) ?r23
      case y23 =>
        intro w_ hS_
        go_simp
        try with_reducible rfl
      simp only [Act.put, List.getElem_toArray, List.getElem_cons_succ, List.getElem_cons_zero, List.setIfInBounds_toArray, List.set_cons_succ, List.set_cons_zero]
      refine wpAnyH_take (i := 3) (v := ?v24) rfl (by kernel_rfl) (by kernel_rfl) (by kernel_rfl) (fun _ _ _ h => h) (Or.inl ⟨by rfl, ?y24⟩) (trivial) ?r24
      case y24 =>
        intro w_ hS_
        go_simp
        try with_reducible rfl
      simp only [Act.put, List.getElem_toArray, List.getElem_cons_succ, List.getElem_cons_zero, List.setIfInBounds_toArray, List.set_cons_succ, List.set_cons_zero]
      refine wpAnyH_take (i := 4) (v := ?v25) rfl (by kernel_rfl) (by kernel_rfl) (by kernel_rfl) (fun _ _ _ h => h) (Or.inl ⟨by rfl, ?y25⟩) (trivial) ?r25
      case y25 =>
        intro w_ hS_
        go_simp
        try with_reducible rfl
      simp only [Act.put, List.getElem_toArray, List.getElem_cons_succ, List.getElem_cons_zero, List.setIfInBounds_toArray, List.set_cons_succ, List.set_cons_zero]
      refine wpAnyH_take (i := 5) (v := ?v26) rfl (by kernel_rfl) (by kernel_rfl) (by kernel_rfl) (fun _ _ _ h => h) (Or.inl ⟨by rfl, ?y26⟩) (trivial) ?r26
      case y26 =>
        intro w_ hS_
        go_simp
        try with_reducible rfl
      simp only [Act.put, List.getElem_toArray, List.getElem_cons_succ, List.getElem_cons_zero, List.setIfInBounds_toArray, List.set_cons_succ, List.set_cons_zero]
      refine wpAnyH_one (k := 6) (fuel := 1) (by kernel_rfl) rfl (by kernel_rfl) (fun K_ hK_ => ?_)
      have hBt := tag_bys rA hHl.out hHz.out
      have cS := sB_same (lb ((su key nonce extra X).take 16)) T wz26 _ _ hBt.1 (hTh.out _ hw).1
      rw [hd.out] at cS
      clear hBt
      refine wp_call_ex (f := 11) (by kernel_rfl) (ex1s cS) (fun v_ q27 hX_ => ?_)
      obtain ⟨rfl, hb_⟩ := hX_
      replace rA := keep hb_ rA
      replace hw := Below.after hw hb_
      clear hb_
      clear cS
      refine hK_ _ _ (trivial) ?_
      simp only [Act.put, List.getElem_toArray, List.getElem_cons_succ, List.getElem_cons_zero, List.setIfInBounds_toArray, List.set_cons_succ, List.set_cons_zero]
      clear hK_
      refine wpAnyH_take (i := 7) (v := ?v27) rfl (by kernel_rfl) (by kernel_rfl) (by kernel_rfl) (fun _ _ _ h => h) (Or.inl ⟨by rfl, ?y27⟩) (trivial) ?r27
      case y27 =>
        intro w_ hS_
        go_simp
        try with_reducible rfl
      simp only [Act.put, List.getElem_toArray, List.getElem_cons_succ, List.getElem_cons_zero, List.setIfInBounds_toArray, List.set_cons_succ, List.set_cons_zero]
      refine wpAnyH_done (by kernel_rfl) ?_ _
      refine NoPanic.normal ?_
      go_wp2
      go_ret
      exact ⟨rfl, hw⟩
  · refine wp_world_op (.pointer (some ⟨w3.heap.size, 0, none⟩)) (w3.alloc (.cells (irow .u8 (zr 32)) 23)) (by kernel_rfl) ?_
    have hb_ : Below w3.heap.size w3 (w3.alloc (.cells (irow .u8 (zr 32)) 23)) := (Below.refl _ _).alloc (Nat.le_refl _) _
    have sz_g29 : w.heap.size ≤ w3.heap.size := hw.size
    have lt_R1_g29 := lt_of_row R1
    have lt_rg_g29 := lt_of_row rg
    have rA := hp1_0 w3 (.cells (irow .u8 (zr 32)) 23)
    replace R1 := keep hb_ R1
    replace rg := keep hb_ rg
    replace hw := Below.after hw hb_
    clear hb_
    refine hK_ _ _ (R1) ?_
    simp only [Act.put, List.getElem_toArray, List.getElem_cons_succ, List.getElem_cons_zero, List.setIfInBounds_toArray, List.set_cons_succ, List.set_cons_zero]
    clear hK_
    generalize w3.alloc (.cells (irow .u8 (zr 32)) 23) = q28 at *
    generalize w3.heap.size = g29 at *
    refine wpAnyH_one (k := 9) (fuel := 2) (by kernel_rfl) rfl (by kernel_rfl) (fun K_ hK_ => ?_)
    refine wp_call_ex (f := 19) (by kernel_rfl) (l_under nonce extra X hno q28 _ _ (hEh.out _ hw) (hXh.out _ hw) (by rw [hxl]; omega)) (fun v_ q30 hX_ => ?_)
    obtain ⟨hU, hb_⟩ := hX_
    replace R1 := keep hb_ R1
    replace rg := keep hb_ rg
    replace rA := keep hb_ rA
    replace hw := Below.after hw hb_
    clear hb_
    refine hK_ _ _ (R1) ?_
    simp only [Act.put, List.getElem_toArray, List.getElem_cons_succ, List.getElem_cons_zero, List.setIfInBounds_toArray, List.set_cons_succ, List.set_cons_zero]
    clear hK_
    refine wpAnyH_one (k := 10) (fuel := 1) (by kernel_rfl) rfl (by kernel_rfl) (fun K_ hK_ => ?_)
    have hM1 : BysB q30 (.slice (some ⟨g, 32, none⟩) 32 32) (tk key) := by
      have h0 : Bys q30 (.slice (some ⟨g, 0, none⟩) 64 64) (bl (ck key ++ tk key)) := by
        have h := Bys.of_row rg (by rw [xpd_len]; decide) (xpd_bd _ _ _) 64
        rw [xpd_len] at h
        rw [bl_app, ck_tk]
        exact h
      have hl : (ck key ++ tk key).length = 64 := by rw [List.length_append, ck_len, tk_len]
      have h1 : BysB q30 (.slice (some ⟨g, 0, none⟩) (ck key ++ tk key).length 64) (ck key ++ tk key) := ⟨by rw [hl]; exact h0, by rw [hl]; decide, fun a l c h h2 => by cases h; cases h2⟩
      have h2 := bysB_drop (m := 32) (n := 32) h1 (by rw [hl]; decide) (by rw [hl]) 32
      rw [List.drop_left' (ck_len key)] at h2
      exact h2
    have qU := own_capB hU
    have hM2 := hU.bysB (by rw [hul.out]; omega)
    have cU : Calls Tryd.prog 18 #[.slice (some ⟨g, 32, none⟩) 32 32, v_] q30 fun e w' => e = .returned (.agg (irow .u8 (su key nonce extra X))) ∧ Below q30.heap.size q30 w' := by
      have h := a_macSum (bl (tk key)) (bl (undB nonce extra X)) q30 _ _ (hS.below hw) (hK.below hw) hM1.1 (fun a l c h => by cases h; exact Nat.le_refl _) (by rw [bl_len, tk_len]; decide) hM2.1 qU (by rw [bl_len, hul.out]; omega)
      rw [bl_undB] at h
      exact h
    clear hM1 hM2 qU
    clear hU
    refine wp_call_ex (f := 18) (by kernel_rfl) (ex1s cU) (fun v_ q31 hX_ => ?_)
    obtain ⟨rfl, hb_⟩ := hX_
    replace R1 := keep hb_ R1
    replace rg := keep hb_ rg
    replace rA := keep hb_ rA
    replace hw := Below.after hw hb_
    clear hb_
    clear cU
    refine hK_ _ _ (R1) ?_
    simp only [Act.put, List.getElem_toArray, List.getElem_cons_succ, List.getElem_cons_zero, List.setIfInBounds_toArray, List.set_cons_succ, List.set_cons_zero]
    clear hK_
    refine wpAnyH_one (k := 12) (fuel := 0) (by kernel_rfl) rfl (by kernel_rfl) (fun K_ hK_ => ?_)
    refine wp_store_row 23 _ _ rfl (g29) (irow .u8 (su key nonce extra X)) rfl rfl 23 _ rA (infok8 _ hHl.out) (fit32 _ _ (zr_len 32) hHl.out) (irow_one _ _) ?_
    replace R1 := (setRow_other q31 (g29) (w.heap.size + 1) (irow .u8 (su key nonce extra X)) (by omega)).trans R1
    replace rg := (setRow_other q31 (g29) (g) (irow .u8 (su key nonce extra X)) (by omega)).trans rg
    replace rA := setRow_heap q31 (g29) _ (irow .u8 (su key nonce extra X)) _ _ rA
    replace hw := below_setRow hw (show w.heap.size ≤ g29 by omega) (irow .u8 (su key nonce extra X))
    refine hK_ _ _ (R1) ?_
    simp only [Act.put]
    clear hK_
    generalize q31.setRow (g29) (irow .u8 (su key nonce extra X)) = q32 at *
    refine wpAnyH_done (by kernel_rfl) ?_ _
    refine NoPanic.normal ?_
    have s16 := slice_16 g29
    go_wp2_with (fail)
    have hbd : Below q32.heap.size q32 q32.drew := below_drN (Below.refl _ _) 1
    replace rA := keep hbd rA
    replace hw := Below.after hw hbd
    clear hbd
    refine wp_region_noPanic ?_
    refine wp_region_held (S := fun _ => True) (by kernel_rfl) ?_
    change wpAnyH _ _ _ _ _ _ _ _ (World.drew _)
    generalize q32.drew = wz33 at *
    refine wpAnyH_take (i := 0) (v := ?v28) rfl (by kernel_rfl) (by kernel_rfl) (by kernel_rfl) (fun _ _ _ h => h) (Or.inl ⟨by rfl, ?y28⟩) (trivial) ?r28
    case y28 =>
      intro w_ hS_
      go_simp
      try with_reducible rfl
    simp only [Act.put, List.getElem_toArray, List.getElem_cons_zero, List.setIfInBounds_toArray, List.set_cons_succ, List.set_cons_zero]
    refine wpAnyH_take (i := 1) (v := ?v29) rfl (by kernel_rfl) (by kernel_rfl) (by kernel_rfl) (fun _ _ _ h => h) (Or.inl ⟨by rfl, ?y29⟩) (trivial) ?r29
    case y29 =>
      intro w_ hS_
      go_simp
      try with_reducible rfl
    simp only [Act.put, List.getElem_toArray, List.getElem_cons_succ, List.getElem_cons_zero, List.setIfInBounds_toArray, List.set_cons_succ, List.set_cons_zero]
    refine wpAnyH_take (i := 2) (v := ?v30) rfl (by kernel_rfl) (by kernel_rfl) (by kernel_rfl) (fun _ _ _ h => h) (Or.inl ⟨by rfl, ?y30⟩) (trivial) ?r30
    case y30 =>
      intro w_ hS_
      go_simp
      try with_reducible rfl
    simp only [Act.put, List.getElem_toArray, List.getElem_cons_succ, List.getElem_cons_zero, List.setIfInBounds_toArray, List.set_cons_succ, List.set_cons_zero]
    refine wpAnyH_take (i := 3) (v := ?v31) rfl (by kernel_rfl) (by kernel_rfl) (by kernel_rfl) (fun _ _ _ h => h) (Or.inl ⟨by rfl, ?y31⟩) (trivial) ?r31
    case y31 =>
      intro w_ hS_
      go_simp
      try with_reducible rfl
    simp only [Act.put, List.getElem_toArray, List.getElem_cons_succ, List.getElem_cons_zero, List.setIfInBounds_toArray, List.set_cons_succ, List.set_cons_zero]
    refine wpAnyH_take (i := 4) (v := ?v32) rfl (by kernel_rfl) (by kernel_rfl) (by kernel_rfl) (fun _ _ _ h => h) (Or.inl ⟨by rfl, ?y32⟩) (trivial) ?r32
    case y32 =>
      intro w_ hS_
      go_simp
      try with_reducible rfl
    simp only [Act.put, List.getElem_toArray, List.getElem_cons_succ, List.getElem_cons_zero, List.setIfInBounds_toArray, List.set_cons_succ, List.set_cons_zero]
    refine wpAnyH_take (i := 5) (v := ?v33) rfl (by kernel_rfl) (by kernel_rfl) (by kernel_rfl) (fun _ _ _ h => h) (Or.inl ⟨by rfl, ?y33⟩) (trivial) ?r33
    case y33 =>
      intro w_ hS_
      go_simp
      try with_reducible rfl
    simp only [Act.put, List.getElem_toArray, List.getElem_cons_succ, List.getElem_cons_zero, List.setIfInBounds_toArray, List.set_cons_succ, List.set_cons_zero]
    refine wpAnyH_one (k := 6) (fuel := 1) (by kernel_rfl) rfl (by kernel_rfl) (fun K_ hK_ => ?_)
    have hBt := tag_bys rA hHl.out hHz.out
    have cS := sB_same (lb ((su key nonce extra X).take 16)) T wz33 _ _ hBt.1 (hTh.out _ hw).1
    rw [hd.out] at cS
    clear hBt
    refine wp_call_ex (f := 11) (by kernel_rfl) (ex1s cS) (fun v_ q34 hX_ => ?_)
    obtain ⟨rfl, hb_⟩ := hX_
    replace rA := keep hb_ rA
    replace hw := Below.after hw hb_
    clear hb_
    clear cS
    refine hK_ _ _ (trivial) ?_
    simp only [Act.put, List.getElem_toArray, List.getElem_cons_succ, List.getElem_cons_zero, List.setIfInBounds_toArray, List.set_cons_succ, List.set_cons_zero]
    clear hK_
    refine wpAnyH_take (i := 7) (v := ?v34) rfl (by kernel_rfl) (by kernel_rfl) (by kernel_rfl) (fun _ _ _ h => h) (Or.inl ⟨by rfl, ?y34⟩) (trivial) ?r34
    case y34 =>
      intro w_ hS_
      go_simp
      try with_reducible rfl
    simp only [Act.put, List.getElem_toArray, List.getElem_cons_succ, List.getElem_cons_zero, List.setIfInBounds_toArray, List.set_cons_succ, List.set_cons_zero]
    refine wpAnyH_done (by kernel_rfl) ?_ _
    refine NoPanic.normal ?_
    go_wp2
    go_ret
    exact ⟨rfl, hw⟩
theorem l_tagged (key nonce extra box : List B) (hk : key.length = 32) (hno : nonce.length = 16) (w : World) (ve vb : Value) (hS : Sta w) (hK : Kon w) (hE : BysB w ve extra) (hB : BysB w vb box) (qB : ∀ a l c, vb = .slice a l c → l ≤ c) (hl : extra.length + box.length ≤ 140737488351000) : Calls Tryd.prog 10 #[.agg (irow .u8 (bl key)), .agg (irow .u8 (bl nonce)), ve, vb] w fun e w' => e = .returned (.bool (decide (16 ≤ box.length ∧ otg box = tg key nonce extra (obx box)))) ∧ Below w.heap.size w w' := by
  by_cases h : 16 ≤ box.length
  · refine l_tagged_main key nonce extra box hk hno w ve vb hS hK hE hB qB h hl _ ?_
    exact decide_eq_decide.2 ⟨fun h => h.2, fun h2 => ⟨h, h2⟩⟩
  · rw [decide_eq_false (fun h2 => h h2.1)]
    exact l_tagged_short key nonce extra box hk hno w ve vb hS hK hE hB (by omega)

end Go.Proofs.YtamieopjigjfiabDoor
