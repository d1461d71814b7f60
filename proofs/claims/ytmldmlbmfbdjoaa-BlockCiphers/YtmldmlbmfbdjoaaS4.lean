import Derived.Test.YtmldmlbmfbdjoaaProg
import Derived.WalkKit
import Derived.WalkSpells
import Derived.WalkLawsBesides
import Derived.Lib.QuietBelow
import Derived.BigQuiet
import Derived.Test.YtmldmlbmfbdjoaaS0
import Derived.Test.YtmldmlbmfbdjoaaS2
import Derived.Deep.RegionHeld3
import Derived.Test.YtmldmlbmfbdjoaaS3
import Derived.Deep.Slices
namespace Go.Proofs.Ytmldmlbmfbdjoaa
open Go Go.RowKit Go.Sort
attribute [local go_sem] setCell_drewN alloc_drewN


theorem ovw_all : ∀ (vs : List Value) (cs : Array Value) (o : Nat), o + vs.length ≤ cs.size → (ovw cs o vs).toList = cs.toList.take o ++ vs ++ cs.toList.drop (o + vs.length)
  | [], cs, o, _ => by simp [ovw]
  | v :: r, cs, o, h => by
    have h' : o < cs.toList.length := by simp at h ⊢; omega
    rw [ovw, ovw_all r _ _ (by simp at h ⊢; omega), Array.toList_setIfInBounds, List.set_eq_take_append_cons_drop, if_pos h']
    have e : (cs.toList.take o).length = o := by rw [List.length_take]; omega
    rw [List.take_append, List.drop_append, e, List.take_take, show min (o + 1) o = o by omega, show o + 1 - o = 1 by omega, List.drop_eq_nil_of_le (show (cs.toList.take o).length ≤ o + 1 + r.length by omega), show o + 1 + r.length - o = r.length + 1 by omega, List.drop_succ_cons, List.drop_drop, List.length_cons, show o + 1 + r.length = o + (r.length + 1) by omega]
    simp
/-- A cipher's cells under way. -/
def cpx (a s b : List Int) : Array Value := irow .u32 a ++ (irow .u8 s ++ irow .u8 b)
theorem cpx_size (a s b : List Int) : (cpx a s b).size = a.length + (s.length + b.length) := by
  rw [cpx, Array.size_append, Array.size_append, irow_size, irow_size, irow_size]
theorem cpx_list (a s b : List Int) : (cpx a s b).toList = a.map (Value.int .u32) ++ (s.map (Value.int .u8) ++ b.map (Value.int .u8)) := by simp [cpx, irow]
theorem cpx_sub (a s b t : List Int) (ha : a.length = 60) (hs : s.length = 256) (ht : t.length = 256) : ovw (cpx a s b) 60 (irow .u8 t).toList = cpx a t b := by
  apply Array.ext'
  rw [ovw_all _ _ _ (by rw [cpx_size]; simp [irow]; omega), cpx_list, cpx_list]
  have h1 : (a.map (Value.int .u32)).length = 60 := by simp [ha]
  have h2 : (s.map (Value.int .u8)).length = 256 := by simp [hs]
  have h3 : (irow .u8 t).toList = t.map (Value.int .u8) := by simp [irow]
  rw [h3, List.length_map, ht, List.take_append_of_le_length (by omega), List.take_of_length_le (by omega), List.drop_append, h1, List.drop_of_length_le (by omega), List.drop_append, h2, List.drop_of_length_le (by omega)]
  simp
theorem cpx_back (a s b t : List Int) (ha : a.length = 60) (hs : s.length = 256) (hb : b.length = 256) (ht : t.length = 256) : ovw (cpx a s b) 316 (irow .u8 t).toList = cpx a s t := by
  apply Array.ext'
  rw [ovw_all _ _ _ (by rw [cpx_size]; simp [irow]; omega), cpx_list, cpx_list]
  have h1 : (a.map (Value.int .u32)).length = 60 := by simp [ha]
  have h2 : (s.map (Value.int .u8)).length = 256 := by simp [hs]
  have h4 : (b.map (Value.int .u8)).length = 256 := by simp [hb]
  have h3 : (irow .u8 t).toList = t.map (Value.int .u8) := by simp [irow]
  rw [h3, List.length_map, ht, ← List.append_assoc, List.take_append_of_le_length (by simp; omega), List.take_of_length_le (by simp; omega), List.drop_of_length_le (by simp; omega)]
  simp
theorem cpx_keys (a s b t : List Int) (ha : a.length = 60) (ht : t.length = 60) : ovw (cpx a s b) 0 (irow .u32 t).toList = cpx t s b := by
  apply Array.ext'
  rw [ovw_all _ _ _ (by rw [cpx_size]; simp [irow]; omega), cpx_list, cpx_list]
  have h1 : (a.map (Value.int .u32)).length = 60 := by simp [ha]
  have h3 : (irow .u32 t).toList = t.map (Value.int .u32) := by simp [irow]
  rw [h3, List.length_map, ht, Nat.zero_add, List.drop_append, h1, List.drop_of_length_le (by omega)]
  simp
theorem builtC : Try.prog.built 65 [] = some (cpx (zr 60) (zr 256) (zr 256)) := by kernel_rfl
theorem bCi (cs : Array Value) (W : World) : (Instr.box 65 (.agg cs)).run Try.prog W = .ok (.pointer (some ⟨W.heap.size, 0, none⟩)) (W.alloc (.cells cs 65)) := by kernel_rfl
theorem cpx_cell {W : World} {g : Nat} {a b : List Int} {t : TypeId} (h : W.heap[g]? = some (.cells (cpx a (bl sbl) b) t (0, 0))) (ha : a.length = 60) (x : B) : W.cell? ⟨g, 60 + x.toNat, none⟩ = some (.int .u8 (bv (sb x))) := by
  have hx := x.isLt
  rw [cell_of_row W g _ _ _ (0, 0) h, cpx, Array.getElem?_append_right (by rw [irow_size, ha]; omega), Array.getElem?_append_left (by rw [irow_size, irow_size, ha, bl_len, sbl_len]; omega), irow_size, ha, show 60 + x.toNat - 60 = x.toNat by omega, irow_get _ _ _ (by rw [bl_len, sbl_len]; exact hx), bl_get, sbl_get]

set_option maxRecDepth 100000 in
set_option maxHeartbeats 4000000 in
theorem a_new (key : List B) (hl : key.length = 32) (w : World) : Calls Try.prog 17 #[.agg (irow .u8 (bl (key)))] w fun e w' => ∃ v, e = .returned v ∧ ∃ g, v = .pointer (some ⟨g, 0, none⟩) ∧ w.heap.size ≤ g ∧ Cph w' g (ks key 60) ∧ Below w.heap.size w w' := by
  have R0 := hp2_0 w (.cells (irow .u8 (bl (key))) 26) (.cells (cpx (zr 60) (zr 256) (zr 256)) 65)
  have R1 := hp2_1 w (.cells (irow .u8 (bl (key))) 26) (.cells (cpx (zr 60) (zr 256) (zr 256)) 65)
  have hw : Below w.heap.size w ((w.alloc (.cells (irow .u8 (bl (key))) 26)).alloc (.cells (cpx (zr 60) (zr 256) (zr 256)) 65)) := (((Below.refl _ _).alloc (Nat.le_refl _) _).alloc (by simp) _)

  have hi0 := info_bl infoKy key hl
  have hi1 := info256 sbl sbl_len
  have hi2 := info256 bkl bkl_len
  have cb := a_boxes
  go_enter Try.func17, Try.ntmps17
  go_wp2_with (first | (refine wpList_box rfl 26 _ rfl _ rfl (bKey _) ?_) | (refine wpList_build_as rfl 65 _ rfl [] rfl (cpx (zr 60) (zr 256) (zr 256)) builtC ?_) | (refine wpList_box rfl 65 _ rfl _ rfl (bCi _) ?_) | fail)
  try simp only [size_alloc1, Act.put, List.setIfInBounds_toArray, List.set_cons_succ, List.set_cons_zero]
  generalize World.alloc _ _ = w0 at *
  refine (cb.at _).mono ?_
  rintro e_ w1 ⟨rfl, hb⟩
  replace R0 := keep hb R0
  replace R1 := keep hb R1
  replace hw := Below.after hw hb
  clear hb cb
  go_wp2_with (first | (refine wpList_store_part rfl 55 _ _ rfl (w.heap.size + 1) 60 (irow .u8 (bl (sbl))) rfl rfl 65 (cpx (zr 60) (zr 256) (zr 256)) (cpx (zr 60) (bl sbl) (zr 256)) R1 (by rw [cpx_size, irow_size, bl_len, sbl_len, zr_len, zr_len]; omega) (cpx_sub _ _ _ _ (zr_len _) (zr_len _) (by rw [bl_len, sbl_len])) hi1 (irow_one _ _) ?_; refine wpList_stay ?_) | fail)
  unfold WpStay
  replace R0 := (setRow_other w1 (w.heap.size + 1) (w.heap.size) (cpx (zr 60) (bl sbl) (zr 256)) (by omega)).trans R0
  replace R1 := setRow_heap w1 (w.heap.size + 1) _ (cpx (zr 60) (bl sbl) (zr 256)) _ _ R1
  replace hw := below_setRow hw (show w.heap.size ≤ w.heap.size + 1 by omega) (cpx (zr 60) (bl sbl) (zr 256))
  generalize w1.setRow (w.heap.size + 1) (cpx (zr 60) (bl sbl) (zr 256)) = w2 at *
  go_wp2_with (first | (refine wpList_store_part rfl 55 _ _ rfl (w.heap.size + 1) 316 (irow .u8 (bl (bkl))) rfl rfl 65 (cpx (zr 60) (bl sbl) (zr 256)) (cpx (zr 60) (bl sbl) (bl bkl)) R1 (by rw [cpx_size, irow_size, bl_len, bl_len, bkl_len, sbl_len, zr_len, zr_len]; omega) (cpx_back _ _ _ _ (zr_len _) (by rw [bl_len, sbl_len]) (zr_len _) (by rw [bl_len, bkl_len])) hi2 (irow_one _ _) ?_; refine wpList_stay ?_) | fail)
  unfold WpStay
  replace R0 := (setRow_other w2 (w.heap.size + 1) (w.heap.size) (cpx (zr 60) (bl sbl) (bl bkl)) (by omega)).trans R0
  replace R1 := setRow_heap w2 (w.heap.size + 1) _ (cpx (zr 60) (bl sbl) (bl bkl)) _ _ R1
  replace hw := below_setRow hw (show w.heap.size ≤ w.heap.size + 1 by omega) (cpx (zr 60) (bl sbl) (bl bkl))
  generalize w2.setRow (w.heap.size + 1) (cpx (zr 60) (bl sbl) (bl bkl)) = w3 at *
  go_wp2_with (fail)
  have HR0 := keepr R0
  have HR1 := keepr R1
  refine wp_region_tail (C := fun w' => ∃ p : Regrown, w' = grow (redrawn w3 p.d) p.os) 8 _ rfl rfl rfl (by kernel_rfl) (by kernel_rfl) (by kernel_rfl) (by kernel_rfl) ⟨⟨w3.drawn + 1, #[]⟩, by rw [grow_empty]; rfl⟩ ?_
  dsimp only [List.set, idle]
  go_big_quiet_step (fail)
  refine wpQuiet_load_row rfl 26 _ rfl (w.heap.size) rfl 26 (irow .u8 (bl (key))) (0, 0) _ HR0.out Try.underlying26 rfl hi0 ?_
  simp only [Act.put, List.setIfInBounds_toArray, List.set_cons_succ, List.set_cons_zero]
  go_big_quiet_step (fail)
  go_big_quiet_step (fail)
  go_big_quiet_step (fail)
  go_big_quiet_step (exact Calls.regrown_of (a_roundKeys key hl (w.heap.size + 1) 60 _ (lt_of_row (HR1.out _ ⟨_, rfl⟩)) (fun x => cpx_cell (HR1.out _ ⟨_, rfl⟩) (zr_len 60) x)))
  go_big_quiet_step (fail)
  go_big_quiet_step (fail)
  refine wpQuiet_idle rfl rfl rfl ?_
  rintro _ ⟨p, rfl⟩
  have hb := below_regrown w3 p.d p.os
  generalize grow (redrawn w3 p.d) p.os = w4 at *
  replace R0 := keep hb R0
  replace R1 := keep hb R1
  replace hw := Below.after hw hb
  clear hb

  have hi5 := info_wl info15 (wos (ks key 60) 60) (wos_len _ _)
  refine wpList_store_part rfl 63 _ _ rfl (w.heap.size + 1) 0 (irow .u32 (wl (wos (ks key 60) 60))) rfl rfl 65 (cpx (zr 60) (bl sbl) (bl bkl)) (cph (ks key 60)) R1 (by rw [cpx_size, irow_size, wl_len, wos_len, zr_len]; omega) (cpx_keys _ _ _ _ (zr_len _) (by rw [wl_len, wos_len])) hi5 (irow_one _ _) ?_
  simp only [Act.put]
  replace R1 := setRow_heap w4 (w.heap.size + 1) _ (cph (ks key 60)) _ _ R1
  replace hw := below_setRow hw (show w.heap.size ≤ w.heap.size + 1 by omega) (cph (ks key 60))
  generalize w4.setRow (w.heap.size + 1) (cph (ks key 60)) = w5 at *
  clear HR0 HR1
  go_wp2
  go_ret
  exact ⟨_, rfl, w.heap.size + 1, rfl, by omega, R1, hw⟩

end Go.Proofs.Ytmldmlbmfbdjoaa


namespace Go.Proofs.Ytmldmlbmfbdjoaa
open Go Go.RowKit Go.Sort
attribute [local go_sem] setCell_drewN alloc_drewN


theorem b16 (cs : Array Value) (W : World) : (Instr.box 27 (.agg cs)).run Try.prog W = .ok (.pointer (some ⟨W.heap.size, 0, none⟩)) (W.alloc (.cells cs 27)) := by kernel_rfl
theorem info16 : (Try.prog.info? 27).map (·.size) = some 16 := by kernel_rfl
theorem bl_inj {a b : List B} (h : bl a = bl b) : a = b := by
  apply List.map_inj_right (f := bv) (fun x y => bv_inj.1) |>.1 h
theorem eqB (a b : List B) (ha : a.length = 16) (hb : b.length = 16) (W : World) : (Op.equalIn 10000 28 (.agg (irow .u8 (bl (a)))) (.agg (irow .u8 (bl (b))))).run Try.prog W = .ok (decide (a = b)) W := by
  obtain ⟨i0, hi⟩ : ∃ i, Try.prog.info? 5 = some i := ⟨_, rfl⟩
  have h := run_equal_ints (P := Try.prog) W Try.underlying28 Try.underlying5 hi (by kernel_rfl) (bl a) (bl b) (by rw [bl_len, ha]) (by rw [bl_len, hb])
  have e : decide (bl a = bl b) = decide (a = b) := by
    by_cases q : a = b
    · rw [q]; simp
    · rw [decide_eq_false q, decide_eq_false (fun h => q (bl_inj h))]
  rw [← e]
  exact h

theorem a_decrypt_enc (l K : List B) (hl : l.length = 16) (g : Nat) (w : World) (hC : Cph w g K) : Calls Try.prog 20 #[.pointer (some ⟨g, 0, none⟩), .agg (irow .u8 (bl (enc K l)))] w fun e w' => e = .returned (.agg (irow .u8 (bl (l)))) ∧ Below w.heap.size w w' := by
  have := a_decrypt (enc K l) K (enc_len _ _) g w hC
  rwa [dec_enc K l hl] at this
theorem a_encrypt_dec (l K : List B) (hl : l.length = 16) (g : Nat) (w : World) (hC : Cph w g K) : Calls Try.prog 18 #[.pointer (some ⟨g, 0, none⟩), .agg (irow .u8 (bl (dec K l)))] w fun e w' => e = .returned (.agg (irow .u8 (bl (l)))) ∧ Below w.heap.size w w' := by
  have := a_encrypt (dec K l) K (dec_len _ _) g w hC
  rwa [enc_dec K l hl] at this
set_option maxRecDepth 100000 in
set_option maxHeartbeats 4000000 in
theorem back_any (key l : List B) (hk : key.length = 32) (hl : l.length = 16) (x : B) : Gives 7 #[.agg (irow .u8 (bl (key))), .agg (irow .u8 (bl (l))), .int .u8 (bv x)] (.bool true) := by
  intro w
  have R0 := hp2_0 w (.cells (irow .u8 (bl (key))) 26) (.cells (irow .u8 (bl (l))) 27)
  have R1 := hp2_1 w (.cells (irow .u8 (bl (key))) 26) (.cells (irow .u8 (bl (l))) 27)
  have hw : Below w.heap.size w ((w.alloc (.cells (irow .u8 (bl (key))) 26)).alloc (.cells (irow .u8 (bl (l))) 27)) := (((Below.refl _ _).alloc (Nat.le_refl _) _).alloc (by simp) _)

  have hiK := info_bl infoKy key hk
  have hi6 := info_bl info16 l hl
  have hiB := info_bl infoB l hl
  have s0 : Gives 11 #[.int .u8 0] (.int .u8 99) := by have := a_sub 0#8; rw [show sb 0#8 = 99#8 by decide +kernel] at this; exact this
  have s1 : Gives 13 #[.int .u8 99] (.int .u8 0) := by have := a_back 99#8; rw [show bk 99#8 = 0#8 by decide +kernel] at this; exact this
  have s2 := a_sub x
  have s3 := a_back (sb x)
  rw [bk_sb] at s3
  have s4 := a_back x
  have s5 := a_sub (bk x)
  rw [sb_bk] at s5
  have cn := a_new key hk
  generalize ks key 60 = K at *
  go_enter Try.func7, Try.ntmps7
  go_wp2_with (first | (refine wpList_box rfl 26 _ rfl _ rfl (bKey _) ?_) | (refine wpList_box rfl 27 _ rfl _ rfl (b16 _) ?_) | (refine wpList_load_want rfl 26 _ rfl (w.heap.size) rfl 26 (irow .u8 (bl (key))) (0, 0) _ R0 Try.underlying26 rfl hiK ?_) | fail)
  try simp only [size_alloc1, Act.put, List.setIfInBounds_toArray, List.set_cons_succ, List.set_cons_zero]
  generalize World.alloc _ _ = w0 at *
  refine (cn _).mono ?_
  rintro _ w1 ⟨_, rfl, g, rfl, hg, hC, hb⟩
  replace R1 := keep hb R1
  replace hw := Below.after hw hb
  clear hb hg cn R0
  go_wp2_with (fail)
  refine (s0.at _).mono ?_
  rintro e_ w2 ⟨rfl, hb⟩
  replace R1 := keep hb R1
  replace hC := hC.keep hb
  replace hw := Below.after hw hb
  clear hb

  go_wp2_with (fail)
  refine (s1.at _).mono ?_
  rintro e_ w3 ⟨rfl, hb⟩
  replace R1 := keep hb R1
  replace hC := hC.keep hb
  replace hw := Below.after hw hb
  clear hb

  have R9 := hp1_0 w3 (.cells (irow .u8 (zr 16)) 28)
  have HB : Below w3.heap.size w3 (w3.alloc (.cells (irow .u8 (zr 16)) 28)) := (Below.refl _ _).alloc (Nat.le_refl _) _
  have hf9 : (irow .u8 (zr 16)).size = (irow .u8 (bl (l))).size := by rw [irow_size, irow_size, zr_len, bl_len, hl]
  go_wp2_with (first | (refine wpList_load_want rfl 27 _ rfl (w.heap.size + 1) rfl 27 (irow .u8 (bl (l))) (0, 0) _ R1 Try.underlying27 rfl hi6 ?_) | (refine wpList_alloc rfl 28 rfl (irow .u8 (zr 16)) zBl ?_) | (refine wpList_store_row rfl 28 _ _ rfl (w3.heap.size) (irow .u8 (bl (l))) rfl rfl 28 _ R9 hiB hf9 (irow_one _ _) ?_; refine wpList_stay ?_) | fail)
  unfold WpStay
  have hsz := hw.size
  have lC := lt_of_row hC
  replace hC : Cph _ g K := (setRow_other _ (w3.heap.size) g (irow .u8 (bl (l))) (Nat.ne_of_lt lC)).trans (keep HB hC)
  replace R9 := setRow_heap _ (w3.heap.size) _ (irow .u8 (bl (l))) _ _ R9
  replace hw := below_setRow (Below.after hw HB) hsz (irow .u8 (bl (l)))
  clear HB hf9
  generalize World.setRow _ (w3.heap.size) (irow .u8 (bl (l))) = w4 at *
  generalize w3.heap.size = gP at *
  have rp := R9
  clear R9

  clear R1
  have q1 := fun W => eqB l l hl hl W
  simp only [decide_true] at q1
  go_wp2_with (fail)
  have Hrp := keepr rp
  have HC := keepr hC
  refine wp_region_quiet_below (by kernel_rfl) (by kernel_rfl) ?_
  go_big_quiet_step (fail)
  go_big_quiet_step (fail)
  refine wpQuiet_load_part rfl 28 _ rfl (gP) 0 rfl 28 (irow .u8 (bl (l))) (0, 0) (irow .u8 (bl (l))) _ Hrp.out (by simp) Try.underlying28 rfl hiB ?_
  simp only [Act.put, List.setIfInBounds_toArray, List.set_cons_succ, List.set_cons_zero]
  go_big_quiet_step (exact Calls.regrown_of (a_encrypt l K hl g _ (HC.out _ ⟨_, rfl⟩)))
  go_big_quiet_step (exact Calls.regrown_of (a_decrypt_enc l K hl g _ (HC.out _ ⟨_, rfl⟩)))
  refine wpQuiet_load_part rfl 28 _ rfl (gP) 0 rfl 28 (irow .u8 (bl (l))) (0, 0) (irow .u8 (bl (l))) _ Hrp.out (by simp) Try.underlying28 rfl hiB ?_
  simp only [Act.put, List.setIfInBounds_toArray, List.set_cons_succ, List.set_cons_zero]
  go_big_quiet_step (fail)
  go_big_quiet_step (fail)
  go_big_quiet_step (fail)
  go_big_quiet_step (fail)
  refine wpQuiet_load_part rfl 28 _ rfl (gP) 0 rfl 28 (irow .u8 (bl (l))) (0, 0) (irow .u8 (bl (l))) _ Hrp.out (by simp) Try.underlying28 rfl hiB ?_
  simp only [Act.put, List.setIfInBounds_toArray, List.set_cons_succ, List.set_cons_zero]
  go_big_quiet_step (exact Calls.regrown_of (a_decrypt l K hl g _ (HC.out _ ⟨_, rfl⟩)))
  go_big_quiet_step (exact Calls.regrown_of (a_encrypt_dec l K hl g _ (HC.out _ ⟨_, rfl⟩)))
  refine wpQuiet_load_part rfl 28 _ rfl (gP) 0 rfl 28 (irow .u8 (bl (l))) (0, 0) (irow .u8 (bl (l))) _ Hrp.out (by simp) Try.underlying28 rfl hiB ?_
  simp only [Act.put, List.setIfInBounds_toArray, List.set_cons_succ, List.set_cons_zero]
  go_big_quiet_step (fail)
  go_big_quiet_step (fail)
  refine wpQuiet_nil ?_
  rintro _ ⟨p, rfl⟩
  have hb := below_regrown w4 p.d p.os
  generalize grow (redrawn w4 p.d) p.os = w5 at *
  clear HC Hrp
  replace rp := keep hb rp
  replace hC := hC.keep hb
  replace hw := Below.after hw hb
  clear hb

  have R9 := hp1_0 w5 (.cells (irow .u8 (zr 16)) 28)
  have HB : Below w5.heap.size w5 (w5.alloc (.cells (irow .u8 (zr 16)) 28)) := (Below.refl _ _).alloc (Nat.le_refl _) _
  have hf9 : (irow .u8 (zr 16)).size = (irow .u8 (bl (l))).size := by rw [irow_size, irow_size, zr_len, bl_len, hl]
  go_wp2_with (first | (refine wpList_load_want rfl 28 _ rfl (gP) rfl 28 (irow .u8 (bl (l))) (0, 0) _ rp Try.underlying28 rfl hiB ?_) | (refine wpList_alloc rfl 28 rfl (irow .u8 (zr 16)) zBl ?_) | (refine wpList_store_row rfl 28 _ _ rfl (w5.heap.size) (irow .u8 (bl (l))) rfl rfl 28 _ R9 hiB hf9 (irow_one _ _) ?_; refine wpList_stay ?_) | fail)
  unfold WpStay
  have hsz := hw.size
  have lC := lt_of_row hC
  have lrp := lt_of_row rp
  replace rp := (setRow_other _ (w5.heap.size) _ (irow .u8 (bl (l))) (Nat.ne_of_lt lrp)).trans (keep HB rp)
  replace hC : Cph _ g K := (setRow_other _ (w5.heap.size) g (irow .u8 (bl (l))) (Nat.ne_of_lt lC)).trans (keep HB hC)
  replace R9 := setRow_heap _ (w5.heap.size) _ (irow .u8 (bl (l))) _ _ R9
  replace hw := below_setRow (Below.after hw HB) hsz (irow .u8 (bl (l)))
  clear HB hf9
  generalize World.setRow _ (w5.heap.size) (irow .u8 (bl (l))) = w6 at *
  generalize w5.heap.size = gO at *
  have ro := R9
  clear R9

  have c0 := brow_cell ro (j := 0) (by omega)
  have hf0 := row_frozen ro 0
  have hx := xor8 (l.getD 0 0#8) 1#8
  rw [show bv 1#8 = 1 from rfl] at hx
  have hne : Hid (l.set 0 (l.getD 0 0#8 ^^^ 1#8) ≠ l) := hide (fun h => by
    have := congrArg (fun m => List.getD m 0 0#8) h
    simp only [List.getD_eq_getElem?_getD, List.getElem?_set, hl] at this
    revert this
    generalize l[0]?.getD 0#8 = z
    simp only [if_true]
    exact (by decide +kernel : ∀ z : B, z ^^^ 1#8 = z → False) z)
  have hro := brow_set ro 0 (l.getD 0 0#8 ^^^ 1#8)
  have hlo : (l.set 0 (l.getD 0 0#8 ^^^ 1#8)).length = 16 := by rw [List.length_set, hl]
  generalize l.set 0 (l.getD 0 0#8 ^^^ 1#8) = lo at *
  generalize l.getD 0 0#8 ^^^ 1#8 = z1 at *
  generalize l.getD 0 0#8 = z0 at *
  go_wp2_with (fail)
  replace rp := heap_other (j := 0) (v := .int .u8 (bv z1)) rp (Nat.ne_of_lt lrp)
  replace hC : Cph _ g K := heap_other (j := 0) (v := .int .u8 (bv z1)) hC (Nat.ne_of_lt lC)
  replace hw : Below w.heap.size w (w6.setCell ⟨gO, 0, none⟩ (.int .u8 (bv z1))) := hw.setCell hsz _
  replace ro := hro
  clear hro c0 hf0 hx
  generalize w6.setCell ⟨gO, 0, none⟩ (.int .u8 (bv z1)) = w7 at *
  have q2 := fun W => eqB (enc K lo) (enc K l) (enc_len _ _) (enc_len _ _) W
  rw [decide_eq_false (fun h => hne.out (enc_inj K lo l hlo hl h))] at q2
  have hiO := info_bl infoB lo hlo
  have Hrp := keepr rp
  have Hro := keepr ro
  have HC := keepr hC
  refine wp_region_quiet_below (by kernel_rfl) (by kernel_rfl) ?_
  go_big_quiet_step (fail)
  refine wpQuiet_load_part rfl 28 _ rfl (gO) 0 rfl 28 (irow .u8 (bl (lo))) (0, 0) (irow .u8 (bl (lo))) _ Hro.out (by simp) Try.underlying28 rfl hiO ?_
  simp only [Act.put, List.setIfInBounds_toArray, List.set_cons_succ, List.set_cons_zero]
  go_big_quiet_step (exact Calls.regrown_of (a_encrypt lo K hlo g _ (HC.out _ ⟨_, rfl⟩)))
  go_big_quiet_step (fail)
  refine wpQuiet_load_part rfl 28 _ rfl (gP) 0 rfl 28 (irow .u8 (bl (l))) (0, 0) (irow .u8 (bl (l))) _ Hrp.out (by simp) Try.underlying28 rfl hiB ?_
  simp only [Act.put, List.setIfInBounds_toArray, List.set_cons_succ, List.set_cons_zero]
  go_big_quiet_step (exact Calls.regrown_of (a_encrypt l K hl g _ (HC.out _ ⟨_, rfl⟩)))
  go_big_quiet_step (fail)
  refine wpQuiet_nil ?_
  rintro _ ⟨p, rfl⟩
  have hb := below_regrown w7 p.d p.os
  generalize grow (redrawn w7 p.d) p.os = w8 at *
  clear HC Hrp Hro
  replace rp := keep hb rp
  replace ro := keep hb ro
  replace hC := hC.keep hb
  replace hw := Below.after hw hb
  clear hb

  go_wp2_with (fail)
  refine (s2.at _).mono ?_
  rintro e_ w10 ⟨rfl, hb⟩
  replace hw := Below.after hw hb
  clear hb
  go_wp2_with (fail)
  refine (s3.at _).mono ?_
  rintro e_ w11 ⟨rfl, hb⟩
  replace hw := Below.after hw hb
  clear hb
  go_wp2_with (fail)
  refine (s4.at _).mono ?_
  rintro e_ w12 ⟨rfl, hb⟩
  replace hw := Below.after hw hb
  clear hb
  go_wp2_with (fail)
  refine (s5.at _).mono ?_
  rintro e_ w13 ⟨rfl, hb⟩
  replace hw := Below.after hw hb
  clear hb

  go_wp2
  go_ret
  exact ⟨rfl, hw⟩

end Go.Proofs.Ytmldmlbmfbdjoaa


namespace Go.Proofs.Ytmldmlbmfbdjoaa
open Go Go.RowKit Go.Sort
attribute [local go_sem] setCell_drewN alloc_drewN


/-- What a slice of blocks says in a world. -/
def Bks (W : World) (v : Value) (bs : List (List B)) : Prop := ∃ ao cap, v = .slice ao bs.length cap ∧ bs.length ≤ 9223372036854775807 ∧ ∀ j, j < bs.length → ∃ b off, ao = some ⟨b, off, none⟩ ∧ b < W.heap.size ∧ (bs.getD j []).length = 16 ∧ W.rangeAt b (off + j * 16) (irow .u8 (bl (bs.getD j []))).toList
theorem range_keep {W V : World} {b o : Nat} {cs : List Value} (hb : Below W.heap.size W V) (hl : b < W.heap.size) (h : W.rangeAt b o cs) : V.rangeAt b o cs := fun j v hv => (hb.cell hl).trans (h j v hv)
theorem Bks.keep {W V : World} {v : Value} {bs : List (List B)} (h : Bks W v bs) (hb : Below W.heap.size W V) : Bks V v bs := by
  obtain ⟨ao, cap, e, hl, hc⟩ := h
  refine ⟨ao, cap, e, hl, fun j hj => ?_⟩
  obtain ⟨b, off, e1, h1, h2, h3⟩ := hc j hj
  exact ⟨b, off, e1, Nat.lt_of_lt_of_le h1 hb.size, h2, range_keep hb h1 h3⟩
theorem z16 (W : World) : (Instr.alloc 27 true (.tuple #[])).run Try.prog W = .ok (.pointer (some ⟨W.heap.size, 0, none⟩)) (W.alloc (.cells (irow .u8 (zr 16)) 27)) := by kernel_rfl

set_option maxRecDepth 100000 in
set_option maxHeartbeats 8000000 in
theorem ciphers_any (p q : List B) (hp : p.length = 32) (hq : q.length = 32) (bs : List (List B)) (w : World) (v : Value) (hS : Bks w v bs) : Calls Try.prog 5 #[.agg (irow .u8 (bl (p))), .agg (irow .u8 (bl (q))), v] w fun e w' => e = .returned (.bool true) ∧ Below w.heap.size w w' := by
  have R0 := hp2_0 w (.cells (irow .u8 (bl (p))) 26) (.cells (irow .u8 (bl (q))) 26)
  have R1 := hp2_1 w (.cells (irow .u8 (bl (p))) 26) (.cells (irow .u8 (bl (q))) 26)
  have hw : Below w.heap.size w ((w.alloc (.cells (irow .u8 (bl (p))) 26)).alloc (.cells (irow .u8 (bl (q))) 26)) := (((Below.refl _ _).alloc (Nat.le_refl _) _).alloc (by simp) _)

  replace hS := hS.keep hw
  have hip := info_bl infoKy p hp
  have hiq := info_bl infoKy q hq
  have cn1 := a_new p hp
  have cn2 := a_new q hq
  obtain ⟨ZN, hZ⟩ : ∃ Z : List B, Z = List.replicate 16 0#8 := ⟨_, rfl⟩
  have hNl : ZN.length = 16 := by rw [hZ, List.length_replicate]
  have hzN : ∀ W : World, (Instr.alloc 28 true (.tuple #[])).run Try.prog W = .ok (.pointer (some ⟨W.heap.size, 0, none⟩)) (W.alloc (.cells (irow .u8 (bl (ZN))) 28)) := by rw [hZ, bl_zr]; exact zBl
  clear hZ
  have hiN := info_bl infoB ZN hNl
  have en := r_encrypt p ZN hp hNl
  have ep : ∀ l : List B, l.length = 16 → Gives 19 #[.agg (irow .u8 (bl (p))), .agg (irow .u8 (bl (l)))] (.agg (irow .u8 (bl (enc (ks p 60) l)))) := fun l h => r_encrypt p l hp h
  have eq_ : ∀ l : List B, l.length = 16 → Gives 19 #[.agg (irow .u8 (bl (q))), .agg (irow .u8 (bl (l)))] (.agg (irow .u8 (bl (enc (ks q 60) l)))) := fun l h => r_encrypt q l hq h
  have dp : ∀ l : List B, l.length = 16 → Gives 21 #[.agg (irow .u8 (bl (p))), .agg (irow .u8 (bl (l)))] (.agg (irow .u8 (bl (dec (ks p 60) l)))) := fun l h => r_decrypt p l hp h
  have dq : ∀ l : List B, l.length = 16 → Gives 21 #[.agg (irow .u8 (bl (q))), .agg (irow .u8 (bl (l)))] (.agg (irow .u8 (bl (dec (ks q 60) l)))) := fun l h => r_decrypt q l hq h
  replace ep := hide ep
  replace eq_ := hide eq_
  replace dp := hide dp
  replace dq := hide dq
  generalize ks p 60 = Kp at *
  generalize ks q 60 = Kq at *
  have qN := fun W => eqB (enc Kp ZN) (enc Kp ZN) (enc_len _ _) (enc_len _ _) W
  simp only [decide_true] at qN
  go_enter Try.func5, Try.ntmps5
  go_wp2_with (first | (refine wpList_box rfl 26 _ rfl _ rfl (bKey _) ?_) | fail)
  try simp only [size_alloc1, Act.put, List.setIfInBounds_toArray, List.set_cons_succ, List.set_cons_zero]
  generalize World.alloc _ _ = w0 at *
  have hbd : Below w0.heap.size w0 w0.drew := below_drN (Below.refl _ _) 1
  replace R0 := keep hbd R0
  replace R1 := keep hbd R1
  replace hS := hS.keep hbd
  replace hw := Below.after hw hbd
  clear hbd
  refine wp_region_noPanic ?_
  refine wp_region_any (by kernel_rfl) ?_
  change wpAny _ _ _ _ _ _ _ (World.drew _)
  generalize w0.drew = wd at *
  refine wpAny_ready (rs := [0, 2]) (fuel := 5) (by kernel_rfl) (by simp) (AllReady.cons rfl (fun K' hK => ?_) (AllReady.cons rfl (fun K' hK => ?_) AllReady.nil))
  · rw [if_pos (by kernel_rfl)]
    simp only [List.getElem_toArray, List.getElem_cons_zero]
    refine wp_load_row 26 _ rfl (w.heap.size) rfl 26 (irow .u8 (bl (p))) (0, 0) _ (R0) Try.underlying26 rfl hip (hK _ _ ?_)
    simp only [Act.put, List.setIfInBounds_toArray, List.set_cons_succ, List.set_cons_zero]
    clear hK
    refine wpAny_ready (rs := [1, 2]) (fuel := 4) (by kernel_rfl) (by simp) (AllReady.cons rfl (fun K' hK => ?_) (AllReady.cons rfl (fun K' hK => ?_) AllReady.nil))
    · rw [if_pos (by kernel_rfl)]
      simp only [List.getElem_toArray, List.getElem_cons_succ, List.getElem_cons_zero]
      refine wp_call_ex (f := 17) (by kernel_rfl) (cn1 wd) (fun v_ q1 hX_ => hK _ _ ?_)
      simp only [Act.put, List.setIfInBounds_toArray, List.set_cons_succ, List.set_cons_zero]
      clear hK
      obtain ⟨g1, rfl, hg1, hC1, hb_⟩ := hX_
      replace R0 := keep hb_ R0
      replace R1 := keep hb_ R1
      replace hS := hS.keep hb_
      replace hw := Below.after hw hb_
      clear hb_
      refine wpAny_ready (rs := [2]) (fuel := 3) (by kernel_rfl) (by simp) (AllReady.cons rfl (fun K' hK => ?_) AllReady.nil)
      rw [if_pos (by kernel_rfl)]
      simp only [List.getElem_toArray, List.getElem_cons_succ, List.getElem_cons_zero]
      refine wp_load_row 26 _ rfl (w.heap.size + 1) rfl 26 (irow .u8 (bl (q))) (0, 0) _ (R1) Try.underlying26 rfl hiq (hK _ _ ?_)
      simp only [Act.put, List.setIfInBounds_toArray, List.set_cons_succ, List.set_cons_zero]
      clear hK
      refine wpAny_ready (rs := [3]) (fuel := 2) (by kernel_rfl) (by simp) (AllReady.cons rfl (fun K' hK => ?_) AllReady.nil)
      rw [if_pos (by kernel_rfl)]
      simp only [List.getElem_toArray, List.getElem_cons_succ, List.getElem_cons_zero]
      refine wp_call_ex (f := 17) (by kernel_rfl) (cn2 q1) (fun v_ q2 hX_ => hK _ _ ?_)
      simp only [Act.put, List.setIfInBounds_toArray, List.set_cons_succ, List.set_cons_zero]
      clear hK
      obtain ⟨g2, rfl, hg2, hC2, hb_⟩ := hX_
      replace R0 := keep hb_ R0
      replace R1 := keep hb_ R1
      replace hS := hS.keep hb_
      replace hC1 := hC1.keep hb_
      replace hw := Below.after hw hb_
      clear hb_
      refine wpAny_take (i := 4) (v := ?v1) rfl (by kernel_rfl) (by kernel_rfl) (by kernel_rfl) (fun _ _ _ h => h) (Or.inl ⟨by rfl, ?y1⟩) ?r1
      case y1 =>
        intro w_
        go_simp
        try with_reducible rfl
      simp only [Act.put, List.getElem_toArray, List.getElem_cons_succ, List.getElem_cons_zero, List.setIfInBounds_toArray, List.set_cons_succ, List.set_cons_zero]
      refine wpAny_take (i := 5) (v := ?v2) rfl (by kernel_rfl) (by kernel_rfl) (by kernel_rfl) (fun _ _ _ h => h) (Or.inl ⟨by rfl, ?y2⟩) ?r2
      case y2 =>
        intro w_
        go_simp
        try with_reducible rfl
      simp only [Act.put, List.getElem_toArray, List.getElem_cons_succ, List.getElem_cons_zero, List.setIfInBounds_toArray, List.set_cons_succ, List.set_cons_zero]
      refine wpAny_done (by kernel_rfl) ?_ _
      refine NoPanic.normal ?_
      have rN := hp1_0 q2 (.cells (irow .u8 (bl (ZN))) 28)
      have hb : Below q2.heap.size q2 (q2.alloc (.cells (irow .u8 (bl (ZN))) 28)) := (Below.refl _ _).alloc (Nat.le_refl _) _
      go_wp2_with (first | (refine wpList_alloc rfl 28 rfl (irow .u8 (bl (ZN))) hzN ?_) | fail)
      try simp only [Act.put, List.setIfInBounds_toArray, List.set_cons_succ, List.set_cons_zero]
      replace R0 := keep hb R0
      replace R1 := keep hb R1
      replace hC1 := hC1.keep hb
      replace hC2 := hC2.keep hb
      replace hS := hS.keep hb
      replace hw := Below.after hw hb
      clear hb
      generalize q2.alloc (.cells (irow .u8 (bl (ZN))) 28) = x0 at *
      generalize q2.heap.size = gN at *
      have HR0 := keepr R0
      have HR1 := keepr R1
      have HrN := keepr rN
      have HC1 := keepr hC1
      have HC2 := keepr hC2
      refine wp_region_quiet_below (by kernel_rfl) (by kernel_rfl) ?_
      go_big_quiet_step (fail)
      refine wpQuiet_load_part rfl 28 _ rfl (gN) 0 rfl 28 (irow .u8 (bl (ZN))) (0, 0) (irow .u8 (bl (ZN))) _ HrN.out (by simp) Try.underlying28 rfl hiN ?_
      simp only [Act.put, List.setIfInBounds_toArray, List.set_cons_succ, List.set_cons_zero]
      go_big_quiet_step (exact Calls.regrown_of (a_encrypt ZN Kp hNl g1 _ (HC1.out _ ⟨_, rfl⟩)))
      refine wpQuiet_load_part rfl 26 _ rfl (w.heap.size) 0 rfl 26 (irow .u8 (bl (p))) (0, 0) (irow .u8 (bl (p))) _ HR0.out (by simp) Try.underlying26 rfl hip ?_
      simp only [Act.put, List.setIfInBounds_toArray, List.set_cons_succ, List.set_cons_zero]
      refine wpQuiet_load_part rfl 28 _ rfl (gN) 0 rfl 28 (irow .u8 (bl (ZN))) (0, 0) (irow .u8 (bl (ZN))) _ HrN.out (by simp) Try.underlying28 rfl hiN ?_
      simp only [Act.put, List.setIfInBounds_toArray, List.set_cons_succ, List.set_cons_zero]
      go_big_quiet_step (exact en.re)
      go_big_quiet_step (fail)
      refine wpQuiet_nil ?_
      rintro _ ⟨p_, rfl⟩
      have hb := below_regrown x0 p_.d p_.os
      generalize grow (redrawn x0 p_.d) p_.os = x1 at *
      clear HC1 HC2 HR0 HR1 HrN
      replace R0 := keep hb R0
      replace R1 := keep hb R1
      replace rN := keep hb rN
      replace hC1 := hC1.keep hb
      replace hC2 := hC2.keep hb
      replace hS := hS.keep hb
      replace hw := Below.after hw hb
      clear hb
      clear rN
      have hS0 := hS
      obtain ⟨ao, cap, rfl, hn, _⟩ := hS0
      go_wp2_with (fail)
      go_loopw [10] (fun i wr => ∃ k : Nat, k ≤ bs.length ∧ i = .int .i64 k ∧ wr.heap[w.heap.size]? = some (.cells (irow .u8 (bl (p))) 26 (0, 0)) ∧ wr.heap[w.heap.size + 1]? = some (.cells (irow .u8 (bl (q))) 26 (0, 0)) ∧ Cph wr g1 Kp ∧ Cph wr g2 Kq ∧ Bks wr (.slice ao bs.length cap) bs ∧ Below w.heap.size w wr) (fun i _ => bs.length - (intOf i).toNat)
      case atStart => exact ⟨0, by omega, rfl, R0, R1, hC1, hC2, hS, hw⟩
      case round =>
        clear R0 R1 hC1 hC2 hS hw
        obtain ⟨k, hk, rfl, R0, R1, hC1, hC2, hS, hw⟩ := hrel
        by_cases hlt : k < bs.length
        · have hd : decide ((k : Int) < (bs.length : Int)) = true := by simp; omega
          have hS0 := hS
          obtain ⟨ao', cap', hv', _, hc⟩ := hS0
          obtain ⟨rfl, rfl⟩ : ao = ao' ∧ cap = cap' := by injection hv' with h1 _ h3; exact ⟨h1, h3⟩
          obtain ⟨bb, off, rfl, hbb, hlb, hrg⟩ := hc k hlt
          generalize bs.getD k [] = l at *
          clear hc hv'
          have hil := info_bl info16 l hlb
          have hib := info_bl infoB l hlb
          have rX := hp1_0 wr (.cells (irow .u8 (zr 16)) 27)
          have HB : Below wr.heap.size wr (wr.alloc (.cells (irow .u8 (zr 16)) 27)) := (Below.refl _ _).alloc (Nat.le_refl _) _
          have hf9 : (irow .u8 (zr 16)).size = (irow .u8 (bl (l))).size := by rw [irow_size, irow_size, zr_len, bl_len, hlb]
          go_wp2_with (first | (refine BigFrame.wpList_want rfl fun _ hK => wp_load_mid 27 _ rfl bb (off + k * 16) rfl (irow .u8 (bl (l))).toList _ hrg Try.underlying27 rfl (by rw [Array.length_toList]; exact hil) (hK _ _ ?_)) | (refine wpList_alloc rfl 27 rfl (irow .u8 (zr 16)) z16 ?_) | (refine wpList_store_row rfl 27 _ _ rfl (wr.heap.size) (irow .u8 (bl (l))) rfl rfl 27 _ rX hil hf9 (irow_one _ _) ?_; refine wpList_stay ?_) | fail)
          unfold WpStay
          clear hrg
          have hsz := hw.size
          have m0 := lt_of_row R0
          have m1 := lt_of_row R1
          have mc1 := lt_of_row hC1
          have mc2 := lt_of_row hC2
          have hb : Below wr.heap.size wr ((wr.alloc (.cells (irow .u8 (zr 16)) 27)).setRow wr.heap.size (irow .u8 (bl (l)))) := below_setRow HB (Nat.le_refl _) (irow .u8 (bl (l)))
          replace rX := setRow_heap _ (wr.heap.size) _ (irow .u8 (bl (l))) _ _ rX
          clear HB hf9
          replace R0 := keep hb R0
          replace R1 := keep hb R1
          replace hC1 := hC1.keep hb
          replace hC2 := hC2.keep hb
          replace hS := hS.keep hb
          replace hw := Below.after hw hb
          clear hb

          generalize World.setRow _ (wr.heap.size) (irow .u8 (bl (l))) = x2 at *
          generalize wr.heap.size = gX at *
          have qe1 := fun W => eqB (enc Kp l) (enc Kp l) (enc_len _ _) (enc_len _ _) W
          have qe2 := fun W => eqB (enc Kq l) (enc Kq l) (enc_len _ _) (enc_len _ _) W
          have qd1 := fun W => eqB (dec Kp l) (dec Kp l) (dec_len _ _) (dec_len _ _) W
          have qd2 := fun W => eqB (dec Kq l) (dec Kq l) (dec_len _ _) (dec_len _ _) W
          simp only [decide_true] at qe1 qe2 qd1 qd2
          have e1 := ep.out l hlb
          have e2 := eq_.out l hlb
          have f1 := dp.out l hlb
          have f2 := dq.out l hlb
          go_wp2_with (fail)
          have HR0 := keepr R0
          have HR1 := keepr R1
          have HrX := keepr rX
          have HC1 := keepr hC1
          have HC2 := keepr hC2
          refine wp_region_quiet_below (by kernel_rfl) (by kernel_rfl) ?_
          go_big_quiet_step (fail)
          refine wpQuiet_load_part rfl 27 _ rfl (gX) 0 rfl 27 (irow .u8 (bl (l))) (0, 0) (irow .u8 (bl (l))) _ HrX.out (by simp) Try.underlying27 rfl hil ?_
          simp only [Act.put, List.setIfInBounds_toArray, List.set_cons_succ, List.set_cons_zero]
          go_big_quiet_step (exact Calls.regrown_of (a_encrypt l Kp hlb g1 _ (HC1.out _ ⟨_, rfl⟩)))
          refine wpQuiet_load_part rfl 26 _ rfl (w.heap.size) 0 rfl 26 (irow .u8 (bl (p))) (0, 0) (irow .u8 (bl (p))) _ HR0.out (by simp) Try.underlying26 rfl hip ?_
          simp only [Act.put, List.setIfInBounds_toArray, List.set_cons_succ, List.set_cons_zero]
          refine wpQuiet_load_part rfl 27 _ rfl (gX) 0 rfl 27 (irow .u8 (bl (l))) (0, 0) (irow .u8 (bl (l))) _ HrX.out (by simp) Try.underlying27 rfl hil ?_
          simp only [Act.put, List.setIfInBounds_toArray, List.set_cons_succ, List.set_cons_zero]
          go_big_quiet_step (exact e1.re)
          go_big_quiet_step (fail)
          go_big_quiet_step (fail)
          go_big_quiet_step (fail)
          refine wpQuiet_load_part rfl 27 _ rfl (gX) 0 rfl 27 (irow .u8 (bl (l))) (0, 0) (irow .u8 (bl (l))) _ HrX.out (by simp) Try.underlying27 rfl hil ?_
          simp only [Act.put, List.setIfInBounds_toArray, List.set_cons_succ, List.set_cons_zero]
          go_big_quiet_step (exact Calls.regrown_of (a_decrypt l Kq hlb g2 _ (HC2.out _ ⟨_, rfl⟩)))
          refine wpQuiet_load_part rfl 26 _ rfl (w.heap.size + 1) 0 rfl 26 (irow .u8 (bl (q))) (0, 0) (irow .u8 (bl (q))) _ HR1.out (by simp) Try.underlying26 rfl hiq ?_
          simp only [Act.put, List.setIfInBounds_toArray, List.set_cons_succ, List.set_cons_zero]
          refine wpQuiet_load_part rfl 27 _ rfl (gX) 0 rfl 27 (irow .u8 (bl (l))) (0, 0) (irow .u8 (bl (l))) _ HrX.out (by simp) Try.underlying27 rfl hil ?_
          simp only [Act.put, List.setIfInBounds_toArray, List.set_cons_succ, List.set_cons_zero]
          go_big_quiet_step (exact f2.re)
          go_big_quiet_step (fail)
          go_big_quiet_step (fail)
          refine wpQuiet_nil ?_
          rintro _ ⟨p_, rfl⟩
          have hb := below_regrown x2 p_.d p_.os
          generalize grow (redrawn x2 p_.d) p_.os = x3 at *
          clear HC1 HC2 HR0 HR1 HrX
          replace R0 := keep hb R0
          replace R1 := keep hb R1
          replace rX := keep hb rX
          replace hC1 := hC1.keep hb
          replace hC2 := hC2.keep hb
          replace hS := hS.keep hb
          replace hw := Below.after hw hb
          clear hb

          go_wp2_with (fail)
          have HR0 := keepr R0
          have HR1 := keepr R1
          have HrX := keepr rX
          have HC1 := keepr hC1
          have HC2 := keepr hC2
          refine wp_region_quiet_below (by kernel_rfl) (by kernel_rfl) ?_
          go_big_quiet_step (fail)
          refine wpQuiet_load_part rfl 27 _ rfl (gX) 0 rfl 27 (irow .u8 (bl (l))) (0, 0) (irow .u8 (bl (l))) _ HrX.out (by simp) Try.underlying27 rfl hil ?_
          simp only [Act.put, List.setIfInBounds_toArray, List.set_cons_succ, List.set_cons_zero]
          go_big_quiet_step (exact Calls.regrown_of (a_encrypt l Kq hlb g2 _ (HC2.out _ ⟨_, rfl⟩)))
          refine wpQuiet_load_part rfl 26 _ rfl (w.heap.size + 1) 0 rfl 26 (irow .u8 (bl (q))) (0, 0) (irow .u8 (bl (q))) _ HR1.out (by simp) Try.underlying26 rfl hiq ?_
          simp only [Act.put, List.setIfInBounds_toArray, List.set_cons_succ, List.set_cons_zero]
          refine wpQuiet_load_part rfl 27 _ rfl (gX) 0 rfl 27 (irow .u8 (bl (l))) (0, 0) (irow .u8 (bl (l))) _ HrX.out (by simp) Try.underlying27 rfl hil ?_
          simp only [Act.put, List.setIfInBounds_toArray, List.set_cons_succ, List.set_cons_zero]
          go_big_quiet_step (exact e2.re)
          go_big_quiet_step (fail)
          go_big_quiet_step (fail)
          go_big_quiet_step (fail)
          refine wpQuiet_load_part rfl 27 _ rfl (gX) 0 rfl 27 (irow .u8 (bl (l))) (0, 0) (irow .u8 (bl (l))) _ HrX.out (by simp) Try.underlying27 rfl hil ?_
          simp only [Act.put, List.setIfInBounds_toArray, List.set_cons_succ, List.set_cons_zero]
          go_big_quiet_step (exact Calls.regrown_of (a_decrypt l Kp hlb g1 _ (HC1.out _ ⟨_, rfl⟩)))
          refine wpQuiet_load_part rfl 26 _ rfl (w.heap.size) 0 rfl 26 (irow .u8 (bl (p))) (0, 0) (irow .u8 (bl (p))) _ HR0.out (by simp) Try.underlying26 rfl hip ?_
          simp only [Act.put, List.setIfInBounds_toArray, List.set_cons_succ, List.set_cons_zero]
          refine wpQuiet_load_part rfl 27 _ rfl (gX) 0 rfl 27 (irow .u8 (bl (l))) (0, 0) (irow .u8 (bl (l))) _ HrX.out (by simp) Try.underlying27 rfl hil ?_
          simp only [Act.put, List.setIfInBounds_toArray, List.set_cons_succ, List.set_cons_zero]
          go_big_quiet_step (exact f1.re)
          go_big_quiet_step (fail)
          go_big_quiet_step (fail)
          refine wpQuiet_nil ?_
          rintro _ ⟨p_, rfl⟩
          have hb := below_regrown x3 p_.d p_.os
          generalize grow (redrawn x3 p_.d) p_.os = x4 at *
          clear HC1 HC2 HR0 HR1 HrX
          replace R0 := keep hb R0
          replace R1 := keep hb R1
          replace rX := keep hb rX
          replace hC1 := hC1.keep hb
          replace hC2 := hC2.keep hb
          replace hS := hS.keep hb
          replace hw := Below.after hw hb
          clear hb

          go_wp2
          refine ⟨⟨k + 1, by omega, by go_num, R0, R1, hC1, hC2, hS, hw⟩, by simp [intOf]; omega⟩
        · obtain rfl : k = bs.length := by omega
          have hd : decide ((bs.length : Int) < (bs.length : Int)) = false := by simp
          go_wp2
          go_ret
          exact ⟨rfl, hw⟩
    · rw [if_pos (by kernel_rfl)]
      simp only [List.getElem_toArray, List.getElem_cons_succ, List.getElem_cons_zero]
      refine wp_load_row 26 _ rfl (w.heap.size + 1) rfl 26 (irow .u8 (bl (q))) (0, 0) _ (R1) Try.underlying26 rfl hiq (hK _ _ ?_)
      simp only [Act.put, List.setIfInBounds_toArray, List.set_cons_succ, List.set_cons_zero]
      clear hK
      refine wpAny_ready (rs := [1]) (fuel := 3) (by kernel_rfl) (by simp) (AllReady.cons rfl (fun K' hK => ?_) AllReady.nil)
      rw [if_pos (by kernel_rfl)]
      simp only [List.getElem_toArray, List.getElem_cons_succ, List.getElem_cons_zero]
      refine wp_call_ex (f := 17) (by kernel_rfl) (cn1 wd) (fun v_ q3 hX_ => hK _ _ ?_)
      simp only [Act.put, List.setIfInBounds_toArray, List.set_cons_succ, List.set_cons_zero]
      clear hK
      obtain ⟨g1, rfl, hg1, hC1, hb_⟩ := hX_
      replace R0 := keep hb_ R0
      replace R1 := keep hb_ R1
      replace hS := hS.keep hb_
      replace hw := Below.after hw hb_
      clear hb_
      refine wpAny_ready (rs := [3]) (fuel := 2) (by kernel_rfl) (by simp) (AllReady.cons rfl (fun K' hK => ?_) AllReady.nil)
      rw [if_pos (by kernel_rfl)]
      simp only [List.getElem_toArray, List.getElem_cons_succ, List.getElem_cons_zero]
      refine wp_call_ex (f := 17) (by kernel_rfl) (cn2 q3) (fun v_ q4 hX_ => hK _ _ ?_)
      simp only [Act.put, List.setIfInBounds_toArray, List.set_cons_succ, List.set_cons_zero]
      clear hK
      obtain ⟨g2, rfl, hg2, hC2, hb_⟩ := hX_
      replace R0 := keep hb_ R0
      replace R1 := keep hb_ R1
      replace hS := hS.keep hb_
      replace hC1 := hC1.keep hb_
      replace hw := Below.after hw hb_
      clear hb_
      refine wpAny_take (i := 4) (v := ?v3) rfl (by kernel_rfl) (by kernel_rfl) (by kernel_rfl) (fun _ _ _ h => h) (Or.inl ⟨by rfl, ?y3⟩) ?r3
      case y3 =>
        intro w_
        go_simp
        try with_reducible rfl
      simp only [Act.put, List.getElem_toArray, List.getElem_cons_succ, List.getElem_cons_zero, List.setIfInBounds_toArray, List.set_cons_succ, List.set_cons_zero]
      refine wpAny_take (i := 5) (v := ?v4) rfl (by kernel_rfl) (by kernel_rfl) (by kernel_rfl) (fun _ _ _ h => h) (Or.inl ⟨by rfl, ?y4⟩) ?r4
      case y4 =>
        intro w_
        go_simp
        try with_reducible rfl
      simp only [Act.put, List.getElem_toArray, List.getElem_cons_succ, List.getElem_cons_zero, List.setIfInBounds_toArray, List.set_cons_succ, List.set_cons_zero]
      refine wpAny_done (by kernel_rfl) ?_ _
      refine NoPanic.normal ?_
      have rN := hp1_0 q4 (.cells (irow .u8 (bl (ZN))) 28)
      have hb : Below q4.heap.size q4 (q4.alloc (.cells (irow .u8 (bl (ZN))) 28)) := (Below.refl _ _).alloc (Nat.le_refl _) _
      go_wp2_with (first | (refine wpList_alloc rfl 28 rfl (irow .u8 (bl (ZN))) hzN ?_) | fail)
      try simp only [Act.put, List.setIfInBounds_toArray, List.set_cons_succ, List.set_cons_zero]
      replace R0 := keep hb R0
      replace R1 := keep hb R1
      replace hC1 := hC1.keep hb
      replace hC2 := hC2.keep hb
      replace hS := hS.keep hb
      replace hw := Below.after hw hb
      clear hb
      generalize q4.alloc (.cells (irow .u8 (bl (ZN))) 28) = x0 at *
      generalize q4.heap.size = gN at *
      have HR0 := keepr R0
      have HR1 := keepr R1
      have HrN := keepr rN
      have HC1 := keepr hC1
      have HC2 := keepr hC2
      refine wp_region_quiet_below (by kernel_rfl) (by kernel_rfl) ?_
      go_big_quiet_step (fail)
      refine wpQuiet_load_part rfl 28 _ rfl (gN) 0 rfl 28 (irow .u8 (bl (ZN))) (0, 0) (irow .u8 (bl (ZN))) _ HrN.out (by simp) Try.underlying28 rfl hiN ?_
      simp only [Act.put, List.setIfInBounds_toArray, List.set_cons_succ, List.set_cons_zero]
      go_big_quiet_step (exact Calls.regrown_of (a_encrypt ZN Kp hNl g1 _ (HC1.out _ ⟨_, rfl⟩)))
      refine wpQuiet_load_part rfl 26 _ rfl (w.heap.size) 0 rfl 26 (irow .u8 (bl (p))) (0, 0) (irow .u8 (bl (p))) _ HR0.out (by simp) Try.underlying26 rfl hip ?_
      simp only [Act.put, List.setIfInBounds_toArray, List.set_cons_succ, List.set_cons_zero]
      refine wpQuiet_load_part rfl 28 _ rfl (gN) 0 rfl 28 (irow .u8 (bl (ZN))) (0, 0) (irow .u8 (bl (ZN))) _ HrN.out (by simp) Try.underlying28 rfl hiN ?_
      simp only [Act.put, List.setIfInBounds_toArray, List.set_cons_succ, List.set_cons_zero]
      go_big_quiet_step (exact en.re)
      go_big_quiet_step (fail)
      refine wpQuiet_nil ?_
      rintro _ ⟨p_, rfl⟩
      have hb := below_regrown x0 p_.d p_.os
      generalize grow (redrawn x0 p_.d) p_.os = x1 at *
      clear HC1 HC2 HR0 HR1 HrN
      replace R0 := keep hb R0
      replace R1 := keep hb R1
      replace rN := keep hb rN
      replace hC1 := hC1.keep hb
      replace hC2 := hC2.keep hb
      replace hS := hS.keep hb
      replace hw := Below.after hw hb
      clear hb
      clear rN
      have hS0 := hS
      obtain ⟨ao, cap, rfl, hn, _⟩ := hS0
      go_wp2_with (fail)
      go_loopw [10] (fun i wr => ∃ k : Nat, k ≤ bs.length ∧ i = .int .i64 k ∧ wr.heap[w.heap.size]? = some (.cells (irow .u8 (bl (p))) 26 (0, 0)) ∧ wr.heap[w.heap.size + 1]? = some (.cells (irow .u8 (bl (q))) 26 (0, 0)) ∧ Cph wr g1 Kp ∧ Cph wr g2 Kq ∧ Bks wr (.slice ao bs.length cap) bs ∧ Below w.heap.size w wr) (fun i _ => bs.length - (intOf i).toNat)
      case atStart => exact ⟨0, by omega, rfl, R0, R1, hC1, hC2, hS, hw⟩
      case round =>
        clear R0 R1 hC1 hC2 hS hw
        obtain ⟨k, hk, rfl, R0, R1, hC1, hC2, hS, hw⟩ := hrel
        by_cases hlt : k < bs.length
        · have hd : decide ((k : Int) < (bs.length : Int)) = true := by simp; omega
          have hS0 := hS
          obtain ⟨ao', cap', hv', _, hc⟩ := hS0
          obtain ⟨rfl, rfl⟩ : ao = ao' ∧ cap = cap' := by injection hv' with h1 _ h3; exact ⟨h1, h3⟩
          obtain ⟨bb, off, rfl, hbb, hlb, hrg⟩ := hc k hlt
          generalize bs.getD k [] = l at *
          clear hc hv'
          have hil := info_bl info16 l hlb
          have hib := info_bl infoB l hlb
          have rX := hp1_0 wr (.cells (irow .u8 (zr 16)) 27)
          have HB : Below wr.heap.size wr (wr.alloc (.cells (irow .u8 (zr 16)) 27)) := (Below.refl _ _).alloc (Nat.le_refl _) _
          have hf9 : (irow .u8 (zr 16)).size = (irow .u8 (bl (l))).size := by rw [irow_size, irow_size, zr_len, bl_len, hlb]
          go_wp2_with (first | (refine BigFrame.wpList_want rfl fun _ hK => wp_load_mid 27 _ rfl bb (off + k * 16) rfl (irow .u8 (bl (l))).toList _ hrg Try.underlying27 rfl (by rw [Array.length_toList]; exact hil) (hK _ _ ?_)) | (refine wpList_alloc rfl 27 rfl (irow .u8 (zr 16)) z16 ?_) | (refine wpList_store_row rfl 27 _ _ rfl (wr.heap.size) (irow .u8 (bl (l))) rfl rfl 27 _ rX hil hf9 (irow_one _ _) ?_; refine wpList_stay ?_) | fail)
          unfold WpStay
          clear hrg
          have hsz := hw.size
          have m0 := lt_of_row R0
          have m1 := lt_of_row R1
          have mc1 := lt_of_row hC1
          have mc2 := lt_of_row hC2
          have hb : Below wr.heap.size wr ((wr.alloc (.cells (irow .u8 (zr 16)) 27)).setRow wr.heap.size (irow .u8 (bl (l)))) := below_setRow HB (Nat.le_refl _) (irow .u8 (bl (l)))
          replace rX := setRow_heap _ (wr.heap.size) _ (irow .u8 (bl (l))) _ _ rX
          clear HB hf9
          replace R0 := keep hb R0
          replace R1 := keep hb R1
          replace hC1 := hC1.keep hb
          replace hC2 := hC2.keep hb
          replace hS := hS.keep hb
          replace hw := Below.after hw hb
          clear hb

          generalize World.setRow _ (wr.heap.size) (irow .u8 (bl (l))) = x2 at *
          generalize wr.heap.size = gX at *
          have qe1 := fun W => eqB (enc Kp l) (enc Kp l) (enc_len _ _) (enc_len _ _) W
          have qe2 := fun W => eqB (enc Kq l) (enc Kq l) (enc_len _ _) (enc_len _ _) W
          have qd1 := fun W => eqB (dec Kp l) (dec Kp l) (dec_len _ _) (dec_len _ _) W
          have qd2 := fun W => eqB (dec Kq l) (dec Kq l) (dec_len _ _) (dec_len _ _) W
          simp only [decide_true] at qe1 qe2 qd1 qd2
          have e1 := ep.out l hlb
          have e2 := eq_.out l hlb
          have f1 := dp.out l hlb
          have f2 := dq.out l hlb
          go_wp2_with (fail)
          have HR0 := keepr R0
          have HR1 := keepr R1
          have HrX := keepr rX
          have HC1 := keepr hC1
          have HC2 := keepr hC2
          refine wp_region_quiet_below (by kernel_rfl) (by kernel_rfl) ?_
          go_big_quiet_step (fail)
          refine wpQuiet_load_part rfl 27 _ rfl (gX) 0 rfl 27 (irow .u8 (bl (l))) (0, 0) (irow .u8 (bl (l))) _ HrX.out (by simp) Try.underlying27 rfl hil ?_
          simp only [Act.put, List.setIfInBounds_toArray, List.set_cons_succ, List.set_cons_zero]
          go_big_quiet_step (exact Calls.regrown_of (a_encrypt l Kp hlb g1 _ (HC1.out _ ⟨_, rfl⟩)))
          refine wpQuiet_load_part rfl 26 _ rfl (w.heap.size) 0 rfl 26 (irow .u8 (bl (p))) (0, 0) (irow .u8 (bl (p))) _ HR0.out (by simp) Try.underlying26 rfl hip ?_
          simp only [Act.put, List.setIfInBounds_toArray, List.set_cons_succ, List.set_cons_zero]
          refine wpQuiet_load_part rfl 27 _ rfl (gX) 0 rfl 27 (irow .u8 (bl (l))) (0, 0) (irow .u8 (bl (l))) _ HrX.out (by simp) Try.underlying27 rfl hil ?_
          simp only [Act.put, List.setIfInBounds_toArray, List.set_cons_succ, List.set_cons_zero]
          go_big_quiet_step (exact e1.re)
          go_big_quiet_step (fail)
          go_big_quiet_step (fail)
          go_big_quiet_step (fail)
          refine wpQuiet_load_part rfl 27 _ rfl (gX) 0 rfl 27 (irow .u8 (bl (l))) (0, 0) (irow .u8 (bl (l))) _ HrX.out (by simp) Try.underlying27 rfl hil ?_
          simp only [Act.put, List.setIfInBounds_toArray, List.set_cons_succ, List.set_cons_zero]
          go_big_quiet_step (exact Calls.regrown_of (a_decrypt l Kq hlb g2 _ (HC2.out _ ⟨_, rfl⟩)))
          refine wpQuiet_load_part rfl 26 _ rfl (w.heap.size + 1) 0 rfl 26 (irow .u8 (bl (q))) (0, 0) (irow .u8 (bl (q))) _ HR1.out (by simp) Try.underlying26 rfl hiq ?_
          simp only [Act.put, List.setIfInBounds_toArray, List.set_cons_succ, List.set_cons_zero]
          refine wpQuiet_load_part rfl 27 _ rfl (gX) 0 rfl 27 (irow .u8 (bl (l))) (0, 0) (irow .u8 (bl (l))) _ HrX.out (by simp) Try.underlying27 rfl hil ?_
          simp only [Act.put, List.setIfInBounds_toArray, List.set_cons_succ, List.set_cons_zero]
          go_big_quiet_step (exact f2.re)
          go_big_quiet_step (fail)
          go_big_quiet_step (fail)
          refine wpQuiet_nil ?_
          rintro _ ⟨p_, rfl⟩
          have hb := below_regrown x2 p_.d p_.os
          generalize grow (redrawn x2 p_.d) p_.os = x3 at *
          clear HC1 HC2 HR0 HR1 HrX
          replace R0 := keep hb R0
          replace R1 := keep hb R1
          replace rX := keep hb rX
          replace hC1 := hC1.keep hb
          replace hC2 := hC2.keep hb
          replace hS := hS.keep hb
          replace hw := Below.after hw hb
          clear hb

          go_wp2_with (fail)
          have HR0 := keepr R0
          have HR1 := keepr R1
          have HrX := keepr rX
          have HC1 := keepr hC1
          have HC2 := keepr hC2
          refine wp_region_quiet_below (by kernel_rfl) (by kernel_rfl) ?_
          go_big_quiet_step (fail)
          refine wpQuiet_load_part rfl 27 _ rfl (gX) 0 rfl 27 (irow .u8 (bl (l))) (0, 0) (irow .u8 (bl (l))) _ HrX.out (by simp) Try.underlying27 rfl hil ?_
          simp only [Act.put, List.setIfInBounds_toArray, List.set_cons_succ, List.set_cons_zero]
          go_big_quiet_step (exact Calls.regrown_of (a_encrypt l Kq hlb g2 _ (HC2.out _ ⟨_, rfl⟩)))
          refine wpQuiet_load_part rfl 26 _ rfl (w.heap.size + 1) 0 rfl 26 (irow .u8 (bl (q))) (0, 0) (irow .u8 (bl (q))) _ HR1.out (by simp) Try.underlying26 rfl hiq ?_
          simp only [Act.put, List.setIfInBounds_toArray, List.set_cons_succ, List.set_cons_zero]
          refine wpQuiet_load_part rfl 27 _ rfl (gX) 0 rfl 27 (irow .u8 (bl (l))) (0, 0) (irow .u8 (bl (l))) _ HrX.out (by simp) Try.underlying27 rfl hil ?_
          simp only [Act.put, List.setIfInBounds_toArray, List.set_cons_succ, List.set_cons_zero]
          go_big_quiet_step (exact e2.re)
          go_big_quiet_step (fail)
          go_big_quiet_step (fail)
          go_big_quiet_step (fail)
          refine wpQuiet_load_part rfl 27 _ rfl (gX) 0 rfl 27 (irow .u8 (bl (l))) (0, 0) (irow .u8 (bl (l))) _ HrX.out (by simp) Try.underlying27 rfl hil ?_
          simp only [Act.put, List.setIfInBounds_toArray, List.set_cons_succ, List.set_cons_zero]
          go_big_quiet_step (exact Calls.regrown_of (a_decrypt l Kp hlb g1 _ (HC1.out _ ⟨_, rfl⟩)))
          refine wpQuiet_load_part rfl 26 _ rfl (w.heap.size) 0 rfl 26 (irow .u8 (bl (p))) (0, 0) (irow .u8 (bl (p))) _ HR0.out (by simp) Try.underlying26 rfl hip ?_
          simp only [Act.put, List.setIfInBounds_toArray, List.set_cons_succ, List.set_cons_zero]
          refine wpQuiet_load_part rfl 27 _ rfl (gX) 0 rfl 27 (irow .u8 (bl (l))) (0, 0) (irow .u8 (bl (l))) _ HrX.out (by simp) Try.underlying27 rfl hil ?_
          simp only [Act.put, List.setIfInBounds_toArray, List.set_cons_succ, List.set_cons_zero]
          go_big_quiet_step (exact f1.re)
          go_big_quiet_step (fail)
          go_big_quiet_step (fail)
          refine wpQuiet_nil ?_
          rintro _ ⟨p_, rfl⟩
          have hb := below_regrown x3 p_.d p_.os
          generalize grow (redrawn x3 p_.d) p_.os = x4 at *
          clear HC1 HC2 HR0 HR1 HrX
          replace R0 := keep hb R0
          replace R1 := keep hb R1
          replace rX := keep hb rX
          replace hC1 := hC1.keep hb
          replace hC2 := hC2.keep hb
          replace hS := hS.keep hb
          replace hw := Below.after hw hb
          clear hb

          go_wp2
          refine ⟨⟨k + 1, by omega, by go_num, R0, R1, hC1, hC2, hS, hw⟩, by simp [intOf]; omega⟩
        · obtain rfl : k = bs.length := by omega
          have hd : decide ((bs.length : Int) < (bs.length : Int)) = false := by simp
          go_wp2
          go_ret
          exact ⟨rfl, hw⟩
  · rw [if_pos (by kernel_rfl)]
    simp only [List.getElem_toArray, List.getElem_cons_succ, List.getElem_cons_zero]
    refine wp_load_row 26 _ rfl (w.heap.size + 1) rfl 26 (irow .u8 (bl (q))) (0, 0) _ (R1) Try.underlying26 rfl hiq (hK _ _ ?_)
    simp only [Act.put, List.setIfInBounds_toArray, List.set_cons_succ, List.set_cons_zero]
    clear hK
    refine wpAny_ready (rs := [0]) (fuel := 4) (by kernel_rfl) (by simp) (AllReady.cons rfl (fun K' hK => ?_) AllReady.nil)
    rw [if_pos (by kernel_rfl)]
    simp only [List.getElem_toArray, List.getElem_cons_zero]
    refine wp_load_row 26 _ rfl (w.heap.size) rfl 26 (irow .u8 (bl (p))) (0, 0) _ (R0) Try.underlying26 rfl hip (hK _ _ ?_)
    simp only [Act.put, List.setIfInBounds_toArray, List.set_cons_succ, List.set_cons_zero]
    clear hK
    refine wpAny_ready (rs := [1]) (fuel := 3) (by kernel_rfl) (by simp) (AllReady.cons rfl (fun K' hK => ?_) AllReady.nil)
    rw [if_pos (by kernel_rfl)]
    simp only [List.getElem_toArray, List.getElem_cons_succ, List.getElem_cons_zero]
    refine wp_call_ex (f := 17) (by kernel_rfl) (cn1 wd) (fun v_ q5 hX_ => hK _ _ ?_)
    simp only [Act.put, List.setIfInBounds_toArray, List.set_cons_succ, List.set_cons_zero]
    clear hK
    obtain ⟨g1, rfl, hg1, hC1, hb_⟩ := hX_
    replace R0 := keep hb_ R0
    replace R1 := keep hb_ R1
    replace hS := hS.keep hb_
    replace hw := Below.after hw hb_
    clear hb_
    refine wpAny_ready (rs := [3]) (fuel := 2) (by kernel_rfl) (by simp) (AllReady.cons rfl (fun K' hK => ?_) AllReady.nil)
    rw [if_pos (by kernel_rfl)]
    simp only [List.getElem_toArray, List.getElem_cons_succ, List.getElem_cons_zero]
    refine wp_call_ex (f := 17) (by kernel_rfl) (cn2 q5) (fun v_ q6 hX_ => hK _ _ ?_)
    simp only [Act.put, List.setIfInBounds_toArray, List.set_cons_succ, List.set_cons_zero]
    clear hK
    obtain ⟨g2, rfl, hg2, hC2, hb_⟩ := hX_
    replace R0 := keep hb_ R0
    replace R1 := keep hb_ R1
    replace hS := hS.keep hb_
    replace hC1 := hC1.keep hb_
    replace hw := Below.after hw hb_
    clear hb_
    refine wpAny_take (i := 4) (v := ?v5) rfl (by kernel_rfl) (by kernel_rfl) (by kernel_rfl) (fun _ _ _ h => h) (Or.inl ⟨by rfl, ?y5⟩) ?r5
    case y5 =>
      intro w_
      go_simp
      try with_reducible rfl
    simp only [Act.put, List.getElem_toArray, List.getElem_cons_succ, List.getElem_cons_zero, List.setIfInBounds_toArray, List.set_cons_succ, List.set_cons_zero]
    refine wpAny_take (i := 5) (v := ?v6) rfl (by kernel_rfl) (by kernel_rfl) (by kernel_rfl) (fun _ _ _ h => h) (Or.inl ⟨by rfl, ?y6⟩) ?r6
    case y6 =>
      intro w_
      go_simp
      try with_reducible rfl
    simp only [Act.put, List.getElem_toArray, List.getElem_cons_succ, List.getElem_cons_zero, List.setIfInBounds_toArray, List.set_cons_succ, List.set_cons_zero]
    refine wpAny_done (by kernel_rfl) ?_ _
    refine NoPanic.normal ?_
    have rN := hp1_0 q6 (.cells (irow .u8 (bl (ZN))) 28)
    have hb : Below q6.heap.size q6 (q6.alloc (.cells (irow .u8 (bl (ZN))) 28)) := (Below.refl _ _).alloc (Nat.le_refl _) _
    go_wp2_with (first | (refine wpList_alloc rfl 28 rfl (irow .u8 (bl (ZN))) hzN ?_) | fail)
    try simp only [Act.put, List.setIfInBounds_toArray, List.set_cons_succ, List.set_cons_zero]
    replace R0 := keep hb R0
    replace R1 := keep hb R1
    replace hC1 := hC1.keep hb
    replace hC2 := hC2.keep hb
    replace hS := hS.keep hb
    replace hw := Below.after hw hb
    clear hb
    generalize q6.alloc (.cells (irow .u8 (bl (ZN))) 28) = x0 at *
    generalize q6.heap.size = gN at *
    have HR0 := keepr R0
    have HR1 := keepr R1
    have HrN := keepr rN
    have HC1 := keepr hC1
    have HC2 := keepr hC2
    refine wp_region_quiet_below (by kernel_rfl) (by kernel_rfl) ?_
    go_big_quiet_step (fail)
    refine wpQuiet_load_part rfl 28 _ rfl (gN) 0 rfl 28 (irow .u8 (bl (ZN))) (0, 0) (irow .u8 (bl (ZN))) _ HrN.out (by simp) Try.underlying28 rfl hiN ?_
    simp only [Act.put, List.setIfInBounds_toArray, List.set_cons_succ, List.set_cons_zero]
    go_big_quiet_step (exact Calls.regrown_of (a_encrypt ZN Kp hNl g1 _ (HC1.out _ ⟨_, rfl⟩)))
    refine wpQuiet_load_part rfl 26 _ rfl (w.heap.size) 0 rfl 26 (irow .u8 (bl (p))) (0, 0) (irow .u8 (bl (p))) _ HR0.out (by simp) Try.underlying26 rfl hip ?_
    simp only [Act.put, List.setIfInBounds_toArray, List.set_cons_succ, List.set_cons_zero]
    refine wpQuiet_load_part rfl 28 _ rfl (gN) 0 rfl 28 (irow .u8 (bl (ZN))) (0, 0) (irow .u8 (bl (ZN))) _ HrN.out (by simp) Try.underlying28 rfl hiN ?_
    simp only [Act.put, List.setIfInBounds_toArray, List.set_cons_succ, List.set_cons_zero]
    go_big_quiet_step (exact en.re)
    go_big_quiet_step (fail)
    refine wpQuiet_nil ?_
    rintro _ ⟨p_, rfl⟩
    have hb := below_regrown x0 p_.d p_.os
    generalize grow (redrawn x0 p_.d) p_.os = x1 at *
    clear HC1 HC2 HR0 HR1 HrN
    replace R0 := keep hb R0
    replace R1 := keep hb R1
    replace rN := keep hb rN
    replace hC1 := hC1.keep hb
    replace hC2 := hC2.keep hb
    replace hS := hS.keep hb
    replace hw := Below.after hw hb
    clear hb
    clear rN
    have hS0 := hS
    obtain ⟨ao, cap, rfl, hn, _⟩ := hS0
    go_wp2_with (fail)
    go_loopw [10] (fun i wr => ∃ k : Nat, k ≤ bs.length ∧ i = .int .i64 k ∧ wr.heap[w.heap.size]? = some (.cells (irow .u8 (bl (p))) 26 (0, 0)) ∧ wr.heap[w.heap.size + 1]? = some (.cells (irow .u8 (bl (q))) 26 (0, 0)) ∧ Cph wr g1 Kp ∧ Cph wr g2 Kq ∧ Bks wr (.slice ao bs.length cap) bs ∧ Below w.heap.size w wr) (fun i _ => bs.length - (intOf i).toNat)
    case atStart => exact ⟨0, by omega, rfl, R0, R1, hC1, hC2, hS, hw⟩
    case round =>
      clear R0 R1 hC1 hC2 hS hw
      obtain ⟨k, hk, rfl, R0, R1, hC1, hC2, hS, hw⟩ := hrel
      by_cases hlt : k < bs.length
      · have hd : decide ((k : Int) < (bs.length : Int)) = true := by simp; omega
        have hS0 := hS
        obtain ⟨ao', cap', hv', _, hc⟩ := hS0
        obtain ⟨rfl, rfl⟩ : ao = ao' ∧ cap = cap' := by injection hv' with h1 _ h3; exact ⟨h1, h3⟩
        obtain ⟨bb, off, rfl, hbb, hlb, hrg⟩ := hc k hlt
        generalize bs.getD k [] = l at *
        clear hc hv'
        have hil := info_bl info16 l hlb
        have hib := info_bl infoB l hlb
        have rX := hp1_0 wr (.cells (irow .u8 (zr 16)) 27)
        have HB : Below wr.heap.size wr (wr.alloc (.cells (irow .u8 (zr 16)) 27)) := (Below.refl _ _).alloc (Nat.le_refl _) _
        have hf9 : (irow .u8 (zr 16)).size = (irow .u8 (bl (l))).size := by rw [irow_size, irow_size, zr_len, bl_len, hlb]
        go_wp2_with (first | (refine BigFrame.wpList_want rfl fun _ hK => wp_load_mid 27 _ rfl bb (off + k * 16) rfl (irow .u8 (bl (l))).toList _ hrg Try.underlying27 rfl (by rw [Array.length_toList]; exact hil) (hK _ _ ?_)) | (refine wpList_alloc rfl 27 rfl (irow .u8 (zr 16)) z16 ?_) | (refine wpList_store_row rfl 27 _ _ rfl (wr.heap.size) (irow .u8 (bl (l))) rfl rfl 27 _ rX hil hf9 (irow_one _ _) ?_; refine wpList_stay ?_) | fail)
        unfold WpStay
        clear hrg
        have hsz := hw.size
        have m0 := lt_of_row R0
        have m1 := lt_of_row R1
        have mc1 := lt_of_row hC1
        have mc2 := lt_of_row hC2
        have hb : Below wr.heap.size wr ((wr.alloc (.cells (irow .u8 (zr 16)) 27)).setRow wr.heap.size (irow .u8 (bl (l)))) := below_setRow HB (Nat.le_refl _) (irow .u8 (bl (l)))
        replace rX := setRow_heap _ (wr.heap.size) _ (irow .u8 (bl (l))) _ _ rX
        clear HB hf9
        replace R0 := keep hb R0
        replace R1 := keep hb R1
        replace hC1 := hC1.keep hb
        replace hC2 := hC2.keep hb
        replace hS := hS.keep hb
        replace hw := Below.after hw hb
        clear hb

        generalize World.setRow _ (wr.heap.size) (irow .u8 (bl (l))) = x2 at *
        generalize wr.heap.size = gX at *
        have qe1 := fun W => eqB (enc Kp l) (enc Kp l) (enc_len _ _) (enc_len _ _) W
        have qe2 := fun W => eqB (enc Kq l) (enc Kq l) (enc_len _ _) (enc_len _ _) W
        have qd1 := fun W => eqB (dec Kp l) (dec Kp l) (dec_len _ _) (dec_len _ _) W
        have qd2 := fun W => eqB (dec Kq l) (dec Kq l) (dec_len _ _) (dec_len _ _) W
        simp only [decide_true] at qe1 qe2 qd1 qd2
        have e1 := ep.out l hlb
        have e2 := eq_.out l hlb
        have f1 := dp.out l hlb
        have f2 := dq.out l hlb
        go_wp2_with (fail)
        have HR0 := keepr R0
        have HR1 := keepr R1
        have HrX := keepr rX
        have HC1 := keepr hC1
        have HC2 := keepr hC2
        refine wp_region_quiet_below (by kernel_rfl) (by kernel_rfl) ?_
        go_big_quiet_step (fail)
        refine wpQuiet_load_part rfl 27 _ rfl (gX) 0 rfl 27 (irow .u8 (bl (l))) (0, 0) (irow .u8 (bl (l))) _ HrX.out (by simp) Try.underlying27 rfl hil ?_
        simp only [Act.put, List.setIfInBounds_toArray, List.set_cons_succ, List.set_cons_zero]
        go_big_quiet_step (exact Calls.regrown_of (a_encrypt l Kp hlb g1 _ (HC1.out _ ⟨_, rfl⟩)))
        refine wpQuiet_load_part rfl 26 _ rfl (w.heap.size) 0 rfl 26 (irow .u8 (bl (p))) (0, 0) (irow .u8 (bl (p))) _ HR0.out (by simp) Try.underlying26 rfl hip ?_
        simp only [Act.put, List.setIfInBounds_toArray, List.set_cons_succ, List.set_cons_zero]
        refine wpQuiet_load_part rfl 27 _ rfl (gX) 0 rfl 27 (irow .u8 (bl (l))) (0, 0) (irow .u8 (bl (l))) _ HrX.out (by simp) Try.underlying27 rfl hil ?_
        simp only [Act.put, List.setIfInBounds_toArray, List.set_cons_succ, List.set_cons_zero]
        go_big_quiet_step (exact e1.re)
        go_big_quiet_step (fail)
        go_big_quiet_step (fail)
        go_big_quiet_step (fail)
        refine wpQuiet_load_part rfl 27 _ rfl (gX) 0 rfl 27 (irow .u8 (bl (l))) (0, 0) (irow .u8 (bl (l))) _ HrX.out (by simp) Try.underlying27 rfl hil ?_
        simp only [Act.put, List.setIfInBounds_toArray, List.set_cons_succ, List.set_cons_zero]
        go_big_quiet_step (exact Calls.regrown_of (a_decrypt l Kq hlb g2 _ (HC2.out _ ⟨_, rfl⟩)))
        refine wpQuiet_load_part rfl 26 _ rfl (w.heap.size + 1) 0 rfl 26 (irow .u8 (bl (q))) (0, 0) (irow .u8 (bl (q))) _ HR1.out (by simp) Try.underlying26 rfl hiq ?_
        simp only [Act.put, List.setIfInBounds_toArray, List.set_cons_succ, List.set_cons_zero]
        refine wpQuiet_load_part rfl 27 _ rfl (gX) 0 rfl 27 (irow .u8 (bl (l))) (0, 0) (irow .u8 (bl (l))) _ HrX.out (by simp) Try.underlying27 rfl hil ?_
        simp only [Act.put, List.setIfInBounds_toArray, List.set_cons_succ, List.set_cons_zero]
        go_big_quiet_step (exact f2.re)
        go_big_quiet_step (fail)
        go_big_quiet_step (fail)
        refine wpQuiet_nil ?_
        rintro _ ⟨p_, rfl⟩
        have hb := below_regrown x2 p_.d p_.os
        generalize grow (redrawn x2 p_.d) p_.os = x3 at *
        clear HC1 HC2 HR0 HR1 HrX
        replace R0 := keep hb R0
        replace R1 := keep hb R1
        replace rX := keep hb rX
        replace hC1 := hC1.keep hb
        replace hC2 := hC2.keep hb
        replace hS := hS.keep hb
        replace hw := Below.after hw hb
        clear hb

        go_wp2_with (fail)
        have HR0 := keepr R0
        have HR1 := keepr R1
        have HrX := keepr rX
        have HC1 := keepr hC1
        have HC2 := keepr hC2
        refine wp_region_quiet_below (by kernel_rfl) (by kernel_rfl) ?_
        go_big_quiet_step (fail)
        refine wpQuiet_load_part rfl 27 _ rfl (gX) 0 rfl 27 (irow .u8 (bl (l))) (0, 0) (irow .u8 (bl (l))) _ HrX.out (by simp) Try.underlying27 rfl hil ?_
        simp only [Act.put, List.setIfInBounds_toArray, List.set_cons_succ, List.set_cons_zero]
        go_big_quiet_step (exact Calls.regrown_of (a_encrypt l Kq hlb g2 _ (HC2.out _ ⟨_, rfl⟩)))
        refine wpQuiet_load_part rfl 26 _ rfl (w.heap.size + 1) 0 rfl 26 (irow .u8 (bl (q))) (0, 0) (irow .u8 (bl (q))) _ HR1.out (by simp) Try.underlying26 rfl hiq ?_
        simp only [Act.put, List.setIfInBounds_toArray, List.set_cons_succ, List.set_cons_zero]
        refine wpQuiet_load_part rfl 27 _ rfl (gX) 0 rfl 27 (irow .u8 (bl (l))) (0, 0) (irow .u8 (bl (l))) _ HrX.out (by simp) Try.underlying27 rfl hil ?_
        simp only [Act.put, List.setIfInBounds_toArray, List.set_cons_succ, List.set_cons_zero]
        go_big_quiet_step (exact e2.re)
        go_big_quiet_step (fail)
        go_big_quiet_step (fail)
        go_big_quiet_step (fail)
        refine wpQuiet_load_part rfl 27 _ rfl (gX) 0 rfl 27 (irow .u8 (bl (l))) (0, 0) (irow .u8 (bl (l))) _ HrX.out (by simp) Try.underlying27 rfl hil ?_
        simp only [Act.put, List.setIfInBounds_toArray, List.set_cons_succ, List.set_cons_zero]
        go_big_quiet_step (exact Calls.regrown_of (a_decrypt l Kp hlb g1 _ (HC1.out _ ⟨_, rfl⟩)))
        refine wpQuiet_load_part rfl 26 _ rfl (w.heap.size) 0 rfl 26 (irow .u8 (bl (p))) (0, 0) (irow .u8 (bl (p))) _ HR0.out (by simp) Try.underlying26 rfl hip ?_
        simp only [Act.put, List.setIfInBounds_toArray, List.set_cons_succ, List.set_cons_zero]
        refine wpQuiet_load_part rfl 27 _ rfl (gX) 0 rfl 27 (irow .u8 (bl (l))) (0, 0) (irow .u8 (bl (l))) _ HrX.out (by simp) Try.underlying27 rfl hil ?_
        simp only [Act.put, List.setIfInBounds_toArray, List.set_cons_succ, List.set_cons_zero]
        go_big_quiet_step (exact f1.re)
        go_big_quiet_step (fail)
        go_big_quiet_step (fail)
        refine wpQuiet_nil ?_
        rintro _ ⟨p_, rfl⟩
        have hb := below_regrown x3 p_.d p_.os
        generalize grow (redrawn x3 p_.d) p_.os = x4 at *
        clear HC1 HC2 HR0 HR1 HrX
        replace R0 := keep hb R0
        replace R1 := keep hb R1
        replace rX := keep hb rX
        replace hC1 := hC1.keep hb
        replace hC2 := hC2.keep hb
        replace hS := hS.keep hb
        replace hw := Below.after hw hb
        clear hb

        go_wp2
        refine ⟨⟨k + 1, by omega, by go_num, R0, R1, hC1, hC2, hS, hw⟩, by simp [intOf]; omega⟩
      · obtain rfl : k = bs.length := by omega
        have hd : decide ((bs.length : Int) < (bs.length : Int)) = false := by simp
        go_wp2
        go_ret
        exact ⟨rfl, hw⟩

end Go.Proofs.Ytmldmlbmfbdjoaa


namespace Go.Proofs.Ytmldmlbmfbdjoaa
open Go Go.RowKit Go.Sort Go.ChangeShapes Go.WideShapes Go.Deep

theorem cells16 : Try.prog.cellsOf 27 = 16 := by kernel_rfl
theorem cellsOne : Try.prog.cellsOf 5 = 1 := by kernel_rfl
theorem bv_of {z : Int} (h : 0 ≤ z ∧ z < 256) : ∃ x : B, z = bv x := by
  obtain ⟨n, rfl⟩ := Int.eq_ofNat_of_zero_le h.1
  exact ⟨BitVec.ofNat 8 n, by unfold bv; rw [BitVec.toNat_ofNat]; omega⟩
theorem bl_of : ∀ (l : List Int), (∀ z ∈ l, 0 ≤ z ∧ z < 256) → ∃ bs : List B, l = bl bs ∧ bs.length = l.length
  | [], _ => ⟨[], rfl, rfl⟩
  | z :: r, h => by
    obtain ⟨x, rfl⟩ := bv_of (h z (by simp))
    obtain ⟨bs, rfl, e⟩ := bl_of r (fun y hy => h y (by simp [hy]))
    exact ⟨x :: bs, rfl, by simp [e]⟩
/-- Sixteen cells that are read as a block. -/
theorem cells_block {H : Type} {enc : TypeId × Value → H} {W : World} {n : Nat} {cs : List Value} {x : DataW H × List MemPlace} (h : DataW.trod enc Try.prog W 0 (fun _ => true) true n 27 cs = some x) : ∃ l : List B, l.length = 16 ∧ cs = (irow .u8 (bl l)).toList := by
  obtain ⟨xs, m, _, _, hlen, hn, hel⟩ := DataW.trod_array Try.underlying27 h
  rw [cells16] at hlen
  obtain ⟨l, hl, hw⟩ := ints_of cs .u8 (fun i hi => by
    have hin : i < 16 := by omega
    have e1 := hel i hin
    rw [cellsOne, List.getElem?_eq_getElem (show i < xs.length by omega)] at e1
    obtain ⟨a, q0, _, q2⟩ := DataW.trod_int Try.underlying5 e1
    simp only [Nat.mul_one] at q0
    rw [List.drop_eq_getElem_cons hi, List.take_succ_cons, List.take_zero] at q0
    injection q0 with q0 _
    exact ⟨a, q0, q2⟩)
  obtain ⟨bs, rfl, e⟩ := bl_of l (fun z hz => u8_of_wf (hw z hz))
  refine ⟨bs, ?_, by rw [hl]; simp [irow]⟩
  have := congrArg List.length hl
  rw [List.length_map, hlen] at this
  omega
/-- Blocks out of the data. -/
theorem bks_of_trod {H : Type} {enc : TypeId × Value → H} {W : World} {m : Nat} {v : Value} {x : DataW H × List MemPlace} (hf : DataW.trod enc Try.prog W 0 (fun _ => true) true m 35 [v] = some x) : ∃ bs : List (List B), Bks W v bs := by
  rcases open_slice Try.underlying35 hf with ⟨hcs, hx⟩ | ⟨a, len, cap, m, n, D, Pl, hcs, _, hl, hm, hmm, hx, hel⟩
  · injection hcs with hv _
    subst hv
    exact ⟨[], none, 0, rfl, by decide, fun i hi => by simp at hi⟩
  · injection hcs with hv _
    subst hv
    simp only [if_true] at hmm
    subst hmm
    rw [cells16] at hel
    obtain ⟨BS, hBS⟩ := choose_lt (α := List B) (p := fun i l => l.length = 16 ∧ W.cells? 0 (a.add (i * 16)) 16 = some (irow .u8 (bl l)).toList) (n := len) (fun i hi => by
      obtain ⟨cs', h1, h2⟩ := hel i (by omega)
      obtain ⟨l, e1, rfl⟩ := cells_block h2
      exact ⟨l, e1, h1⟩)
    simp only [maxLen] at hm
    refine ⟨(List.range len).map BS, some a, m, by simp, by simp; omega, fun i hi => ?_⟩
    have hi' : i < len := by simpa using hi
    obtain ⟨h1, h2⟩ := hBS i hi'
    have e : ((List.range len).map BS).getD i [] = BS i := by simp [List.getD_eq_getElem?_getD, hi']
    rw [e]
    obtain ⟨_, _, hc⟩ := World.cells?_some h2
    obtain ⟨bb, off, spot⟩ := a
    have hc0 : ∃ v, W.cell? ((⟨bb, off, spot⟩ : Addr).add (i * 16) |>.add 0) = some v := by
      rw [hc 0 (by omega)]
      exact ⟨_, List.getElem?_eq_getElem (show 0 < _ by rw [Array.length_toList, irow_size, bl_len, h1]; omega)⟩
    have hspot : spot = none := by
      obtain ⟨g1, g2⟩ := hBS 0 (by omega)
      obtain ⟨_, _, gc⟩ := World.cells?_some g2
      have e0 := gc 0 (by omega)
      rw [List.getElem?_eq_getElem (show 0 < _ by rw [Array.length_toList, irow_size, bl_len, g1]; omega)] at e0
      simpa [Addr.add] using World.cell?_spot e0
    subst hspot
    have hlt : bb < W.heap.size := by
      obtain ⟨v, hv⟩ := hc0
      rw [addr_add, addr_add] at hv
      rcases Nat.lt_or_ge bb W.heap.size with q | q
      · exact q
      · simp [World.cell?, Array.getElem?_eq_none q] at hv
    refine ⟨bb, off, rfl, hlt, h1, fun j u hu => ?_⟩
    have hj : j < 16 := by
      have := (List.getElem?_eq_some_iff.1 hu).1
      rw [Array.length_toList, irow_size, bl_len, h1] at this
      exact this
    have := hc j hj
    rw [addr_add, addr_add] at this
    rw [this, hu]
end Go.Proofs.Ytmldmlbmfbdjoaa
