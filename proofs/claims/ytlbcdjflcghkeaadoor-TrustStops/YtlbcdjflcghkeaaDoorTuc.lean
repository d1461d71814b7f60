import Derived.Test.YtlbcdjflcghkeaaDoorProg
import Derived.WalkKit
import Derived.WalkSpells
import Derived.WalkLawsBesides
import Derived.Lib.QuietBelow
import Derived.BigQuiet
import Derived.OrdersHeld
import Derived.OwnWalk
import Derived.Deep.RegionHeld3
import Derived.Deep.Cut
import Derived.Deep.CutRange
import Derived.Test.YtlbcdjflcghkeaaDoorTub
namespace Go.Proofs.YtlbcdjflcghkeaaDoor
set_option maxRecDepth 100000
open Go Go.RowKit Go.Sort
attribute [local go_sem] setCell_drewN alloc_drewN
theorem run_cmpS (w : World) (a b : ByteArray) : (callFunc 62 #[.string a, .string b]).run Tryd.prog w = .ok (.value (.int .i64 (cmn a b))) w := by
  rw [run_callFunc_extern Tryd.func62 (by kernel_rfl) (by kernel_rfl) (by kernel_rfl) (e := Extern.BytealgCompare.compare) (by kernel_rfl)]
  rw [Lib.run_compareString]
  rfl
set_option maxRecDepth 100000 in
set_option maxHeartbeats 8000000 in
theorem a_scm0 (a b : ByteArray) (w : World) : Calls Tryd.prog 46 #[.string a, .string b] w fun e w' => e = .returned (.int .i64 (cmn a b)) ∧ Below w.heap.size w w' := by
  have h := run_cmpS w a b
  go_enter Tryd.func46, Tryd.ntmps46
  go_wp2_with (fail)
  go_ret
  exact ⟨rfl, Below.refl _ _⟩
set_option maxRecDepth 100000 in
set_option maxHeartbeats 8000000 in
theorem a_scmp (a b : ByteArray) (w : World) : Calls Tryd.prog 36 #[.string a, .string b] w fun e w' => e = .returned (.int .i64 (cmn a b)) ∧ Below w.heap.size w w' := by
  go_enter Tryd.func36, Tryd.ntmps36
  go_wp2_with (fail)
  refine (a_scm0 a b _).mono ?_
  rintro e_ w1 ⟨rfl, hb⟩
  go_wp2_with (fail)
  go_ret
  exact ⟨rfl, hb⟩
set_option maxRecDepth 100000 in
set_option maxHeartbeats 8000000 in
theorem a_place1 (c : Ct) (m : ByteArray) (w : World) : Calls Tryd.prog 35 #[.agg (ctr c), .string m] w fun e w' => e = .returned (.int .i64 (cmn c.n m)) ∧ Below w.heap.size w w' := by
  have r0 := hp1_0 w (.cells (ctr c) 45)
  have hw : Below w.heap.size w (w.alloc (.cells (ctr c) 45)) := (Below.refl _ _).alloc (Nat.le_refl _) _
  have c0 := cell_at r0 (ct_n c)
  go_enter Tryd.func35, Tryd.ntmps35
  go_wp2_with (first | (refine wpList_box rfl 45 _ rfl _ rfl (ct_box _) ?_) | fail)
  refine (a_scmp c.n m _).mono ?_
  rintro e_ w1 ⟨rfl, hb⟩
  go_wp2_with (fail)
  go_ret
  exact ⟨rfl, Below.after hw hb⟩
set_option maxRecDepth 100000 in
set_option maxHeartbeats 8000000 in
theorem a_search (cs : List Ct) (m : ByteArray) (b : Nat) (v : Value) (w : World) (hO : OwnC w b v cs) (hs : Srt cs) (hl : cs.length ≤ 4096) : Calls Tryd.prog 34 #[v, .string m, .func (.func 35) #[] #[]] w fun e w' => e = .returned (.tuple #[.int .i64 (ps cs m : Nat), .bool (th cs m)]) ∧ Below w.heap.size w w' := by
  obtain ⟨ao, cap, rfl, hc1, hc2, _, _⟩ := hO.sl
  go_enter Tryd.func34, Tryd.ntmps34
  go_wp2_with (fail)
  go_loopw [9, 10] (fun x y wr => ∃ i j : Nat, i ≤ j ∧ j ≤ cs.length ∧ x = .int .i64 i ∧ y = .int .i64 j ∧ Below w.heap.size w wr ∧ Hid (∀ t, t < i → cmn (gc cs t).n m < 0) ∧ Hid (∀ t, j ≤ t → t < cs.length → 0 ≤ cmn (gc cs t).n m)) (fun x y _ => (intOf y).toNat - (intOf x).toNat)
  case atStart => exact ⟨0, cs.length, by omega, by omega, rfl, rfl, Below.refl _ _, hide (fun t ht => by omega), hide (fun t h1 h2 => by omega)⟩
  case round =>
    obtain ⟨i, j, hij, hj, rfl, rfl, hw, hI, hJ⟩ := hrel
    by_cases hlt : i < j
    · have hd : decide ((i : Int) < (j : Int)) = true := by simp; omega
      obtain ⟨h, hh⟩ : ∃ h : Nat, Hid (h = (i + j) / 2) := ⟨_, hide rfl⟩
      have eh : ((i : Int) + (j : Int)) / 2 = (h : Int) := by rw [hh.out]; omega
      have h1 : i ≤ h := by rw [hh.out]; omega
      have h2 : h < j := by rw [hh.out]; omega
      have h3 : 0 ≤ (h : Int) ∧ (h : Int) < (cs.length : Int) := by omega
      obtain ⟨g, rfl, hg, hr⟩ := (hO.keep hw).at (show h < cs.length by omega)
      have hok := (hO.2).at (show h < cs.length by omega)
      have hn1 : cmn (gc cs h).n m < 0 → Hid (∀ t, t < h + 1 → cmn (gc cs t).n m < 0) := fun q => hide (fun t ht => hs.below (show h < cs.length by omega) q t (by omega))
      have hn2 : 0 ≤ cmn (gc cs h).n m → Hid (∀ t, h ≤ t → t < cs.length → 0 ≤ cmn (gc cs t).n m) := fun q => hide (fun t h1 h2 => hs.above (show h < cs.length by omega) q t h1 h2)
      change wr.rangeAt g (h * 66) (ctl (gc cs h)) at hr
      change (gc cs h).ok at hok
      go_wp2_with (first | (refine wpList_load_rng rfl 45 _ rfl g (h * 66) rfl (ctl (gc cs h)) _ hr Tryd.underlying45 rfl (by rw [ctl_len _ hok.1.1 hok.2.1]; kernel_rfl) ?_) | fail)
      refine (a_place1 (gc cs h) m _).mono ?_
      rintro e_ w1 ⟨rfl, hb⟩
      replace hw := Below.after hw hb
      by_cases hq : cmn (gc cs h).n m < 0
      · have hdd : decide (cmn (gc cs h).n m < 0) = true := by simpa using hq
        have hI2 := hn1 hq
        clear hn1 hn2 hI hq
        go_wp2_with (fail)
        refine ⟨⟨h + 1, j, by omega, hj, by go_num, rfl, hw, hI2, hJ⟩, ?_⟩
        simp [intOf]; omega
      · have hdd : decide (cmn (gc cs h).n m < 0) = false := by simpa using hq
        have hJ2 := hn2 (by omega)
        clear hn1 hn2 hJ hq
        go_wp2_with (fail)
        refine ⟨⟨i, h, by omega, by omega, rfl, rfl, hw, hI, hJ2⟩, ?_⟩
        simp [intOf]; omega
    · obtain rfl : i = j := by omega
      have hd : decide ((i : Int) < (i : Int)) = false := by simp
      have hp : ps cs m = i := ps_of hj hI.out (fun q => hJ.out i (Nat.le_refl _) q)
      by_cases hlt : i < cs.length
      · obtain ⟨g, rfl, hg, hr⟩ := (hO.keep hw).at hlt
        have hok := (hO.2).at hlt
        have h3 : 0 ≤ (i : Int) ∧ (i : Int) < (cs.length : Int) := by omega
        have hd2 : decide ((i : Int) < (cs.length : Int)) = true := by simp; omega
        change wr.rangeAt g (i * 66) (ctl (gc cs i)) at hr
        change (gc cs i).ok at hok
        have ht : th cs m = decide (cmn (gc cs i).n m = 0) := by
          rw [Bool.eq_iff_iff, th_iff hs, hp, decide_eq_true_iff, cmn_zero]
          exact ⟨fun q => q.2, fun q => ⟨hlt, q⟩⟩
        have hpt : Hid (ps cs m = i ∧ th cs m = decide (cmn (gc cs i).n m = 0)) := hide ⟨hp, ht⟩
        clear hI hJ hO hs hp ht
        go_wp2_with (first | (refine wpList_load_rng rfl 45 _ rfl g (i * 66) rfl (ctl (gc cs i)) _ hr Tryd.underlying45 rfl (by rw [ctl_len _ hok.1.1 hok.2.1]; kernel_rfl) ?_) | fail)
        refine (a_place1 (gc cs i) m _).mono ?_
        rintro e_ w1 ⟨rfl, hb⟩
        replace hw := Below.after hw hb
        go_wp2_with (fail)
        exact bodyPost_ret (results_tmp2 Tryd.results34 _ _ _) rfl ⟨by rw [hpt.out.1, hpt.out.2]; rfl, hw⟩
      · have ht : th cs m = false := by
          rw [Bool.eq_false_iff]
          intro q
          have := ((th_iff hs m).1 q).1
          omega
        have hd2 : decide ((i : Int) < (cs.length : Int)) = false := by simp; omega
        have hpt : Hid (ps cs m = i ∧ th cs m = false) := hide ⟨hp, ht⟩
        clear hI hJ hO hs hp ht
        go_wp2_with (fail)
        exact bodyPost_ret (results_tmp2 Tryd.results34 _ _ _) rfl ⟨by rw [hpt.out.1, hpt.out.2]; rfl, hw⟩
set_option maxRecDepth 100000 in
set_option maxHeartbeats 8000000 in
theorem a_place (cs : List Ct) (m : ByteArray) (b : Nat) (v : Value) (w : World) (hO : OwnC w b v cs) (hs : Srt cs) (hl : cs.length ≤ 4096) : Calls Tryd.prog 28 #[v, .string m] w fun e w' => e = .returned (.tuple #[.int .i64 (ps cs m : Nat), .bool (th cs m)]) ∧ Below w.heap.size w w' := by
  have cS := a_search cs m b v w hO hs hl
  go_enter Tryd.func28, Tryd.ntmps28
  go_wp2_with (fail)
  refine cS.mono ?_
  rintro e_ w1 ⟨rfl, hb⟩
  go_wp2_with (fail)
  exact bodyPost_ret (results_tmp2 Tryd.results28 _ _ _) rfl ⟨rfl, hb⟩
theorem zct_ok : zct.ok := ⟨k32_zero, k32_zero⟩
theorem fnC_no {cs : List Ct} {m : ByteArray} (h : th cs m = false) : fnC cs m = zct := by
  unfold th at h
  unfold fnC
  cases q : fd cs m with
  | none => rfl
  | some c => rw [q] at h; cases h
theorem fnC_yes {cs : List Ct} (hs : Srt cs) {m : ByteArray} (h : th cs m = true) : fnC cs m = gc cs (ps cs m) := by
  unfold fnC
  rw [fd_at hs h]
  rfl
theorem fnC_ok {cs : List Ct} (h : AllC cs) (m : ByteArray) : (fnC cs m).ok := by
  unfold fnC
  cases q : fd cs m with
  | none => exact zct_ok
  | some c => exact h c (fd_some q).1
set_option maxRecDepth 100000 in
set_option maxHeartbeats 8000000 in
theorem a_find (cs : List Ct) (m : ByteArray) (b : Nat) (v : Value) (w : World) (hO : OwnC w b v cs) (hs : Srt cs) (hl : cs.length ≤ 4096) : Calls Tryd.prog 18 #[v, .string m] w fun e w' => e = .returned (.agg (ctr (fnC cs m))) ∧ Below w.heap.size w w' := by
  obtain ⟨ao, cap, rfl, hc1, hc2, _, _⟩ := hO.sl
  have rp0 := hp1_0 w (.cells (ctr zct) 45)
  have hw : Below w.heap.size w (w.alloc (.cells (ctr zct) 45)) := ((Below.refl _ _).alloc (Nat.le_refl _) _)
  replace hO := hO.keep hw
  go_enter Tryd.func18, Tryd.ntmps18
  go_upto_region 1 with (first | (refine wpList_alloc rfl 45 rfl (ctr zct) zCt ?_) | fail)
  try simp only [size_alloc1]
  generalize (w.alloc (.cells (ctr zct) 45)) = w0 at *
  go_wp2_with (fail)
  refine (a_place cs m b _ _ hO hs hl).mono ?_
  rintro e_ w1 ⟨rfl, hb⟩
  replace rp0 := keep hb rp0
  replace hO := hO.keep hb
  replace hw := Below.after hw hb
  clear hb
  cases ht : th cs m with
  | false =>
    have hf := hide (fnC_no ht)
    go_wp2_with (first | (refine wpList_load_part rfl 45 _ rfl (w.heap.size) 0 rfl 45 (ctr zct) (0, 0) (ctr zct) _ rp0 (all_rowe _) Tryd.underlying45 rfl (ct_info _ zct_ok.1.1 zct_ok.2.1) ?_) | (refine wpList_load_part rfl 23 _ rfl (w.heap.size) 1 rfl 45 (ctr zct) (0, 0) (irow .u8 zct.k) _ rp0 (ct_k zct zct_ok.1.1) Tryd.underlying23 rfl (infoKy _ zct_ok.1.1) ?_) | (refine wpList_load_part rfl 23 _ rfl (w.heap.size) 33 rfl 45 (ctr zct) (0, 0) (irow .u8 zct.x) _ rp0 (ct_x zct zct_ok.1.1 zct_ok.2.1) Tryd.underlying23 rfl (infoKy _ zct_ok.2.1) ?_) | (refine wpList_build_as rfl 45 _ rfl [] rfl (ctr zct) bt_z ?_) | (refine wpList_store_row rfl 45 _ _ rfl (w.heap.size) (ctr zct) rfl rfl 45 _ rp0 (ct_info _ zct_ok.1.1 zct_ok.2.1) ((ctr_size _ zct_ok.1.1 zct_ok.2.1).trans (ctr_size _ zct_ok.1.1 zct_ok.2.1).symm) (ctr_one _) ?_) | fail)
    exact bodyPost_ret (v := .agg (ctr zct)) (results_cell_row Tryd.results18 _ _ (w.heap.size) _ (ctr zct) _ _ rfl (setRow_heap _ _ _ _ _ _ rp0) Tryd.underlying45 rfl (ct_info _ zct_ok.1.1 zct_ok.2.1)) rfl ⟨by rw [hf.out], below_setRow hw (by omega) _⟩
  | true =>
    have hf := hide (fnC_yes hs ht)
    have hlt := ((th_iff hs m).1 ht).1
    obtain ⟨g, rfl, hg, hr⟩ := hO.at hlt
    have hok := (hO.2).at hlt
    have h3 : 0 ≤ ((ps cs m : Nat) : Int) ∧ ((ps cs m : Nat) : Int) < (cs.length : Int) := by omega
    change w1.rangeAt g (ps cs m * 66) (ctl (gc cs (ps cs m))) at hr
    change (gc cs (ps cs m)).ok at hok
    generalize gc cs (ps cs m) = c at *
    generalize ps cs m = i at *
    go_wp2_with (first | (refine wpList_load_part rfl 45 _ rfl (w.heap.size) 0 rfl 45 (ctr zct) (0, 0) (ctr zct) _ rp0 (all_rowe _) Tryd.underlying45 rfl (ct_info _ zct_ok.1.1 zct_ok.2.1) ?_) | (refine wpList_load_part rfl 23 _ rfl (w.heap.size) 1 rfl 45 (ctr zct) (0, 0) (irow .u8 zct.k) _ rp0 (ct_k zct zct_ok.1.1) Tryd.underlying23 rfl (infoKy _ zct_ok.1.1) ?_) | (refine wpList_load_part rfl 23 _ rfl (w.heap.size) 33 rfl 45 (ctr zct) (0, 0) (irow .u8 zct.x) _ rp0 (ct_x zct zct_ok.1.1 zct_ok.2.1) Tryd.underlying23 rfl (infoKy _ zct_ok.2.1) ?_) | (refine wpList_load_rng rfl 45 _ rfl g (i * 66) rfl (ctl c) _ hr Tryd.underlying45 rfl (by rw [ctl_len _ hok.1.1 hok.2.1]; kernel_rfl) ?_) | (refine wpList_store_row rfl 45 _ _ rfl (w.heap.size) (ctr c) rfl rfl 45 _ rp0 (ct_info _ hok.1.1 hok.2.1) ((ctr_size _ zct_ok.1.1 zct_ok.2.1).trans (ctr_size _ hok.1.1 hok.2.1).symm) (ctr_one _) ?_) | fail)
    exact bodyPost_ret (v := .agg (ctr c)) (results_cell_row Tryd.results18 _ _ (w.heap.size) _ (ctr c) _ _ rfl (setRow_heap _ _ _ _ _ _ rp0) Tryd.underlying45 rfl (ct_info _ hok.1.1 hok.2.1)) rfl ⟨by rw [hf.out], below_setRow hw (by omega) _⟩
end Go.Proofs.YtlbcdjflcghkeaaDoor
