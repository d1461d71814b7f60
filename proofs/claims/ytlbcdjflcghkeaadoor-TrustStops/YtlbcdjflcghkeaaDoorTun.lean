import Derived.Test.YtlbcdjflcghkeaaDoorProg
import Derived.WalkKit
import Derived.WalkSpells
import Derived.WalkLawsBesides
import Derived.Lib.QuietBelow
import Derived.BigQuiet
import Derived.OrdersHeld
import Derived.OwnWalk
import Derived.Deep.RegionHeld3
import Derived.Deep.Cut
import Derived.Deep.CutRange
import Derived.Deep.CutBlock
import Derived.Test.YtlbcdjflcghkeaaDoorTum
namespace Go.Proofs.YtlbcdjflcghkeaaDoor
set_option maxRecDepth 100000
open Go Go.RowKit Go.Sort
attribute [local go_sem] setCell_drewN alloc_drewN
/-- Events and contacts behind what a call made. -/
def nxt (es : List Ev) (cs : List Ct) (oe : Option Ev) : List Ev × List Ct := match oe with
  | none => (es, cs)
  | some e => (if (hpn cs e).isSome = true then es ++ [e] else es, (hpn cs e).getD cs)
/-- An event, if there is room. -/
def rm (es : List Ev) (e : Ev) (a : Int) : Int × Option Ev := if 1024 ≤ es.length then (224, none) else (a, some e)
def seR (es : List Ev) (cs : List Ct) (m : ByteArray) (k : List Int) : Int × Option Ev :=
  if nam m = false then (1, none) else if (fnC cs m).s = 0 then (if 64 ≤ cs.length then (224, none) else rm es ⟨1, m, k⟩ 0) else if (fnC cs m).s = 4 then (222, none)
  else if clm (fnC cs m) = true ∧ k = (fnC cs m).k then (0, none) else if (fnC cs m).s = 3 ∧ (k = (fnC cs m).k ∨ k = (fnC cs m).x) then (223, none) else rm es ⟨2, m, k⟩ 223
def acR (es : List Ev) (cs : List Ct) (m : ByteArray) : Int × Option Ev := if (fnC cs m).s = 0 then (220, none) else if (fnC cs m).s = 3 then rm es ⟨3, m, (fnC cs m).x⟩ 0 else (225, none)
def blR (es : List Ev) (cs : List Ct) (m : ByteArray) : Int × Option Ev := if (fnC cs m).s = 0 then (220, none) else if (fnC cs m).s = 4 then (222, none) else rm es ⟨5, m, zr 32⟩ 0
def ubR (es : List Ev) (cs : List Ct) (m : ByteArray) : Int × Option Ev := if (fnC cs m).s = 0 then (220, none) else if (fnC cs m).s = 4 then rm es ⟨6, m, zr 32⟩ 0 else (225, none)
def foR (es : List Ev) (cs : List Ct) (m : ByteArray) : Int × Option Ev := if (fnC cs m).s = 0 then (220, none) else rm es ⟨7, m, zr 32⟩ 0
/-- What a call answers and makes. -/
def CaR (b g : Nat) (ve vc : Value) (y : List Int) (es : List Ev) (cs : List Ct) (z : Int × Option Ev) (w : World) (en : Ending) (w' : World) : Prop := ∃ ve' vc', en = .returned (.int .i64 z.1) ∧ Bk w' b g ve' vc' y (nxt es cs z.2).1 (nxt es cs z.2).2 ∧ Nx w ve ve' ∧ Nx w vc vc' ∧ Fr (ownB g ve vc) w w'
theorem CaR.still {b g : Nat} {ve vc : Value} {y : List Int} {es : List Ev} {cs : List Ct} {z : Int × Option Ev} {w w' : World} {a : Int} {en : Ending} (hz : z = (a, none)) (he : en = .returned (.int .i64 a)) (hB : Bk w' b g ve vc y es cs) (hw : Below w.heap.size w w') : CaR b g ve vc y es cs z w en w' := by
  subst hz
  exact ⟨ve, vc, he, hB, Nx.refl _ _, Nx.refl _ _, Fr.of hw⟩
theorem fld_s (c : Ct) (hc : c.ok) (W : World) : (Instr.field 45 (.agg (ctr c)) 3).run Tryd.prog W = .ok (.int .i64 c.s) W := by
  obtain ⟨n, k, x, s⟩ := c
  obtain ⟨x0, x1, x2, x3, x4, x5, x6, x7, x8, x9, x10, x11, x12, x13, x14, x15, x16, x17, x18, x19, x20, x21, x22, x23, x24, x25, x26, x27, x28, x29, x30, x31, rfl⟩ := len32 k hc.1.1
  obtain ⟨y0, y1, y2, y3, y4, y5, y6, y7, y8, y9, y10, y11, y12, y13, y14, y15, y16, y17, y18, y19, y20, y21, y22, y23, y24, y25, y26, y27, y28, y29, y30, y31, rfl⟩ := len32 x hc.2.1
  kernel_rfl
set_option maxRecDepth 100000 in
set_option maxHeartbeats 8000000 in
theorem a_New (y : List Int) (hy : K32 y) (w : World) : Calls Tryd.prog 6 #[.agg (irow .u8 y)] w fun en w' => ∃ g, en = .returned (.pointer (some ⟨g, 0, none⟩)) ∧ Bk w' w.heap.size g (.slice none 0 0) (.slice none 0 0) y [] [] ∧ Below w.heap.size w w' := by
  have rp0 := hp1_0 w (.cells (irow .u8 y) 23)
  have hw : Below w.heap.size w (w.alloc (.cells (irow .u8 y) 23)) := ((Below.refl _ _).alloc (Nat.le_refl _) _)
  go_enter Tryd.func6, Tryd.ntmps6
  go_upto_region 1 with (first | (refine wpList_box rfl 23 _ rfl _ rfl (bKy _) ?_) | fail)
  try simp only [size_alloc1]
  generalize (w.alloc (.cells (irow .u8 y) 23)) = w0 at *
  have r2 := hp1_0 w0 (.cells (bkr y (.slice none 0 0) (.slice none 0 0)) 51)
  have hb : Below w0.heap.size w0 (w0.alloc (.cells (bkr y (.slice none 0 0) (.slice none 0 0)) 51)) := (Below.refl _ _).alloc (Nat.le_refl _) _
  have hs0 := hw.size
  replace hw := Below.after hw hb
  go_wp2_with (first | (refine wpList_load_part rfl 23 _ rfl (w.heap.size) 0 rfl 23 (irow .u8 y) (0, 0) (irow .u8 y) _ rp0 (all_rowe _) Tryd.underlying23 rfl (infoKy _ hy.1) ?_) | (refine wpList_build_as rfl 51 _ rfl [(0, .agg (irow .u8 y))] rfl (bkr y (.slice none 0 0) (.slice none 0 0)) (bt_b y hy.1) ?_) | (refine wpList_box rfl 51 _ rfl _ rfl (bk_box _) ?_) | fail)
  go_ret
  exact ⟨w0.heap.size, rfl, ⟨r2, OwnE.nil _ _, OwnC.nil _ _, hy, hs0, trivial, (fun c hc => by cases hc), by simp, by simp⟩, hw⟩
set_option maxRecDepth 100000 in
set_option maxHeartbeats 8000000 in
theorem a_Contacts (b g : Nat) (ve vc : Value) (y : List Int) (es : List Ev) (cs : List Ct) (w : World) (hB : Bk w b g ve vc y es cs) : Calls Tryd.prog 14 #[.pointer (some ⟨g, 0, none⟩)] w fun en w' => ∃ v', en = .returned v' ∧ OwnC w' w.heap.size v' cs ∧ Below w.heap.size w w' := by
  have cC := a_CloneC cs b _ w hB.cts (by have := hB.len; omega)
  obtain ⟨ao, cap, rfl, hc1, hc2, hz1, hz2⟩ := hB.cts.sl
  obtain ⟨ae, ca, rfl, hc3, hc4, hz3, hz4⟩ := hB.evs.sl
  go_enter Tryd.func14, Tryd.ntmps14
  have fc1 := hB.ce
  have fc2 := hB.cc
  go_wp2_with (first | fail)
  clear fc1 fc2
  refine cC.mono ?_
  rintro e_ w1 ⟨v1, rfl, hO, hw⟩
  obtain ⟨a1, c1, rfl, _, _, _, _⟩ := hO.sl
  go_wp2_with (fail)
  go_ret
  exact ⟨_, rfl, hO, hw⟩
set_option maxRecDepth 100000 in
set_option maxHeartbeats 8000000 in
theorem a_Events (b g : Nat) (ve vc : Value) (y : List Int) (es : List Ev) (cs : List Ct) (w : World) (hB : Bk w b g ve vc y es cs) : Calls Tryd.prog 15 #[.pointer (some ⟨g, 0, none⟩)] w fun en w' => ∃ v', en = .returned v' ∧ OwnE w' w.heap.size v' es ∧ Below w.heap.size w w' := by
  have cC := a_CloneE es b _ w hB.evs (by have := hB.elen; omega)
  obtain ⟨ao, cap, rfl, hc1, hc2, hz1, hz2⟩ := hB.cts.sl
  obtain ⟨ae, ca, rfl, hc3, hc4, hz3, hz4⟩ := hB.evs.sl
  go_enter Tryd.func15, Tryd.ntmps15
  have fc3 := hB.ce
  have fc4 := hB.cc
  go_wp2_with (first | fail)
  clear fc3 fc4
  refine cC.mono ?_
  rintro e_ w1 ⟨v1, rfl, hO, hw⟩
  obtain ⟨a1, c1, rfl, _, _, _, _⟩ := hO.sl
  go_wp2_with (fail)
  go_ret
  exact ⟨_, rfl, hO, hw⟩
set_option maxRecDepth 100000 in
set_option maxHeartbeats 8000000 in
theorem a_May (m : ByteArray) (_hm : m.size ≤ 9223372036854775806) (k : List Int) (hk : K32 k) (b g : Nat) (ve vc : Value) (y : List Int) (es : List Ev) (cs : List Ct) (w : World) (hB : Bk w b g ve vc y es cs) : Calls Tryd.prog 8 #[.pointer (some ⟨g, 0, none⟩), .string m, .agg (irow .u8 k)] w fun en w' => en = .returned (.bool (clm (fnC cs m) && decide (k = (fnC cs m).k))) ∧ Below w.heap.size w w' := by
  obtain ⟨ao, cap, rfl, hc1, hc2, hz1, hz2⟩ := hB.cts.sl
  obtain ⟨ae, ca, rfl, hc3, hc4, hz3, hz4⟩ := hB.evs.sl
  have hcl := hB.len
  have hcok := fnC_ok hB.cts.2 m
  have _hst : (fnC cs m).s ≠ 0 → 1 ≤ (fnC cs m).s ∧ (fnC cs m).s ≤ 4 := fun q => by
    unfold fnC at q ⊢
    cases qq : fd cs m with
    | none => rw [qq] at q; exact absurd rfl q
    | some d => exact hB.sta d (fd_some qq).1
  have cF : ∀ W, Bk W b g (.slice ae es.length ca) (.slice ao cs.length cap) y es cs → Calls Tryd.prog 18 #[.slice ao cs.length cap, .string m] W fun e_ w' => e_ = .returned (.agg (ctr (fnC cs m))) ∧ Below W.heap.size W w' := fun W hW => a_find cs m b _ W hW.cts hW.srt (by omega)
  have hgen : ∀ c, fnC cs m = c → (clm (fnC cs m) && decide (k = (fnC cs m).k)) = (clm c && decide (k = c.k)) := fun c q => by rw [q]
  clear _hst hgen
  obtain ⟨z, hz⟩ : ∃ z, Hid ((clm (fnC cs m) && decide (k = (fnC cs m).k)) = z) := ⟨_, hide rfl⟩
  rw [hz.out]
  generalize hce : fnC cs m = c at *
  have rp0 := hp1_0 w (.cells (irow .u8 k) 23)
  have hw : Below w.heap.size w (w.alloc (.cells (irow .u8 k) 23)) := ((Below.refl _ _).alloc (Nat.le_refl _) _)
  replace hB := hB.keep hw
  go_enter Tryd.func8, Tryd.ntmps8
  go_upto_region 1 with (first | (refine wpList_box rfl 23 _ rfl _ rfl (bKy _) ?_) | fail)
  try simp only [size_alloc1]
  generalize (w.alloc (.cells (irow .u8 k) 23)) = w0 at *
  have fc5 := hB.ce
  have fc6 := hB.cc
  go_wp2_with (first | (refine wpList_load_part rfl 23 _ rfl (w.heap.size) 0 rfl 23 (irow .u8 k) (0, 0) (irow .u8 k) _ rp0 (all_rowe _) Tryd.underlying23 rfl (infoKy _ hk.1) ?_) | fail)
  clear fc5 fc6
  refine (cF _ hB).mono ?_
  rintro e_ w1 ⟨rfl, hb⟩
  replace rp0 := keep hb rp0
  replace hB := hB.keep hb
  replace hw := Below.after hw hb
  clear hb
  go_wp2_with (first | (refine wpList_store_row rfl 45 _ _ rfl (w1.heap.size) (ctr c) rfl rfl 45 (ctr zct) (hp1_0 w1 _) (ct_info _ hcok.1.1 hcok.2.1) ((ctr_size _ zct_ok.1.1 zct_ok.2.1).trans (ctr_size _ hcok.1.1 hcok.2.1).symm) (ctr_one _) ?_; rw [setRow_alloc_new _ _ _ _ _ _ (by simp)]; refine wpList_stay ?_) | (refine wpList_alloc rfl 45 rfl (ctr zct) zCt ?_) | fail)
  unfold WpStay
  try simp only [Act.put]
  have rl7 := hp1_0 w1 (.cells (ctr c) 45)
  have hb : Below w1.heap.size w1 (w1.alloc (.cells (ctr c) 45)) := (Below.refl _ _).alloc (Nat.le_refl _) _
  generalize (w1.alloc (.cells (ctr c) 45)) = w2 at *
  have lt_gc_0 := lt_of_row rp0
  have sz_gc := hw.size
  replace rp0 := keep hb rp0
  replace hB := hB.keep hb
  replace hw := Below.after hw hb
  clear hb
  generalize w1.heap.size = gc at *
  clear w1
  have eQ1 := eq_k k c.k hk.1 hcok.1.1
  have aCL := a_calm c hcok
  generalize dCL : clm c = xCL at *
  generalize dQ1 : decide (k = c.k) = xQ1 at *
  have hu : Hid (z = (xCL && xQ1)) := hide hz.out.symm
  have fc7 := cell_at rl7 (ct_n c)
  have fc8 := cell_at rl7 (ct_s c hcok.1.1 hcok.2.1)
  have fc9 := hB.ce
  have fc10 := hB.cc
  go_wp2_with (first | (refine wpList_load_part rfl 23 _ rfl (w.heap.size) 0 rfl 23 (irow .u8 k) (0, 0) (irow .u8 k) _ rp0 (all_rowe _) Tryd.underlying23 rfl (infoKy _ hk.1) ?_) | (refine wpList_load_part rfl 45 _ rfl (gc) 0 rfl 45 (ctr c) (0, 0) (ctr c) _ rl7 (all_rowe _) Tryd.underlying45 rfl (ct_info _ hcok.1.1 hcok.2.1) ?_) | (refine wpList_load_part rfl 23 _ rfl (gc) 1 rfl 45 (ctr c) (0, 0) (irow .u8 c.k) _ rl7 (ct_k c hcok.1.1) Tryd.underlying23 rfl (infoKy _ hcok.1.1) ?_) | (refine wpList_load_part rfl 23 _ rfl (gc) 33 rfl 45 (ctr c) (0, 0) (irow .u8 c.x) _ rl7 (ct_x c hcok.1.1 hcok.2.1) Tryd.underlying23 rfl (infoKy _ hcok.2.1) ?_) | fail)
  clear fc7 fc8 fc9 fc10
  refine (aCL _).mono ?_
  rintro e_ w3 ⟨rfl, hb⟩
  replace rp0 := keep hb rp0
  replace rl7 := keep hb rl7
  replace hB := hB.keep hb
  replace hw := Below.after hw hb
  clear hb
  cases xCL
  · skip
    have fc11 := cell_at rl7 (ct_n c)
    have fc12 := cell_at rl7 (ct_s c hcok.1.1 hcok.2.1)
    have fc13 := hB.ce
    have fc14 := hB.cc
    go_wp2_with (first | (refine wpList_load_part rfl 23 _ rfl (w.heap.size) 0 rfl 23 (irow .u8 k) (0, 0) (irow .u8 k) _ rp0 (all_rowe _) Tryd.underlying23 rfl (infoKy _ hk.1) ?_) | (refine wpList_load_part rfl 45 _ rfl (gc) 0 rfl 45 (ctr c) (0, 0) (ctr c) _ rl7 (all_rowe _) Tryd.underlying45 rfl (ct_info _ hcok.1.1 hcok.2.1) ?_) | (refine wpList_load_part rfl 23 _ rfl (gc) 1 rfl 45 (ctr c) (0, 0) (irow .u8 c.k) _ rl7 (ct_k c hcok.1.1) Tryd.underlying23 rfl (infoKy _ hcok.1.1) ?_) | (refine wpList_load_part rfl 23 _ rfl (gc) 33 rfl 45 (ctr c) (0, 0) (irow .u8 c.x) _ rl7 (ct_x c hcok.1.1 hcok.2.1) Tryd.underlying23 rfl (infoKy _ hcok.2.1) ?_) | fail)
    go_ret
    exact ⟨by rw [hu.out]; rfl, hw⟩
  · skip
    have fc15 := cell_at rl7 (ct_n c)
    have fc16 := cell_at rl7 (ct_s c hcok.1.1 hcok.2.1)
    have fc17 := hB.ce
    have fc18 := hB.cc
    go_wp2_with (first | (refine wpList_load_part rfl 23 _ rfl (w.heap.size) 0 rfl 23 (irow .u8 k) (0, 0) (irow .u8 k) _ rp0 (all_rowe _) Tryd.underlying23 rfl (infoKy _ hk.1) ?_) | (refine wpList_load_part rfl 45 _ rfl (gc) 0 rfl 45 (ctr c) (0, 0) (ctr c) _ rl7 (all_rowe _) Tryd.underlying45 rfl (ct_info _ hcok.1.1 hcok.2.1) ?_) | (refine wpList_load_part rfl 23 _ rfl (gc) 1 rfl 45 (ctr c) (0, 0) (irow .u8 c.k) _ rl7 (ct_k c hcok.1.1) Tryd.underlying23 rfl (infoKy _ hcok.1.1) ?_) | (refine wpList_load_part rfl 23 _ rfl (gc) 33 rfl 45 (ctr c) (0, 0) (irow .u8 c.x) _ rl7 (ct_x c hcok.1.1 hcok.2.1) Tryd.underlying23 rfl (infoKy _ hcok.2.1) ?_) | fail)
    go_ret
    exact ⟨by rw [hu.out]; rfl, hw⟩
set_option maxRecDepth 100000 in
set_option maxHeartbeats 8000000 in
theorem a_Forget (m : ByteArray) (hm : m.size ≤ 9223372036854775806) (b g : Nat) (ve vc : Value) (y : List Int) (es : List Ev) (cs : List Ct) (w : World) (hB : Bk w b g ve vc y es cs) : Calls Tryd.prog 9 #[.pointer (some ⟨g, 0, none⟩), .string m] w (CaR b g ve vc y es cs (foR es cs m) w) := by
  obtain ⟨ao, cap, rfl, hc1, hc2, hz1, hz2⟩ := hB.cts.sl
  obtain ⟨ae, ca, rfl, hc3, hc4, hz3, hz4⟩ := hB.evs.sl
  have hcl := hB.len
  have hcok := fnC_ok hB.cts.2 m
  have hst : (fnC cs m).s ≠ 0 → 1 ≤ (fnC cs m).s ∧ (fnC cs m).s ≤ 4 := fun q => by
    unfold fnC at q ⊢
    cases qq : fd cs m with
    | none => rw [qq] at q; exact absurd rfl q
    | some d => exact hB.sta d (fd_some qq).1
  have cF : ∀ W, Bk W b g (.slice ae es.length ca) (.slice ao cs.length cap) y es cs → Calls Tryd.prog 18 #[.slice ao cs.length cap, .string m] W fun e_ w' => e_ = .returned (.agg (ctr (fnC cs m))) ∧ Below W.heap.size W w' := fun W hW => a_find cs m b _ W hW.cts hW.srt (by omega)
  generalize hce : fnC cs m = c at *
  have hw : Below w.heap.size w w := Below.refl _ _
  go_enter Tryd.func9, Tryd.ntmps9
  have fc19 := hB.ce
  have fc20 := hB.cc
  go_wp2_with (first | fail)
  clear fc19 fc20
  refine (cF _ hB).mono ?_
  rintro e_ w1 ⟨rfl, hb⟩
  replace hB := hB.keep hb
  replace hw := Below.after hw hb
  clear hb
  have fS := fld_s c hcok
  generalize dS0 : (c.s == 0) = xS0 at *
  generalize dR : decide (1024 ≤ es.length) = xR
  cases xS0
  · skip
    cases xR
    · skip
      have pS0 : ¬ c.s = 0 := by simpa using dS0
      have pR : ¬ 1024 ≤ es.length := by simpa using dR
      have hu : Hid (foR es cs m = (0, some ⟨7, m, (zr 32)⟩)) := hide (by unfold foR; rw [hce]; rw [if_neg pS0]; unfold rm; rw [if_neg pR])
      have fc21 := hB.ce
      have fc22 := hB.cc
      go_wp2_with (first | (refine wpList_build_want rfl 23 _ rfl [] rfl (irow .u8 (zr 32)) builtZk ?_) | fail)
      clear fc21 fc22
      refine (add_go 7 (by decide) m hm (zr 32) k32_zero b g _ _ y es cs _ hB (by omega)).mono ?_
      rintro e_ wz1 ⟨ve', vc', rfl, hB2, hN1, hN2, hF⟩
      replace hN1 := hN1.of hw.size
      replace hN2 := hN2.of hw.size
      replace hF := (Fr.of hw).step hF (fun _ _ q => q)
      go_wp2_with (fail)
      go_ret
      exact ⟨ve', vc', by rw [hu.out]; rfl, by rw [hu.out]; exact hB2, hN1, hN2, hF⟩
    · skip
      have pS0 : ¬ c.s = 0 := by simpa using dS0
      have pR : 1024 ≤ es.length := by simpa using dR
      have hu : Hid (foR es cs m = (224, none)) := hide (by unfold foR; rw [hce]; rw [if_neg pS0]; unfold rm; rw [if_pos pR])
      have fc23 := hB.ce
      have fc24 := hB.cc
      go_wp2_with (first | (refine wpList_build_want rfl 23 _ rfl [] rfl (irow .u8 (zr 32)) builtZk ?_) | fail)
      clear fc23 fc24
      refine (add_no 7 (by decide) m hm (zr 32) k32_zero b g _ _ y es cs _ hB pR).mono ?_
      rintro e_ wz2 ⟨rfl, hB9, hb⟩
      replace hB := hB.keep hb
      replace hw := Below.after hw hb
      clear hb
      clear hB9
      go_wp2_with (fail)
      go_ret
      exact CaR.still hu.out rfl hB hw
  · skip
    have pS0 : c.s = 0 := by simpa using dS0
    have hu : Hid (foR es cs m = (220, none)) := hide (by unfold foR; rw [hce]; rw [if_pos pS0])
    have fc25 := hB.ce
    have fc26 := hB.cc
    go_wp2_with (first | (refine wpList_build_want rfl 23 _ rfl [] rfl (irow .u8 (zr 32)) builtZk ?_) | fail)
    clear fc25 fc26
    go_ret
    exact CaR.still hu.out rfl hB hw
set_option maxRecDepth 100000 in
set_option maxHeartbeats 8000000 in
theorem a_Block (m : ByteArray) (hm : m.size ≤ 9223372036854775806) (b g : Nat) (ve vc : Value) (y : List Int) (es : List Ev) (cs : List Ct) (w : World) (hB : Bk w b g ve vc y es cs) : Calls Tryd.prog 22 #[.pointer (some ⟨g, 0, none⟩), .string m] w (CaR b g ve vc y es cs (blR es cs m) w) := by
  obtain ⟨ao, cap, rfl, hc1, hc2, hz1, hz2⟩ := hB.cts.sl
  obtain ⟨ae, ca, rfl, hc3, hc4, hz3, hz4⟩ := hB.evs.sl
  have hcl := hB.len
  have hcok := fnC_ok hB.cts.2 m
  have hst : (fnC cs m).s ≠ 0 → 1 ≤ (fnC cs m).s ∧ (fnC cs m).s ≤ 4 := fun q => by
    unfold fnC at q ⊢
    cases qq : fd cs m with
    | none => rw [qq] at q; exact absurd rfl q
    | some d => exact hB.sta d (fd_some qq).1
  have cF : ∀ W, Bk W b g (.slice ae es.length ca) (.slice ao cs.length cap) y es cs → Calls Tryd.prog 18 #[.slice ao cs.length cap, .string m] W fun e_ w' => e_ = .returned (.agg (ctr (fnC cs m))) ∧ Below W.heap.size W w' := fun W hW => a_find cs m b _ W hW.cts hW.srt (by omega)
  generalize hce : fnC cs m = c at *
  have hw : Below w.heap.size w w := Below.refl _ _
  go_enter Tryd.func22, Tryd.ntmps22
  have fc27 := hB.ce
  have fc28 := hB.cc
  go_wp2_with (first | fail)
  clear fc27 fc28
  refine (cF _ hB).mono ?_
  rintro e_ w1 ⟨rfl, hb⟩
  replace hB := hB.keep hb
  replace hw := Below.after hw hb
  clear hb
  have fS := fld_s c hcok
  generalize dS0 : (c.s == 0) = xS0 at *
  generalize dS4 : (c.s == 4) = xS4 at *
  generalize dR : decide (1024 ≤ es.length) = xR
  cases xS0
  · skip
    cases xS4
    · skip
      cases xR
      · skip
        have pS0 : ¬ c.s = 0 := by simpa using dS0
        have pS4 : ¬ c.s = 4 := by simpa using dS4
        have pR : ¬ 1024 ≤ es.length := by simpa using dR
        have hu : Hid (blR es cs m = (0, some ⟨5, m, (zr 32)⟩)) := hide (by unfold blR; rw [hce]; rw [if_neg pS0]; rw [if_neg pS4]; unfold rm; rw [if_neg pR])
        have fc29 := hB.ce
        have fc30 := hB.cc
        go_wp2_with (first | (refine wpList_build_want rfl 23 _ rfl [] rfl (irow .u8 (zr 32)) builtZk ?_) | fail)
        clear fc29 fc30
        refine (add_go 5 (by decide) m hm (zr 32) k32_zero b g _ _ y es cs _ hB (by omega)).mono ?_
        rintro e_ wz3 ⟨ve', vc', rfl, hB2, hN1, hN2, hF⟩
        replace hN1 := hN1.of hw.size
        replace hN2 := hN2.of hw.size
        replace hF := (Fr.of hw).step hF (fun _ _ q => q)
        go_wp2_with (fail)
        go_ret
        exact ⟨ve', vc', by rw [hu.out]; rfl, by rw [hu.out]; exact hB2, hN1, hN2, hF⟩
      · skip
        have pS0 : ¬ c.s = 0 := by simpa using dS0
        have pS4 : ¬ c.s = 4 := by simpa using dS4
        have pR : 1024 ≤ es.length := by simpa using dR
        have hu : Hid (blR es cs m = (224, none)) := hide (by unfold blR; rw [hce]; rw [if_neg pS0]; rw [if_neg pS4]; unfold rm; rw [if_pos pR])
        have fc31 := hB.ce
        have fc32 := hB.cc
        go_wp2_with (first | (refine wpList_build_want rfl 23 _ rfl [] rfl (irow .u8 (zr 32)) builtZk ?_) | fail)
        clear fc31 fc32
        refine (add_no 5 (by decide) m hm (zr 32) k32_zero b g _ _ y es cs _ hB pR).mono ?_
        rintro e_ wz4 ⟨rfl, hB9, hb⟩
        replace hB := hB.keep hb
        replace hw := Below.after hw hb
        clear hb
        clear hB9
        go_wp2_with (fail)
        go_ret
        exact CaR.still hu.out rfl hB hw
    · skip
      have pS0 : ¬ c.s = 0 := by simpa using dS0
      have pS4 : c.s = 4 := by simpa using dS4
      have hu : Hid (blR es cs m = (222, none)) := hide (by unfold blR; rw [hce]; rw [if_neg pS0]; rw [if_pos pS4])
      have fc33 := hB.ce
      have fc34 := hB.cc
      go_wp2_with (first | (refine wpList_build_want rfl 23 _ rfl [] rfl (irow .u8 (zr 32)) builtZk ?_) | fail)
      clear fc33 fc34
      go_ret
      exact CaR.still hu.out rfl hB hw
  · skip
    have pS0 : c.s = 0 := by simpa using dS0
    have hu : Hid (blR es cs m = (220, none)) := hide (by unfold blR; rw [hce]; rw [if_pos pS0])
    have fc35 := hB.ce
    have fc36 := hB.cc
    go_wp2_with (first | (refine wpList_build_want rfl 23 _ rfl [] rfl (irow .u8 (zr 32)) builtZk ?_) | fail)
    clear fc35 fc36
    go_ret
    exact CaR.still hu.out rfl hB hw
set_option maxRecDepth 100000 in
set_option maxHeartbeats 8000000 in
theorem a_Unblock (m : ByteArray) (hm : m.size ≤ 9223372036854775806) (b g : Nat) (ve vc : Value) (y : List Int) (es : List Ev) (cs : List Ct) (w : World) (hB : Bk w b g ve vc y es cs) : Calls Tryd.prog 23 #[.pointer (some ⟨g, 0, none⟩), .string m] w (CaR b g ve vc y es cs (ubR es cs m) w) := by
  obtain ⟨ao, cap, rfl, hc1, hc2, hz1, hz2⟩ := hB.cts.sl
  obtain ⟨ae, ca, rfl, hc3, hc4, hz3, hz4⟩ := hB.evs.sl
  have hcl := hB.len
  have hcok := fnC_ok hB.cts.2 m
  have hst : (fnC cs m).s ≠ 0 → 1 ≤ (fnC cs m).s ∧ (fnC cs m).s ≤ 4 := fun q => by
    unfold fnC at q ⊢
    cases qq : fd cs m with
    | none => rw [qq] at q; exact absurd rfl q
    | some d => exact hB.sta d (fd_some qq).1
  have cF : ∀ W, Bk W b g (.slice ae es.length ca) (.slice ao cs.length cap) y es cs → Calls Tryd.prog 18 #[.slice ao cs.length cap, .string m] W fun e_ w' => e_ = .returned (.agg (ctr (fnC cs m))) ∧ Below W.heap.size W w' := fun W hW => a_find cs m b _ W hW.cts hW.srt (by omega)
  generalize hce : fnC cs m = c at *
  have hw : Below w.heap.size w w := Below.refl _ _
  go_enter Tryd.func23, Tryd.ntmps23
  have fc37 := hB.ce
  have fc38 := hB.cc
  go_wp2_with (first | fail)
  clear fc37 fc38
  refine (cF _ hB).mono ?_
  rintro e_ w1 ⟨rfl, hb⟩
  replace hB := hB.keep hb
  replace hw := Below.after hw hb
  clear hb
  have fS := fld_s c hcok
  generalize dS0 : (c.s == 0) = xS0 at *
  generalize dS4 : (c.s == 4) = xS4 at *
  generalize dR : decide (1024 ≤ es.length) = xR
  cases xS0
  · skip
    cases xS4
    · skip
      have pS0 : ¬ c.s = 0 := by simpa using dS0
      have pS4 : ¬ c.s = 4 := by simpa using dS4
      have hu : Hid (ubR es cs m = (225, none)) := hide (by unfold ubR; rw [hce]; rw [if_neg pS0]; rw [if_neg pS4])
      have fc39 := hB.ce
      have fc40 := hB.cc
      go_wp2_with (first | (refine wpList_build_want rfl 23 _ rfl [] rfl (irow .u8 (zr 32)) builtZk ?_) | fail)
      clear fc39 fc40
      go_ret
      exact CaR.still hu.out rfl hB hw
    · skip
      cases xR
      · skip
        have pS0 : ¬ c.s = 0 := by simpa using dS0
        have pS4 : c.s = 4 := by simpa using dS4
        have pR : ¬ 1024 ≤ es.length := by simpa using dR
        have hu : Hid (ubR es cs m = (0, some ⟨6, m, (zr 32)⟩)) := hide (by unfold ubR; rw [hce]; rw [if_neg pS0]; rw [if_pos pS4]; unfold rm; rw [if_neg pR])
        have fc41 := hB.ce
        have fc42 := hB.cc
        go_wp2_with (first | (refine wpList_build_want rfl 23 _ rfl [] rfl (irow .u8 (zr 32)) builtZk ?_) | fail)
        clear fc41 fc42
        refine (add_go 6 (by decide) m hm (zr 32) k32_zero b g _ _ y es cs _ hB (by omega)).mono ?_
        rintro e_ wz5 ⟨ve', vc', rfl, hB2, hN1, hN2, hF⟩
        replace hN1 := hN1.of hw.size
        replace hN2 := hN2.of hw.size
        replace hF := (Fr.of hw).step hF (fun _ _ q => q)
        go_wp2_with (fail)
        go_ret
        exact ⟨ve', vc', by rw [hu.out]; rfl, by rw [hu.out]; exact hB2, hN1, hN2, hF⟩
      · skip
        have pS0 : ¬ c.s = 0 := by simpa using dS0
        have pS4 : c.s = 4 := by simpa using dS4
        have pR : 1024 ≤ es.length := by simpa using dR
        have hu : Hid (ubR es cs m = (224, none)) := hide (by unfold ubR; rw [hce]; rw [if_neg pS0]; rw [if_pos pS4]; unfold rm; rw [if_pos pR])
        have fc43 := hB.ce
        have fc44 := hB.cc
        go_wp2_with (first | (refine wpList_build_want rfl 23 _ rfl [] rfl (irow .u8 (zr 32)) builtZk ?_) | fail)
        clear fc43 fc44
        refine (add_no 6 (by decide) m hm (zr 32) k32_zero b g _ _ y es cs _ hB pR).mono ?_
        rintro e_ wz6 ⟨rfl, hB9, hb⟩
        replace hB := hB.keep hb
        replace hw := Below.after hw hb
        clear hb
        clear hB9
        go_wp2_with (fail)
        go_ret
        exact CaR.still hu.out rfl hB hw
  · skip
    have pS0 : c.s = 0 := by simpa using dS0
    have hu : Hid (ubR es cs m = (220, none)) := hide (by unfold ubR; rw [hce]; rw [if_pos pS0])
    have fc45 := hB.ce
    have fc46 := hB.cc
    go_wp2_with (first | (refine wpList_build_want rfl 23 _ rfl [] rfl (irow .u8 (zr 32)) builtZk ?_) | fail)
    clear fc45 fc46
    go_ret
    exact CaR.still hu.out rfl hB hw
set_option maxRecDepth 100000 in
set_option maxHeartbeats 8000000 in
theorem a_Accept (m : ByteArray) (hm : m.size ≤ 9223372036854775806) (b g : Nat) (ve vc : Value) (y : List Int) (es : List Ev) (cs : List Ct) (w : World) (hB : Bk w b g ve vc y es cs) : Calls Tryd.prog 16 #[.pointer (some ⟨g, 0, none⟩), .string m] w (CaR b g ve vc y es cs (acR es cs m) w) := by
  obtain ⟨ao, cap, rfl, hc1, hc2, hz1, hz2⟩ := hB.cts.sl
  obtain ⟨ae, ca, rfl, hc3, hc4, hz3, hz4⟩ := hB.evs.sl
  have hcl := hB.len
  have hcok := fnC_ok hB.cts.2 m
  have hst : (fnC cs m).s ≠ 0 → 1 ≤ (fnC cs m).s ∧ (fnC cs m).s ≤ 4 := fun q => by
    unfold fnC at q ⊢
    cases qq : fd cs m with
    | none => rw [qq] at q; exact absurd rfl q
    | some d => exact hB.sta d (fd_some qq).1
  have cF : ∀ W, Bk W b g (.slice ae es.length ca) (.slice ao cs.length cap) y es cs → Calls Tryd.prog 18 #[.slice ao cs.length cap, .string m] W fun e_ w' => e_ = .returned (.agg (ctr (fnC cs m))) ∧ Below W.heap.size W w' := fun W hW => a_find cs m b _ W hW.cts hW.srt (by omega)
  generalize hce : fnC cs m = c at *
  have hw : Below w.heap.size w w := Below.refl _ _
  go_enter Tryd.func16, Tryd.ntmps16
  have fc47 := hB.ce
  have fc48 := hB.cc
  go_wp2_with (first | fail)
  clear fc47 fc48
  refine (cF _ hB).mono ?_
  rintro e_ w1 ⟨rfl, hb⟩
  replace hB := hB.keep hb
  replace hw := Below.after hw hb
  clear hb
  go_wp2_with (first | (refine wpList_store_row rfl 45 _ _ rfl (w1.heap.size) (ctr c) rfl rfl 45 (ctr zct) (hp1_0 w1 _) (ct_info _ hcok.1.1 hcok.2.1) ((ctr_size _ zct_ok.1.1 zct_ok.2.1).trans (ctr_size _ hcok.1.1 hcok.2.1).symm) (ctr_one _) ?_; rw [setRow_alloc_new _ _ _ _ _ _ (by simp)]; refine wpList_stay ?_) | (refine wpList_alloc rfl 45 rfl (ctr zct) zCt ?_) | fail)
  unfold WpStay
  try simp only [Act.put]
  have rl5 := hp1_0 w1 (.cells (ctr c) 45)
  have hb : Below w1.heap.size w1 (w1.alloc (.cells (ctr c) 45)) := (Below.refl _ _).alloc (Nat.le_refl _) _
  generalize (w1.alloc (.cells (ctr c) 45)) = w2 at *
  have sz_gc := hw.size
  replace hB := hB.keep hb
  replace hw := Below.after hw hb
  clear hb
  generalize w1.heap.size = gc at *
  clear w1
  generalize dS0 : (c.s == 0) = xS0 at *
  generalize dS3 : (c.s == 3) = xS3 at *
  generalize dR : decide (1024 ≤ es.length) = xR
  cases xS0
  · skip
    cases xS3
    · skip
      have pS0 : ¬ c.s = 0 := by simpa using dS0
      have pS3 : ¬ c.s = 3 := by simpa using dS3
      have hu : Hid (acR es cs m = (225, none)) := hide (by unfold acR; rw [hce]; rw [if_neg pS0]; rw [if_neg pS3])
      have fc49 := cell_at rl5 (ct_n c)
      have fc50 := cell_at rl5 (ct_s c hcok.1.1 hcok.2.1)
      have fc51 := hB.ce
      have fc52 := hB.cc
      go_wp2_with (first | (refine wpList_load_part rfl 45 _ rfl (gc) 0 rfl 45 (ctr c) (0, 0) (ctr c) _ rl5 (all_rowe _) Tryd.underlying45 rfl (ct_info _ hcok.1.1 hcok.2.1) ?_) | (refine wpList_load_part rfl 23 _ rfl (gc) 1 rfl 45 (ctr c) (0, 0) (irow .u8 c.k) _ rl5 (ct_k c hcok.1.1) Tryd.underlying23 rfl (infoKy _ hcok.1.1) ?_) | (refine wpList_load_part rfl 23 _ rfl (gc) 33 rfl 45 (ctr c) (0, 0) (irow .u8 c.x) _ rl5 (ct_x c hcok.1.1 hcok.2.1) Tryd.underlying23 rfl (infoKy _ hcok.2.1) ?_) | (refine wpList_build_want rfl 23 _ rfl [] rfl (irow .u8 (zr 32)) builtZk ?_) | fail)
      clear fc49 fc50 fc51 fc52
      go_ret
      exact CaR.still hu.out rfl hB hw
    · skip
      cases xR
      · skip
        have pS0 : ¬ c.s = 0 := by simpa using dS0
        have pS3 : c.s = 3 := by simpa using dS3
        have pR : ¬ 1024 ≤ es.length := by simpa using dR
        have hu : Hid (acR es cs m = (0, some ⟨3, m, c.x⟩)) := hide (by unfold acR; rw [hce]; rw [if_neg pS0]; rw [if_pos pS3]; unfold rm; rw [if_neg pR])
        have fc53 := cell_at rl5 (ct_n c)
        have fc54 := cell_at rl5 (ct_s c hcok.1.1 hcok.2.1)
        have fc55 := hB.ce
        have fc56 := hB.cc
        go_wp2_with (first | (refine wpList_load_part rfl 45 _ rfl (gc) 0 rfl 45 (ctr c) (0, 0) (ctr c) _ rl5 (all_rowe _) Tryd.underlying45 rfl (ct_info _ hcok.1.1 hcok.2.1) ?_) | (refine wpList_load_part rfl 23 _ rfl (gc) 1 rfl 45 (ctr c) (0, 0) (irow .u8 c.k) _ rl5 (ct_k c hcok.1.1) Tryd.underlying23 rfl (infoKy _ hcok.1.1) ?_) | (refine wpList_load_part rfl 23 _ rfl (gc) 33 rfl 45 (ctr c) (0, 0) (irow .u8 c.x) _ rl5 (ct_x c hcok.1.1 hcok.2.1) Tryd.underlying23 rfl (infoKy _ hcok.2.1) ?_) | (refine wpList_build_want rfl 23 _ rfl [] rfl (irow .u8 (zr 32)) builtZk ?_) | fail)
        clear fc53 fc54 fc55 fc56
        refine (add_go 3 (by decide) m hm c.x hcok.2 b g _ _ y es cs _ hB (by omega)).mono ?_
        rintro e_ wz7 ⟨ve', vc', rfl, hB2, hN1, hN2, hF⟩
        replace hN1 := hN1.of hw.size
        replace hN2 := hN2.of hw.size
        replace hF := (Fr.of hw).step hF (fun _ _ q => q)
        go_wp2_with (fail)
        go_ret
        exact ⟨ve', vc', by rw [hu.out]; rfl, by rw [hu.out]; exact hB2, hN1, hN2, hF⟩
      · skip
        have pS0 : ¬ c.s = 0 := by simpa using dS0
        have pS3 : c.s = 3 := by simpa using dS3
        have pR : 1024 ≤ es.length := by simpa using dR
        have hu : Hid (acR es cs m = (224, none)) := hide (by unfold acR; rw [hce]; rw [if_neg pS0]; rw [if_pos pS3]; unfold rm; rw [if_pos pR])
        have fc57 := cell_at rl5 (ct_n c)
        have fc58 := cell_at rl5 (ct_s c hcok.1.1 hcok.2.1)
        have fc59 := hB.ce
        have fc60 := hB.cc
        go_wp2_with (first | (refine wpList_load_part rfl 45 _ rfl (gc) 0 rfl 45 (ctr c) (0, 0) (ctr c) _ rl5 (all_rowe _) Tryd.underlying45 rfl (ct_info _ hcok.1.1 hcok.2.1) ?_) | (refine wpList_load_part rfl 23 _ rfl (gc) 1 rfl 45 (ctr c) (0, 0) (irow .u8 c.k) _ rl5 (ct_k c hcok.1.1) Tryd.underlying23 rfl (infoKy _ hcok.1.1) ?_) | (refine wpList_load_part rfl 23 _ rfl (gc) 33 rfl 45 (ctr c) (0, 0) (irow .u8 c.x) _ rl5 (ct_x c hcok.1.1 hcok.2.1) Tryd.underlying23 rfl (infoKy _ hcok.2.1) ?_) | (refine wpList_build_want rfl 23 _ rfl [] rfl (irow .u8 (zr 32)) builtZk ?_) | fail)
        clear fc57 fc58 fc59 fc60
        refine (add_no 3 (by decide) m hm c.x hcok.2 b g _ _ y es cs _ hB pR).mono ?_
        rintro e_ wz8 ⟨rfl, hB9, hb⟩
        replace rl5 := keep hb rl5
        replace hB := hB.keep hb
        replace hw := Below.after hw hb
        clear hb
        clear hB9
        go_wp2_with (fail)
        go_ret
        exact CaR.still hu.out rfl hB hw
  · skip
    have pS0 : c.s = 0 := by simpa using dS0
    have hu : Hid (acR es cs m = (220, none)) := hide (by unfold acR; rw [hce]; rw [if_pos pS0])
    have fc61 := cell_at rl5 (ct_n c)
    have fc62 := cell_at rl5 (ct_s c hcok.1.1 hcok.2.1)
    have fc63 := hB.ce
    have fc64 := hB.cc
    go_wp2_with (first | (refine wpList_load_part rfl 45 _ rfl (gc) 0 rfl 45 (ctr c) (0, 0) (ctr c) _ rl5 (all_rowe _) Tryd.underlying45 rfl (ct_info _ hcok.1.1 hcok.2.1) ?_) | (refine wpList_load_part rfl 23 _ rfl (gc) 1 rfl 45 (ctr c) (0, 0) (irow .u8 c.k) _ rl5 (ct_k c hcok.1.1) Tryd.underlying23 rfl (infoKy _ hcok.1.1) ?_) | (refine wpList_load_part rfl 23 _ rfl (gc) 33 rfl 45 (ctr c) (0, 0) (irow .u8 c.x) _ rl5 (ct_x c hcok.1.1 hcok.2.1) Tryd.underlying23 rfl (infoKy _ hcok.2.1) ?_) | (refine wpList_build_want rfl 23 _ rfl [] rfl (irow .u8 (zr 32)) builtZk ?_) | fail)
    clear fc61 fc62 fc63 fc64
    go_ret
    exact CaR.still hu.out rfl hB hw
end Go.Proofs.YtlbcdjflcghkeaaDoor
