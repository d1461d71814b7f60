import Derived.Test.YtgfeacnhdlgpoaaDoorProg
import Derived.WalkKit
import Derived.WalkSpells
import Derived.WalkLawsBesides
import Derived.Lib.QuietBelow
import Derived.BigQuiet
import Derived.OrdersHeld
import Derived.OwnWalk
import Derived.Deep.RegionHeld3
import Derived.Deep.Cut
import Derived.Deep.CutRange
import Derived.Test.YtgfeacnhdlgpoaaDoorTza
namespace Go.Proofs.YtgfeacnhdlgpoaaDoor
set_option maxRecDepth 100000
open Go Go.RowKit Go.Sort
attribute [local go_sem] setCell_drewN alloc_drewN
set_option maxRecDepth 100000 in
set_option maxHeartbeats 8000000 in
theorem ask2 (l : List (List Int))  (lf : List Int) (w : World) (b g : Nat) (v : Value) (vo : Option Addr) (vc : Nat) (hG : LogS w b g v l) (hL : Ksl w (.slice vo l.length vc) l) (M N : Nat) (hM : M < N) (hN : N ≤ l.length) {P : List (List Int)} (hPo : Kok P) (hPl : P.length ≤ 4398046511000) (cA : (∀ W, Below w.heap.size w W → Calls Tryd.prog 35 #[.pointer (some ⟨g, 0, none⟩), .int .i64 (M : Int), .int .i64 (N : Int)] W fun e w' => ∃ v', e = .returned (.tuple #[v', .int .i64 0]) ∧ OwnK w' W.heap.size v' P ∧ Below W.heap.size W w')) (cR : ∀ W, Below w.heap.size w W → Calls Tryd.prog 40 #[.slice vo N vc, .int .i64 (M : Int)] W fun e w' => ∃ v', e = .returned v' ∧ OwnK w' W.heap.size v' P ∧ Below W.heap.size W w') : Calls Tryd.prog 26 #[.pointer (some ⟨g, 0, none⟩), .slice vo l.length vc, .agg (askrow 2 (M : Int) (N : Int) lf)] w fun e w' => e = .returned (.bool true) ∧ Below w.heap.size w w' := by
  have da : decide ((N : Int) ≥ 0) = true := by simp
  have db : decide ((N : Int) ≤ (l.length : Int)) = true := by simp; omega
  have dd : decide ((M : Int) ≥ 0) = true := by simp
  obtain ⟨_, _, e, hvc, hz⟩ := hL.slc
  injection e with e1 e2 e3
  subst e1 e3
  clear e2
  have dc : decide ((N : Int) ≥ 1) = true := by simp; omega
  have de : decide ((M : Int) < (N : Int)) = true := by simp; omega
  have rp0 := hp1_0 w (.cells (askrow 2 (M : Int) (N : Int) lf) 45)
  have hw : Below w.heap.size w (w.alloc (.cells (askrow 2 (M : Int) (N : Int) lf) 45)) := ((Below.refl _ _).alloc (Nat.le_refl _) _)
  go_enter Tryd.func26, Tryd.ntmps26
  iterate 6 go_step
  generalize (w.alloc (.cells (askrow 2 (M : Int) (N : Int) lf) 45)) = w0 at *
  replace hG := hG.keep hw
  have k0 : w0.cell? ⟨w.heap.size, 0, none⟩ = some (.int .i64 2) := cell_of rp0 (ask_0 _ _ _ _)
  have k1 : w0.cell? ⟨w.heap.size, 1, none⟩ = some (.int .i64 (M : Int)) := cell_of rp0 (ask_1 _ _ _ _)
  have k2 : w0.cell? ⟨w.heap.size, 2, none⟩ = some (.int .i64 (N : Int)) := cell_of rp0 (ask_2 _ _ _ _)
  go_wp2_with (fail)
  have sx0 := hw.size
  refine (cA _ hw).mono ?_
  rintro e_ wx ⟨xv, rfl, hx, hb⟩
  replace rp0 := keep hb rp0
  replace hG := hG.keep hb
  replace k0 := keepc hb k0
  replace k1 := keepc hb k1
  replace k2 := keepc hb k2
  replace hw := Below.after hw hb
  clear hb
  replace hx := hx.down sx0
  obtain ⟨xo, xc, ex, _, _⟩ := hx.slc
  subst ex
  have hcx : ∃ c, c = wx.heap.size := ⟨_, rfl⟩
  obtain ⟨c, hc⟩ := hcx
  have hWr : Wrb wx w.heap.size c xo P.length := Wrb.of hx (Nat.le_refl _) (by omega)
  go_wp2_with (fail)
  refine (cA _ hw).mono ?_
  rintro e_ wy ⟨yv, rfl, hy, hb⟩
  rw [← hc] at hy
  have hcy : c ≤ wy.heap.size := by have := hb.size; omega
  replace rp0 := keep hb rp0
  replace hG := hG.keep hb
  replace k0 := keepc hb k0
  replace k1 := keepc hb k1
  replace k2 := keepc hb k2
  replace hx := hx.keep hb
  replace hWr := hWr.keep hb
  replace hw := Below.after hw hb
  clear hb
  obtain ⟨yo, yc, ey, _, _⟩ := hy.slc
  subst ey
  have hb : Below wy.heap.size wy (wy.alloc (.cells #[] 24)) := (Below.refl _ _).alloc (Nat.le_refl _) _
  have j0 := keepc hb k0
  go_wp2_with (fail)
  clear j0
  have hs1 : wy.heap.size ≤ (wy.alloc (.cells #[] 24)).heap.size := by simp
  replace hcy : c ≤ (wy.alloc (.cells #[] 24)).heap.size := by omega
  clear hs1
  replace rp0 := keep hb rp0
  replace hG := hG.keep hb
  replace k0 := keepc hb k0
  replace k1 := keepc hb k1
  replace k2 := keepc hb k2
  replace hx := hx.keep hb
  replace hWr := hWr.keep hb
  replace hy := hy.keep hb
  replace hw := Below.after hw hb
  clear hb
  generalize (wy.alloc (.cells #[] 24)) = wn at *
  have hcd : c ≤ wn.drew.heap.size := hcy
  have hb : Below wn.heap.size wn wn.drew := below_drN (Below.refl _ _) 1
  replace rp0 := keep hb rp0
  replace hG := hG.keep hb
  replace k0 := keepc hb k0
  replace k1 := keepc hb k1
  replace k2 := keepc hb k2
  replace hx := hx.keep hb
  replace hWr := hWr.keep hb
  replace hy := hy.keep hb
  replace hw := Below.after hw hb
  clear hb
  refine wp_region_noPanic ?_
  refine wp_region_held (S := fun W_ => W_.cell? ⟨w.heap.size, 2, none⟩ = some (.int .i64 (N : Int)) ∧ W_.cell? ⟨w.heap.size, 1, none⟩ = some (.int .i64 (M : Int))) (by kernel_rfl) ?_
  change wpAnyH _ _ _ _ _ _ _ _ (World.drew _)
  generalize wn.drew = wd22 at *
  refine wpAnyH_take (i := 0) (v := ?v23) rfl (by kernel_rfl) (by kernel_rfl) (by kernel_rfl) (fun _ _ _ h => h) (Or.inl ⟨by rfl, ?y23⟩) (⟨k2, k1⟩) ?r23
  case y23 =>
    intro w_ hS_
    go_simp
    try with_reducible rfl
  simp only [Act.put, List.getElem_toArray, List.getElem_cons_zero, List.setIfInBounds_toArray, List.set_cons_succ, List.set_cons_zero]
  refine wpAnyH_take (i := 1) (v := ?v24) rfl (by kernel_rfl) (by kernel_rfl) (by kernel_rfl) (fun _ _ _ h => h) (Or.inl ⟨by rfl, ?y24⟩) (⟨k2, k1⟩) ?r24
  case y24 =>
    intro w_ hS_
    go_simp
    try with_reducible rfl
  simp only [Act.put, List.getElem_toArray, List.getElem_cons_succ, List.getElem_cons_zero, List.setIfInBounds_toArray, List.set_cons_succ, List.set_cons_zero]
  refine wpAnyH_take (i := 2) (v := .int .i64 (N : Int)) rfl (by kernel_rfl) (by kernel_rfl) (by kernel_rfl) (fun _ _ _ h => h) (Or.inl ⟨by rfl, ?y25⟩) (⟨k2, k1⟩) ?r25
  case y25 =>
    intro w_ hS_
    obtain ⟨z0, z1⟩ := hS_
    go_simp
    try with_reducible rfl
  simp only [Act.put, List.getElem_toArray, List.getElem_cons_succ, List.getElem_cons_zero, List.setIfInBounds_toArray, List.set_cons_succ, List.set_cons_zero]
  refine wpAnyH_take (i := 3) (v := .slice vo N vc) rfl (by kernel_rfl) (by kernel_rfl) (by kernel_rfl) (fun _ _ _ h => h) (Or.inl ⟨by rfl, ?y26⟩) (⟨k2, k1⟩) ?r26
  case y26 =>
    intro w_ hS_
    simp only [List.getElem_toArray, List.getElem_cons_succ, List.getElem_cons_zero]
    exact e_slice _ _ _ _ rfl _ (slk_head vo l.length vc N (by omega) hz _)
  simp only [Act.put, List.getElem_toArray, List.getElem_cons_succ, List.getElem_cons_zero, List.setIfInBounds_toArray, List.set_cons_succ, List.set_cons_zero]
  refine wpAnyH_take (i := 4) (v := ?v27) rfl (by kernel_rfl) (by kernel_rfl) (by kernel_rfl) (fun _ _ _ h => h) (Or.inl ⟨by rfl, ?y27⟩) (⟨k2, k1⟩) ?r27
  case y27 =>
    intro w_ hS_
    go_simp
    try with_reducible rfl
  simp only [Act.put, List.getElem_toArray, List.getElem_cons_succ, List.getElem_cons_zero, List.setIfInBounds_toArray, List.set_cons_succ, List.set_cons_zero]
  refine wpAnyH_take (i := 5) (v := .int .i64 (M : Int)) rfl (by kernel_rfl) (by kernel_rfl) (by kernel_rfl) (fun _ _ _ h => h) (Or.inl ⟨by rfl, ?y28⟩) (⟨k2, k1⟩) ?r28
  case y28 =>
    intro w_ hS_
    obtain ⟨z0, z1⟩ := hS_
    go_simp
    try with_reducible rfl
  simp only [Act.put, List.getElem_toArray, List.getElem_cons_succ, List.getElem_cons_zero, List.setIfInBounds_toArray, List.set_cons_succ, List.set_cons_zero]
  refine eH_one (k := 6) (fuel := 1) (by kernel_rfl) rfl (by kernel_rfl) (fun K_ hK_ => ?_)
  have hsd := hcd
  clear hcd
  refine wp_call_ex (f := 40) (by kernel_rfl) (cR _ hw) (fun v_ wq29 hX_ => ?_)
  obtain ⟨hv, hb⟩ := hX_
  replace rp0 := keep hb rp0
  replace hG := hG.keep hb
  replace k0 := keepc hb k0
  replace k1 := keepc hb k1
  replace k2 := keepc hb k2
  replace hx := hx.keep hb
  replace hWr := hWr.keep hb
  replace hy := hy.keep hb
  replace hw := Below.after hw hb
  clear hb
  refine hK_ _ _ (⟨k2, k1⟩) ?_
  simp only [Act.put, List.getElem_toArray, List.getElem_cons_succ, List.getElem_cons_zero, List.setIfInBounds_toArray, List.set_cons_succ, List.set_cons_zero]
  clear hK_
  replace hv := hv.down hsd
  refine wpAnyH_take (i := 7) (v := ?v30) rfl (by kernel_rfl) (by kernel_rfl) (by kernel_rfl) (fun _ _ _ h => h) (Or.inl ⟨by rfl, ?y30⟩) (⟨k2, k1⟩) ?r30
  case y30 =>
    intro w_ hS_
    go_simp
    try with_reducible rfl
  simp only [Act.put, List.getElem_toArray, List.getElem_cons_succ, List.getElem_cons_zero, List.setIfInBounds_toArray, List.set_cons_succ, List.set_cons_zero]
  refine wpAnyH_done (by kernel_rfl) ?_ _
  refine NoPanic.normal ?_
  obtain ⟨zo, zc, ez, _, _⟩ := hv.slc
  subst ez
  go_wp2_with (first | fail)
  refine (l_keys _ _ _ _ (hx.ksl hPo hPl) (hv.ksl hPo hPl)).mono ?_
  rintro e_ x1 ⟨rfl, hb⟩
  replace rp0 := keep hb rp0
  replace hG := hG.keep hb
  replace k0 := keepc hb k0
  replace k1 := keepc hb k1
  replace k2 := keepc hb k2
  replace hx := hx.keep hb
  replace hWr := hWr.keep hb
  replace hy := hy.keep hb
  replace hv := hv.keep hb
  replace hw := Below.after hw hb
  clear hb
  go_wp2_with (first | fail)
  refine (l_keys _ _ _ _ (hy.ksl hPo hPl) (hv.ksl hPo hPl)).mono ?_
  rintro e_ x2 ⟨rfl, hb⟩
  replace rp0 := keep hb rp0
  replace hG := hG.keep hb
  replace k0 := keepc hb k0
  replace k1 := keepc hb k1
  replace k2 := keepc hb k2
  replace hx := hx.keep hb
  replace hWr := hWr.keep hb
  replace hy := hy.keep hb
  replace hv := hv.keep hb
  replace hw := Below.after hw hb
  clear hb
  clear hx hG k0 k1 k2 rp0
  go_wp2_with (first | fail)
  go_loopw [16] (fun i wr => ∃ k : Nat, k ≤ P.length ∧ i = .int .i64 k ∧ Wrb wr w.heap.size c xo P.length ∧ OwnK wr c (.slice yo P.length yc) P ∧ OwnK wr c (.slice zo P.length zc) P ∧ Below w.heap.size w wr) (fun i _ => P.length - (intOf i).toNat)
  case atStart => exact ⟨0, by omega, rfl, hWr, hy, hv, hw⟩
  case round =>
    obtain ⟨k, hk, rfl, hWr, hy, hv, hw⟩ := hrel
    by_cases hlt : k < P.length
    · have hd : decide ((k : Int) < (P.length : Int)) = true := by simp; omega
      have jm : (k : Int) < (P.length : Int) := by omega
      rcases hWr with hWr | ⟨gx, cur, rfl, rx, sz, l1, l2⟩
      · omega
      go_wp2_with (first | (refine wpList_build_as rfl 24 _ rfl [(0, .int .u8 9)] rfl _ mk9 ?_) | (refine wpList_store_part rfl 24 _ _ rfl gx (k * 32) (irow .u8 (9 :: zr 31)) rfl rfl 24 cur _ rx (by rw [irow_size, mkz]; omega) rfl (infok8 _ (mkz _)) (irow_one8 _) ?_) | (refine wpList_store_part rfl 24 _ _ rfl gx (0 + k * 32) (irow .u8 (9 :: zr 31)) rfl rfl 24 cur _ rx (by rw [irow_size, mkz]; omega) rfl (infok8 _ (mkz _)) (irow_one8 _) ?_) | fail)
      refine ⟨⟨k + 1, by omega, by go_num, Wrb.set rx sz l1 l2 _ _, hy.setg l2 _, hv.setg l2 _, below_setRow hw (by omega) _⟩, ?_⟩
      simp [intOf]; omega
    · obtain rfl : k = P.length := by omega
      have hd : decide (((P.length : Nat) : Int) < (P.length : Int)) = false := by simp
      clear hWr
      go_wp2_with (fail)
      refine (l_keys _ _ _ _ (hy.ksl hPo hPl) (hv.ksl hPo hPl)).mono ?_
      rintro e_ x3 ⟨rfl, hb⟩
      replace hw := Below.after hw hb
      clear hb
      go_wp2_with (fail)
      go_ret
      exact ⟨rfl, hw⟩
set_option maxRecDepth 100000 in
set_option maxHeartbeats 8000000 in
theorem ask3 (l : List (List Int))  (lf : List Int) (w : World) (b g : Nat) (v : Value) (vo : Option Addr) (vc : Nat) (hG : LogS w b g v l) (hL : Ksl w (.slice vo l.length vc) l) (M N : Nat) (hM : M ≤ N) (hN : N ≤ l.length) {P : List (List Int)} (hPo : Kok P) (hPl : P.length ≤ 4398046511000) {xc xe : Bool} (dc : decide ((N : Int) ≥ 1) = xc) (de : decide ((M : Int) < (N : Int)) = xe) {Q : List (List Int)} {eQ : Int} (cP : (∀ W, Below w.heap.size w W → Calls Tryd.prog 35 #[.pointer (some ⟨g, 0, none⟩), .int .i64 (M : Int), .int .i64 (N : Int)] W fun e w' => ∃ v', e = .returned (.tuple #[v', .int .i64 eQ]) ∧ OwnK w' W.heap.size v' Q ∧ Below W.heap.size W w')) (cA : (∀ W, Below w.heap.size w W → Calls Tryd.prog 34 #[.pointer (some ⟨g, 0, none⟩), .int .i64 (M : Int), .int .i64 (N : Int)] W fun e w' => ∃ v', e = .returned (.tuple #[v', .int .i64 0]) ∧ OwnK w' W.heap.size v' P ∧ Below W.heap.size W w')) (cR : ∀ W, Below w.heap.size w W → Calls Tryd.prog 50 #[.slice vo N vc, .int .i64 (M : Int)] W fun e w' => ∃ v', e = .returned v' ∧ OwnK w' W.heap.size v' P ∧ Below W.heap.size W w') : Calls Tryd.prog 26 #[.pointer (some ⟨g, 0, none⟩), .slice vo l.length vc, .agg (askrow 3 (M : Int) (N : Int) lf)] w fun e w' => e = .returned (.bool true) ∧ Below w.heap.size w w' := by
  have da : decide ((N : Int) ≥ 0) = true := by simp
  have db : decide ((N : Int) ≤ (l.length : Int)) = true := by simp; omega
  have dd : decide ((M : Int) ≥ 0) = true := by simp
  obtain ⟨_, _, e, hvc, hz⟩ := hL.slc
  injection e with e1 e2 e3
  subst e1 e3
  clear e2
  have dg : decide ((M : Int) ≤ (N : Int)) = true := by simp; omega
  cases xc
  · skip
    have rp0 := hp1_0 w (.cells (askrow 3 (M : Int) (N : Int) lf) 45)
    have hw : Below w.heap.size w (w.alloc (.cells (askrow 3 (M : Int) (N : Int) lf) 45)) := ((Below.refl _ _).alloc (Nat.le_refl _) _)
    go_enter Tryd.func26, Tryd.ntmps26
    iterate 6 go_step
    generalize (w.alloc (.cells (askrow 3 (M : Int) (N : Int) lf) 45)) = w0 at *
    replace hG := hG.keep hw
    have k0 : w0.cell? ⟨w.heap.size, 0, none⟩ = some (.int .i64 3) := cell_of rp0 (ask_0 _ _ _ _)
    have k1 : w0.cell? ⟨w.heap.size, 1, none⟩ = some (.int .i64 (M : Int)) := cell_of rp0 (ask_1 _ _ _ _)
    have k2 : w0.cell? ⟨w.heap.size, 2, none⟩ = some (.int .i64 (N : Int)) := cell_of rp0 (ask_2 _ _ _ _)
    go_wp2_with (fail)
    have szu : w0.heap.size ≤ w0.heap.size := Nat.le_refl _
    refine (cP _ hw).mono ?_
    rintro e_ wu ⟨uv, rfl, hu, hb⟩
    have blu := hb.size
    replace rp0 := keep hb rp0
    replace hG := hG.keep hb
    replace k0 := keepc hb k0
    replace k1 := keepc hb k1
    replace k2 := keepc hb k2
    replace hw := Below.after hw hb
    clear hb
    obtain ⟨uo, uc, eu, _, _⟩ := hu.slc
    subst eu
    go_wp2_with (fail)
    have szs : wu.heap.size ≤ wu.heap.size := Nat.le_refl _
    refine (cP _ hw).mono ?_
    rintro e_ ws ⟨sv, rfl, hs, hb⟩
    have bls := hb.size
    replace rp0 := keep hb rp0
    replace hG := hG.keep hb
    replace k0 := keepc hb k0
    replace k1 := keepc hb k1
    replace k2 := keepc hb k2
    replace hu := hu.keep hb
    replace hw := Below.after hw hb
    clear hb
    obtain ⟨so, sc, es, _, _⟩ := hs.slc
    subst es
    go_wp2_with (fail)
    clear hu hs
    have sx0 := hw.size
    refine (cA _ hw).mono ?_
    rintro e_ wx ⟨xv, rfl, hx, hb⟩
    replace rp0 := keep hb rp0
    replace hG := hG.keep hb
    replace k0 := keepc hb k0
    replace k1 := keepc hb k1
    replace k2 := keepc hb k2
    replace hw := Below.after hw hb
    clear hb
    replace hx := hx.down sx0
    obtain ⟨xo, xc, ex, _, _⟩ := hx.slc
    subst ex
    have hcx : ∃ c, c = wx.heap.size := ⟨_, rfl⟩
    obtain ⟨c, hc⟩ := hcx
    have hWr : Wrb wx w.heap.size c xo P.length := Wrb.of hx (Nat.le_refl _) (by omega)
    go_wp2_with (fail)
    refine (cA _ hw).mono ?_
    rintro e_ wy ⟨yv, rfl, hy, hb⟩
    rw [← hc] at hy
    have hcy : c ≤ wy.heap.size := by have := hb.size; omega
    replace rp0 := keep hb rp0
    replace hG := hG.keep hb
    replace k0 := keepc hb k0
    replace k1 := keepc hb k1
    replace k2 := keepc hb k2
    replace hx := hx.keep hb
    replace hWr := hWr.keep hb
    replace hw := Below.after hw hb
    clear hb
    obtain ⟨yo, yc, ey, _, _⟩ := hy.slc
    subst ey
    have hb : Below wy.heap.size wy (wy.alloc (.cells #[] 24)) := (Below.refl _ _).alloc (Nat.le_refl _) _
    have j0 := keepc hb k0
    go_wp2_with (fail)
    clear j0
    have hs1 : wy.heap.size ≤ (wy.alloc (.cells #[] 24)).heap.size := by simp
    replace hcy : c ≤ (wy.alloc (.cells #[] 24)).heap.size := by omega
    clear hs1
    replace rp0 := keep hb rp0
    replace hG := hG.keep hb
    replace k0 := keepc hb k0
    replace k1 := keepc hb k1
    replace k2 := keepc hb k2
    replace hx := hx.keep hb
    replace hWr := hWr.keep hb
    replace hy := hy.keep hb
    replace hw := Below.after hw hb
    clear hb
    generalize (wy.alloc (.cells #[] 24)) = wn at *
    have hcd : c ≤ wn.drew.heap.size := hcy
    have hb : Below wn.heap.size wn wn.drew := below_drN (Below.refl _ _) 1
    replace rp0 := keep hb rp0
    replace hG := hG.keep hb
    replace k0 := keepc hb k0
    replace k1 := keepc hb k1
    replace k2 := keepc hb k2
    replace hx := hx.keep hb
    replace hWr := hWr.keep hb
    replace hy := hy.keep hb
    replace hw := Below.after hw hb
    clear hb
    refine wp_region_noPanic ?_
    refine wp_region_held (S := fun W_ => W_.cell? ⟨w.heap.size, 2, none⟩ = some (.int .i64 (N : Int)) ∧ W_.cell? ⟨w.heap.size, 1, none⟩ = some (.int .i64 (M : Int))) (by kernel_rfl) ?_
    change wpAnyH _ _ _ _ _ _ _ _ (World.drew _)
    generalize wn.drew = wd31 at *
    refine wpAnyH_take (i := 0) (v := ?v32) rfl (by kernel_rfl) (by kernel_rfl) (by kernel_rfl) (fun _ _ _ h => h) (Or.inl ⟨by rfl, ?y32⟩) (⟨k2, k1⟩) ?r32
    case y32 =>
      intro w_ hS_
      go_simp
      try with_reducible rfl
    simp only [Act.put, List.getElem_toArray, List.getElem_cons_zero, List.setIfInBounds_toArray, List.set_cons_succ, List.set_cons_zero]
    refine wpAnyH_take (i := 1) (v := ?v33) rfl (by kernel_rfl) (by kernel_rfl) (by kernel_rfl) (fun _ _ _ h => h) (Or.inl ⟨by rfl, ?y33⟩) (⟨k2, k1⟩) ?r33
    case y33 =>
      intro w_ hS_
      go_simp
      try with_reducible rfl
    simp only [Act.put, List.getElem_toArray, List.getElem_cons_succ, List.getElem_cons_zero, List.setIfInBounds_toArray, List.set_cons_succ, List.set_cons_zero]
    refine wpAnyH_take (i := 2) (v := .int .i64 (N : Int)) rfl (by kernel_rfl) (by kernel_rfl) (by kernel_rfl) (fun _ _ _ h => h) (Or.inl ⟨by rfl, ?y34⟩) (⟨k2, k1⟩) ?r34
    case y34 =>
      intro w_ hS_
      obtain ⟨z0, z1⟩ := hS_
      go_simp
      try with_reducible rfl
    simp only [Act.put, List.getElem_toArray, List.getElem_cons_succ, List.getElem_cons_zero, List.setIfInBounds_toArray, List.set_cons_succ, List.set_cons_zero]
    refine wpAnyH_take (i := 3) (v := .slice vo N vc) rfl (by kernel_rfl) (by kernel_rfl) (by kernel_rfl) (fun _ _ _ h => h) (Or.inl ⟨by rfl, ?y35⟩) (⟨k2, k1⟩) ?r35
    case y35 =>
      intro w_ hS_
      simp only [List.getElem_toArray, List.getElem_cons_succ, List.getElem_cons_zero]
      exact e_slice _ _ _ _ rfl _ (slk_head vo l.length vc N (by omega) hz _)
    simp only [Act.put, List.getElem_toArray, List.getElem_cons_succ, List.getElem_cons_zero, List.setIfInBounds_toArray, List.set_cons_succ, List.set_cons_zero]
    refine wpAnyH_take (i := 4) (v := ?v36) rfl (by kernel_rfl) (by kernel_rfl) (by kernel_rfl) (fun _ _ _ h => h) (Or.inl ⟨by rfl, ?y36⟩) (⟨k2, k1⟩) ?r36
    case y36 =>
      intro w_ hS_
      go_simp
      try with_reducible rfl
    simp only [Act.put, List.getElem_toArray, List.getElem_cons_succ, List.getElem_cons_zero, List.setIfInBounds_toArray, List.set_cons_succ, List.set_cons_zero]
    refine wpAnyH_take (i := 5) (v := .int .i64 (M : Int)) rfl (by kernel_rfl) (by kernel_rfl) (by kernel_rfl) (fun _ _ _ h => h) (Or.inl ⟨by rfl, ?y37⟩) (⟨k2, k1⟩) ?r37
    case y37 =>
      intro w_ hS_
      obtain ⟨z0, z1⟩ := hS_
      go_simp
      try with_reducible rfl
    simp only [Act.put, List.getElem_toArray, List.getElem_cons_succ, List.getElem_cons_zero, List.setIfInBounds_toArray, List.set_cons_succ, List.set_cons_zero]
    refine eH_one (k := 6) (fuel := 1) (by kernel_rfl) rfl (by kernel_rfl) (fun K_ hK_ => ?_)
    have hsd := hcd
    clear hcd
    refine wp_call_ex (f := 50) (by kernel_rfl) (cR _ hw) (fun v_ wq38 hX_ => ?_)
    obtain ⟨hv, hb⟩ := hX_
    replace rp0 := keep hb rp0
    replace hG := hG.keep hb
    replace k0 := keepc hb k0
    replace k1 := keepc hb k1
    replace k2 := keepc hb k2
    replace hx := hx.keep hb
    replace hWr := hWr.keep hb
    replace hy := hy.keep hb
    replace hw := Below.after hw hb
    clear hb
    refine hK_ _ _ (⟨k2, k1⟩) ?_
    simp only [Act.put, List.getElem_toArray, List.getElem_cons_succ, List.getElem_cons_zero, List.setIfInBounds_toArray, List.set_cons_succ, List.set_cons_zero]
    clear hK_
    replace hv := hv.down hsd
    refine wpAnyH_take (i := 7) (v := ?v39) rfl (by kernel_rfl) (by kernel_rfl) (by kernel_rfl) (fun _ _ _ h => h) (Or.inl ⟨by rfl, ?y39⟩) (⟨k2, k1⟩) ?r39
    case y39 =>
      intro w_ hS_
      go_simp
      try with_reducible rfl
    simp only [Act.put, List.getElem_toArray, List.getElem_cons_succ, List.getElem_cons_zero, List.setIfInBounds_toArray, List.set_cons_succ, List.set_cons_zero]
    refine wpAnyH_done (by kernel_rfl) ?_ _
    refine NoPanic.normal ?_
    obtain ⟨zo, zc, ez, _, _⟩ := hv.slc
    subst ez
    go_wp2_with (first | fail)
    refine (l_keys _ _ _ _ (hx.ksl hPo hPl) (hv.ksl hPo hPl)).mono ?_
    rintro e_ x1 ⟨rfl, hb⟩
    replace rp0 := keep hb rp0
    replace hG := hG.keep hb
    replace k0 := keepc hb k0
    replace k1 := keepc hb k1
    replace k2 := keepc hb k2
    replace hx := hx.keep hb
    replace hWr := hWr.keep hb
    replace hy := hy.keep hb
    replace hv := hv.keep hb
    replace hw := Below.after hw hb
    clear hb
    go_wp2_with (first | fail)
    refine (l_keys _ _ _ _ (hy.ksl hPo hPl) (hv.ksl hPo hPl)).mono ?_
    rintro e_ x2 ⟨rfl, hb⟩
    replace rp0 := keep hb rp0
    replace hG := hG.keep hb
    replace k0 := keepc hb k0
    replace k1 := keepc hb k1
    replace k2 := keepc hb k2
    replace hx := hx.keep hb
    replace hWr := hWr.keep hb
    replace hy := hy.keep hb
    replace hv := hv.keep hb
    replace hw := Below.after hw hb
    clear hb
    clear hx hG k0 k1 k2 rp0
    go_wp2_with (first | fail)
    go_loopw [16] (fun i wr => ∃ k : Nat, k ≤ P.length ∧ i = .int .i64 k ∧ Wrb wr w.heap.size c xo P.length ∧ OwnK wr c (.slice yo P.length yc) P ∧ OwnK wr c (.slice zo P.length zc) P ∧ Below w.heap.size w wr) (fun i _ => P.length - (intOf i).toNat)
    case atStart => exact ⟨0, by omega, rfl, hWr, hy, hv, hw⟩
    case round =>
      obtain ⟨k, hk, rfl, hWr, hy, hv, hw⟩ := hrel
      by_cases hlt : k < P.length
      · have hd : decide ((k : Int) < (P.length : Int)) = true := by simp; omega
        have jm : (k : Int) < (P.length : Int) := by omega
        rcases hWr with hWr | ⟨gx, cur, rfl, rx, sz, l1, l2⟩
        · omega
        go_wp2_with (first | (refine wpList_build_as rfl 24 _ rfl [(0, .int .u8 9)] rfl _ mk9 ?_) | (refine wpList_store_part rfl 24 _ _ rfl gx (k * 32) (irow .u8 (9 :: zr 31)) rfl rfl 24 cur _ rx (by rw [irow_size, mkz]; omega) rfl (infok8 _ (mkz _)) (irow_one8 _) ?_) | (refine wpList_store_part rfl 24 _ _ rfl gx (0 + k * 32) (irow .u8 (9 :: zr 31)) rfl rfl 24 cur _ rx (by rw [irow_size, mkz]; omega) rfl (infok8 _ (mkz _)) (irow_one8 _) ?_) | fail)
        refine ⟨⟨k + 1, by omega, by go_num, Wrb.set rx sz l1 l2 _ _, hy.setg l2 _, hv.setg l2 _, below_setRow hw (by omega) _⟩, ?_⟩
        simp [intOf]; omega
      · obtain rfl : k = P.length := by omega
        have hd : decide (((P.length : Nat) : Int) < (P.length : Int)) = false := by simp
        clear hWr
        go_wp2_with (fail)
        refine (l_keys _ _ _ _ (hy.ksl hPo hPl) (hv.ksl hPo hPl)).mono ?_
        rintro e_ x3 ⟨rfl, hb⟩
        replace hw := Below.after hw hb
        clear hb
        go_wp2_with (fail)
        go_ret
        exact ⟨rfl, hw⟩
  · cases xe
    · skip
      have rp0 := hp1_0 w (.cells (askrow 3 (M : Int) (N : Int) lf) 45)
      have hw : Below w.heap.size w (w.alloc (.cells (askrow 3 (M : Int) (N : Int) lf) 45)) := ((Below.refl _ _).alloc (Nat.le_refl _) _)
      go_enter Tryd.func26, Tryd.ntmps26
      iterate 6 go_step
      generalize (w.alloc (.cells (askrow 3 (M : Int) (N : Int) lf) 45)) = w0 at *
      replace hG := hG.keep hw
      have k0 : w0.cell? ⟨w.heap.size, 0, none⟩ = some (.int .i64 3) := cell_of rp0 (ask_0 _ _ _ _)
      have k1 : w0.cell? ⟨w.heap.size, 1, none⟩ = some (.int .i64 (M : Int)) := cell_of rp0 (ask_1 _ _ _ _)
      have k2 : w0.cell? ⟨w.heap.size, 2, none⟩ = some (.int .i64 (N : Int)) := cell_of rp0 (ask_2 _ _ _ _)
      go_wp2_with (fail)
      have szu : w0.heap.size ≤ w0.heap.size := Nat.le_refl _
      refine (cP _ hw).mono ?_
      rintro e_ wu ⟨uv, rfl, hu, hb⟩
      have blu := hb.size
      replace rp0 := keep hb rp0
      replace hG := hG.keep hb
      replace k0 := keepc hb k0
      replace k1 := keepc hb k1
      replace k2 := keepc hb k2
      replace hw := Below.after hw hb
      clear hb
      obtain ⟨uo, uc, eu, _, _⟩ := hu.slc
      subst eu
      go_wp2_with (fail)
      have szs : wu.heap.size ≤ wu.heap.size := Nat.le_refl _
      refine (cP _ hw).mono ?_
      rintro e_ ws ⟨sv, rfl, hs, hb⟩
      have bls := hb.size
      replace rp0 := keep hb rp0
      replace hG := hG.keep hb
      replace k0 := keepc hb k0
      replace k1 := keepc hb k1
      replace k2 := keepc hb k2
      replace hu := hu.keep hb
      replace hw := Below.after hw hb
      clear hb
      obtain ⟨so, sc, es, _, _⟩ := hs.slc
      subst es
      go_wp2_with (fail)
      clear hu hs
      have sx0 := hw.size
      refine (cA _ hw).mono ?_
      rintro e_ wx ⟨xv, rfl, hx, hb⟩
      replace rp0 := keep hb rp0
      replace hG := hG.keep hb
      replace k0 := keepc hb k0
      replace k1 := keepc hb k1
      replace k2 := keepc hb k2
      replace hw := Below.after hw hb
      clear hb
      replace hx := hx.down sx0
      obtain ⟨xo, xc, ex, _, _⟩ := hx.slc
      subst ex
      have hcx : ∃ c, c = wx.heap.size := ⟨_, rfl⟩
      obtain ⟨c, hc⟩ := hcx
      have hWr : Wrb wx w.heap.size c xo P.length := Wrb.of hx (Nat.le_refl _) (by omega)
      go_wp2_with (fail)
      refine (cA _ hw).mono ?_
      rintro e_ wy ⟨yv, rfl, hy, hb⟩
      rw [← hc] at hy
      have hcy : c ≤ wy.heap.size := by have := hb.size; omega
      replace rp0 := keep hb rp0
      replace hG := hG.keep hb
      replace k0 := keepc hb k0
      replace k1 := keepc hb k1
      replace k2 := keepc hb k2
      replace hx := hx.keep hb
      replace hWr := hWr.keep hb
      replace hw := Below.after hw hb
      clear hb
      obtain ⟨yo, yc, ey, _, _⟩ := hy.slc
      subst ey
      have hb : Below wy.heap.size wy (wy.alloc (.cells #[] 24)) := (Below.refl _ _).alloc (Nat.le_refl _) _
      have j0 := keepc hb k0
      go_wp2_with (fail)
      clear j0
      have hs1 : wy.heap.size ≤ (wy.alloc (.cells #[] 24)).heap.size := by simp
      replace hcy : c ≤ (wy.alloc (.cells #[] 24)).heap.size := by omega
      clear hs1
      replace rp0 := keep hb rp0
      replace hG := hG.keep hb
      replace k0 := keepc hb k0
      replace k1 := keepc hb k1
      replace k2 := keepc hb k2
      replace hx := hx.keep hb
      replace hWr := hWr.keep hb
      replace hy := hy.keep hb
      replace hw := Below.after hw hb
      clear hb
      generalize (wy.alloc (.cells #[] 24)) = wn at *
      have hcd : c ≤ wn.drew.heap.size := hcy
      have hb : Below wn.heap.size wn wn.drew := below_drN (Below.refl _ _) 1
      replace rp0 := keep hb rp0
      replace hG := hG.keep hb
      replace k0 := keepc hb k0
      replace k1 := keepc hb k1
      replace k2 := keepc hb k2
      replace hx := hx.keep hb
      replace hWr := hWr.keep hb
      replace hy := hy.keep hb
      replace hw := Below.after hw hb
      clear hb
      refine wp_region_noPanic ?_
      refine wp_region_held (S := fun W_ => W_.cell? ⟨w.heap.size, 2, none⟩ = some (.int .i64 (N : Int)) ∧ W_.cell? ⟨w.heap.size, 1, none⟩ = some (.int .i64 (M : Int))) (by kernel_rfl) ?_
      change wpAnyH _ _ _ _ _ _ _ _ (World.drew _)
      generalize wn.drew = wd40 at *
      refine wpAnyH_take (i := 0) (v := ?v41) rfl (by kernel_rfl) (by kernel_rfl) (by kernel_rfl) (fun _ _ _ h => h) (Or.inl ⟨by rfl, ?y41⟩) (⟨k2, k1⟩) ?r41
      case y41 =>
        intro w_ hS_
        go_simp
        try with_reducible rfl
      simp only [Act.put, List.getElem_toArray, List.getElem_cons_zero, List.setIfInBounds_toArray, List.set_cons_succ, List.set_cons_zero]
      refine wpAnyH_take (i := 1) (v := ?v42) rfl (by kernel_rfl) (by kernel_rfl) (by kernel_rfl) (fun _ _ _ h => h) (Or.inl ⟨by rfl, ?y42⟩) (⟨k2, k1⟩) ?r42
      case y42 =>
        intro w_ hS_
        go_simp
        try with_reducible rfl
      simp only [Act.put, List.getElem_toArray, List.getElem_cons_succ, List.getElem_cons_zero, List.setIfInBounds_toArray, List.set_cons_succ, List.set_cons_zero]
      refine wpAnyH_take (i := 2) (v := .int .i64 (N : Int)) rfl (by kernel_rfl) (by kernel_rfl) (by kernel_rfl) (fun _ _ _ h => h) (Or.inl ⟨by rfl, ?y43⟩) (⟨k2, k1⟩) ?r43
      case y43 =>
        intro w_ hS_
        obtain ⟨z0, z1⟩ := hS_
        go_simp
        try with_reducible rfl
      simp only [Act.put, List.getElem_toArray, List.getElem_cons_succ, List.getElem_cons_zero, List.setIfInBounds_toArray, List.set_cons_succ, List.set_cons_zero]
      refine wpAnyH_take (i := 3) (v := .slice vo N vc) rfl (by kernel_rfl) (by kernel_rfl) (by kernel_rfl) (fun _ _ _ h => h) (Or.inl ⟨by rfl, ?y44⟩) (⟨k2, k1⟩) ?r44
      case y44 =>
        intro w_ hS_
        simp only [List.getElem_toArray, List.getElem_cons_succ, List.getElem_cons_zero]
        exact e_slice _ _ _ _ rfl _ (slk_head vo l.length vc N (by omega) hz _)
      simp only [Act.put, List.getElem_toArray, List.getElem_cons_succ, List.getElem_cons_zero, List.setIfInBounds_toArray, List.set_cons_succ, List.set_cons_zero]
      refine wpAnyH_take (i := 4) (v := ?v45) rfl (by kernel_rfl) (by kernel_rfl) (by kernel_rfl) (fun _ _ _ h => h) (Or.inl ⟨by rfl, ?y45⟩) (⟨k2, k1⟩) ?r45
      case y45 =>
        intro w_ hS_
        go_simp
        try with_reducible rfl
      simp only [Act.put, List.getElem_toArray, List.getElem_cons_succ, List.getElem_cons_zero, List.setIfInBounds_toArray, List.set_cons_succ, List.set_cons_zero]
      refine wpAnyH_take (i := 5) (v := .int .i64 (M : Int)) rfl (by kernel_rfl) (by kernel_rfl) (by kernel_rfl) (fun _ _ _ h => h) (Or.inl ⟨by rfl, ?y46⟩) (⟨k2, k1⟩) ?r46
      case y46 =>
        intro w_ hS_
        obtain ⟨z0, z1⟩ := hS_
        go_simp
        try with_reducible rfl
      simp only [Act.put, List.getElem_toArray, List.getElem_cons_succ, List.getElem_cons_zero, List.setIfInBounds_toArray, List.set_cons_succ, List.set_cons_zero]
      refine eH_one (k := 6) (fuel := 1) (by kernel_rfl) rfl (by kernel_rfl) (fun K_ hK_ => ?_)
      have hsd := hcd
      clear hcd
      refine wp_call_ex (f := 50) (by kernel_rfl) (cR _ hw) (fun v_ wq47 hX_ => ?_)
      obtain ⟨hv, hb⟩ := hX_
      replace rp0 := keep hb rp0
      replace hG := hG.keep hb
      replace k0 := keepc hb k0
      replace k1 := keepc hb k1
      replace k2 := keepc hb k2
      replace hx := hx.keep hb
      replace hWr := hWr.keep hb
      replace hy := hy.keep hb
      replace hw := Below.after hw hb
      clear hb
      refine hK_ _ _ (⟨k2, k1⟩) ?_
      simp only [Act.put, List.getElem_toArray, List.getElem_cons_succ, List.getElem_cons_zero, List.setIfInBounds_toArray, List.set_cons_succ, List.set_cons_zero]
      clear hK_
      replace hv := hv.down hsd
      refine wpAnyH_take (i := 7) (v := ?v48) rfl (by kernel_rfl) (by kernel_rfl) (by kernel_rfl) (fun _ _ _ h => h) (Or.inl ⟨by rfl, ?y48⟩) (⟨k2, k1⟩) ?r48
      case y48 =>
        intro w_ hS_
        go_simp
        try with_reducible rfl
      simp only [Act.put, List.getElem_toArray, List.getElem_cons_succ, List.getElem_cons_zero, List.setIfInBounds_toArray, List.set_cons_succ, List.set_cons_zero]
      refine wpAnyH_done (by kernel_rfl) ?_ _
      refine NoPanic.normal ?_
      obtain ⟨zo, zc, ez, _, _⟩ := hv.slc
      subst ez
      go_wp2_with (first | fail)
      refine (l_keys _ _ _ _ (hx.ksl hPo hPl) (hv.ksl hPo hPl)).mono ?_
      rintro e_ x1 ⟨rfl, hb⟩
      replace rp0 := keep hb rp0
      replace hG := hG.keep hb
      replace k0 := keepc hb k0
      replace k1 := keepc hb k1
      replace k2 := keepc hb k2
      replace hx := hx.keep hb
      replace hWr := hWr.keep hb
      replace hy := hy.keep hb
      replace hv := hv.keep hb
      replace hw := Below.after hw hb
      clear hb
      go_wp2_with (first | fail)
      refine (l_keys _ _ _ _ (hy.ksl hPo hPl) (hv.ksl hPo hPl)).mono ?_
      rintro e_ x2 ⟨rfl, hb⟩
      replace rp0 := keep hb rp0
      replace hG := hG.keep hb
      replace k0 := keepc hb k0
      replace k1 := keepc hb k1
      replace k2 := keepc hb k2
      replace hx := hx.keep hb
      replace hWr := hWr.keep hb
      replace hy := hy.keep hb
      replace hv := hv.keep hb
      replace hw := Below.after hw hb
      clear hb
      clear hx hG k0 k1 k2 rp0
      go_wp2_with (first | fail)
      go_loopw [16] (fun i wr => ∃ k : Nat, k ≤ P.length ∧ i = .int .i64 k ∧ Wrb wr w.heap.size c xo P.length ∧ OwnK wr c (.slice yo P.length yc) P ∧ OwnK wr c (.slice zo P.length zc) P ∧ Below w.heap.size w wr) (fun i _ => P.length - (intOf i).toNat)
      case atStart => exact ⟨0, by omega, rfl, hWr, hy, hv, hw⟩
      case round =>
        obtain ⟨k, hk, rfl, hWr, hy, hv, hw⟩ := hrel
        by_cases hlt : k < P.length
        · have hd : decide ((k : Int) < (P.length : Int)) = true := by simp; omega
          have jm : (k : Int) < (P.length : Int) := by omega
          rcases hWr with hWr | ⟨gx, cur, rfl, rx, sz, l1, l2⟩
          · omega
          go_wp2_with (first | (refine wpList_build_as rfl 24 _ rfl [(0, .int .u8 9)] rfl _ mk9 ?_) | (refine wpList_store_part rfl 24 _ _ rfl gx (k * 32) (irow .u8 (9 :: zr 31)) rfl rfl 24 cur _ rx (by rw [irow_size, mkz]; omega) rfl (infok8 _ (mkz _)) (irow_one8 _) ?_) | (refine wpList_store_part rfl 24 _ _ rfl gx (0 + k * 32) (irow .u8 (9 :: zr 31)) rfl rfl 24 cur _ rx (by rw [irow_size, mkz]; omega) rfl (infok8 _ (mkz _)) (irow_one8 _) ?_) | fail)
          refine ⟨⟨k + 1, by omega, by go_num, Wrb.set rx sz l1 l2 _ _, hy.setg l2 _, hv.setg l2 _, below_setRow hw (by omega) _⟩, ?_⟩
          simp [intOf]; omega
        · obtain rfl : k = P.length := by omega
          have hd : decide (((P.length : Nat) : Int) < (P.length : Int)) = false := by simp
          clear hWr
          go_wp2_with (fail)
          refine (l_keys _ _ _ _ (hy.ksl hPo hPl) (hv.ksl hPo hPl)).mono ?_
          rintro e_ x3 ⟨rfl, hb⟩
          replace hw := Below.after hw hb
          clear hb
          go_wp2_with (fail)
          go_ret
          exact ⟨rfl, hw⟩
    · skip
      have rp0 := hp1_0 w (.cells (askrow 3 (M : Int) (N : Int) lf) 45)
      have hw : Below w.heap.size w (w.alloc (.cells (askrow 3 (M : Int) (N : Int) lf) 45)) := ((Below.refl _ _).alloc (Nat.le_refl _) _)
      go_enter Tryd.func26, Tryd.ntmps26
      iterate 6 go_step
      generalize (w.alloc (.cells (askrow 3 (M : Int) (N : Int) lf) 45)) = w0 at *
      replace hG := hG.keep hw
      have k0 : w0.cell? ⟨w.heap.size, 0, none⟩ = some (.int .i64 3) := cell_of rp0 (ask_0 _ _ _ _)
      have k1 : w0.cell? ⟨w.heap.size, 1, none⟩ = some (.int .i64 (M : Int)) := cell_of rp0 (ask_1 _ _ _ _)
      have k2 : w0.cell? ⟨w.heap.size, 2, none⟩ = some (.int .i64 (N : Int)) := cell_of rp0 (ask_2 _ _ _ _)
      go_wp2_with (fail)
      have szu : w0.heap.size ≤ w0.heap.size := Nat.le_refl _
      refine (cP _ hw).mono ?_
      rintro e_ wu ⟨uv, rfl, hu, hb⟩
      have blu := hb.size
      replace rp0 := keep hb rp0
      replace hG := hG.keep hb
      replace k0 := keepc hb k0
      replace k1 := keepc hb k1
      replace k2 := keepc hb k2
      replace hw := Below.after hw hb
      clear hb
      obtain ⟨uo, uc, eu, _, _⟩ := hu.slc
      subst eu
      go_wp2_with (fail)
      have szs : wu.heap.size ≤ wu.heap.size := Nat.le_refl _
      refine (cP _ hw).mono ?_
      rintro e_ ws ⟨sv, rfl, hs, hb⟩
      have bls := hb.size
      replace rp0 := keep hb rp0
      replace hG := hG.keep hb
      replace k0 := keepc hb k0
      replace k1 := keepc hb k1
      replace k2 := keepc hb k2
      replace hu := hu.keep hb
      replace hw := Below.after hw hb
      clear hb
      obtain ⟨so, sc, es, _, _⟩ := hs.slc
      subst es
      go_wp2_with (fail)
      clear hu hs
      have sx0 := hw.size
      refine (cA _ hw).mono ?_
      rintro e_ wx ⟨xv, rfl, hx, hb⟩
      replace rp0 := keep hb rp0
      replace hG := hG.keep hb
      replace k0 := keepc hb k0
      replace k1 := keepc hb k1
      replace k2 := keepc hb k2
      replace hw := Below.after hw hb
      clear hb
      replace hx := hx.down sx0
      obtain ⟨xo, xc, ex, _, _⟩ := hx.slc
      subst ex
      have hcx : ∃ c, c = wx.heap.size := ⟨_, rfl⟩
      obtain ⟨c, hc⟩ := hcx
      have hWr : Wrb wx w.heap.size c xo P.length := Wrb.of hx (Nat.le_refl _) (by omega)
      go_wp2_with (fail)
      refine (cA _ hw).mono ?_
      rintro e_ wy ⟨yv, rfl, hy, hb⟩
      rw [← hc] at hy
      have hcy : c ≤ wy.heap.size := by have := hb.size; omega
      replace rp0 := keep hb rp0
      replace hG := hG.keep hb
      replace k0 := keepc hb k0
      replace k1 := keepc hb k1
      replace k2 := keepc hb k2
      replace hx := hx.keep hb
      replace hWr := hWr.keep hb
      replace hw := Below.after hw hb
      clear hb
      obtain ⟨yo, yc, ey, _, _⟩ := hy.slc
      subst ey
      have hb : Below wy.heap.size wy (wy.alloc (.cells #[] 24)) := (Below.refl _ _).alloc (Nat.le_refl _) _
      have j0 := keepc hb k0
      go_wp2_with (fail)
      clear j0
      have hs1 : wy.heap.size ≤ (wy.alloc (.cells #[] 24)).heap.size := by simp
      replace hcy : c ≤ (wy.alloc (.cells #[] 24)).heap.size := by omega
      clear hs1
      replace rp0 := keep hb rp0
      replace hG := hG.keep hb
      replace k0 := keepc hb k0
      replace k1 := keepc hb k1
      replace k2 := keepc hb k2
      replace hx := hx.keep hb
      replace hWr := hWr.keep hb
      replace hy := hy.keep hb
      replace hw := Below.after hw hb
      clear hb
      generalize (wy.alloc (.cells #[] 24)) = wn at *
      have hcd : c ≤ wn.drew.heap.size := hcy
      have hb : Below wn.heap.size wn wn.drew := below_drN (Below.refl _ _) 1
      replace rp0 := keep hb rp0
      replace hG := hG.keep hb
      replace k0 := keepc hb k0
      replace k1 := keepc hb k1
      replace k2 := keepc hb k2
      replace hx := hx.keep hb
      replace hWr := hWr.keep hb
      replace hy := hy.keep hb
      replace hw := Below.after hw hb
      clear hb
      refine wp_region_noPanic ?_
      refine wp_region_held (S := fun W_ => W_.cell? ⟨w.heap.size, 2, none⟩ = some (.int .i64 (N : Int)) ∧ W_.cell? ⟨w.heap.size, 1, none⟩ = some (.int .i64 (M : Int))) (by kernel_rfl) ?_
      change wpAnyH _ _ _ _ _ _ _ _ (World.drew _)
      generalize wn.drew = wd49 at *
      refine wpAnyH_take (i := 0) (v := ?v50) rfl (by kernel_rfl) (by kernel_rfl) (by kernel_rfl) (fun _ _ _ h => h) (Or.inl ⟨by rfl, ?y50⟩) (⟨k2, k1⟩) ?r50
      case y50 =>
        intro w_ hS_
        go_simp
        try with_reducible rfl
      simp only [Act.put, List.getElem_toArray, List.getElem_cons_zero, List.setIfInBounds_toArray, List.set_cons_succ, List.set_cons_zero]
      refine wpAnyH_take (i := 1) (v := ?v51) rfl (by kernel_rfl) (by kernel_rfl) (by kernel_rfl) (fun _ _ _ h => h) (Or.inl ⟨by rfl, ?y51⟩) (⟨k2, k1⟩) ?r51
      case y51 =>
        intro w_ hS_
        go_simp
        try with_reducible rfl
      simp only [Act.put, List.getElem_toArray, List.getElem_cons_succ, List.getElem_cons_zero, List.setIfInBounds_toArray, List.set_cons_succ, List.set_cons_zero]
      refine wpAnyH_take (i := 2) (v := .int .i64 (N : Int)) rfl (by kernel_rfl) (by kernel_rfl) (by kernel_rfl) (fun _ _ _ h => h) (Or.inl ⟨by rfl, ?y52⟩) (⟨k2, k1⟩) ?r52
      case y52 =>
        intro w_ hS_
        obtain ⟨z0, z1⟩ := hS_
        go_simp
        try with_reducible rfl
      simp only [Act.put, List.getElem_toArray, List.getElem_cons_succ, List.getElem_cons_zero, List.setIfInBounds_toArray, List.set_cons_succ, List.set_cons_zero]
      refine wpAnyH_take (i := 3) (v := .slice vo N vc) rfl (by kernel_rfl) (by kernel_rfl) (by kernel_rfl) (fun _ _ _ h => h) (Or.inl ⟨by rfl, ?y53⟩) (⟨k2, k1⟩) ?r53
      case y53 =>
        intro w_ hS_
        simp only [List.getElem_toArray, List.getElem_cons_succ, List.getElem_cons_zero]
        exact e_slice _ _ _ _ rfl _ (slk_head vo l.length vc N (by omega) hz _)
      simp only [Act.put, List.getElem_toArray, List.getElem_cons_succ, List.getElem_cons_zero, List.setIfInBounds_toArray, List.set_cons_succ, List.set_cons_zero]
      refine wpAnyH_take (i := 4) (v := ?v54) rfl (by kernel_rfl) (by kernel_rfl) (by kernel_rfl) (fun _ _ _ h => h) (Or.inl ⟨by rfl, ?y54⟩) (⟨k2, k1⟩) ?r54
      case y54 =>
        intro w_ hS_
        go_simp
        try with_reducible rfl
      simp only [Act.put, List.getElem_toArray, List.getElem_cons_succ, List.getElem_cons_zero, List.setIfInBounds_toArray, List.set_cons_succ, List.set_cons_zero]
      refine wpAnyH_take (i := 5) (v := .int .i64 (M : Int)) rfl (by kernel_rfl) (by kernel_rfl) (by kernel_rfl) (fun _ _ _ h => h) (Or.inl ⟨by rfl, ?y55⟩) (⟨k2, k1⟩) ?r55
      case y55 =>
        intro w_ hS_
        obtain ⟨z0, z1⟩ := hS_
        go_simp
        try with_reducible rfl
      simp only [Act.put, List.getElem_toArray, List.getElem_cons_succ, List.getElem_cons_zero, List.setIfInBounds_toArray, List.set_cons_succ, List.set_cons_zero]
      refine eH_one (k := 6) (fuel := 1) (by kernel_rfl) rfl (by kernel_rfl) (fun K_ hK_ => ?_)
      have hsd := hcd
      clear hcd
      refine wp_call_ex (f := 50) (by kernel_rfl) (cR _ hw) (fun v_ wq56 hX_ => ?_)
      obtain ⟨hv, hb⟩ := hX_
      replace rp0 := keep hb rp0
      replace hG := hG.keep hb
      replace k0 := keepc hb k0
      replace k1 := keepc hb k1
      replace k2 := keepc hb k2
      replace hx := hx.keep hb
      replace hWr := hWr.keep hb
      replace hy := hy.keep hb
      replace hw := Below.after hw hb
      clear hb
      refine hK_ _ _ (⟨k2, k1⟩) ?_
      simp only [Act.put, List.getElem_toArray, List.getElem_cons_succ, List.getElem_cons_zero, List.setIfInBounds_toArray, List.set_cons_succ, List.set_cons_zero]
      clear hK_
      replace hv := hv.down hsd
      refine wpAnyH_take (i := 7) (v := ?v57) rfl (by kernel_rfl) (by kernel_rfl) (by kernel_rfl) (fun _ _ _ h => h) (Or.inl ⟨by rfl, ?y57⟩) (⟨k2, k1⟩) ?r57
      case y57 =>
        intro w_ hS_
        go_simp
        try with_reducible rfl
      simp only [Act.put, List.getElem_toArray, List.getElem_cons_succ, List.getElem_cons_zero, List.setIfInBounds_toArray, List.set_cons_succ, List.set_cons_zero]
      refine wpAnyH_done (by kernel_rfl) ?_ _
      refine NoPanic.normal ?_
      obtain ⟨zo, zc, ez, _, _⟩ := hv.slc
      subst ez
      go_wp2_with (first | fail)
      refine (l_keys _ _ _ _ (hx.ksl hPo hPl) (hv.ksl hPo hPl)).mono ?_
      rintro e_ x1 ⟨rfl, hb⟩
      replace rp0 := keep hb rp0
      replace hG := hG.keep hb
      replace k0 := keepc hb k0
      replace k1 := keepc hb k1
      replace k2 := keepc hb k2
      replace hx := hx.keep hb
      replace hWr := hWr.keep hb
      replace hy := hy.keep hb
      replace hv := hv.keep hb
      replace hw := Below.after hw hb
      clear hb
      go_wp2_with (first | fail)
      refine (l_keys _ _ _ _ (hy.ksl hPo hPl) (hv.ksl hPo hPl)).mono ?_
      rintro e_ x2 ⟨rfl, hb⟩
      replace rp0 := keep hb rp0
      replace hG := hG.keep hb
      replace k0 := keepc hb k0
      replace k1 := keepc hb k1
      replace k2 := keepc hb k2
      replace hx := hx.keep hb
      replace hWr := hWr.keep hb
      replace hy := hy.keep hb
      replace hv := hv.keep hb
      replace hw := Below.after hw hb
      clear hb
      clear hx hG k0 k1 k2 rp0
      go_wp2_with (first | fail)
      go_loopw [16] (fun i wr => ∃ k : Nat, k ≤ P.length ∧ i = .int .i64 k ∧ Wrb wr w.heap.size c xo P.length ∧ OwnK wr c (.slice yo P.length yc) P ∧ OwnK wr c (.slice zo P.length zc) P ∧ Below w.heap.size w wr) (fun i _ => P.length - (intOf i).toNat)
      case atStart => exact ⟨0, by omega, rfl, hWr, hy, hv, hw⟩
      case round =>
        obtain ⟨k, hk, rfl, hWr, hy, hv, hw⟩ := hrel
        by_cases hlt : k < P.length
        · have hd : decide ((k : Int) < (P.length : Int)) = true := by simp; omega
          have jm : (k : Int) < (P.length : Int) := by omega
          rcases hWr with hWr | ⟨gx, cur, rfl, rx, sz, l1, l2⟩
          · omega
          go_wp2_with (first | (refine wpList_build_as rfl 24 _ rfl [(0, .int .u8 9)] rfl _ mk9 ?_) | (refine wpList_store_part rfl 24 _ _ rfl gx (k * 32) (irow .u8 (9 :: zr 31)) rfl rfl 24 cur _ rx (by rw [irow_size, mkz]; omega) rfl (infok8 _ (mkz _)) (irow_one8 _) ?_) | (refine wpList_store_part rfl 24 _ _ rfl gx (0 + k * 32) (irow .u8 (9 :: zr 31)) rfl rfl 24 cur _ rx (by rw [irow_size, mkz]; omega) rfl (infok8 _ (mkz _)) (irow_one8 _) ?_) | fail)
          refine ⟨⟨k + 1, by omega, by go_num, Wrb.set rx sz l1 l2 _ _, hy.setg l2 _, hv.setg l2 _, below_setRow hw (by omega) _⟩, ?_⟩
          simp [intOf]; omega
        · obtain rfl : k = P.length := by omega
          have hd : decide (((P.length : Nat) : Int) < (P.length : Int)) = false := by simp
          clear hWr
          go_wp2_with (fail)
          refine (l_keys _ _ _ _ (hy.ksl hPo hPl) (hv.ksl hPo hPl)).mono ?_
          rintro e_ x3 ⟨rfl, hb⟩
          replace hw := Below.after hw hb
          clear hb
          go_wp2_with (fail)
          go_ret
          exact ⟨rfl, hw⟩
set_option maxRecDepth 100000 in
set_option maxHeartbeats 8000000 in
theorem ask4 (l : List (List Int)) (m n : Int) (lf : List Int) (w : World) (b g : Nat) (v : Value) (vo : Option Addr) (vc : Nat) (hG : LogS w b g v l) (hL : Ksl w (.slice vo l.length vc) l) {xa xb : Bool} (da : decide (n ≥ 0) = xa) (db : decide (n ≤ (l.length : Int)) = xb) : Calls Tryd.prog 26 #[.pointer (some ⟨g, 0, none⟩), .slice vo l.length vc, .agg (askrow 4 m n lf)] w fun e w' => e = .returned (.bool true) ∧ Below w.heap.size w w' := by
  have hle := hL.le
  cases xa
  · skip
    have rp0 := hp1_0 w (.cells (askrow 4 m n lf) 45)
    have hw : Below w.heap.size w (w.alloc (.cells (askrow 4 m n lf) 45)) := ((Below.refl _ _).alloc (Nat.le_refl _) _)
    go_enter Tryd.func26, Tryd.ntmps26
    iterate 6 go_step
    generalize (w.alloc (.cells (askrow 4 m n lf) 45)) = w0 at *
    replace hG := hG.keep hw
    have k0 : w0.cell? ⟨w.heap.size, 0, none⟩ = some (.int .i64 4) := cell_of rp0 (ask_0 _ _ _ _)
    have k1 : w0.cell? ⟨w.heap.size, 1, none⟩ = some (.int .i64 m) := cell_of rp0 (ask_1 _ _ _ _)
    have k2 : w0.cell? ⟨w.heap.size, 2, none⟩ = some (.int .i64 n) := cell_of rp0 (ask_2 _ _ _ _)
    go_wp2_with (fail)
    have sx0 := hw.size
    refine (a_Leaves l _ b g v hG).mono ?_
    rintro e_ wx ⟨xv, rfl, hx, hb⟩
    replace rp0 := keep hb rp0
    replace hG := hG.keep hb
    replace k0 := keepc hb k0
    replace k1 := keepc hb k1
    replace k2 := keepc hb k2
    replace hw := Below.after hw hb
    clear hb
    replace hx := hx.down sx0
    obtain ⟨xo, xc, ex, _, _⟩ := hx.slc
    subst ex
    have hcx : ∃ c, c = wx.heap.size := ⟨_, rfl⟩
    obtain ⟨c, hc⟩ := hcx
    have hWr : Wrb wx w.heap.size c xo l.length := Wrb.of hx (Nat.le_refl _) (by omega)
    go_wp2_with (fail)
    refine (a_Leaves l _ b g v hG).mono ?_
    rintro e_ wy ⟨yv, rfl, hy, hb⟩
    rw [← hc] at hy
    replace rp0 := keep hb rp0
    replace hG := hG.keep hb
    replace k0 := keepc hb k0
    replace k1 := keepc hb k1
    replace k2 := keepc hb k2
    replace hx := hx.keep hb
    replace hWr := hWr.keep hb
    replace hw := Below.after hw hb
    clear hb
    obtain ⟨yo, yc, ey, _, _⟩ := hy.slc
    subst ey
    go_wp2_with (fail)
    refine (l_keys _ _ _ _ (hx.ksl hL.ok hL.le) (hL.keep hw)).mono ?_
    rintro e_ x1 ⟨rfl, hb⟩
    replace rp0 := keep hb rp0
    replace hG := hG.keep hb
    replace k0 := keepc hb k0
    replace k1 := keepc hb k1
    replace k2 := keepc hb k2
    replace hx := hx.keep hb
    replace hWr := hWr.keep hb
    replace hy := hy.keep hb
    replace hw := Below.after hw hb
    clear hb
    clear hx hG k0 k1 k2 rp0
    go_wp2_with (fail)
    go_loopw [19] (fun i wr => ∃ k : Nat, k ≤ l.length ∧ i = .int .i64 k ∧ Wrb wr w.heap.size c xo l.length ∧ OwnK wr c (.slice yo l.length yc) l ∧ Below w.heap.size w wr) (fun i _ => l.length - (intOf i).toNat)
    case atStart => exact ⟨0, by omega, rfl, hWr, hy, hw⟩
    case round =>
      obtain ⟨k, hk, rfl, hWr, hy, hw⟩ := hrel
      by_cases hlt : k < l.length
      · have hd : decide ((k : Int) < (l.length : Int)) = true := by simp; omega
        have jm : (k : Int) < (l.length : Int) := by omega
        rcases hWr with hWr | ⟨gx, cur, rfl, rx, sz, l1, l2⟩
        · omega
        go_wp2_with (first | (refine wpList_build_as rfl 24 _ rfl [(0, .int .u8 8)] rfl _ mk8 ?_) | (refine wpList_store_part rfl 24 _ _ rfl gx (k * 32) (irow .u8 (8 :: zr 31)) rfl rfl 24 cur _ rx (by rw [irow_size, mkz]; omega) rfl (infok8 _ (mkz _)) (irow_one8 _) ?_) | (refine wpList_store_part rfl 24 _ _ rfl gx (0 + k * 32) (irow .u8 (8 :: zr 31)) rfl rfl 24 cur _ rx (by rw [irow_size, mkz]; omega) rfl (infok8 _ (mkz _)) (irow_one8 _) ?_) | fail)
        refine ⟨⟨k + 1, by omega, by go_num, Wrb.set rx sz l1 l2 _ _, hy.setg l2 _, below_setRow hw (by omega) _⟩, ?_⟩
        simp [intOf]; omega
      · obtain rfl : k = l.length := by omega
        have hd : decide (((l.length : Nat) : Int) < (l.length : Int)) = false := by simp
        clear hWr
        go_wp2_with (fail)
        refine (l_keys _ _ _ _ (hy.ksl hL.ok hL.le) (hL.keep hw)).mono ?_
        rintro e_ x3 ⟨rfl, hb⟩
        replace hw := Below.after hw hb
        clear hb
        go_wp2_with (fail)
        go_ret
        exact ⟨rfl, hw⟩
  · skip
    have rp0 := hp1_0 w (.cells (askrow 4 m n lf) 45)
    have hw : Below w.heap.size w (w.alloc (.cells (askrow 4 m n lf) 45)) := ((Below.refl _ _).alloc (Nat.le_refl _) _)
    go_enter Tryd.func26, Tryd.ntmps26
    iterate 6 go_step
    generalize (w.alloc (.cells (askrow 4 m n lf) 45)) = w0 at *
    replace hG := hG.keep hw
    have k0 : w0.cell? ⟨w.heap.size, 0, none⟩ = some (.int .i64 4) := cell_of rp0 (ask_0 _ _ _ _)
    have k1 : w0.cell? ⟨w.heap.size, 1, none⟩ = some (.int .i64 m) := cell_of rp0 (ask_1 _ _ _ _)
    have k2 : w0.cell? ⟨w.heap.size, 2, none⟩ = some (.int .i64 n) := cell_of rp0 (ask_2 _ _ _ _)
    go_wp2_with (fail)
    have sx0 := hw.size
    refine (a_Leaves l _ b g v hG).mono ?_
    rintro e_ wx ⟨xv, rfl, hx, hb⟩
    replace rp0 := keep hb rp0
    replace hG := hG.keep hb
    replace k0 := keepc hb k0
    replace k1 := keepc hb k1
    replace k2 := keepc hb k2
    replace hw := Below.after hw hb
    clear hb
    replace hx := hx.down sx0
    obtain ⟨xo, xc, ex, _, _⟩ := hx.slc
    subst ex
    have hcx : ∃ c, c = wx.heap.size := ⟨_, rfl⟩
    obtain ⟨c, hc⟩ := hcx
    have hWr : Wrb wx w.heap.size c xo l.length := Wrb.of hx (Nat.le_refl _) (by omega)
    go_wp2_with (fail)
    refine (a_Leaves l _ b g v hG).mono ?_
    rintro e_ wy ⟨yv, rfl, hy, hb⟩
    rw [← hc] at hy
    replace rp0 := keep hb rp0
    replace hG := hG.keep hb
    replace k0 := keepc hb k0
    replace k1 := keepc hb k1
    replace k2 := keepc hb k2
    replace hx := hx.keep hb
    replace hWr := hWr.keep hb
    replace hw := Below.after hw hb
    clear hb
    obtain ⟨yo, yc, ey, _, _⟩ := hy.slc
    subst ey
    go_wp2_with (fail)
    refine (l_keys _ _ _ _ (hx.ksl hL.ok hL.le) (hL.keep hw)).mono ?_
    rintro e_ x1 ⟨rfl, hb⟩
    replace rp0 := keep hb rp0
    replace hG := hG.keep hb
    replace k0 := keepc hb k0
    replace k1 := keepc hb k1
    replace k2 := keepc hb k2
    replace hx := hx.keep hb
    replace hWr := hWr.keep hb
    replace hy := hy.keep hb
    replace hw := Below.after hw hb
    clear hb
    clear hx hG k0 k1 k2 rp0
    go_wp2_with (fail)
    go_loopw [19] (fun i wr => ∃ k : Nat, k ≤ l.length ∧ i = .int .i64 k ∧ Wrb wr w.heap.size c xo l.length ∧ OwnK wr c (.slice yo l.length yc) l ∧ Below w.heap.size w wr) (fun i _ => l.length - (intOf i).toNat)
    case atStart => exact ⟨0, by omega, rfl, hWr, hy, hw⟩
    case round =>
      obtain ⟨k, hk, rfl, hWr, hy, hw⟩ := hrel
      by_cases hlt : k < l.length
      · have hd : decide ((k : Int) < (l.length : Int)) = true := by simp; omega
        have jm : (k : Int) < (l.length : Int) := by omega
        rcases hWr with hWr | ⟨gx, cur, rfl, rx, sz, l1, l2⟩
        · omega
        go_wp2_with (first | (refine wpList_build_as rfl 24 _ rfl [(0, .int .u8 8)] rfl _ mk8 ?_) | (refine wpList_store_part rfl 24 _ _ rfl gx (k * 32) (irow .u8 (8 :: zr 31)) rfl rfl 24 cur _ rx (by rw [irow_size, mkz]; omega) rfl (infok8 _ (mkz _)) (irow_one8 _) ?_) | (refine wpList_store_part rfl 24 _ _ rfl gx (0 + k * 32) (irow .u8 (8 :: zr 31)) rfl rfl 24 cur _ rx (by rw [irow_size, mkz]; omega) rfl (infok8 _ (mkz _)) (irow_one8 _) ?_) | fail)
        refine ⟨⟨k + 1, by omega, by go_num, Wrb.set rx sz l1 l2 _ _, hy.setg l2 _, below_setRow hw (by omega) _⟩, ?_⟩
        simp [intOf]; omega
      · obtain rfl : k = l.length := by omega
        have hd : decide (((l.length : Nat) : Int) < (l.length : Int)) = false := by simp
        clear hWr
        go_wp2_with (fail)
        refine (l_keys _ _ _ _ (hy.ksl hL.ok hL.le) (hL.keep hw)).mono ?_
        rintro e_ x3 ⟨rfl, hb⟩
        replace hw := Below.after hw hb
        clear hb
        go_wp2_with (fail)
        go_ret
        exact ⟨rfl, hw⟩
theorem asked_any (l : List (List Int)) (kd m n : Int) (lf : List Int) (w : World) (b g : Nat) (v : Value) (vo : Option Addr) (vc : Nat) (hS : Sta w) (hK : Kon w) (hG : LogS w b g v l) (hL : Ksl w (.slice vo l.length vc) l) : Calls Tryd.prog 26 #[.pointer (some ⟨g, 0, none⟩), .slice vo l.length vc, .agg (askrow kd m n lf)] w fun e w' => e = .returned (.bool true) ∧ Below w.heap.size w w' := by
  have hle := hG.le
  by_cases k1 : kd = 1
  · subst k1
    by_cases hn : n < 0 ∨ (l.length : Int) < n
    · exact ask1_no l m n lf w b g v vo vc hG hL hn rfl rfl (by simp; omega)
    · obtain ⟨N, rfl⟩ := Int.eq_ofNat_of_zero_le (show 0 ≤ n by omega)
      exact ask1 l m lf w b g v vo vc hG hL N (by omega) (Ky.rt (hL.ok.take N)).1 (fun W hW => a_LRoot l W b g v (hG.keep hW) (hS.below hW) (hK.below hW) N (by omega)) (fun W hW => r_Root _ _ W _ rfl ((hL.keep hW).head (by omega)))
  by_cases k2 : kd = 2
  · subst k2
    by_cases hf : n < 1 ∨ (l.length : Int) < n ∨ m < 0 ∨ n ≤ m
    · exact ask2_no l m n lf w b g v vo vc hG hL rfl rfl rfl rfl rfl (by simp; omega) (fun W hW => (a_LPath_no l W b g v (hG.keep hW) _ _ (by omega)).mono fun _ _ ⟨q1, q2⟩ => ⟨_, q1, OwnK.nil _ _, q2⟩)
    · obtain ⟨N, rfl⟩ := Int.eq_ofNat_of_zero_le (show 0 ≤ n by omega)
      obtain ⟨M, rfl⟩ := Int.eq_ofNat_of_zero_le (show 0 ≤ m by omega)
      have hln : (l.take N).length = N := by rw [List.length_take]; omega
      exact ask2 l lf w b g v vo vc hG hL M N (by omega) (by omega) (pth_ok _ _ M rfl (hL.ok.take N)) (Nat.le_trans (pth_le (by omega)) (by omega)) (fun W hW => a_LPath l W b g v (hG.keep hW) (hS.below hW) (hK.below hW) M N (by omega) (by omega)) (fun W hW => r_path _ (l.take N) M W _ rfl (by omega) ((hL.keep hW).head (by omega)))
  by_cases k3 : kd = 3
  · subst k3
    by_cases hf : (l.length : Int) < n ∨ m < 0 ∨ n < m
    · exact ask3_no l m n lf w b g v vo vc hG hL rfl rfl rfl rfl rfl rfl (by simp; omega) (fun W hW => (a_LPath_no l W b g v (hG.keep hW) _ _ (by omega)).mono fun _ _ ⟨q1, q2⟩ => ⟨_, q1, OwnK.nil _ _, q2⟩) (fun W hW => (a_LGrow_no l W b g v (hG.keep hW) _ _ (by omega)).mono fun _ _ ⟨q1, q2⟩ => ⟨_, q1, OwnK.nil _ _, q2⟩)
    · obtain ⟨N, rfl⟩ := Int.eq_ofNat_of_zero_le (show 0 ≤ n by omega)
      obtain ⟨M, rfl⟩ := Int.eq_ofNat_of_zero_le (show 0 ≤ m by omega)
      have hln : (l.take N).length = N := by rw [List.length_take]; omega
      have cR : ∀ W, Below w.heap.size w W → Calls Tryd.prog 50 #[.slice vo N vc, .int .i64 (M : Int)] W fun e w' => ∃ v', e = .returned v' ∧ OwnK w' W.heap.size v' (grL (l.take N) M) ∧ Below W.heap.size W w' := fun W hW => r_Growth (l.take N) M W _ (by omega) ((hL.keep hW).head (by omega))
      have hgl : (grL (l.take N) M).length ≤ 17 := grL_len (by omega)
      by_cases hM : M = N
      · exact ask3 l lf w b g v vo vc hG hL M N (by omega) (by omega) (grL_ok (hL.ok.take N) M) (by omega) rfl rfl (fun W hW => (a_LPath_no l W b g v (hG.keep hW) _ _ (by omega)).mono fun _ _ ⟨q1, q2⟩ => ⟨_, q1, OwnK.nil _ _, q2⟩) (fun W hW => a_LGrow l W b g v (hG.keep hW) (hS.below hW) (hK.below hW) M N (by omega) (by omega)) cR
      · exact ask3 l lf w b g v vo vc hG hL M N (by omega) (by omega) (grL_ok (hL.ok.take N) M) (by omega) rfl rfl (fun W hW => a_LPath l W b g v (hG.keep hW) (hS.below hW) (hK.below hW) M N (by omega) (by omega)) (fun W hW => a_LGrow l W b g v (hG.keep hW) (hS.below hW) (hK.below hW) M N (by omega) (by omega)) cR
  by_cases k4 : kd = 4
  · subst k4
    exact ask4 l m n lf w b g v vo vc hG hL rfl rfl
  · exact ask_else l kd m n lf w b g v vo vc hG hL (by simp [k1]) (by simp [k2]) (by simp [k3]) (by simp [k4]) rfl rfl
end Go.Proofs.YtgfeacnhdlgpoaaDoor
