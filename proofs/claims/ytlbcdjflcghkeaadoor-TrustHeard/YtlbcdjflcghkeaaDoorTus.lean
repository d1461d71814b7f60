import Derived.Test.YtlbcdjflcghkeaaDoorProg
import Derived.WalkKit
import Derived.WalkSpells
import Derived.WalkLawsBesides
import Derived.Lib.QuietBelow
import Derived.BigQuiet
import Derived.OrdersHeld
import Derived.OwnWalk
import Derived.Deep.RegionHeld3
import Derived.Deep.Cut
import Derived.Deep.CutRange
import Derived.Deep.CutBlock
import Derived.Test.YtlbcdjflcghkeaaDoorTur
namespace Go.Proofs.YtlbcdjflcghkeaaDoor
set_option maxRecDepth 100000
open Go Go.RowKit Go.Sort
attribute [local go_sem] setCell_drewN alloc_drewN
theorem run_eql_op {P : Program} {o : Oper} {a : Act} {w : World} (t u : TypeId) (x y : Operand) (ho : o.op = .binOp .eql t x y u) (X Y : Array Value) (hx : a.eval x = .agg X) (hy : a.eval y = .agg Y) (hg : P.eqGuardType P.depth t = false) (B : Bool) (he : (Op.equalIn 10000 t (.agg X) (.agg Y)).run P w = .ok B w) : (execOp a.eval o).run P w = .ok (.value (.bool B)) w := by
  unfold execOp
  simp only [ho, hx, hy, Sem.run_bind, Sem.run_pure, Result.andThen_ok, run_eqGuard_agg w .eql t x y X Y hg, run_eql_struct, he]
theorem egC : Tryd.prog.eqGuardType Tryd.prog.depth 45 = false := by kernel_rfl
set_option maxRecDepth 100000 in
set_option maxHeartbeats 8000000 in
theorem heard_any (p q r : List Int) (hp : K32 p) (hq : K32 q) (hr : K32 r) (w : World) (hSt : Sta w) (hKo : Kon w) (hPo : Pow w) : Calls Tryd.prog 4 #[.agg (irow .u8 p), .agg (irow .u8 q), .agg (irow .u8 r)] w fun e w' => e = .returned (.bool true) ∧ Below w.heap.size w w' := by
  have rp0 := hp3_0 w (.cells (irow .u8 p) 23) (.cells (irow .u8 q) 23) (.cells (irow .u8 r) 23)
  have rp1 := hp3_1 w (.cells (irow .u8 p) 23) (.cells (irow .u8 q) 23) (.cells (irow .u8 r) 23)
  have rp2 := hp3_2 w (.cells (irow .u8 p) 23) (.cells (irow .u8 q) 23) (.cells (irow .u8 r) 23)
  have hw : Below w.heap.size w (((w.alloc (.cells (irow .u8 p) 23)).alloc (.cells (irow .u8 q) 23)).alloc (.cells (irow .u8 r) 23)) := ((((Below.refl _ _).alloc (Nat.le_refl _) _).alloc (by simp) _).alloc (by simp; omega) _)
  go_enter Tryd.func4, Tryd.ntmps4
  go_upto_region 1 with (first | (refine wpList_box rfl 23 _ rfl _ rfl (bKy _) ?_) | (refine wpList_box rfl 23 _ rfl _ rfl (bKy _) ?_) | (refine wpList_box rfl 23 _ rfl _ rfl (bKy _) ?_) | fail)
  try simp only [size_alloc1]
  generalize (((w.alloc (.cells (irow .u8 p) 23)).alloc (.cells (irow .u8 q) 23)).alloc (.cells (irow .u8 r) 23)) = w0 at *
  go_wp2_with (first | (refine wpList_load_part rfl 23 _ rfl (w.heap.size) 0 rfl 23 (irow .u8 p) (0, 0) (irow .u8 p) _ rp0 (all_rowe _) Tryd.underlying23 rfl (infoKy _ hp.1) ?_) | (refine wpList_load_part rfl 23 _ rfl (w.heap.size + 1) 0 rfl 23 (irow .u8 q) (0, 0) (irow .u8 q) _ rp1 (all_rowe _) Tryd.underlying23 rfl (infoKy _ hq.1) ?_) | (refine wpList_load_part rfl 23 _ rfl (w.heap.size + 1 + 1) 0 rfl 23 (irow .u8 r) (0, 0) (irow .u8 r) _ rp2 (all_rowe _) Tryd.underlying23 rfl (infoKy _ hr.1) ?_) | fail)
  refine (a_lives _ (hSt.below hw) (hKo.below hw) (hPo.below hw)).mono ?_
  rintro e_ wv21 ⟨rfl, hb⟩
  replace rp0 := keep hb rp0
  replace rp1 := keep hb rp1
  replace rp2 := keep hb rp2
  replace hw := Below.after hw hb
  clear hb
  go_wp2_with (first | (refine wpList_load_part rfl 23 _ rfl (w.heap.size) 0 rfl 23 (irow .u8 p) (0, 0) (irow .u8 p) _ rp0 (all_rowe _) Tryd.underlying23 rfl (infoKy _ hp.1) ?_) | (refine wpList_load_part rfl 23 _ rfl (w.heap.size + 1) 0 rfl 23 (irow .u8 q) (0, 0) (irow .u8 q) _ rp1 (all_rowe _) Tryd.underlying23 rfl (infoKy _ hq.1) ?_) | (refine wpList_load_part rfl 23 _ rfl (w.heap.size + 1 + 1) 0 rfl 23 (irow .u8 r) (0, 0) (irow .u8 r) _ rp2 (all_rowe _) Tryd.underlying23 rfl (infoKy _ hr.1) ?_) | fail)
  have hs1_ := lt_of_row rp2
  refine (a_New p hp _).mono ?_
  rintro e_ wX ⟨gX, rfl, hBX, hb⟩
  obtain ⟨bX, hbE⟩ : ∃ b, Hid (b = wv21.heap.size) := ⟨_, hide rfl⟩
  rw [← hbE.out] at hBX
  have hbX : w.heap.size + 1 + 1 < bX := by rw [hbE.out]; exact hs1_
  clear hbE hs1_
  replace rp0 := keep hb rp0
  replace rp1 := keep hb rp1
  replace rp2 := keep hb rp2
  replace hw := Below.after hw hb
  clear hb
  go_wp2_with (first | (refine wpList_load_part rfl 23 _ rfl (w.heap.size) 0 rfl 23 (irow .u8 p) (0, 0) (irow .u8 p) _ rp0 (all_rowe _) Tryd.underlying23 rfl (infoKy _ hp.1) ?_) | (refine wpList_load_part rfl 23 _ rfl (w.heap.size + 1) 0 rfl 23 (irow .u8 q) (0, 0) (irow .u8 q) _ rp1 (all_rowe _) Tryd.underlying23 rfl (infoKy _ hq.1) ?_) | (refine wpList_load_part rfl 23 _ rfl (w.heap.size + 1 + 1) 0 rfl 23 (irow .u8 r) (0, 0) (irow .u8 r) _ rp2 (all_rowe _) Tryd.underlying23 rfl (infoKy _ hr.1) ?_) | fail)
  have hs1_ := lt_of_row rp2
  refine (a_New q hq _).mono ?_
  rintro e_ wY ⟨gY, rfl, hBY, hb⟩
  have hD : Dj gX (.slice none 0 0) (.slice none 0 0) gY (.slice none 0 0) (.slice none 0 0) := fun k h1 h2 => by have := (hBX.low k h1).2; have := (hBY.low k h2).1; omega
  obtain ⟨bY, hbE⟩ : ∃ b, Hid (b = wX.heap.size) := ⟨_, hide rfl⟩
  rw [← hbE.out] at hBY
  have hbY : w.heap.size + 1 + 1 < bY := by rw [hbE.out]; exact hs1_
  clear hbE hs1_
  replace hBX := hBX.keep hb
  replace rp0 := keep hb rp0
  replace rp1 := keep hb rp1
  replace rp2 := keep hb rp2
  replace hw := Below.after hw hb
  clear hb
  go_wp2_with (first | (refine wpList_load_part rfl 23 _ rfl (w.heap.size) 0 rfl 23 (irow .u8 p) (0, 0) (irow .u8 p) _ rp0 (all_rowe _) Tryd.underlying23 rfl (infoKy _ hp.1) ?_) | (refine wpList_load_part rfl 23 _ rfl (w.heap.size + 1) 0 rfl 23 (irow .u8 q) (0, 0) (irow .u8 q) _ rp1 (all_rowe _) Tryd.underlying23 rfl (infoKy _ hq.1) ?_) | (refine wpList_load_part rfl 23 _ rfl (w.heap.size + 1 + 1) 0 rfl 23 (irow .u8 r) (0, 0) (irow .u8 r) _ rp2 (all_rowe _) Tryd.underlying23 rfl (infoKy _ hr.1) ?_) | fail)
  have cX := a_See bob (by decide) q hq bX gX _ _ _ [] [] _ hBX
  rw [hs1 bob nam_bob q] at cX
  refine cX.mono ?_
  rintro e_ wv22 ⟨ve23, vc23, he_, hB1, hN1_, hN2_, hF_⟩
  change e_ = .returned (.int .i64 0) at he_
  subst he_
  clear cX
  have hD2 := (hD).step hBY hN1_ hN2_
  replace hBY := hBY.apart hF_ (hD)
  clear hD
  have hD := hD2
  clear hD2
  have hbB := hF_.below (fun k e => (hBX.low k e).1) (Nat.le_of_lt (Nat.lt_of_le_of_lt hBX.bg (lt_of_row hBX.row)))
  replace rp0 := (hbB.block _ (by omega)).trans rp0
  replace rp1 := (hbB.block _ (by omega)).trans rp1
  replace rp2 := (hbB.block _ (by omega)).trans rp2
  replace hw := Bk.step hBX hF_ hw (by omega)
  clear hBX hF_ hbB hN1_ hN2_
  dsimp only at hB1
  rw [hs1j bob nam_bob q] at hB1
  have hBX := hB1
  clear hB1
  dsimp only at hBX
  go_wp2_with (first | (refine wpList_load_part rfl 23 _ rfl (w.heap.size) 0 rfl 23 (irow .u8 p) (0, 0) (irow .u8 p) _ rp0 (all_rowe _) Tryd.underlying23 rfl (infoKy _ hp.1) ?_) | (refine wpList_load_part rfl 23 _ rfl (w.heap.size + 1) 0 rfl 23 (irow .u8 q) (0, 0) (irow .u8 q) _ rp1 (all_rowe _) Tryd.underlying23 rfl (infoKy _ hq.1) ?_) | (refine wpList_load_part rfl 23 _ rfl (w.heap.size + 1 + 1) 0 rfl 23 (irow .u8 r) (0, 0) (irow .u8 r) _ rp2 (all_rowe _) Tryd.underlying23 rfl (infoKy _ hr.1) ?_) | fail)
  have cX := a_See ann (by decide) p hp bY gY _ _ _ [] [] _ hBY
  rw [hs1 ann nam_ann p] at cX
  refine cX.mono ?_
  rintro e_ wv24 ⟨ve25, vc25, he_, hB1, hN1_, hN2_, hF_⟩
  change e_ = .returned (.int .i64 0) at he_
  subst he_
  clear cX
  have hD2 := (hD.sym).step hBX hN1_ hN2_
  replace hBX := hBX.apart hF_ (hD.sym)
  clear hD
  have hD := hD2.sym
  clear hD2
  have hbB := hF_.below (fun k e => (hBY.low k e).1) (Nat.le_of_lt (Nat.lt_of_le_of_lt hBY.bg (lt_of_row hBY.row)))
  replace rp0 := (hbB.block _ (by omega)).trans rp0
  replace rp1 := (hbB.block _ (by omega)).trans rp1
  replace rp2 := (hbB.block _ (by omega)).trans rp2
  replace hw := Bk.step hBY hF_ hw (by omega)
  clear hBY hF_ hbB hN1_ hN2_
  dsimp only at hB1
  rw [hs1j ann nam_ann p] at hB1
  have hBY := hB1
  clear hB1
  dsimp only at hBY
  go_wp2_with (first | (refine wpList_load_part rfl 23 _ rfl (w.heap.size) 0 rfl 23 (irow .u8 p) (0, 0) (irow .u8 p) _ rp0 (all_rowe _) Tryd.underlying23 rfl (infoKy _ hp.1) ?_) | (refine wpList_load_part rfl 23 _ rfl (w.heap.size + 1) 0 rfl 23 (irow .u8 q) (0, 0) (irow .u8 q) _ rp1 (all_rowe _) Tryd.underlying23 rfl (infoKy _ hq.1) ?_) | (refine wpList_load_part rfl 23 _ rfl (w.heap.size + 1 + 1) 0 rfl 23 (irow .u8 r) (0, 0) (irow .u8 r) _ rp2 (all_rowe _) Tryd.underlying23 rfl (infoKy _ hr.1) ?_) | fail)
  refine (a_number p q hp hq _ (hSt.below hw) (hKo.below hw) (hPo.below hw)).mono ?_
  rintro e_ wv26 ⟨rfl, hb⟩
  replace hBX := hBX.keep hb
  replace hBY := hBY.keep hb
  replace rp0 := keep hb rp0
  replace rp1 := keep hb rp1
  replace rp2 := keep hb rp2
  replace hw := Below.after hw hb
  clear hb
  go_wp2_with (first | (refine wpList_load_part rfl 23 _ rfl (w.heap.size) 0 rfl 23 (irow .u8 p) (0, 0) (irow .u8 p) _ rp0 (all_rowe _) Tryd.underlying23 rfl (infoKy _ hp.1) ?_) | (refine wpList_load_part rfl 23 _ rfl (w.heap.size + 1) 0 rfl 23 (irow .u8 q) (0, 0) (irow .u8 q) _ rp1 (all_rowe _) Tryd.underlying23 rfl (infoKy _ hq.1) ?_) | (refine wpList_load_part rfl 23 _ rfl (w.heap.size + 1 + 1) 0 rfl 23 (irow .u8 r) (0, 0) (irow .u8 r) _ rp2 (all_rowe _) Tryd.underlying23 rfl (infoKy _ hr.1) ?_) | fail)
  refine (a_number p r hp hr _ (hSt.below hw) (hKo.below hw) (hPo.below hw)).mono ?_
  rintro e_ wv27 ⟨rfl, hb⟩
  replace hBX := hBX.keep hb
  replace hBY := hBY.keep hb
  replace rp0 := keep hb rp0
  replace rp1 := keep hb rp1
  replace rp2 := keep hb rp2
  replace hw := Below.after hw hb
  clear hb
  have eB := ba_dec (nbr2 p r) (nbr2 p q)
  by_cases hE : nbr2 p r = nbr2 p q
  · skip
    rw [decide_eq_true hE] at eB
    have hEH := hide hE
    clear hE
    go_wp2_with (first | (refine wpList_load_part rfl 23 _ rfl (w.heap.size) 0 rfl 23 (irow .u8 p) (0, 0) (irow .u8 p) _ rp0 (all_rowe _) Tryd.underlying23 rfl (infoKy _ hp.1) ?_) | (refine wpList_load_part rfl 23 _ rfl (w.heap.size + 1) 0 rfl 23 (irow .u8 q) (0, 0) (irow .u8 q) _ rp1 (all_rowe _) Tryd.underlying23 rfl (infoKy _ hq.1) ?_) | (refine wpList_load_part rfl 23 _ rfl (w.heap.size + 1 + 1) 0 rfl 23 (irow .u8 r) (0, 0) (irow .u8 r) _ rp2 (all_rowe _) Tryd.underlying23 rfl (infoKy _ hr.1) ?_) | fail)
    have cE : coR p ([⟨1, bob, q⟩] : List Ev) [⟨bob, q, zr 32, 1⟩] bob (nbr2 p r) = (0, some ⟨4, bob, q⟩) := by rw [hEH.out]; exact hc1 p _ (by simp) bob q 1 (.inl rfl)
    have cX := a_Confirm bob (by decide) (nbr2 p r) bX gX _ _ _ ([⟨1, bob, q⟩] : List Ev) [⟨bob, q, zr 32, 1⟩] _ hBX (hSt.below hw) (hKo.below hw) (hPo.below hw)
    rw [cE] at cX
    refine cX.mono ?_
    rintro e_ wv28 ⟨ve29, vc29, he_, hB1, hN1_, hN2_, hF_⟩
    change e_ = .returned (.int .i64 0) at he_
    subst he_
    clear cX
    have hD2 := (hD).step hBY hN1_ hN2_
    replace hBY := hBY.apart hF_ (hD)
    clear hD
    have hD := hD2
    clear hD2
    have hbB := hF_.below (fun k e => (hBX.low k e).1) (Nat.le_of_lt (Nat.lt_of_le_of_lt hBX.bg (lt_of_row hBX.row)))
    replace rp0 := (hbB.block _ (by omega)).trans rp0
    replace rp1 := (hbB.block _ (by omega)).trans rp1
    replace rp2 := (hbB.block _ (by omega)).trans rp2
    replace hw := Bk.step hBX hF_ hw (by omega)
    clear hBX hF_ hbB hN1_ hN2_
    dsimp only at hB1
    rw [hc1j _ bob nam_bob q 1 (.inl rfl)] at hB1
    have hBX := hB1
    clear hB1
    dsimp only at hBX
    clear cE
    go_wp2_with (first | (refine wpList_load_part rfl 23 _ rfl (w.heap.size) 0 rfl 23 (irow .u8 p) (0, 0) (irow .u8 p) _ rp0 (all_rowe _) Tryd.underlying23 rfl (infoKy _ hp.1) ?_) | (refine wpList_load_part rfl 23 _ rfl (w.heap.size + 1) 0 rfl 23 (irow .u8 q) (0, 0) (irow .u8 q) _ rp1 (all_rowe _) Tryd.underlying23 rfl (infoKy _ hq.1) ?_) | (refine wpList_load_part rfl 23 _ rfl (w.heap.size + 1 + 1) 0 rfl 23 (irow .u8 r) (0, 0) (irow .u8 r) _ rp2 (all_rowe _) Tryd.underlying23 rfl (infoKy _ hr.1) ?_) | fail)
    have cE : coR q ([⟨1, ann, p⟩] : List Ev) [⟨ann, p, zr 32, 1⟩] ann (nbr2 p q) = (0, some ⟨4, ann, p⟩) := by rw [nbr2_comm p q hp hq]; exact hc1 q _ (by simp) ann p 1 (.inl rfl)
    have cX := a_Confirm ann (by decide) (nbr2 p q) bY gY _ _ _ ([⟨1, ann, p⟩] : List Ev) [⟨ann, p, zr 32, 1⟩] _ hBY (hSt.below hw) (hKo.below hw) (hPo.below hw)
    rw [cE] at cX
    refine cX.mono ?_
    rintro e_ wv30 ⟨ve31, vc31, he_, hB1, hN1_, hN2_, hF_⟩
    change e_ = .returned (.int .i64 0) at he_
    subst he_
    clear cX
    have hD2 := (hD.sym).step hBX hN1_ hN2_
    replace hBX := hBX.apart hF_ (hD.sym)
    clear hD
    have hD := hD2.sym
    clear hD2
    have hbB := hF_.below (fun k e => (hBY.low k e).1) (Nat.le_of_lt (Nat.lt_of_le_of_lt hBY.bg (lt_of_row hBY.row)))
    replace rp0 := (hbB.block _ (by omega)).trans rp0
    replace rp1 := (hbB.block _ (by omega)).trans rp1
    replace rp2 := (hbB.block _ (by omega)).trans rp2
    replace hw := Bk.step hBY hF_ hw (by omega)
    clear hBY hF_ hbB hN1_ hN2_
    dsimp only at hB1
    rw [hc1j _ ann nam_ann p 1 (.inl rfl)] at hB1
    have hBY := hB1
    clear hB1
    dsimp only at hBY
    clear cE
    go_wp2_with (first | (refine wpList_load_part rfl 23 _ rfl (w.heap.size) 0 rfl 23 (irow .u8 p) (0, 0) (irow .u8 p) _ rp0 (all_rowe _) Tryd.underlying23 rfl (infoKy _ hp.1) ?_) | (refine wpList_load_part rfl 23 _ rfl (w.heap.size + 1) 0 rfl 23 (irow .u8 q) (0, 0) (irow .u8 q) _ rp1 (all_rowe _) Tryd.underlying23 rfl (infoKy _ hq.1) ?_) | (refine wpList_load_part rfl 23 _ rfl (w.heap.size + 1 + 1) 0 rfl 23 (irow .u8 r) (0, 0) (irow .u8 r) _ rp2 (all_rowe _) Tryd.underlying23 rfl (infoKy _ hr.1) ?_) | fail)
    have cX := a_Confirm bob (by decide) (nbr2 p q) bX gX _ _ _ (([⟨1, bob, q⟩] : List Ev) ++ ([⟨4, bob, q⟩] : List Ev)) [⟨bob, q, zr 32, 2⟩] _ hBX (hSt.below hw) (hKo.below hw) (hPo.below hw)
    rw [hc1 p (([⟨1, bob, q⟩] : List Ev) ++ ([⟨4, bob, q⟩] : List Ev)) (by simp) bob q 2 (.inr rfl)] at cX
    refine cX.mono ?_
    rintro e_ wv32 ⟨ve33, vc33, he_, hB1, hN1_, hN2_, hF_⟩
    change e_ = .returned (.int .i64 0) at he_
    subst he_
    clear cX
    have hD2 := (hD).step hBY hN1_ hN2_
    replace hBY := hBY.apart hF_ (hD)
    clear hD
    have hD := hD2
    clear hD2
    have hbB := hF_.below (fun k e => (hBX.low k e).1) (Nat.le_of_lt (Nat.lt_of_le_of_lt hBX.bg (lt_of_row hBX.row)))
    replace rp0 := (hbB.block _ (by omega)).trans rp0
    replace rp1 := (hbB.block _ (by omega)).trans rp1
    replace rp2 := (hbB.block _ (by omega)).trans rp2
    replace hw := Bk.step hBX hF_ hw (by omega)
    clear hBX hF_ hbB hN1_ hN2_
    dsimp only at hB1
    rw [hc1j _ bob nam_bob q 2 (.inr rfl)] at hB1
    have hBX := hB1
    clear hB1
    dsimp only at hBX
    go_wp2_with (first | (refine wpList_load_part rfl 23 _ rfl (w.heap.size) 0 rfl 23 (irow .u8 p) (0, 0) (irow .u8 p) _ rp0 (all_rowe _) Tryd.underlying23 rfl (infoKy _ hp.1) ?_) | (refine wpList_load_part rfl 23 _ rfl (w.heap.size + 1) 0 rfl 23 (irow .u8 q) (0, 0) (irow .u8 q) _ rp1 (all_rowe _) Tryd.underlying23 rfl (infoKy _ hq.1) ?_) | (refine wpList_load_part rfl 23 _ rfl (w.heap.size + 1 + 1) 0 rfl 23 (irow .u8 r) (0, 0) (irow .u8 r) _ rp2 (all_rowe _) Tryd.underlying23 rfl (infoKy _ hr.1) ?_) | fail)
    refine (a_Contacts bX gX _ _ _ _ _ _ hBX).mono ?_
    rintro e_ wv34 ⟨vP, rfl, hOP, hb⟩
    replace hBX := hBX.keep hb
    replace hBY := hBY.keep hb
    replace rp0 := keep hb rp0
    replace rp1 := keep hb rp1
    replace rp2 := keep hb rp2
    replace hw := Below.after hw hb
    clear hb
    obtain ⟨aP, cP, rfl, _, _, _, _⟩ := hOP.sl
    obtain ⟨gP, rfl, hgP, hrP⟩ := hOP.at (i := 0) (by simp)
    rw [Nat.zero_mul] at hrP
    clear hOP
    have hrP' : wv34.rangeAt gP 0 (ctl ⟨bob, q, zr 32, 2⟩) := hrP
    clear hrP
    have hrP := hrP'
    clear hrP'
    simp only [List.length_singleton]
    go_wp2_with (first | (refine wpList_load_part rfl 23 _ rfl (w.heap.size) 0 rfl 23 (irow .u8 p) (0, 0) (irow .u8 p) _ rp0 (all_rowe _) Tryd.underlying23 rfl (infoKy _ hp.1) ?_) | (refine wpList_load_part rfl 23 _ rfl (w.heap.size + 1) 0 rfl 23 (irow .u8 q) (0, 0) (irow .u8 q) _ rp1 (all_rowe _) Tryd.underlying23 rfl (infoKy _ hq.1) ?_) | (refine wpList_load_part rfl 23 _ rfl (w.heap.size + 1 + 1) 0 rfl 23 (irow .u8 r) (0, 0) (irow .u8 r) _ rp2 (all_rowe _) Tryd.underlying23 rfl (infoKy _ hr.1) ?_) | fail)
    refine (a_Contacts bY gY _ _ _ _ _ _ hBY).mono ?_
    rintro e_ wv35 ⟨vQ, rfl, hOQ, hb⟩
    replace hrP := rangeAt_keep hrP (hb.block _ hgP)
    replace hBX := hBX.keep hb
    replace hBY := hBY.keep hb
    replace rp0 := keep hb rp0
    replace rp1 := keep hb rp1
    replace rp2 := keep hb rp2
    replace hw := Below.after hw hb
    clear hb
    obtain ⟨aQ, cQ, rfl, _, _, _, _⟩ := hOQ.sl
    obtain ⟨gQ, rfl, hgQ, hrQ⟩ := hOQ.at (i := 0) (by simp)
    rw [Nat.zero_mul] at hrQ
    clear hOQ
    have hrQ' : wv35.rangeAt gQ 0 (ctl ⟨ann, p, zr 32, 2⟩) := hrQ
    clear hrQ
    have hrQ := hrQ'
    clear hrQ'
    simp only [List.length_singleton]
    go_wp2_with (first | (refine wpList_load_part rfl 23 _ rfl (w.heap.size) 0 rfl 23 (irow .u8 p) (0, 0) (irow .u8 p) _ rp0 (all_rowe _) Tryd.underlying23 rfl (infoKy _ hp.1) ?_) | (refine wpList_load_part rfl 23 _ rfl (w.heap.size + 1) 0 rfl 23 (irow .u8 q) (0, 0) (irow .u8 q) _ rp1 (all_rowe _) Tryd.underlying23 rfl (infoKy _ hq.1) ?_) | (refine wpList_load_part rfl 23 _ rfl (w.heap.size + 1 + 1) 0 rfl 23 (irow .u8 r) (0, 0) (irow .u8 r) _ rp2 (all_rowe _) Tryd.underlying23 rfl (infoKy _ hr.1) ?_) | fail)
    have hszP := hgP
    have hszQ := hgQ
    clear hBX hBY hD rp2
    replace rp0 : wv35.drew.heap[w.heap.size]? = some (.cells (irow .u8 p) 23 (0, 0)) := rp0
    replace rp1 : wv35.drew.heap[w.heap.size + 1]? = some (.cells (irow .u8 q) 23 (0, 0)) := rp1
    replace hrP : wv35.drew.rangeAt gP 0 (ctl ⟨bob, q, zr 32, 2⟩) := hrP
    replace hrQ : wv35.drew.rangeAt gQ 0 (ctl ⟨ann, p, zr 32, 2⟩) := hrQ
    replace hw := below_drN hw 1
    refine wp_region_noPanic ?_
    refine wp_region_held (S := fun W_ => W_.heap[w.heap.size]? = some (.cells (irow .u8 p) 23 (0, 0)) ∧ W_.heap[w.heap.size + 1]? = some (.cells (irow .u8 q) 23 (0, 0)) ∧ W_.rangeAt gP 0 (ctl ⟨bob, q, zr 32, 2⟩) ∧ W_.rangeAt gQ 0 (ctl ⟨ann, p, zr 32, 2⟩)) (by kernel_rfl) ?_
    change wpAnyH _ _ _ _ _ _ _ _ (World.drew _)
    change Below w.heap.size w (World.drew _) at hw
    generalize wv35.drew = wd36 at *
    refine wpAnyH_take (i := 0) (v := ?v37) rfl (by kernel_rfl) (by kernel_rfl) (by kernel_rfl) (fun _ _ _ h => h) (Or.inl ⟨by rfl, ?y37⟩) (⟨rp0, rp1, hrP, hrQ⟩) ?r37
    case y37 =>
      intro w_ hS_
      go_simp
      try with_reducible rfl
    simp only [Act.put, List.getElem_toArray, List.getElem_cons_zero, List.setIfInBounds_toArray, List.set_cons_succ, List.set_cons_zero]
    refine wpAnyH_take (i := 1) (v := ?v38) rfl (by kernel_rfl) (by kernel_rfl) (by kernel_rfl) (fun _ _ _ h => h) (Or.inl ⟨by rfl, ?y38⟩) (⟨rp0, rp1, hrP, hrQ⟩) ?r38
    case y38 =>
      intro w_ hS_
      go_simp
      try with_reducible rfl
    simp only [Act.put, List.getElem_toArray, List.getElem_cons_succ, List.getElem_cons_zero, List.setIfInBounds_toArray, List.set_cons_succ, List.set_cons_zero]
    refine wpAnyH_take (i := 2) (v := .bool true) rfl (by kernel_rfl) (by kernel_rfl) (by kernel_rfl) (fun _ _ _ h => h) (Or.inl ⟨by rfl, ?y39⟩) (⟨rp0, rp1, hrP, hrQ⟩) ?r39
    case y39 =>
      intro w_ hS_
      go_simp
      try with_reducible rfl
    simp only [Act.put, List.getElem_toArray, List.getElem_cons_succ, List.getElem_cons_zero, List.setIfInBounds_toArray, List.set_cons_succ, List.set_cons_zero]
    refine wpAnyH_take (i := 3) (v := .bool true) rfl (by kernel_rfl) (by kernel_rfl) (by kernel_rfl) (fun _ _ _ h => h) (Or.inl ⟨by rfl, ?y40⟩) (⟨rp0, rp1, hrP, hrQ⟩) ?r40
    case y40 =>
      intro w_ hS_
      go_simp
      try with_reducible rfl
    simp only [Act.put, List.getElem_toArray, List.getElem_cons_succ, List.getElem_cons_zero, List.setIfInBounds_toArray, List.set_cons_succ, List.set_cons_zero]
    refine wpAnyH_take (i := 4) (v := ?v41) rfl (by kernel_rfl) (by kernel_rfl) (by kernel_rfl) (fun _ _ _ h => h) (Or.inl ⟨by rfl, ?y41⟩) (⟨rp0, rp1, hrP, hrQ⟩) ?r41
    case y41 =>
      intro w_ hS_
      go_simp
      try with_reducible rfl
    simp only [Act.put, List.getElem_toArray, List.getElem_cons_succ, List.getElem_cons_zero, List.setIfInBounds_toArray, List.set_cons_succ, List.set_cons_zero]
    refine wpAnyH_take (i := 5) (v := ?v42) rfl (by kernel_rfl) (by kernel_rfl) (by kernel_rfl) (fun _ _ _ h => h) (Or.inl ⟨by rfl, ?y42⟩) (⟨rp0, rp1, hrP, hrQ⟩) ?r42
    case y42 =>
      intro w_ hS_
      go_simp
      try with_reducible rfl
    simp only [Act.put, List.getElem_toArray, List.getElem_cons_succ, List.getElem_cons_zero, List.setIfInBounds_toArray, List.set_cons_succ, List.set_cons_zero]
    refine wpAnyH_take (i := 6) (v := .bool true) rfl (by kernel_rfl) (by kernel_rfl) (by kernel_rfl) (fun _ _ _ h => h) (Or.inl ⟨by rfl, ?y43⟩) (⟨rp0, rp1, hrP, hrQ⟩) ?r43
    case y43 =>
      intro w_ hS_
      go_simp
      try with_reducible rfl
    simp only [Act.put, List.getElem_toArray, List.getElem_cons_succ, List.getElem_cons_zero, List.setIfInBounds_toArray, List.set_cons_succ, List.set_cons_zero]
    refine wpAnyH_take (i := 7) (v := .bool true) rfl (by kernel_rfl) (by kernel_rfl) (by kernel_rfl) (fun _ _ _ h => h) (Or.inl ⟨by rfl, ?y44⟩) (⟨rp0, rp1, hrP, hrQ⟩) ?r44
    case y44 =>
      intro w_ hS_
      go_simp
      try with_reducible rfl
    simp only [Act.put, List.getElem_toArray, List.getElem_cons_succ, List.getElem_cons_zero, List.setIfInBounds_toArray, List.set_cons_succ, List.set_cons_zero]
    refine wpAnyH_take (i := 8) (v := .bool true) rfl (by kernel_rfl) (by kernel_rfl) (by kernel_rfl) (fun _ _ _ h => h) (Or.inl ⟨by rfl, ?y45⟩) (⟨rp0, rp1, hrP, hrQ⟩) ?r45
    case y45 =>
      intro w_ hS_
      go_simp
      try with_reducible rfl
    simp only [Act.put, List.getElem_toArray, List.getElem_cons_succ, List.getElem_cons_zero, List.setIfInBounds_toArray, List.set_cons_succ, List.set_cons_zero]
    refine wpAnyH_take (i := 9) (v := ?v46) rfl (by kernel_rfl) (by kernel_rfl) (by kernel_rfl) (fun _ _ _ h => h) (Or.inl ⟨by rfl, ?y46⟩) (⟨rp0, rp1, hrP, hrQ⟩) ?r46
    case y46 =>
      intro w_ hS_
      go_simp
      try with_reducible rfl
    simp only [Act.put, List.getElem_toArray, List.getElem_cons_succ, List.getElem_cons_zero, List.setIfInBounds_toArray, List.set_cons_succ, List.set_cons_zero]
    refine wpAnyH_take (i := 10) (v := .pointer (some ⟨gP, 0, none⟩)) rfl (by kernel_rfl) (by kernel_rfl) (by kernel_rfl) (fun _ _ _ h => h) (Or.inl ⟨by rfl, ?y47⟩) (⟨rp0, rp1, hrP, hrQ⟩) ?r47
    case y47 =>
      intro w_ hS_
      go_simp
      try with_reducible rfl
    simp only [Act.put, List.getElem_toArray, List.getElem_cons_succ, List.getElem_cons_zero, List.setIfInBounds_toArray, List.set_cons_succ, List.set_cons_zero]
    refine wpAnyH_take (i := 11) (v := .agg (ctr ⟨bob, q, zr 32, 2⟩)) rfl (by kernel_rfl) (by kernel_rfl) (by kernel_rfl) (fun _ _ _ h => h) (Or.inl ⟨by rfl, ?y48⟩) (⟨rp0, rp1, hrP, hrQ⟩) ?r48
    case y48 =>
      intro w_ hS_
      simp only [List.getElem_toArray, List.getElem_cons_succ, List.getElem_cons_zero]
      exact run_load_range 45 _ (by rfl) gP 0 (by rfl) (ctl ⟨bob, q, zr 32, 2⟩) _ (hS_.2.2.1) Tryd.underlying45 rfl (by rw [ctl_len _ hq.1 (zr_len 32)]; kernel_rfl)
    simp only [Act.put, List.getElem_toArray, List.getElem_cons_succ, List.getElem_cons_zero, List.setIfInBounds_toArray, List.set_cons_succ, List.set_cons_zero]
    refine wpAnyH_take (i := 12) (v := .agg (irow .u8 q)) rfl (by kernel_rfl) (by kernel_rfl) (by kernel_rfl) (fun _ _ _ h => h) (Or.inl ⟨by rfl, ?y49⟩) (⟨rp0, rp1, hrP, hrQ⟩) ?r49
    case y49 =>
      intro w_ hS_
      simp only [List.getElem_toArray, List.getElem_cons_succ, List.getElem_cons_zero]
      exact e_load_part 23 _ (by rfl) (w.heap.size + 1) 0 (by rfl) 23 (irow .u8 q) (0, 0) (irow .u8 q) _ (hS_.2.1) (all_rowe _) Tryd.underlying23 rfl (infoKy _ hq.1)
    simp only [Act.put, List.getElem_toArray, List.getElem_cons_succ, List.getElem_cons_zero, List.setIfInBounds_toArray, List.set_cons_succ, List.set_cons_zero]
    refine wpAnyH_take (i := 13) (v := .agg (ctr ⟨bob, q, zr 32, 2⟩)) rfl (by kernel_rfl) (by kernel_rfl) (by kernel_rfl) (fun _ _ _ h => h) (Or.inl ⟨by rfl, ?y50⟩) (⟨rp0, rp1, hrP, hrQ⟩) ?r50
    case y50 =>
      intro w_ hS_
      simp only [List.getElem_toArray, List.getElem_cons_succ, List.getElem_cons_zero]
      exact run_build_op 45 _ (by rfl) [(0, .string bob), (1, .agg (irow .u8 q)), (3, .int .i64 2)] (by rfl) _ (bt_3 bob q 2 hq.1)
    simp only [Act.put, List.getElem_toArray, List.getElem_cons_succ, List.getElem_cons_zero, List.setIfInBounds_toArray, List.set_cons_succ, List.set_cons_zero]
    refine wpAnyH_take (i := 14) (v := .bool true) rfl (by kernel_rfl) (by kernel_rfl) (by kernel_rfl) (fun _ _ _ h => h) (Or.inl ⟨by rfl, ?y51⟩) (⟨rp0, rp1, hrP, hrQ⟩) ?r51
    case y51 =>
      intro w_ hS_
      simp only [List.getElem_toArray, List.getElem_cons_succ, List.getElem_cons_zero]
      exact run_eql_op 45 45 _ _ (by rfl) (ctr ⟨bob, q, zr 32, 2⟩) (ctr ⟨bob, q, zr 32, 2⟩) (by rfl) (by rfl) egC true (by have := eq_ct ⟨bob, q, zr 32, 2⟩ ⟨bob, q, zr 32, 2⟩ ⟨hq, k32_zero⟩ ⟨hq, k32_zero⟩ w_; rw [decide_eq_true rfl] at this; exact this)
    simp only [Act.put, List.getElem_toArray, List.getElem_cons_succ, List.getElem_cons_zero, List.setIfInBounds_toArray, List.set_cons_succ, List.set_cons_zero]
    refine wpAnyH_take (i := 15) (v := .bool true) rfl (by kernel_rfl) (by kernel_rfl) (by kernel_rfl) (fun _ _ _ h => h) (Or.inl ⟨by rfl, ?y52⟩) (⟨rp0, rp1, hrP, hrQ⟩) ?r52
    case y52 =>
      intro w_ hS_
      go_simp
      try with_reducible rfl
    simp only [Act.put, List.getElem_toArray, List.getElem_cons_succ, List.getElem_cons_zero, List.setIfInBounds_toArray, List.set_cons_succ, List.set_cons_zero]
    refine wpAnyH_take (i := 16) (v := .bool true) rfl (by kernel_rfl) (by kernel_rfl) (by kernel_rfl) (fun _ _ _ h => h) (Or.inl ⟨by rfl, ?y53⟩) (⟨rp0, rp1, hrP, hrQ⟩) ?r53
    case y53 =>
      intro w_ hS_
      go_simp
      try with_reducible rfl
    simp only [Act.put, List.getElem_toArray, List.getElem_cons_succ, List.getElem_cons_zero, List.setIfInBounds_toArray, List.set_cons_succ, List.set_cons_zero]
    refine wpAnyH_take (i := 17) (v := ?v54) rfl (by kernel_rfl) (by kernel_rfl) (by kernel_rfl) (fun _ _ _ h => h) (Or.inl ⟨by rfl, ?y54⟩) (⟨rp0, rp1, hrP, hrQ⟩) ?r54
    case y54 =>
      intro w_ hS_
      go_simp
      try with_reducible rfl
    simp only [Act.put, List.getElem_toArray, List.getElem_cons_succ, List.getElem_cons_zero, List.setIfInBounds_toArray, List.set_cons_succ, List.set_cons_zero]
    refine wpAnyH_take (i := 18) (v := .pointer (some ⟨gQ, 0, none⟩)) rfl (by kernel_rfl) (by kernel_rfl) (by kernel_rfl) (fun _ _ _ h => h) (Or.inl ⟨by rfl, ?y55⟩) (⟨rp0, rp1, hrP, hrQ⟩) ?r55
    case y55 =>
      intro w_ hS_
      go_simp
      try with_reducible rfl
    simp only [Act.put, List.getElem_toArray, List.getElem_cons_succ, List.getElem_cons_zero, List.setIfInBounds_toArray, List.set_cons_succ, List.set_cons_zero]
    refine wpAnyH_take (i := 19) (v := .agg (ctr ⟨ann, p, zr 32, 2⟩)) rfl (by kernel_rfl) (by kernel_rfl) (by kernel_rfl) (fun _ _ _ h => h) (Or.inl ⟨by rfl, ?y56⟩) (⟨rp0, rp1, hrP, hrQ⟩) ?r56
    case y56 =>
      intro w_ hS_
      simp only [List.getElem_toArray, List.getElem_cons_succ, List.getElem_cons_zero]
      exact run_load_range 45 _ (by rfl) gQ 0 (by rfl) (ctl ⟨ann, p, zr 32, 2⟩) _ (hS_.2.2.2) Tryd.underlying45 rfl (by rw [ctl_len _ hp.1 (zr_len 32)]; kernel_rfl)
    simp only [Act.put, List.getElem_toArray, List.getElem_cons_succ, List.getElem_cons_zero, List.setIfInBounds_toArray, List.set_cons_succ, List.set_cons_zero]
    refine wpAnyH_take (i := 20) (v := .agg (irow .u8 p)) rfl (by kernel_rfl) (by kernel_rfl) (by kernel_rfl) (fun _ _ _ h => h) (Or.inl ⟨by rfl, ?y57⟩) (⟨rp0, rp1, hrP, hrQ⟩) ?r57
    case y57 =>
      intro w_ hS_
      simp only [List.getElem_toArray, List.getElem_cons_succ, List.getElem_cons_zero]
      exact e_load_part 23 _ (by rfl) (w.heap.size) 0 (by rfl) 23 (irow .u8 p) (0, 0) (irow .u8 p) _ (hS_.1) (all_rowe _) Tryd.underlying23 rfl (infoKy _ hp.1)
    simp only [Act.put, List.getElem_toArray, List.getElem_cons_succ, List.getElem_cons_zero, List.setIfInBounds_toArray, List.set_cons_succ, List.set_cons_zero]
    refine wpAnyH_take (i := 21) (v := .agg (ctr ⟨ann, p, zr 32, 2⟩)) rfl (by kernel_rfl) (by kernel_rfl) (by kernel_rfl) (fun _ _ _ h => h) (Or.inl ⟨by rfl, ?y58⟩) (⟨rp0, rp1, hrP, hrQ⟩) ?r58
    case y58 =>
      intro w_ hS_
      simp only [List.getElem_toArray, List.getElem_cons_succ, List.getElem_cons_zero]
      exact run_build_op 45 _ (by rfl) [(0, .string ann), (1, .agg (irow .u8 p)), (3, .int .i64 2)] (by rfl) _ (bt_3 ann p 2 hp.1)
    simp only [Act.put, List.getElem_toArray, List.getElem_cons_succ, List.getElem_cons_zero, List.setIfInBounds_toArray, List.set_cons_succ, List.set_cons_zero]
    refine wpAnyH_take (i := 22) (v := .bool true) rfl (by kernel_rfl) (by kernel_rfl) (by kernel_rfl) (fun _ _ _ h => h) (Or.inl ⟨by rfl, ?y59⟩) (⟨rp0, rp1, hrP, hrQ⟩) ?r59
    case y59 =>
      intro w_ hS_
      simp only [List.getElem_toArray, List.getElem_cons_succ, List.getElem_cons_zero]
      exact run_eql_op 45 45 _ _ (by rfl) (ctr ⟨ann, p, zr 32, 2⟩) (ctr ⟨ann, p, zr 32, 2⟩) (by rfl) (by rfl) egC true (by have := eq_ct ⟨ann, p, zr 32, 2⟩ ⟨ann, p, zr 32, 2⟩ ⟨hp, k32_zero⟩ ⟨hp, k32_zero⟩ w_; rw [decide_eq_true rfl] at this; exact this)
    simp only [Act.put, List.getElem_toArray, List.getElem_cons_succ, List.getElem_cons_zero, List.setIfInBounds_toArray, List.set_cons_succ, List.set_cons_zero]
    refine wpAnyH_take (i := 23) (v := .bool true) rfl (by kernel_rfl) (by kernel_rfl) (by kernel_rfl) (fun _ _ _ h => h) (Or.inl ⟨by rfl, ?y60⟩) (⟨rp0, rp1, hrP, hrQ⟩) ?r60
    case y60 =>
      intro w_ hS_
      go_simp
      try with_reducible rfl
    simp only [Act.put, List.getElem_toArray, List.getElem_cons_succ, List.getElem_cons_zero, List.setIfInBounds_toArray, List.set_cons_succ, List.set_cons_zero]
    refine wpAnyH_take (i := 24) (v := .bool true) rfl (by kernel_rfl) (by kernel_rfl) (by kernel_rfl) (fun _ _ _ h => h) (Or.inl ⟨by rfl, ?y61⟩) (⟨rp0, rp1, hrP, hrQ⟩) ?r61
    case y61 =>
      intro w_ hS_
      go_simp
      try with_reducible rfl
    simp only [Act.put, List.getElem_toArray, List.getElem_cons_succ, List.getElem_cons_zero, List.setIfInBounds_toArray, List.set_cons_succ, List.set_cons_zero]
    refine wpAnyH_done (by kernel_rfl) ?_ _
    refine NoPanic.normal ?_
    go_wp2_with (fail)
    go_ret
    exact ⟨rfl, hw⟩
  · skip
    rw [decide_eq_false hE] at eB
    have hEH := hide hE
    clear hE
    go_wp2_with (first | (refine wpList_load_part rfl 23 _ rfl (w.heap.size) 0 rfl 23 (irow .u8 p) (0, 0) (irow .u8 p) _ rp0 (all_rowe _) Tryd.underlying23 rfl (infoKy _ hp.1) ?_) | (refine wpList_load_part rfl 23 _ rfl (w.heap.size + 1) 0 rfl 23 (irow .u8 q) (0, 0) (irow .u8 q) _ rp1 (all_rowe _) Tryd.underlying23 rfl (infoKy _ hq.1) ?_) | (refine wpList_load_part rfl 23 _ rfl (w.heap.size + 1 + 1) 0 rfl 23 (irow .u8 r) (0, 0) (irow .u8 r) _ rp2 (all_rowe _) Tryd.underlying23 rfl (infoKy _ hr.1) ?_) | fail)
    have cX := a_Confirm bob (by decide) (nbr2 p r) bX gX _ _ _ ([⟨1, bob, q⟩] : List Ev) [⟨bob, q, zr 32, 1⟩] _ hBX (hSt.below hw) (hKo.below hw) (hPo.below hw)
    rw [hc2 p _ bob q 1 (.inl rfl) _ hEH.out] at cX
    refine cX.mono ?_
    rintro e_ wv62 ⟨ve63, vc63, he_, hB1, hN1_, hN2_, hF_⟩
    change e_ = .returned (.int .i64 221) at he_
    subst he_
    clear cX
    have hD2 := (hD).step hBY hN1_ hN2_
    replace hBY := hBY.apart hF_ (hD)
    clear hD
    have hD := hD2
    clear hD2
    have hbB := hF_.below (fun k e => (hBX.low k e).1) (Nat.le_of_lt (Nat.lt_of_le_of_lt hBX.bg (lt_of_row hBX.row)))
    replace rp0 := (hbB.block _ (by omega)).trans rp0
    replace rp1 := (hbB.block _ (by omega)).trans rp1
    replace rp2 := (hbB.block _ (by omega)).trans rp2
    replace hw := Bk.step hBX hF_ hw (by omega)
    clear hBX hF_ hbB hN1_ hN2_
    dsimp only at hB1
    rw [nxt_none] at hB1
    have hBX := hB1
    clear hB1
    dsimp only at hBX
    go_wp2_with (first | (refine wpList_load_part rfl 23 _ rfl (w.heap.size) 0 rfl 23 (irow .u8 p) (0, 0) (irow .u8 p) _ rp0 (all_rowe _) Tryd.underlying23 rfl (infoKy _ hp.1) ?_) | (refine wpList_load_part rfl 23 _ rfl (w.heap.size + 1) 0 rfl 23 (irow .u8 q) (0, 0) (irow .u8 q) _ rp1 (all_rowe _) Tryd.underlying23 rfl (infoKy _ hq.1) ?_) | (refine wpList_load_part rfl 23 _ rfl (w.heap.size + 1 + 1) 0 rfl 23 (irow .u8 r) (0, 0) (irow .u8 r) _ rp2 (all_rowe _) Tryd.underlying23 rfl (infoKy _ hr.1) ?_) | fail)
    have cE : coR q ([⟨1, ann, p⟩] : List Ev) [⟨ann, p, zr 32, 1⟩] ann (nbr2 p q) = (0, some ⟨4, ann, p⟩) := by rw [nbr2_comm p q hp hq]; exact hc1 q _ (by simp) ann p 1 (.inl rfl)
    have cX := a_Confirm ann (by decide) (nbr2 p q) bY gY _ _ _ ([⟨1, ann, p⟩] : List Ev) [⟨ann, p, zr 32, 1⟩] _ hBY (hSt.below hw) (hKo.below hw) (hPo.below hw)
    rw [cE] at cX
    refine cX.mono ?_
    rintro e_ wv64 ⟨ve65, vc65, he_, hB1, hN1_, hN2_, hF_⟩
    change e_ = .returned (.int .i64 0) at he_
    subst he_
    clear cX
    have hD2 := (hD.sym).step hBX hN1_ hN2_
    replace hBX := hBX.apart hF_ (hD.sym)
    clear hD
    have hD := hD2.sym
    clear hD2
    have hbB := hF_.below (fun k e => (hBY.low k e).1) (Nat.le_of_lt (Nat.lt_of_le_of_lt hBY.bg (lt_of_row hBY.row)))
    replace rp0 := (hbB.block _ (by omega)).trans rp0
    replace rp1 := (hbB.block _ (by omega)).trans rp1
    replace rp2 := (hbB.block _ (by omega)).trans rp2
    replace hw := Bk.step hBY hF_ hw (by omega)
    clear hBY hF_ hbB hN1_ hN2_
    dsimp only at hB1
    rw [hc1j _ ann nam_ann p 1 (.inl rfl)] at hB1
    have hBY := hB1
    clear hB1
    dsimp only at hBY
    clear cE
    go_wp2_with (first | (refine wpList_load_part rfl 23 _ rfl (w.heap.size) 0 rfl 23 (irow .u8 p) (0, 0) (irow .u8 p) _ rp0 (all_rowe _) Tryd.underlying23 rfl (infoKy _ hp.1) ?_) | (refine wpList_load_part rfl 23 _ rfl (w.heap.size + 1) 0 rfl 23 (irow .u8 q) (0, 0) (irow .u8 q) _ rp1 (all_rowe _) Tryd.underlying23 rfl (infoKy _ hq.1) ?_) | (refine wpList_load_part rfl 23 _ rfl (w.heap.size + 1 + 1) 0 rfl 23 (irow .u8 r) (0, 0) (irow .u8 r) _ rp2 (all_rowe _) Tryd.underlying23 rfl (infoKy _ hr.1) ?_) | fail)
    have cX := a_Confirm bob (by decide) (nbr2 p q) bX gX _ _ _ ([⟨1, bob, q⟩] : List Ev) [⟨bob, q, zr 32, 1⟩] _ hBX (hSt.below hw) (hKo.below hw) (hPo.below hw)
    rw [hc1 p ([⟨1, bob, q⟩] : List Ev) (by simp) bob q 1 (.inl rfl)] at cX
    refine cX.mono ?_
    rintro e_ wv66 ⟨ve67, vc67, he_, hB1, hN1_, hN2_, hF_⟩
    change e_ = .returned (.int .i64 0) at he_
    subst he_
    clear cX
    have hD2 := (hD).step hBY hN1_ hN2_
    replace hBY := hBY.apart hF_ (hD)
    clear hD
    have hD := hD2
    clear hD2
    have hbB := hF_.below (fun k e => (hBX.low k e).1) (Nat.le_of_lt (Nat.lt_of_le_of_lt hBX.bg (lt_of_row hBX.row)))
    replace rp0 := (hbB.block _ (by omega)).trans rp0
    replace rp1 := (hbB.block _ (by omega)).trans rp1
    replace rp2 := (hbB.block _ (by omega)).trans rp2
    replace hw := Bk.step hBX hF_ hw (by omega)
    clear hBX hF_ hbB hN1_ hN2_
    dsimp only at hB1
    rw [hc1j _ bob nam_bob q 1 (.inl rfl)] at hB1
    have hBX := hB1
    clear hB1
    dsimp only at hBX
    go_wp2_with (first | (refine wpList_load_part rfl 23 _ rfl (w.heap.size) 0 rfl 23 (irow .u8 p) (0, 0) (irow .u8 p) _ rp0 (all_rowe _) Tryd.underlying23 rfl (infoKy _ hp.1) ?_) | (refine wpList_load_part rfl 23 _ rfl (w.heap.size + 1) 0 rfl 23 (irow .u8 q) (0, 0) (irow .u8 q) _ rp1 (all_rowe _) Tryd.underlying23 rfl (infoKy _ hq.1) ?_) | (refine wpList_load_part rfl 23 _ rfl (w.heap.size + 1 + 1) 0 rfl 23 (irow .u8 r) (0, 0) (irow .u8 r) _ rp2 (all_rowe _) Tryd.underlying23 rfl (infoKy _ hr.1) ?_) | fail)
    refine (a_Contacts bX gX _ _ _ _ _ _ hBX).mono ?_
    rintro e_ wv68 ⟨vP, rfl, hOP, hb⟩
    replace hBX := hBX.keep hb
    replace hBY := hBY.keep hb
    replace rp0 := keep hb rp0
    replace rp1 := keep hb rp1
    replace rp2 := keep hb rp2
    replace hw := Below.after hw hb
    clear hb
    obtain ⟨aP, cP, rfl, _, _, _, _⟩ := hOP.sl
    obtain ⟨gP, rfl, hgP, hrP⟩ := hOP.at (i := 0) (by simp)
    rw [Nat.zero_mul] at hrP
    clear hOP
    have hrP' : wv68.rangeAt gP 0 (ctl ⟨bob, q, zr 32, 2⟩) := hrP
    clear hrP
    have hrP := hrP'
    clear hrP'
    simp only [List.length_singleton]
    go_wp2_with (first | (refine wpList_load_part rfl 23 _ rfl (w.heap.size) 0 rfl 23 (irow .u8 p) (0, 0) (irow .u8 p) _ rp0 (all_rowe _) Tryd.underlying23 rfl (infoKy _ hp.1) ?_) | (refine wpList_load_part rfl 23 _ rfl (w.heap.size + 1) 0 rfl 23 (irow .u8 q) (0, 0) (irow .u8 q) _ rp1 (all_rowe _) Tryd.underlying23 rfl (infoKy _ hq.1) ?_) | (refine wpList_load_part rfl 23 _ rfl (w.heap.size + 1 + 1) 0 rfl 23 (irow .u8 r) (0, 0) (irow .u8 r) _ rp2 (all_rowe _) Tryd.underlying23 rfl (infoKy _ hr.1) ?_) | fail)
    refine (a_Contacts bY gY _ _ _ _ _ _ hBY).mono ?_
    rintro e_ wv69 ⟨vQ, rfl, hOQ, hb⟩
    replace hrP := rangeAt_keep hrP (hb.block _ hgP)
    replace hBX := hBX.keep hb
    replace hBY := hBY.keep hb
    replace rp0 := keep hb rp0
    replace rp1 := keep hb rp1
    replace rp2 := keep hb rp2
    replace hw := Below.after hw hb
    clear hb
    obtain ⟨aQ, cQ, rfl, _, _, _, _⟩ := hOQ.sl
    obtain ⟨gQ, rfl, hgQ, hrQ⟩ := hOQ.at (i := 0) (by simp)
    rw [Nat.zero_mul] at hrQ
    clear hOQ
    have hrQ' : wv69.rangeAt gQ 0 (ctl ⟨ann, p, zr 32, 2⟩) := hrQ
    clear hrQ
    have hrQ := hrQ'
    clear hrQ'
    simp only [List.length_singleton]
    go_wp2_with (first | (refine wpList_load_part rfl 23 _ rfl (w.heap.size) 0 rfl 23 (irow .u8 p) (0, 0) (irow .u8 p) _ rp0 (all_rowe _) Tryd.underlying23 rfl (infoKy _ hp.1) ?_) | (refine wpList_load_part rfl 23 _ rfl (w.heap.size + 1) 0 rfl 23 (irow .u8 q) (0, 0) (irow .u8 q) _ rp1 (all_rowe _) Tryd.underlying23 rfl (infoKy _ hq.1) ?_) | (refine wpList_load_part rfl 23 _ rfl (w.heap.size + 1 + 1) 0 rfl 23 (irow .u8 r) (0, 0) (irow .u8 r) _ rp2 (all_rowe _) Tryd.underlying23 rfl (infoKy _ hr.1) ?_) | fail)
    have hszP := hgP
    have hszQ := hgQ
    clear hBX hBY hD rp2
    replace rp0 : wv69.drew.heap[w.heap.size]? = some (.cells (irow .u8 p) 23 (0, 0)) := rp0
    replace rp1 : wv69.drew.heap[w.heap.size + 1]? = some (.cells (irow .u8 q) 23 (0, 0)) := rp1
    replace hrP : wv69.drew.rangeAt gP 0 (ctl ⟨bob, q, zr 32, 2⟩) := hrP
    replace hrQ : wv69.drew.rangeAt gQ 0 (ctl ⟨ann, p, zr 32, 2⟩) := hrQ
    replace hw := below_drN hw 1
    refine wp_region_noPanic ?_
    refine wp_region_held (S := fun W_ => W_.heap[w.heap.size]? = some (.cells (irow .u8 p) 23 (0, 0)) ∧ W_.heap[w.heap.size + 1]? = some (.cells (irow .u8 q) 23 (0, 0)) ∧ W_.rangeAt gP 0 (ctl ⟨bob, q, zr 32, 2⟩) ∧ W_.rangeAt gQ 0 (ctl ⟨ann, p, zr 32, 2⟩)) (by kernel_rfl) ?_
    change wpAnyH _ _ _ _ _ _ _ _ (World.drew _)
    change Below w.heap.size w (World.drew _) at hw
    generalize wv69.drew = wd70 at *
    refine wpAnyH_take (i := 0) (v := ?v71) rfl (by kernel_rfl) (by kernel_rfl) (by kernel_rfl) (fun _ _ _ h => h) (Or.inl ⟨by rfl, ?y71⟩) (⟨rp0, rp1, hrP, hrQ⟩) ?r71
    case y71 =>
      intro w_ hS_
      go_simp
      try with_reducible rfl
    simp only [Act.put, List.getElem_toArray, List.getElem_cons_zero, List.setIfInBounds_toArray, List.set_cons_succ, List.set_cons_zero]
    refine wpAnyH_take (i := 1) (v := ?v72) rfl (by kernel_rfl) (by kernel_rfl) (by kernel_rfl) (fun _ _ _ h => h) (Or.inl ⟨by rfl, ?y72⟩) (⟨rp0, rp1, hrP, hrQ⟩) ?r72
    case y72 =>
      intro w_ hS_
      go_simp
      try with_reducible rfl
    simp only [Act.put, List.getElem_toArray, List.getElem_cons_succ, List.getElem_cons_zero, List.setIfInBounds_toArray, List.set_cons_succ, List.set_cons_zero]
    refine wpAnyH_take (i := 2) (v := .bool true) rfl (by kernel_rfl) (by kernel_rfl) (by kernel_rfl) (fun _ _ _ h => h) (Or.inl ⟨by rfl, ?y73⟩) (⟨rp0, rp1, hrP, hrQ⟩) ?r73
    case y73 =>
      intro w_ hS_
      go_simp
      try with_reducible rfl
    simp only [Act.put, List.getElem_toArray, List.getElem_cons_succ, List.getElem_cons_zero, List.setIfInBounds_toArray, List.set_cons_succ, List.set_cons_zero]
    refine wpAnyH_take (i := 3) (v := .bool true) rfl (by kernel_rfl) (by kernel_rfl) (by kernel_rfl) (fun _ _ _ h => h) (Or.inl ⟨by rfl, ?y74⟩) (⟨rp0, rp1, hrP, hrQ⟩) ?r74
    case y74 =>
      intro w_ hS_
      go_simp
      try with_reducible rfl
    simp only [Act.put, List.getElem_toArray, List.getElem_cons_succ, List.getElem_cons_zero, List.setIfInBounds_toArray, List.set_cons_succ, List.set_cons_zero]
    refine wpAnyH_take (i := 4) (v := ?v75) rfl (by kernel_rfl) (by kernel_rfl) (by kernel_rfl) (fun _ _ _ h => h) (Or.inl ⟨by rfl, ?y75⟩) (⟨rp0, rp1, hrP, hrQ⟩) ?r75
    case y75 =>
      intro w_ hS_
      go_simp
      try with_reducible rfl
    simp only [Act.put, List.getElem_toArray, List.getElem_cons_succ, List.getElem_cons_zero, List.setIfInBounds_toArray, List.set_cons_succ, List.set_cons_zero]
    refine wpAnyH_take (i := 5) (v := ?v76) rfl (by kernel_rfl) (by kernel_rfl) (by kernel_rfl) (fun _ _ _ h => h) (Or.inl ⟨by rfl, ?y76⟩) (⟨rp0, rp1, hrP, hrQ⟩) ?r76
    case y76 =>
      intro w_ hS_
      go_simp
      try with_reducible rfl
    simp only [Act.put, List.getElem_toArray, List.getElem_cons_succ, List.getElem_cons_zero, List.setIfInBounds_toArray, List.set_cons_succ, List.set_cons_zero]
    refine wpAnyH_take (i := 6) (v := .bool true) rfl (by kernel_rfl) (by kernel_rfl) (by kernel_rfl) (fun _ _ _ h => h) (Or.inl ⟨by rfl, ?y77⟩) (⟨rp0, rp1, hrP, hrQ⟩) ?r77
    case y77 =>
      intro w_ hS_
      go_simp
      try with_reducible rfl
    simp only [Act.put, List.getElem_toArray, List.getElem_cons_succ, List.getElem_cons_zero, List.setIfInBounds_toArray, List.set_cons_succ, List.set_cons_zero]
    refine wpAnyH_take (i := 7) (v := .bool true) rfl (by kernel_rfl) (by kernel_rfl) (by kernel_rfl) (fun _ _ _ h => h) (Or.inl ⟨by rfl, ?y78⟩) (⟨rp0, rp1, hrP, hrQ⟩) ?r78
    case y78 =>
      intro w_ hS_
      go_simp
      try with_reducible rfl
    simp only [Act.put, List.getElem_toArray, List.getElem_cons_succ, List.getElem_cons_zero, List.setIfInBounds_toArray, List.set_cons_succ, List.set_cons_zero]
    refine wpAnyH_take (i := 8) (v := .bool true) rfl (by kernel_rfl) (by kernel_rfl) (by kernel_rfl) (fun _ _ _ h => h) (Or.inl ⟨by rfl, ?y79⟩) (⟨rp0, rp1, hrP, hrQ⟩) ?r79
    case y79 =>
      intro w_ hS_
      go_simp
      try with_reducible rfl
    simp only [Act.put, List.getElem_toArray, List.getElem_cons_succ, List.getElem_cons_zero, List.setIfInBounds_toArray, List.set_cons_succ, List.set_cons_zero]
    refine wpAnyH_take (i := 9) (v := ?v80) rfl (by kernel_rfl) (by kernel_rfl) (by kernel_rfl) (fun _ _ _ h => h) (Or.inl ⟨by rfl, ?y80⟩) (⟨rp0, rp1, hrP, hrQ⟩) ?r80
    case y80 =>
      intro w_ hS_
      go_simp
      try with_reducible rfl
    simp only [Act.put, List.getElem_toArray, List.getElem_cons_succ, List.getElem_cons_zero, List.setIfInBounds_toArray, List.set_cons_succ, List.set_cons_zero]
    refine wpAnyH_take (i := 10) (v := .pointer (some ⟨gP, 0, none⟩)) rfl (by kernel_rfl) (by kernel_rfl) (by kernel_rfl) (fun _ _ _ h => h) (Or.inl ⟨by rfl, ?y81⟩) (⟨rp0, rp1, hrP, hrQ⟩) ?r81
    case y81 =>
      intro w_ hS_
      go_simp
      try with_reducible rfl
    simp only [Act.put, List.getElem_toArray, List.getElem_cons_succ, List.getElem_cons_zero, List.setIfInBounds_toArray, List.set_cons_succ, List.set_cons_zero]
    refine wpAnyH_take (i := 11) (v := .agg (ctr ⟨bob, q, zr 32, 2⟩)) rfl (by kernel_rfl) (by kernel_rfl) (by kernel_rfl) (fun _ _ _ h => h) (Or.inl ⟨by rfl, ?y82⟩) (⟨rp0, rp1, hrP, hrQ⟩) ?r82
    case y82 =>
      intro w_ hS_
      simp only [List.getElem_toArray, List.getElem_cons_succ, List.getElem_cons_zero]
      exact run_load_range 45 _ (by rfl) gP 0 (by rfl) (ctl ⟨bob, q, zr 32, 2⟩) _ (hS_.2.2.1) Tryd.underlying45 rfl (by rw [ctl_len _ hq.1 (zr_len 32)]; kernel_rfl)
    simp only [Act.put, List.getElem_toArray, List.getElem_cons_succ, List.getElem_cons_zero, List.setIfInBounds_toArray, List.set_cons_succ, List.set_cons_zero]
    refine wpAnyH_take (i := 12) (v := .agg (irow .u8 q)) rfl (by kernel_rfl) (by kernel_rfl) (by kernel_rfl) (fun _ _ _ h => h) (Or.inl ⟨by rfl, ?y83⟩) (⟨rp0, rp1, hrP, hrQ⟩) ?r83
    case y83 =>
      intro w_ hS_
      simp only [List.getElem_toArray, List.getElem_cons_succ, List.getElem_cons_zero]
      exact e_load_part 23 _ (by rfl) (w.heap.size + 1) 0 (by rfl) 23 (irow .u8 q) (0, 0) (irow .u8 q) _ (hS_.2.1) (all_rowe _) Tryd.underlying23 rfl (infoKy _ hq.1)
    simp only [Act.put, List.getElem_toArray, List.getElem_cons_succ, List.getElem_cons_zero, List.setIfInBounds_toArray, List.set_cons_succ, List.set_cons_zero]
    refine wpAnyH_take (i := 13) (v := .agg (ctr ⟨bob, q, zr 32, 2⟩)) rfl (by kernel_rfl) (by kernel_rfl) (by kernel_rfl) (fun _ _ _ h => h) (Or.inl ⟨by rfl, ?y84⟩) (⟨rp0, rp1, hrP, hrQ⟩) ?r84
    case y84 =>
      intro w_ hS_
      simp only [List.getElem_toArray, List.getElem_cons_succ, List.getElem_cons_zero]
      exact run_build_op 45 _ (by rfl) [(0, .string bob), (1, .agg (irow .u8 q)), (3, .int .i64 2)] (by rfl) _ (bt_3 bob q 2 hq.1)
    simp only [Act.put, List.getElem_toArray, List.getElem_cons_succ, List.getElem_cons_zero, List.setIfInBounds_toArray, List.set_cons_succ, List.set_cons_zero]
    refine wpAnyH_take (i := 14) (v := .bool true) rfl (by kernel_rfl) (by kernel_rfl) (by kernel_rfl) (fun _ _ _ h => h) (Or.inl ⟨by rfl, ?y85⟩) (⟨rp0, rp1, hrP, hrQ⟩) ?r85
    case y85 =>
      intro w_ hS_
      simp only [List.getElem_toArray, List.getElem_cons_succ, List.getElem_cons_zero]
      exact run_eql_op 45 45 _ _ (by rfl) (ctr ⟨bob, q, zr 32, 2⟩) (ctr ⟨bob, q, zr 32, 2⟩) (by rfl) (by rfl) egC true (by have := eq_ct ⟨bob, q, zr 32, 2⟩ ⟨bob, q, zr 32, 2⟩ ⟨hq, k32_zero⟩ ⟨hq, k32_zero⟩ w_; rw [decide_eq_true rfl] at this; exact this)
    simp only [Act.put, List.getElem_toArray, List.getElem_cons_succ, List.getElem_cons_zero, List.setIfInBounds_toArray, List.set_cons_succ, List.set_cons_zero]
    refine wpAnyH_take (i := 15) (v := .bool true) rfl (by kernel_rfl) (by kernel_rfl) (by kernel_rfl) (fun _ _ _ h => h) (Or.inl ⟨by rfl, ?y86⟩) (⟨rp0, rp1, hrP, hrQ⟩) ?r86
    case y86 =>
      intro w_ hS_
      go_simp
      try with_reducible rfl
    simp only [Act.put, List.getElem_toArray, List.getElem_cons_succ, List.getElem_cons_zero, List.setIfInBounds_toArray, List.set_cons_succ, List.set_cons_zero]
    refine wpAnyH_take (i := 16) (v := .bool true) rfl (by kernel_rfl) (by kernel_rfl) (by kernel_rfl) (fun _ _ _ h => h) (Or.inl ⟨by rfl, ?y87⟩) (⟨rp0, rp1, hrP, hrQ⟩) ?r87
    case y87 =>
      intro w_ hS_
      go_simp
      try with_reducible rfl
    simp only [Act.put, List.getElem_toArray, List.getElem_cons_succ, List.getElem_cons_zero, List.setIfInBounds_toArray, List.set_cons_succ, List.set_cons_zero]
    refine wpAnyH_take (i := 17) (v := ?v88) rfl (by kernel_rfl) (by kernel_rfl) (by kernel_rfl) (fun _ _ _ h => h) (Or.inl ⟨by rfl, ?y88⟩) (⟨rp0, rp1, hrP, hrQ⟩) ?r88
    case y88 =>
      intro w_ hS_
      go_simp
      try with_reducible rfl
    simp only [Act.put, List.getElem_toArray, List.getElem_cons_succ, List.getElem_cons_zero, List.setIfInBounds_toArray, List.set_cons_succ, List.set_cons_zero]
    refine wpAnyH_take (i := 18) (v := .pointer (some ⟨gQ, 0, none⟩)) rfl (by kernel_rfl) (by kernel_rfl) (by kernel_rfl) (fun _ _ _ h => h) (Or.inl ⟨by rfl, ?y89⟩) (⟨rp0, rp1, hrP, hrQ⟩) ?r89
    case y89 =>
      intro w_ hS_
      go_simp
      try with_reducible rfl
    simp only [Act.put, List.getElem_toArray, List.getElem_cons_succ, List.getElem_cons_zero, List.setIfInBounds_toArray, List.set_cons_succ, List.set_cons_zero]
    refine wpAnyH_take (i := 19) (v := .agg (ctr ⟨ann, p, zr 32, 2⟩)) rfl (by kernel_rfl) (by kernel_rfl) (by kernel_rfl) (fun _ _ _ h => h) (Or.inl ⟨by rfl, ?y90⟩) (⟨rp0, rp1, hrP, hrQ⟩) ?r90
    case y90 =>
      intro w_ hS_
      simp only [List.getElem_toArray, List.getElem_cons_succ, List.getElem_cons_zero]
      exact run_load_range 45 _ (by rfl) gQ 0 (by rfl) (ctl ⟨ann, p, zr 32, 2⟩) _ (hS_.2.2.2) Tryd.underlying45 rfl (by rw [ctl_len _ hp.1 (zr_len 32)]; kernel_rfl)
    simp only [Act.put, List.getElem_toArray, List.getElem_cons_succ, List.getElem_cons_zero, List.setIfInBounds_toArray, List.set_cons_succ, List.set_cons_zero]
    refine wpAnyH_take (i := 20) (v := .agg (irow .u8 p)) rfl (by kernel_rfl) (by kernel_rfl) (by kernel_rfl) (fun _ _ _ h => h) (Or.inl ⟨by rfl, ?y91⟩) (⟨rp0, rp1, hrP, hrQ⟩) ?r91
    case y91 =>
      intro w_ hS_
      simp only [List.getElem_toArray, List.getElem_cons_succ, List.getElem_cons_zero]
      exact e_load_part 23 _ (by rfl) (w.heap.size) 0 (by rfl) 23 (irow .u8 p) (0, 0) (irow .u8 p) _ (hS_.1) (all_rowe _) Tryd.underlying23 rfl (infoKy _ hp.1)
    simp only [Act.put, List.getElem_toArray, List.getElem_cons_succ, List.getElem_cons_zero, List.setIfInBounds_toArray, List.set_cons_succ, List.set_cons_zero]
    refine wpAnyH_take (i := 21) (v := .agg (ctr ⟨ann, p, zr 32, 2⟩)) rfl (by kernel_rfl) (by kernel_rfl) (by kernel_rfl) (fun _ _ _ h => h) (Or.inl ⟨by rfl, ?y92⟩) (⟨rp0, rp1, hrP, hrQ⟩) ?r92
    case y92 =>
      intro w_ hS_
      simp only [List.getElem_toArray, List.getElem_cons_succ, List.getElem_cons_zero]
      exact run_build_op 45 _ (by rfl) [(0, .string ann), (1, .agg (irow .u8 p)), (3, .int .i64 2)] (by rfl) _ (bt_3 ann p 2 hp.1)
    simp only [Act.put, List.getElem_toArray, List.getElem_cons_succ, List.getElem_cons_zero, List.setIfInBounds_toArray, List.set_cons_succ, List.set_cons_zero]
    refine wpAnyH_take (i := 22) (v := .bool true) rfl (by kernel_rfl) (by kernel_rfl) (by kernel_rfl) (fun _ _ _ h => h) (Or.inl ⟨by rfl, ?y93⟩) (⟨rp0, rp1, hrP, hrQ⟩) ?r93
    case y93 =>
      intro w_ hS_
      simp only [List.getElem_toArray, List.getElem_cons_succ, List.getElem_cons_zero]
      exact run_eql_op 45 45 _ _ (by rfl) (ctr ⟨ann, p, zr 32, 2⟩) (ctr ⟨ann, p, zr 32, 2⟩) (by rfl) (by rfl) egC true (by have := eq_ct ⟨ann, p, zr 32, 2⟩ ⟨ann, p, zr 32, 2⟩ ⟨hp, k32_zero⟩ ⟨hp, k32_zero⟩ w_; rw [decide_eq_true rfl] at this; exact this)
    simp only [Act.put, List.getElem_toArray, List.getElem_cons_succ, List.getElem_cons_zero, List.setIfInBounds_toArray, List.set_cons_succ, List.set_cons_zero]
    refine wpAnyH_take (i := 23) (v := .bool true) rfl (by kernel_rfl) (by kernel_rfl) (by kernel_rfl) (fun _ _ _ h => h) (Or.inl ⟨by rfl, ?y94⟩) (⟨rp0, rp1, hrP, hrQ⟩) ?r94
    case y94 =>
      intro w_ hS_
      go_simp
      try with_reducible rfl
    simp only [Act.put, List.getElem_toArray, List.getElem_cons_succ, List.getElem_cons_zero, List.setIfInBounds_toArray, List.set_cons_succ, List.set_cons_zero]
    refine wpAnyH_take (i := 24) (v := .bool true) rfl (by kernel_rfl) (by kernel_rfl) (by kernel_rfl) (fun _ _ _ h => h) (Or.inl ⟨by rfl, ?y95⟩) (⟨rp0, rp1, hrP, hrQ⟩) ?r95
    case y95 =>
      intro w_ hS_
      go_simp
      try with_reducible rfl
    simp only [Act.put, List.getElem_toArray, List.getElem_cons_succ, List.getElem_cons_zero, List.setIfInBounds_toArray, List.set_cons_succ, List.set_cons_zero]
    refine wpAnyH_done (by kernel_rfl) ?_ _
    refine NoPanic.normal ?_
    go_wp2_with (fail)
    go_ret
    exact ⟨rfl, hw⟩
end Go.Proofs.YtlbcdjflcghkeaaDoor
