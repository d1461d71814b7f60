import Derived.Test.YtlbcdjflcghkeaaDoorProg
import Derived.WalkKit
import Derived.WalkSpells
import Derived.WalkLawsBesides
import Derived.Lib.QuietBelow
import Derived.BigQuiet
import Derived.OrdersHeld
import Derived.OwnWalk
import Derived.Deep.RegionHeld3
import Derived.Deep.Cut
import Derived.Deep.CutRange
import Derived.Deep.CutBlock
import Derived.Test.YtlbcdjflcghkeaaDoorTuo
import Derived.Test.YtlbcdjflcghkeaaDoorTup
namespace Go.Proofs.YtlbcdjflcghkeaaDoor
set_option maxRecDepth 100000
open Go Go.RowKit Go.Sort
attribute [local go_sem] setCell_drewN alloc_drewN
/-- A key that is one byte and zeros. -/
def kn (x : Int) : List Int := x :: zr 31
theorem kn_ok1 : K32 (kn 1) := by unfold K32; decide
theorem kn_ok2 : K32 (kn 2) := by unfold K32; decide
theorem kn_ok3 : K32 (kn 3) := by unfold K32; decide
theorem bt_kn1 : Tryd.prog.built 23 [(0, .int .u8 1)] = some (irow .u8 (kn 1)) := by kernel_rfl
theorem bt_kn2 : Tryd.prog.built 23 [(0, .int .u8 2)] = some (irow .u8 (kn 2)) := by kernel_rfl
theorem bt_kn3 : Tryd.prog.built 23 [(0, .int .u8 3)] = some (irow .u8 (kn 3)) := by kernel_rfl
def ann : ByteArray := ⟨#[97, 110, 110]⟩
def bob : ByteArray := ⟨#[98, 111, 98]⟩
def Ann : ByteArray := ⟨#[65, 110, 110]⟩
theorem nxt_none (es : List Ev) (cs : List Ct) : nxt es cs none = (es, cs) := rfl
theorem Bk.step {W V : World} {b g : Nat} {ve vc : Value} {y : List Int} {es : List Ev} {cs : List Ct} (hB : Bk W b g ve vc y es cs) (hF : Fr (ownB g ve vc) W V) {w : World} (hw : Below w.heap.size w W) (hwb : w.heap.size ≤ b) : Below w.heap.size w V :=
  hw.trans ((hF.below (fun k e => (hB.low k e).1) (Nat.le_of_lt (Nat.lt_of_le_of_lt hB.bg (lt_of_row hB.row)))).mono hwb)
def ce1 : List Ev := [⟨1, ann, kn 2⟩]
def ce2 : List Ev := ce1 ++ [⟨2, ann, kn 3⟩]
def ce3 : List Ev := ce2 ++ [⟨3, ann, kn 3⟩]
def cc1 : List Ct := [⟨ann, kn 2, zr 32, 1⟩]
def cc2 : List Ct := [⟨ann, kn 2, kn 3, 3⟩]
def cc3 : List Ct := [⟨ann, kn 3, zr 32, 1⟩]
theorem li1 : seR [] [] ann (kn 2) = (0, some ⟨1, ann, kn 2⟩) := by decide +kernel
theorem lj1 : nxt [] [] (some ⟨1, ann, kn 2⟩) = (ce1, cc1) := by decide +kernel
theorem li2 : seR ce1 cc1 ann (kn 2) = (0, none) := by decide +kernel
theorem li3 : seR ce1 cc1 ann (kn 3) = (223, some ⟨2, ann, kn 3⟩) := by decide +kernel
theorem lj3 : nxt ce1 cc1 (some ⟨2, ann, kn 3⟩) = (ce2, cc2) := by decide +kernel
theorem lm1 : (clm (fnC cc2 ann) && decide (kn 2 = (fnC cc2 ann).k)) = false := by decide +kernel
theorem lm2 : (clm (fnC cc2 ann) && decide (kn 3 = (fnC cc2 ann).k)) = false := by decide +kernel
theorem li4 : seR ce2 cc2 ann (kn 2) = (223, none) := by decide +kernel
theorem li5 : acR ce2 cc2 ann = (0, some ⟨3, ann, kn 3⟩) := by decide +kernel
theorem lj5 : nxt ce2 cc2 (some ⟨3, ann, kn 3⟩) = (ce3, cc3) := by decide +kernel
theorem lm3 : (clm (fnC cc3 ann) && decide (kn 3 = (fnC cc3 ann).k)) = true := by decide +kernel
theorem li6 : acR ce3 cc3 ann = (225, none) := by decide +kernel
theorem li7 : seR ce3 cc3 Ann (kn 2) = (1, none) := by decide +kernel
theorem lfa : fnC cc3 ann = ⟨ann, kn 3, zr 32, 1⟩ := by decide +kernel
theorem nbr2_size (p q : List Int) : (nbr2 p q).data.toList.length = 71 := by
  unfold nbr2 saf
  split <;> exact sfs_size _ _
theorem li8 : coR (kn 1) ce3 cc3 ann ⟨#[48, 48, 48, 48, 48]⟩ = (221, none) := by
  unfold coR
  rw [lfa, if_neg (by decide), if_neg (by decide), if_neg]
  intro h
  have := nbr2_size (kn 1) (lat ⟨ann, kn 3, zr 32, 1⟩)
  rw [← h] at this
  exact absurd this (by decide)
theorem li9 : coR (kn 1) ce3 cc3 ann (nbr2 (kn 1) (kn 3)) = (0, some ⟨4, ann, kn 3⟩) := by
  unfold coR
  rw [lfa, if_neg (by decide), if_neg (by decide)]
  have e : lat ⟨ann, kn 3, zr 32, 1⟩ = kn 3 := by decide
  rw [e, if_pos rfl]
  decide
set_option maxRecDepth 100000 in
set_option maxHeartbeats 8000000 in
theorem a_lives (w : World) (hSt : Sta w) (hKo : Kon w) (hPo : Pow w) : Calls Tryd.prog 5 #[] w fun e w' => e = .returned (.bool true) ∧ Below w.heap.size w w' := by
  go_enter Tryd.func5, Tryd.ntmps5
  go_wp2_with (first | (refine wpList_build_want rfl 23 _ rfl [(0, .int .u8 1)] rfl (irow .u8 (kn 1)) bt_kn1 ?_) | (refine wpList_build_want rfl 23 _ rfl [(0, .int .u8 2)] rfl (irow .u8 (kn 2)) bt_kn2 ?_) | (refine wpList_build_want rfl 23 _ rfl [(0, .int .u8 3)] rfl (irow .u8 (kn 3)) bt_kn3 ?_) | fail)
  refine (a_New (kn 1) kn_ok1 _).mono ?_
  rintro e_ w1 ⟨g, rfl, hB, hw⟩
  obtain ⟨b, hwb, hbE⟩ : ∃ b, w.heap.size ≤ b ∧ Hid (b = w.heap.size) := ⟨_, Nat.le_refl _, hide rfl⟩
  rw [← hbE.out] at hB
  clear hbE
  go_wp2_with (first | (refine wpList_build_want rfl 23 _ rfl [(0, .int .u8 1)] rfl (irow .u8 (kn 1)) bt_kn1 ?_) | (refine wpList_build_want rfl 23 _ rfl [(0, .int .u8 2)] rfl (irow .u8 (kn 2)) bt_kn2 ?_) | (refine wpList_build_want rfl 23 _ rfl [(0, .int .u8 3)] rfl (irow .u8 (kn 3)) bt_kn3 ?_) | fail)
  have cX := a_See ann (by decide) (kn 2) kn_ok2 b g _ _ _ [] [] _ hB
  rw [li1] at cX
  refine cX.mono ?_
  rintro e_ wv1 ⟨ve2, vc2, he_, hB1, -, -, hF_⟩
  change e_ = .returned (.int .i64 0) at he_
  subst he_
  clear cX
  replace hw := Bk.step hB hF_ hw hwb
  clear hB hF_
  dsimp only at hB1
  rw [lj1] at hB1
  have hB := hB1
  clear hB1
  dsimp only at hB
  go_wp2_with (first | (refine wpList_build_want rfl 23 _ rfl [(0, .int .u8 1)] rfl (irow .u8 (kn 1)) bt_kn1 ?_) | (refine wpList_build_want rfl 23 _ rfl [(0, .int .u8 2)] rfl (irow .u8 (kn 2)) bt_kn2 ?_) | (refine wpList_build_want rfl 23 _ rfl [(0, .int .u8 3)] rfl (irow .u8 (kn 3)) bt_kn3 ?_) | fail)
  have cX := a_See ann (by decide) (kn 2) kn_ok2 b g _ _ _ ce1 cc1 _ hB
  rw [li2] at cX
  refine cX.mono ?_
  rintro e_ wv3 ⟨ve4, vc4, he_, hB1, -, -, hF_⟩
  change e_ = .returned (.int .i64 0) at he_
  subst he_
  clear cX
  replace hw := Bk.step hB hF_ hw hwb
  clear hB hF_
  dsimp only at hB1
  rw [nxt_none] at hB1
  have hB := hB1
  clear hB1
  dsimp only at hB
  go_wp2_with (first | (refine wpList_build_want rfl 23 _ rfl [(0, .int .u8 1)] rfl (irow .u8 (kn 1)) bt_kn1 ?_) | (refine wpList_build_want rfl 23 _ rfl [(0, .int .u8 2)] rfl (irow .u8 (kn 2)) bt_kn2 ?_) | (refine wpList_build_want rfl 23 _ rfl [(0, .int .u8 3)] rfl (irow .u8 (kn 3)) bt_kn3 ?_) | fail)
  refine (a_Events b g _ _ _ ce1 cc1 _ hB).mono ?_
  rintro e_ w4 ⟨v4, rfl, hO4, hb⟩
  obtain ⟨a4, c4, rfl, _, _, _, _⟩ := hO4.sl
  clear hO4
  replace hB := hB.keep hb
  replace hw := Below.after hw hb
  clear hb
  have hln : ce1.length = 1 := rfl
  rw [hln]
  clear hln
  go_wp2_with (first | (refine wpList_build_want rfl 23 _ rfl [(0, .int .u8 1)] rfl (irow .u8 (kn 1)) bt_kn1 ?_) | (refine wpList_build_want rfl 23 _ rfl [(0, .int .u8 2)] rfl (irow .u8 (kn 2)) bt_kn2 ?_) | (refine wpList_build_want rfl 23 _ rfl [(0, .int .u8 3)] rfl (irow .u8 (kn 3)) bt_kn3 ?_) | fail)
  have cX := a_See ann (by decide) (kn 3) kn_ok3 b g _ _ _ ce1 cc1 _ hB
  rw [li3] at cX
  refine cX.mono ?_
  rintro e_ wv5 ⟨ve6, vc6, he_, hB1, -, -, hF_⟩
  change e_ = .returned (.int .i64 223) at he_
  subst he_
  clear cX
  replace hw := Bk.step hB hF_ hw hwb
  clear hB hF_
  dsimp only at hB1
  rw [lj3] at hB1
  have hB := hB1
  clear hB1
  dsimp only at hB
  go_wp2_with (first | (refine wpList_build_want rfl 23 _ rfl [(0, .int .u8 1)] rfl (irow .u8 (kn 1)) bt_kn1 ?_) | (refine wpList_build_want rfl 23 _ rfl [(0, .int .u8 2)] rfl (irow .u8 (kn 2)) bt_kn2 ?_) | (refine wpList_build_want rfl 23 _ rfl [(0, .int .u8 3)] rfl (irow .u8 (kn 3)) bt_kn3 ?_) | fail)
  have cX := a_May ann (by decide) (kn 2) kn_ok2 b g _ _ _ ce2 cc2 _ hB
  rw [lm1] at cX
  refine cX.mono ?_
  rintro e_ wv7 ⟨rfl, hb⟩
  clear cX
  replace hB := hB.keep hb
  replace hw := Below.after hw hb
  clear hb
  go_wp2_with (first | (refine wpList_build_want rfl 23 _ rfl [(0, .int .u8 1)] rfl (irow .u8 (kn 1)) bt_kn1 ?_) | (refine wpList_build_want rfl 23 _ rfl [(0, .int .u8 2)] rfl (irow .u8 (kn 2)) bt_kn2 ?_) | (refine wpList_build_want rfl 23 _ rfl [(0, .int .u8 3)] rfl (irow .u8 (kn 3)) bt_kn3 ?_) | fail)
  have cX := a_May ann (by decide) (kn 3) kn_ok3 b g _ _ _ ce2 cc2 _ hB
  rw [lm2] at cX
  refine cX.mono ?_
  rintro e_ wv8 ⟨rfl, hb⟩
  clear cX
  replace hB := hB.keep hb
  replace hw := Below.after hw hb
  clear hb
  go_wp2_with (first | (refine wpList_build_want rfl 23 _ rfl [(0, .int .u8 1)] rfl (irow .u8 (kn 1)) bt_kn1 ?_) | (refine wpList_build_want rfl 23 _ rfl [(0, .int .u8 2)] rfl (irow .u8 (kn 2)) bt_kn2 ?_) | (refine wpList_build_want rfl 23 _ rfl [(0, .int .u8 3)] rfl (irow .u8 (kn 3)) bt_kn3 ?_) | fail)
  have cX := a_See ann (by decide) (kn 2) kn_ok2 b g _ _ _ ce2 cc2 _ hB
  rw [li4] at cX
  refine cX.mono ?_
  rintro e_ wv9 ⟨ve10, vc10, he_, hB1, -, -, hF_⟩
  change e_ = .returned (.int .i64 223) at he_
  subst he_
  clear cX
  replace hw := Bk.step hB hF_ hw hwb
  clear hB hF_
  dsimp only at hB1
  rw [nxt_none] at hB1
  have hB := hB1
  clear hB1
  dsimp only at hB
  go_wp2_with (first | (refine wpList_build_want rfl 23 _ rfl [(0, .int .u8 1)] rfl (irow .u8 (kn 1)) bt_kn1 ?_) | (refine wpList_build_want rfl 23 _ rfl [(0, .int .u8 2)] rfl (irow .u8 (kn 2)) bt_kn2 ?_) | (refine wpList_build_want rfl 23 _ rfl [(0, .int .u8 3)] rfl (irow .u8 (kn 3)) bt_kn3 ?_) | fail)
  have cX := a_Accept ann (by decide) b g _ _ _ ce2 cc2 _ hB
  rw [li5] at cX
  refine cX.mono ?_
  rintro e_ wv11 ⟨ve12, vc12, he_, hB1, -, -, hF_⟩
  change e_ = .returned (.int .i64 0) at he_
  subst he_
  clear cX
  replace hw := Bk.step hB hF_ hw hwb
  clear hB hF_
  dsimp only at hB1
  rw [lj5] at hB1
  have hB := hB1
  clear hB1
  dsimp only at hB
  go_wp2_with (first | (refine wpList_build_want rfl 23 _ rfl [(0, .int .u8 1)] rfl (irow .u8 (kn 1)) bt_kn1 ?_) | (refine wpList_build_want rfl 23 _ rfl [(0, .int .u8 2)] rfl (irow .u8 (kn 2)) bt_kn2 ?_) | (refine wpList_build_want rfl 23 _ rfl [(0, .int .u8 3)] rfl (irow .u8 (kn 3)) bt_kn3 ?_) | fail)
  have cX := a_May ann (by decide) (kn 3) kn_ok3 b g _ _ _ ce3 cc3 _ hB
  rw [lm3] at cX
  refine cX.mono ?_
  rintro e_ wv13 ⟨rfl, hb⟩
  clear cX
  replace hB := hB.keep hb
  replace hw := Below.after hw hb
  clear hb
  go_wp2_with (first | (refine wpList_build_want rfl 23 _ rfl [(0, .int .u8 1)] rfl (irow .u8 (kn 1)) bt_kn1 ?_) | (refine wpList_build_want rfl 23 _ rfl [(0, .int .u8 2)] rfl (irow .u8 (kn 2)) bt_kn2 ?_) | (refine wpList_build_want rfl 23 _ rfl [(0, .int .u8 3)] rfl (irow .u8 (kn 3)) bt_kn3 ?_) | fail)
  have cX := a_Accept ann (by decide) b g _ _ _ ce3 cc3 _ hB
  rw [li6] at cX
  refine cX.mono ?_
  rintro e_ wv14 ⟨ve15, vc15, he_, hB1, -, -, hF_⟩
  change e_ = .returned (.int .i64 225) at he_
  subst he_
  clear cX
  replace hw := Bk.step hB hF_ hw hwb
  clear hB hF_
  dsimp only at hB1
  rw [nxt_none] at hB1
  have hB := hB1
  clear hB1
  dsimp only at hB
  go_wp2_with (first | (refine wpList_build_want rfl 23 _ rfl [(0, .int .u8 1)] rfl (irow .u8 (kn 1)) bt_kn1 ?_) | (refine wpList_build_want rfl 23 _ rfl [(0, .int .u8 2)] rfl (irow .u8 (kn 2)) bt_kn2 ?_) | (refine wpList_build_want rfl 23 _ rfl [(0, .int .u8 3)] rfl (irow .u8 (kn 3)) bt_kn3 ?_) | fail)
  have cX := a_See Ann (by decide) (kn 2) kn_ok2 b g _ _ _ ce3 cc3 _ hB
  rw [li7] at cX
  refine cX.mono ?_
  rintro e_ wv16 ⟨ve17, vc17, he_, hB1, -, -, hF_⟩
  change e_ = .returned (.int .i64 1) at he_
  subst he_
  clear cX
  replace hw := Bk.step hB hF_ hw hwb
  clear hB hF_
  dsimp only at hB1
  rw [nxt_none] at hB1
  have hB := hB1
  clear hB1
  dsimp only at hB
  go_wp2_with (first | (refine wpList_build_want rfl 23 _ rfl [(0, .int .u8 1)] rfl (irow .u8 (kn 1)) bt_kn1 ?_) | (refine wpList_build_want rfl 23 _ rfl [(0, .int .u8 2)] rfl (irow .u8 (kn 2)) bt_kn2 ?_) | (refine wpList_build_want rfl 23 _ rfl [(0, .int .u8 3)] rfl (irow .u8 (kn 3)) bt_kn3 ?_) | fail)
  have cX := a_Confirm ann (by decide) ⟨#[48, 48, 48, 48, 48]⟩ b g _ _ _ ce3 cc3 _ hB (hSt.below hw) (hKo.below hw) (hPo.below hw)
  rw [li8] at cX
  refine cX.mono ?_
  rintro e_ wv18 ⟨ve19, vc19, he_, hB1, -, -, hF_⟩
  change e_ = .returned (.int .i64 221) at he_
  subst he_
  clear cX
  replace hw := Bk.step hB hF_ hw hwb
  clear hB hF_
  dsimp only at hB1
  rw [nxt_none] at hB1
  have hB := hB1
  clear hB1
  dsimp only at hB
  go_wp2_with (first | (refine wpList_build_want rfl 23 _ rfl [(0, .int .u8 1)] rfl (irow .u8 (kn 1)) bt_kn1 ?_) | (refine wpList_build_want rfl 23 _ rfl [(0, .int .u8 2)] rfl (irow .u8 (kn 2)) bt_kn2 ?_) | (refine wpList_build_want rfl 23 _ rfl [(0, .int .u8 3)] rfl (irow .u8 (kn 3)) bt_kn3 ?_) | fail)
  refine (a_number (kn 1) (kn 3) kn_ok1 kn_ok3 _ (hSt.below hw) (hKo.below hw) (hPo.below hw)).mono ?_
  rintro e_ wv20 ⟨rfl, hb⟩
  replace hB := hB.keep hb
  replace hw := Below.after hw hb
  clear hb
  go_wp2_with (first | (refine wpList_build_want rfl 23 _ rfl [(0, .int .u8 1)] rfl (irow .u8 (kn 1)) bt_kn1 ?_) | (refine wpList_build_want rfl 23 _ rfl [(0, .int .u8 2)] rfl (irow .u8 (kn 2)) bt_kn2 ?_) | (refine wpList_build_want rfl 23 _ rfl [(0, .int .u8 3)] rfl (irow .u8 (kn 3)) bt_kn3 ?_) | fail)
  have cX := a_Confirm ann (by decide) (nbr2 (kn 1) (kn 3)) b g _ _ _ ce3 cc3 _ hB (hSt.below hw) (hKo.below hw) (hPo.below hw)
  rw [li9] at cX
  refine cX.mono ?_
  rintro e_ wz ⟨vz1, vz2, he_, -, -, -, hF_⟩
  change e_ = .returned (.int .i64 0) at he_
  subst he_
  replace hw := Bk.step hB hF_ hw hwb
  clear cX
  go_wp2_with (first | (refine wpList_build_want rfl 23 _ rfl [(0, .int .u8 1)] rfl (irow .u8 (kn 1)) bt_kn1 ?_) | (refine wpList_build_want rfl 23 _ rfl [(0, .int .u8 2)] rfl (irow .u8 (kn 2)) bt_kn2 ?_) | (refine wpList_build_want rfl 23 _ rfl [(0, .int .u8 3)] rfl (irow .u8 (kn 3)) bt_kn3 ?_) | fail)
  go_ret
  exact ⟨rfl, hw⟩
end Go.Proofs.YtlbcdjflcghkeaaDoor
