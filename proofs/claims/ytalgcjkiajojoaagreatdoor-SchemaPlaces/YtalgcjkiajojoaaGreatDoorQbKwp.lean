import Derived.Test.YtalgcjkiajojoaaGreatDoorQbKvl
import Derived.Test.YtalgcjkiajojoaaGreatDoorProg
import Derived.WalkKit
import Derived.WalkSpells
import Derived.WalkLawsBesides
import Derived.Lib.QuietBelow
import Derived.Laws.BitsAllLaws
import Derived.BigQuiet
import Derived.WalkMore
import Derived.Deep.MidRow
import Derived.Test.YtalgcjkiajojoaaGreatDoorQbOpen
import Derived.Test.YtalgcjkiajojoaaGreatDoorQbWs
import Derived.ProofKit
import Derived.OpenShut
import Derived.ChangeOld
import Derived.Deep.Slices
import Derived.Test.YtalgcjkiajojoaaGreatDoorQbKta
import Derived.Test.YtalgcjkiajojoaaGreatDoorQbXdc
import Derived.Test.YtalgcjkiajojoaaGreatDoorRows
import Derived.Lib.LaidU8T
import Derived.Lib.LaidIn
import Derived.Laws.EntriesVeiled
namespace Go.Proofs.YtalgcjkiajojoaaGreatDoor
set_option maxRecDepth 100000
open Go Go.RowKit Go.Sort
attribute [local go_sem] setCell_drewN alloc_drewN
set_option maxRecDepth 100000 in
set_option maxHeartbeats 16000000 in
theorem places_any {v b : Value} {ts : List Slt} {d : List B} {x : VR} {X : VT} (W : World) (hE : Ety W) (hT : Lib.Utf8Tabs 2 3 W) (hS : Slo W v ts) (hB0 : BysC W b d) (hX : VtM W (fun _ => True) x X) : Calls Tryz.prog 3 #[v, b, .agg (vrv x)] W fun e W' => e = .returned (.bool true) ∧ Below W.heap.size W W' := by
 obtain ⟨ao, cap, rfl⟩ := hS.form
 obtain ⟨bo, bc, rfl⟩ := hB0.1.form
 have hBb := hB0.1
 have hcap : ∀ a l c, Value.slice bo d.length bc = .slice a l c → l ≤ c := hB0.2.2
 clear hB0
 replace hcap := hide hcap
 have hde := fun F (h : deT utD flD ts d 0 = some F) => de_or utD flD h
 have hck := fun F (hv : vok ts 0 1) (h : ckT utD flD ts X 1 = some F) => ck_or utD flD flD_or hv h
 replace hde := hide hde
 replace hck := hide hck
 obtain ⟨xn, xda, xdl, xdc, xpa, xpl, xpc⟩ := x
 unfold vrv vrw
 have hb := (Below.refl W.heap.size W).alloc (Nat.le_refl _) (.cells #[.int .u64 (xn : Int), .slice xda xdl xdc, .slice xpa xpl xpc] 27)
 have rV := hp1_0 W (.cells #[.int .u64 (xn : Int), .slice xda xdl xdc, .slice xpa xpl xpc] 27)
 replace hT := Utf8Tabs_below hT hb
 replace hE := hE.keep hb rfl
 replace hS := hS.keep hb
 replace hX := hX.blw hb
 replace hBb := hBb.keep hb
 go_enter Tryz.func3, Tryz.ntmps3
 go_wp2_with (fail)
 generalize W.alloc (.cells #[.int .u64 (xn : Int), .slice xda xdl xdc, .slice xpa xpl xpc] 27) = w0 at *
 refine (l_lives8 _ hT).mono ?_
 rintro e_ w1 ⟨rfl, hb1⟩
 replace hE := hE.keep hb1 rfl
 replace hT := Utf8Tabs_below hT hb1
 replace hS := hS.keep hb1
 replace hBb := hBb.keep hb1
 replace hX := hX.blw hb1
 replace rV := keep hb1 rV
 replace hb := Below.after hb hb1
 clear hb1
 go_wp2_with (first | (refine wpList_load_want rfl 27 _ rfl W.heap.size rfl 27 #[.int .u64 (xn : Int), .slice xda xdl xdc, .slice xpa xpl xpc] (0, 0) _ rV Tryz.underlying27 rfl infoV ?_) | fail)
 have cBs := l_bigSlots hS
 generalize decide (slL ts 10000 < 0) = bs at *
 refine (cBs).mono ?_
 rintro e_ w2 ⟨rfl, hb2⟩
 replace hE := hE.keep hb2 rfl
 replace hT := Utf8Tabs_below hT hb2
 replace hS := hS.keep hb2
 replace hBb := hBb.keep hb2
 replace hX := hX.blw hb2
 replace rV := keep hb2 rV
 replace hb := Below.after hb hb2
 clear hb2
 clear cBs
 cases bs
 rotate_left
 ·go_wp2_with (first | (refine wpList_load_want rfl 27 _ rfl W.heap.size rfl 27 #[.int .u64 (xn : Int), .slice xda xdl xdc, .slice xpa xpl xpc] (0, 0) _ rV Tryz.underlying27 rfl infoV ?_) | fail)
  refine (l_lives8 _ hT).mono ?_
  rintro e_ w3 ⟨rfl, hb3⟩
  replace hE := hE.keep hb3 rfl
  replace hT := Utf8Tabs_below hT hb3
  replace hS := hS.keep hb3
  replace hBb := hBb.keep hb3
  replace hX := hX.blw hb3
  replace rV := keep hb3 rV
  replace hb := Below.after hb hb3
  clear hb3
  go_wp2_with (first | (refine wpList_load_want rfl 27 _ rfl W.heap.size rfl 27 #[.int .u64 (xn : Int), .slice xda xdl xdc, .slice xpa xpl xpc] (0, 0) _ rV Tryz.underlying27 rfl infoV ?_) | fail)
  go_ret
  exact ⟨rfl, hb⟩
 go_wp2_with (first | (refine wpList_load_want rfl 27 _ rfl W.heap.size rfl 27 #[.int .u64 (xn : Int), .slice xda xdl xdc, .slice xpa xpl xpc] (0, 0) _ rV Tryz.underlying27 rfl infoV ?_) | fail)
 have cBv := a_bigValue _ hX
 generalize bgV X = bv at *
 unfold vrv vrw at cBv
 refine (cBv).mono ?_
 rintro e_ w3 ⟨rfl, hb3⟩
 replace hE := hE.keep hb3 rfl
 replace hT := Utf8Tabs_below hT hb3
 replace hS := hS.keep hb3
 replace hBb := hBb.keep hb3
 replace hX := hX.blw hb3
 replace rV := keep hb3 rV
 replace hb := Below.after hb hb3
 clear hb3
 clear cBv
 cases bv
 rotate_left
 ·go_wp2_with (first | (refine wpList_load_want rfl 27 _ rfl W.heap.size rfl 27 #[.int .u64 (xn : Int), .slice xda xdl xdc, .slice xpa xpl xpc] (0, 0) _ rV Tryz.underlying27 rfl infoV ?_) | fail)
  refine (l_lives8 _ hT).mono ?_
  rintro e_ w4 ⟨rfl, hb4⟩
  replace hE := hE.keep hb4 rfl
  replace hT := Utf8Tabs_below hT hb4
  replace hS := hS.keep hb4
  replace hBb := hBb.keep hb4
  replace hX := hX.blw hb4
  replace rV := keep hb4 rV
  replace hb := Below.after hb hb4
  clear hb4
  go_wp2_with (first | (refine wpList_load_want rfl 27 _ rfl W.heap.size rfl 27 #[.int .u64 (xn : Int), .slice xda xdl xdc, .slice xpa xpl xpc] (0, 0) _ rV Tryz.underlying27 rfl infoV ?_) | fail)
  go_ret
  exact ⟨rfl, hb⟩
 go_wp2_with (first | (refine wpList_load_want rfl 27 _ rfl W.heap.size rfl 27 #[.int .u64 (xn : Int), .slice xda xdl xdc, .slice xpa xpl xpc] (0, 0) _ rV Tryz.underlying27 rfl infoV ?_) | fail)
 refine (a_Compile hS _ (Below.refl _ _)).mono ?_
 rintro e_ w4 ⟨hb4, hor⟩
 replace hE := hE.keep hb4 rfl
 replace hT := Utf8Tabs_below hT hb4
 replace hS := hS.keep hb4
 replace hBb := hBb.keep hb4
 replace hX := hX.blw hb4
 replace rV := keep hb4 rV
 replace hb := Below.after hb hb4
 clear hb4
 rcases hor with ⟨hz, g, rfl, _, hC⟩ | ⟨hz, rfl⟩
 rotate_left
 ·have hz2 : (vld ts == 0) = false := by simpa using hz
  generalize vld ts = zz at *
  clear hz
  go_wp2_with (first | (refine wpList_load_want rfl 27 _ rfl W.heap.size rfl 27 #[.int .u64 (xn : Int), .slice xda xdl xdc, .slice xpa xpl xpc] (0, 0) _ rV Tryz.underlying27 rfl infoV ?_) | fail)
  go_ret
  exact ⟨rfl, hb⟩
 have ok := vld_ok hz
 clear hz
 go_wp2_with (first | (refine wpList_load_want rfl 27 _ rfl W.heap.size rfl 27 #[.int .u64 (xn : Int), .slice xda xdl xdc, .slice xpa xpl xpc] (0, 0) _ rV Tryz.underlying27 rfl infoV ?_) | fail)
 have cD := a_DecodeT plo8 d _ _ hT hC hBb hcap.out
 obtain ⟨F, hF⟩ : ∃ F, deT utD flD ts d 0 = F := ⟨_, rfl⟩
 rw [hF] at cD
 refine (cD).mono ?_
 rintro e_ w5 ⟨hD, hb5⟩
 replace hE := hE.keep hb5 rfl
 replace hT := Utf8Tabs_below hT hb5
 replace hS := hS.keep hb5
 replace hBb := hBb.keep hb5
 replace hX := hX.blw hb5
 replace rV := keep hb5 rV
 replace hb := Below.after hb hb5
 replace hC := hC.keep hb5
 clear hb5
 clear cD
 cases F with
 | none =>
  obtain ⟨⟨yn, yda, ydl, ydc, ypa, ypl, ypc⟩, rfl, _⟩ := hD
  unfold vrv vrw
  have e1 := neq_nils
  have hba := ((Below.refl w5.heap.size w5).alloc (Nat.le_refl _) (.cells #[.int .u64 (yn : Int), .slice yda ydl ydc, .slice ypa ypl ypc] 27)).alloc (by simp) (.cells #[.pointer none] 39)
  replace hE := hE.keep hba rfl
  replace hT := Utf8Tabs_below hT hba
  replace hS := hS.keep hba
  replace hBb := hBb.keep hba
  replace hX := hX.blw hba
  replace rV := keep hba rV
  replace hb := Below.after hb hba
  replace hC := hC.keep hba
  clear hba hde hF
  go_wp2_with (first | (refine wpList_load_want rfl 27 _ rfl W.heap.size rfl 27 #[.int .u64 (xn : Int), .slice xda xdl xdc, .slice xpa xpl xpc] (0, 0) _ rV Tryz.underlying27 rfl infoV ?_) | fail)
  generalize (w5.alloc (.cells #[.int .u64 (yn : Int), .slice yda ydl ydc, .slice ypa ypl ypc] 27)).alloc (.cells #[.pointer none] 39) = w70 at *
  obtain ⟨F2, hF2⟩ : ∃ F2, ckT utD flD ts X 1 = F2 := ⟨_, rfl⟩
  have cK := a_CheckT plo8 _ _ X _ hT hC hX ok.2.2.2.2
  unfold vrv vrw at cK
  rw [hF2] at cK
  refine (cK).mono ?_
  rintro e_ w6 ⟨hK, hb6⟩
  replace hE := hE.keep hb6 rfl
  replace hT := Utf8Tabs_below hT hb6
  replace hS := hS.keep hb6
  replace hBb := hBb.keep hb6
  replace hX := hX.blw hb6
  replace rV := keep hb6 rV
  replace hb := Below.after hb hb6
  replace hC := hC.keep hb6
  clear hb6
  clear cK
  cases F2 with
  | none =>
   obtain rfl : e_ = .returned .nilIface := hK
   have e2 := eqe_nils
   have hba := (Below.refl w6.heap.size w6).alloc (Nat.le_refl _) (.cells #[.pointer none] 39)
   replace hb := Below.after hb hba
   clear hba
   go_wp2_with (first | (refine wpList_load_want rfl 27 _ rfl W.heap.size rfl 27 #[.int .u64 (xn : Int), .slice xda xdl xdc, .slice xpa xpl xpc] (0, 0) _ rV Tryz.underlying27 rfl infoV ?_) | fail)
   go_ret
   exact ⟨rfl, hb⟩
  | some f2 =>
   obtain ⟨q2, rfl, _, hq2⟩ := hK
   obtain ⟨⟨g1, g2⟩, ⟨g3, g4⟩, g5⟩ := hck.out _ ok.2.1 hF2
   obtain ⟨y1, y2, y3⟩ := f2
   simp only at g1 g2 g3 g4 g5
   have hba : Below w6.heap.size w6 (w6.alloc (.cells #[.pointer none] 39)) := ((Below.refl w6.heap.size w6).alloc (by simp) (.cells #[.pointer none] 39))
   have rk := hp1_0 w6 (.cells #[.pointer none] 39)
   have hEa := hE.keep hba rfl
   have hlq := lt_of_row hq2
   have e3 := eqe_fault (.pointer (some ⟨q2, 0, none⟩))
   go_wp2_with (first | (refine wpList_load_want rfl 27 _ rfl W.heap.size rfl 27 #[.int .u64 (xn : Int), .slice xda xdl xdc, .slice xpa xpl xpc] (0, 0) _ rV Tryz.underlying27 rfl infoV ?_) | fail)
   refine (as_fault q2 (w6.heap.size) _ hEa rk).mono ?_
   rintro e_ w80 ⟨rfl, rk2, hbu⟩
   have hbx := But.after hba (by omega) hbu
   replace hb := Below.after hb hbx
   have hq3 := hbu.row (keep hba hq2) (by omega)
   have c0 : w80.cell? ⟨q2, 0, none⟩ = some (.int .i64 y1) := by rw [cell_of_row _ _ _ _ _ _ hq3]; rfl
   have c1 : w80.cell? ⟨q2, 1, none⟩ = some (.int .i64 y2) := by rw [cell_of_row _ _ _ _ _ _ hq3]; rfl
   have c2 : w80.cell? ⟨q2, 2, none⟩ = some (.int .i64 y3) := by rw [cell_of_row _ _ _ _ _ _ hq3]; rfl
   have c3 : w80.cell? ⟨w6.heap.size, 0, none⟩ = some (.pointer (some ⟨q2, 0, none⟩)) := by rw [cell_of_row _ _ _ _ _ _ rk2]; rfl
   clear hba hEa rk hbu hbx hq3 rk2 hF2 hq2 hlq
   rcases g5 with rfl | rfl | rfl
   ·go_wp2_with (fail)
    go_ret
    exact ⟨rfl, hb⟩
   ·go_wp2_with (fail)
    go_ret
    exact ⟨rfl, hb⟩
   ·go_wp2_with (fail)
    go_ret
    exact ⟨rfl, hb⟩
 | some f =>
  obtain ⟨q, rfl, _, hq⟩ := hD
  obtain ⟨g1, ⟨g3, g4⟩, g5⟩ := hde.out _ hF
  obtain ⟨y1, y2, y3⟩ := f
  simp only at g1 g3 g4 g5
  subst g1
  have hba : Below w5.heap.size w5 ((w5.alloc (.cells #[.int .u64 0, .slice none 0 0, .slice none 0 0] 27)).alloc (.cells #[.pointer none] 39)) := (((Below.refl w5.heap.size w5).alloc (by simp) (.cells #[.int .u64 0, .slice none 0 0, .slice none 0 0] 27)).alloc (by simp <;> omega) (.cells #[.pointer none] 39))
  have rk := hp2_1 w5 (.cells #[.int .u64 0, .slice none 0 0, .slice none 0 0] 27) (.cells #[.pointer none] 39)
  have hEa := hE.keep hba rfl
  have hlq := lt_of_row hq
  have e3 := neq_fault (.pointer (some ⟨q, 0, none⟩))
  have e4 := eqe_fault (.pointer (some ⟨q, 0, none⟩))
  have g5b : (y3 == 0) = false := by simpa using g5
  have g6 : y2 ≤ ((d.length : Nat) : Int) := by omega
  have g7 : 0 ≤ y2 := by omega
  go_wp2_with (first | (refine wpList_load_want rfl 27 _ rfl W.heap.size rfl 27 #[.int .u64 (xn : Int), .slice xda xdl xdc, .slice xpa xpl xpc] (0, 0) _ rV Tryz.underlying27 rfl infoV ?_) | fail)
  refine (as_fault q (w5.heap.size + 1) _ hEa rk).mono ?_
  rintro e_ w70 ⟨rfl, rk2, hbu⟩
  have hbx := But.after hba (by omega) hbu
  have hq3 := hbu.row (keep hba hq) (by omega)
  have c0 : w70.cell? ⟨q, 0, none⟩ = some (.int .i64 0) := by rw [cell_of_row _ _ _ _ _ _ hq3]; rfl
  have c1 : w70.cell? ⟨q, 1, none⟩ = some (.int .i64 y2) := by rw [cell_of_row _ _ _ _ _ _ hq3]; rfl
  have c2 : w70.cell? ⟨q, 2, none⟩ = some (.int .i64 y3) := by rw [cell_of_row _ _ _ _ _ _ hq3]; rfl
  have c3 : w70.cell? ⟨w5.heap.size + 1, 0, none⟩ = some (.pointer (some ⟨q, 0, none⟩)) := by rw [cell_of_row _ _ _ _ _ _ rk2]; rfl
  replace hE := hE.keep hbx rfl
  replace hT := Utf8Tabs_below hT hbx
  replace hS := hS.keep hbx
  replace hBb := hBb.keep hbx
  replace hX := hX.blw hbx
  replace rV := keep hbx rV
  replace hb := Below.after hb hbx
  replace hC := hC.keep hbx
  clear hba hEa rk hbu hbx hq3 rk2 hF hq hlq hde
  go_upto_region 10 with (fail)
  clear c0 c1 c2 c3 g3 g4 g5 g5b g6 g7
  go_wp2_with (first | (refine wpList_load_want rfl 27 _ rfl W.heap.size rfl 27 #[.int .u64 (xn : Int), .slice xda xdl xdc, .slice xpa xpl xpc] (0, 0) _ rV Tryz.underlying27 rfl infoV ?_) | fail)
  obtain ⟨F2, hF2⟩ : ∃ F2, ckT utD flD ts X 1 = F2 := ⟨_, rfl⟩
  have cK := a_CheckT plo8 _ _ X _ hT hC hX ok.2.2.2.2
  unfold vrv vrw at cK
  rw [hF2] at cK
  refine (cK).mono ?_
  rintro e_ w6 ⟨hK, hb6⟩
  replace hE := hE.keep hb6 rfl
  replace hT := Utf8Tabs_below hT hb6
  replace hS := hS.keep hb6
  replace hBb := hBb.keep hb6
  replace hX := hX.blw hb6
  replace rV := keep hb6 rV
  replace hb := Below.after hb hb6
  replace hC := hC.keep hb6
  clear hb6
  clear cK
  cases F2 with
  | none =>
   obtain rfl : e_ = .returned .nilIface := hK
   have e2 := eqe_nils
   have hba := (Below.refl w6.heap.size w6).alloc (Nat.le_refl _) (.cells #[.pointer none] 39)
   replace hb := Below.after hb hba
   clear hba
   go_wp2_with (first | (refine wpList_load_want rfl 27 _ rfl W.heap.size rfl 27 #[.int .u64 (xn : Int), .slice xda xdl xdc, .slice xpa xpl xpc] (0, 0) _ rV Tryz.underlying27 rfl infoV ?_) | fail)
   go_ret
   exact ⟨rfl, hb⟩
  | some f2 =>
   obtain ⟨q2, rfl, _, hq2⟩ := hK
   obtain ⟨⟨g1, g2⟩, ⟨g3, g4⟩, g5⟩ := hck.out _ ok.2.1 hF2
   obtain ⟨y1, y2, y3⟩ := f2
   simp only at g1 g2 g3 g4 g5
   have hba : Below w6.heap.size w6 (w6.alloc (.cells #[.pointer none] 39)) := ((Below.refl w6.heap.size w6).alloc (by simp) (.cells #[.pointer none] 39))
   have rk := hp1_0 w6 (.cells #[.pointer none] 39)
   have hEa := hE.keep hba rfl
   have hlq := lt_of_row hq2
   have e3 := eqe_fault (.pointer (some ⟨q2, 0, none⟩))
   go_wp2_with (first | (refine wpList_load_want rfl 27 _ rfl W.heap.size rfl 27 #[.int .u64 (xn : Int), .slice xda xdl xdc, .slice xpa xpl xpc] (0, 0) _ rV Tryz.underlying27 rfl infoV ?_) | fail)
   refine (as_fault q2 (w6.heap.size) _ hEa rk).mono ?_
   rintro e_ w80 ⟨rfl, rk2, hbu⟩
   have hbx := But.after hba (by omega) hbu
   replace hb := Below.after hb hbx
   have hq3 := hbu.row (keep hba hq2) (by omega)
   have c0 : w80.cell? ⟨q2, 0, none⟩ = some (.int .i64 y1) := by rw [cell_of_row _ _ _ _ _ _ hq3]; rfl
   have c1 : w80.cell? ⟨q2, 1, none⟩ = some (.int .i64 y2) := by rw [cell_of_row _ _ _ _ _ _ hq3]; rfl
   have c2 : w80.cell? ⟨q2, 2, none⟩ = some (.int .i64 y3) := by rw [cell_of_row _ _ _ _ _ _ hq3]; rfl
   have c3 : w80.cell? ⟨w6.heap.size, 0, none⟩ = some (.pointer (some ⟨q2, 0, none⟩)) := by rw [cell_of_row _ _ _ _ _ _ rk2]; rfl
   clear hba hEa rk hbu hbx hq3 rk2 hF2 hq2 hlq
   rcases g5 with rfl | rfl | rfl
   ·go_wp2_with (fail)
    go_ret
    exact ⟨rfl, hb⟩
   ·go_wp2_with (fail)
    go_ret
    exact ⟨rfl, hb⟩
   ·go_wp2_with (fail)
    go_ret
    exact ⟨rfl, hb⟩
end Go.Proofs.YtalgcjkiajojoaaGreatDoor
namespace Go.Proofs.YtalgcjkiajojoaaGreatDoor
set_option maxRecDepth 100000
open Go Go.RowKit Go.Sort
attribute [local go_sem] setCell_drewN alloc_drewN
def hzr : List Value := [.int .i64 0, .int .i64 0, .int .u64 0, .int .u64 0, .slice none 0 0]
def hmk : List Value := [.int .i64 (-77), .int .i64 0, .int .u64 0, .int .u64 0, .slice none 0 0]
inductive HSl (W : World) (S : Nat → Prop) : Value → List Slt → Prop
 | mk (G : Nat) (ts : List Slt) (us : List Value) (hl : ts.length ≤ 10000) (hG : G < W.heap.size) (hS : S G)
  (h : ∀ i, i < ts.length → W.rangeAt G (i * 5) (srow (gs ts i) (gvs us i)) ∧ Sok (gs ts i))
  (hm : ∀ i, ts.length ≤ i → i < ts.length + 3 → W.rangeAt G (i * 5) hmk)
  (hs : ∀ i, i < ts.length → HSl W S (gvs us i) (gs ts i).sub) : HSl W S (.slice (some ⟨G, 0, none⟩) ts.length (ts.length + 3)) ts
theorem HSl.keep {W V : World} {S T : Nat → Prop} {v : Value} {ts : List Slt} (h : HSl W S v ts) (hs : W.heap.size ≤ V.heap.size) (hb : ∀ b, b < W.heap.size → S b → V.heap[b]? = W.heap[b]? ∧ T b) : HSl V T v ts := by
 induction h with
 | mk G ts us hl hG hS h hm _ ih =>
  exact .mk G ts us hl (by omega) (hb G hG hS).2 (fun i hi => ⟨range_same (h i hi).1 (hb G hG hS).1, (h i hi).2⟩) (fun i h1 h2 => range_same (hm i h1 h2) (hb G hG hS).1) ih
theorem HSl.form {W : World} {S : Nat → Prop} {v : Value} {ts : List Slt} (h : HSl W S v ts) : ∃ G, v = .slice (some ⟨G, 0, none⟩) ts.length (ts.length + 3) ∧ S G := by
 cases h with
 | mk G _ us hl hG hS h hm hs => exact ⟨G, rfl, hS⟩
def hrow (ts : List Slt) (us : List Value) (k i : Nat) : List Value := if i < k then (if i < ts.length then srow (gs ts i) (gvs us i) else hmk) else hzr
def Hrw (W : World) (G : Nat) (ts : List Slt) (us : List Value) (k : Nat) : Prop := ∃ cs, W.heap[G]? = some (.cells cs 52 (0, 0)) ∧ cs.size = (ts.length + 3) * 5 ∧ ∀ i c, i < ts.length + 3 → c < 5 → cs[i * 5 + c]? = (hrow ts us k i)[c]?
theorem Hrw.keep {W V : World} {G : Nat} {ts : List Slt} {us : List Value} {k : Nat} (h : Hrw W G ts us k) (hb : V.heap[G]? = W.heap[G]?) : Hrw V G ts us k := by
 obtain ⟨cs, h1, h2⟩ := h
 exact ⟨cs, hb.trans h1, h2⟩
theorem Hrw.range {W : World} {G : Nat} {ts : List Slt} {us : List Value} {k i : Nat} (h : Hrw W G ts us k) (hi : i < ts.length + 3) (hl : (hrow ts us k i).length = 5) : W.rangeAt G (i * 5) (hrow ts us k i) := by
 obtain ⟨cs, h1, h2, h3⟩ := h
 intro j v hv
 have hj := (List.getElem?_eq_some_iff.1 hv).1
 rw [cell_of_row _ _ _ _ _ _ h1, h3 i j hi (by omega)]
 exact hv
theorem Hrw.mark {W : World} {G : Nat} {ts : List Slt} {us : List Value} {k : Nat} (h : Hrw W G ts us k) (hk : ts.length ≤ k) (hk3 : k < ts.length + 3) : Hrw (W.setCell ⟨G, k * 5, none⟩ (.int .i64 (-77))) G ts us (k + 1) := by
 obtain ⟨cs, h1, h2, h3⟩ := h
 refine ⟨_, heap_setCell_same W G (k * 5) cs _ _ h1, by simp [h2], fun i c hi hc => ?_⟩
 rw [Array.getElem?_setIfInBounds]
 by_cases e : k * 5 = i * 5 + c
 ·have e1 : i = k := by omega
  have e2 : c = 0 := by omega
  subst e1 e2
  rw [if_pos e, if_pos (by omega)]
  unfold hrow
  rw [if_pos (by omega), if_neg (by omega)]; rfl
 ·rw [if_neg e, h3 i c hi hc]
  by_cases e1 : i = k
  ·subst e1
   have c0 : c ≠ 0 := by omega
   unfold hrow
   rw [if_neg (by omega), if_pos (by omega), if_neg (by omega)]
   rcases (by omega : c = 1 ∨ c = 2 ∨ c = 3 ∨ c = 4) with rfl | rfl | rfl | rfl <;> rfl
  ·unfold hrow
   by_cases e2 : i < k
   ·rw [if_pos e2, if_pos (show i < k + 1 by omega)]
   ·rw [if_neg e2, if_neg (show ¬ i < k + 1 by omega)]
theorem Hrw.slot {W V : World} {G : Nat} {ts : List Slt} {us : List Value} {k : Nat} {u v : Value} (h : Hrw W G ts us k) (hk : k < ts.length) (hu : us.length = k) (hV : V.heap[G]? = ((W.setCell ⟨G, k * 5, none⟩ (.int .i64 (-77))).setCells G (k * 5) (srow (gs ts k) u)).heap[G]?) : Hrw (V.setCell ⟨G, k * 5 + 4, none⟩ v) G ts (us ++ [v]) (k + 1) := by
 obtain ⟨cs, h1, h2, h3⟩ := h
 have s1 := heap_setCell_same W G (k * 5) cs _ (.int .i64 (-77)) h1
 have s2 : ((W.setCell ⟨G, k * 5, none⟩ (.int .i64 (-77))).setCells G (k * 5) (srow (gs ts k) u)).heap[G]? = _ :=
  heap_setCell_same _ G (k * 5 + 1 + 1 + 1 + 1) _ _ u (heap_setCell_same _ G (k * 5 + 1 + 1 + 1) _ _ (.int .u64 ((gs ts k).most : Int)) (heap_setCell_same _ G (k * 5 + 1 + 1) _ _ (.int .u64 ((gs ts k).least : Int)) (heap_setCell_same _ G (k * 5 + 1) _ _ (.int .i64 (gs ts k).kind) (heap_setCell_same _ G (k * 5) _ _ (.int .i64 (gs ts k).no) s1))))
 refine ⟨_, heap_setCell_same V G (k * 5 + 4) _ _ v (hV.trans s2), by simp [h2], fun i c hi hc => ?_⟩
 simp only [Array.getElem?_setIfInBounds, Array.size_setIfInBounds]
 by_cases e1 : i = k
 ·subst e1
  have e3 : hrow ts (us ++ [v]) (i + 1) i = srow (gs ts i) v := by
   unfold hrow; rw [if_pos (by omega), if_pos hk, gvs_top _ _ _ hu]
  rw [e3]
  have hb : i * 5 + c < cs.size := by omega
  rcases (by omega : c = 0 ∨ c = 1 ∨ c = 2 ∨ c = 3 ∨ c = 4) with rfl | rfl | rfl | rfl | rfl
  ·rw [if_neg (by omega), if_neg (by omega), if_neg (by omega), if_neg (by omega), if_neg (by omega), if_pos (by omega), if_pos (by omega)]; rfl
  ·rw [if_neg (by omega), if_neg (by omega), if_neg (by omega), if_neg (by omega), if_pos (by omega), if_pos (by omega)]; rfl
  ·rw [if_neg (by omega), if_neg (by omega), if_neg (by omega), if_pos (by omega), if_pos (by omega)]; rfl
  ·rw [if_neg (by omega), if_neg (by omega), if_pos (by omega), if_pos (by omega)]; rfl
  ·rw [if_pos (by omega), if_pos (by omega)]; rfl
 ·rw [if_neg (by omega), if_neg (by omega), if_neg (by omega), if_neg (by omega), if_neg (by omega), if_neg (by omega), if_neg (by omega), h3 i c hi hc]
  unfold hrow
  by_cases e2 : i < k
  ·rw [if_pos e2, if_pos (by omega), if_pos (by omega), if_pos (by omega), gvs_low _ _ _ (by omega)]
  ·rw [if_neg e2, if_neg (by omega)]
end Go.Proofs.YtalgcjkiajojoaaGreatDoor
namespace Go.Proofs.YtalgcjkiajojoaaGreatDoor
set_option maxRecDepth 100000
open Go Go.RowKit Go.Sort
attribute [local go_sem] setCell_drewN alloc_drewN
end Go.Proofs.YtalgcjkiajojoaaGreatDoor
namespace Go.Proofs.YtalgcjkiajojoaaGreatDoor
set_option maxRecDepth 100000
open Go Go.ChangeShapes Go.WideShapes Go.ChangeAt Go.RowKit Go.Deep
/-! Schemas out of the data. -/
theorem bSl56 : Tryz.prog.bytesOf 52 = 56 := by kernel_rfl
theorem cSl5 : Tryz.prog.cellsOf 52 = 5 := by kernel_rfl
theorem cI1s : Tryz.prog.cellsOf 3 = 1 := by kernel_rfl
theorem cU1s : Tryz.prog.cellsOf 24 = 1 := by kernel_rfl
theorem cSs1 : Tryz.prog.cellsOf 22 = 1 := by kernel_rfl
theorem block_lts {w : World} {b o : Nat} {v : Value} (h : w.cell? ⟨b, o, none⟩ = some v) : b < w.heap.size := by
 rcases Nat.lt_or_ge b w.heap.size with x | x
 ·exact x
 ·have : w.heap[b]? = none := Array.getElem?_eq_none x
  simp [World.cell?, this] at h
theorem weightsAll_inS {H : Type} {P : Program} {e : TypeId} : ∀ {l : List (DataW H)} {d : DataW H}, d ∈ l → ∀ n ∈ d.weights P e, n ∈ DataW.weightsAll P e l
 | x :: r, d, h, n, hn => by
  rw [DataW.weightsAll, List.mem_append]
  rcases List.mem_cons.1 h with rfl | h
  ·exact .inl hn
  ·exact .inr (weightsAll_inS h n hn)
theorem range_gs (PS : Nat → Slt) (n i : Nat) (h : i < n) : gs ((List.range n).map PS) i = PS i := by
 rw [gs, List.getD_eq_getElem?_getD, List.getElem?_map, List.getElem?_range h]; rfl
theorem range_gvs (PS : Nat → Value) (n i : Nat) (h : i < n) : gvs ((List.range n).map PS) i = PS i := by
 rw [gvs, List.getD_eq_getElem?_getD, List.getElem?_map, List.getElem?_range h]; rfl
theorem slot_of_trod {H : Type} {enc : TypeId × Value → H} {W : World} {m : Nat} {cs : List Value} {x : DataW H × List MemPlace} (h : DataW.trod enc Tryz.prog W 0 (fun _ => true) true m 52 cs = some x) :
 ∃ (no k : Int) (l mo : Nat) (u : Value) (n : Nat) (y : DataW H × List MemPlace), (∀ sub, cs = srow (.mk no k l mo sub) u ∧ Sok (.mk no k l mo sub)) ∧ DataW.trod enc Tryz.prog W 0 (fun _ => true) true n 22 [u] = some y ∧ SizeOf.sizeOf y.1 < SizeOf.sizeOf x.1 ∧ ∀ z ∈ y.1.weights Tryz.prog 22, z ∈ x.1.weights Tryz.prog 52 := by
 obtain ⟨xs, m, rfl, rfl, hlen, hxl, hf⟩ := DataW.trod_struct Tryz.underlying52 h
 rw [cSl5] at hlen
 have g0 := hf 0 _ rfl; have g1 := hf 1 _ rfl; have g2 := hf 2 _ rfl; have g3 := hf 3 _ rfl; have g4 := hf 4 _ rfl
 clear hf h
 match cs, hlen, xs, hxl, g0, g1, g2, g3, g4 with
 | [c0, c1, c2, c3, c4], _, [x0, x1, x2, x3, x4], _, g0, g1, g2, g3, g4 =>
  obtain ⟨K, e0, _, wK⟩ := DataW.trod_int Tryz.underlying3 g0
  obtain ⟨A, e1, _, wA⟩ := DataW.trod_int Tryz.underlying3 g1
  obtain ⟨C, e2, _, wC⟩ := DataW.trod_int Tryz.underlying24 g2
  obtain ⟨E, e3, _, wE⟩ := DataW.trod_int Tryz.underlying24 g3
  have q0 : c0 = .int .i64 K := by
   have q : ([c0, c1, c2, c3, c4].drop 0).take (Tryz.prog.cellsOf 3) = [.int .i64 K] := e0
   rw [cI1s] at q
   simpa using q
  have q1 : c1 = .int .i64 A := by
   have q : ([c0, c1, c2, c3, c4].drop 1).take (Tryz.prog.cellsOf 3) = [.int .i64 A] := e1
   rw [cI1s] at q
   simpa using q
  have q2 : c2 = .int .u64 C := by
   have q : ([c0, c1, c2, c3, c4].drop 2).take (Tryz.prog.cellsOf 24) = [.int .u64 C] := e2
   rw [cU1s] at q
   simpa using q
  have q3 : c3 = .int .u64 E := by
   have q : ([c0, c1, c2, c3, c4].drop 3).take (Tryz.prog.cellsOf 24) = [.int .u64 E] := e3
   rw [cU1s] at q
   simpa using q
  have q4 : DataW.trod enc Tryz.prog W 0 (fun _ => true) true m 22 [c4] = some x4 := by
   have q : DataW.trod enc Tryz.prog W 0 (fun _ => true) true m 22 (([c0, c1, c2, c3, c4].drop 4).take (Tryz.prog.cellsOf 22)) = some x4 := g4
   rw [cSs1] at q
   simpa using q
  have bK := bounds_i64 wK
  have bA := bounds_i64 wA
  have bC := bounds_u64 wC
  have bE := bounds_u64 wE
  obtain ⟨N, rfl⟩ := Int.eq_ofNat_of_zero_le bC.1
  obtain ⟨M, rfl⟩ := Int.eq_ofNat_of_zero_le bE.1
  refine ⟨K, A, N, M, c4, m, x4, fun sub => ⟨by rw [q0, q1, q2, q3]; rfl, bK, bA, by show N < _; omega, by show M < _; omega⟩, q4, ?_, fun z hz => ?_⟩
  ·simp only [List.map_cons, List.map_nil, DataW.agg.sizeOf_spec, List.cons.sizeOf_spec]
   omega
  ·simp only [DataW.weights, Tryz.underlying52]
   exact DataW.weights_mem_each (j := 4) rfl rfl z hz
theorem slo_of_size {H : Type} {enc : TypeId × Value → H} {W : World} : ∀ (N : Nat) {m : Nat} {v : Value} {x : DataW H × List MemPlace}, SizeOf.sizeOf x.1 ≤ N → DataW.trod enc Tryz.prog W 0 (fun _ => true) true m 22 [v] = some x → (∀ n ∈ x.1.weights Tryz.prog 22, n ≤ reachBytes) → ∃ ts : List Slt, Slo W v ts
 | 0, m, v, x, hN, _, _ => by
  exfalso
  cases h : x.1 <;> rw [h] at hN <;> simp at hN
 | N + 1, m, v, x, hN, hf, hs => by
  rcases open_slice Tryz.underlying22 hf with ⟨hcs, hx⟩ | ⟨a, len, cap, m, n, D, Pl, hcs, _, hl, hm, hmm, hx, hel⟩
  ·injection hcs with hv _
   subst hv
   exact ⟨[], .mk none 0 [] [] (by simp) (by simp) (fun _ => rfl) (fun i hi => by simp at hi) (fun i hi => by simp at hi)⟩
  ·injection hcs with hv _
   subst hv
   subst hx
   simp only [if_true] at hmm
   subst hmm
   rw [cSl5] at hel
   have hb := hs ((((List.range len).map D).length + ((List.range (m - len)).map fun j => D (len + j)).length) * 56) (by simp [DataW.weights, Tryz.underlying22, bSl56])
   simp only [List.length_map, List.length_range, reachBytes] at hb
   obtain ⟨PS, hPS⟩ := @choose_lt (Slt × Value) ⟨(s0, undef)⟩ len (fun i f => ∃ cs', W.cells? 0 (a.add (i * 5)) 5 = some cs' ∧ cs' = srow f.1 f.2 ∧ Sok f.1 ∧ Slo W f.2 f.1.sub) (fun i hi => by
    obtain ⟨cs', h1, h2⟩ := hel i (by omega)
    obtain ⟨no, k, l, mo, u, n', y, h3, h4, h5, h6⟩ := slot_of_trod h2
    have hmem : D i ∈ (List.range len).map D := List.mem_map.2 ⟨i, List.mem_range.2 hi, rfl⟩
    have hsz : SizeOf.sizeOf (D i) < SizeOf.sizeOf ((List.range len).map D) := List.sizeOf_lt_of_mem hmem
    obtain ⟨sub, hsub⟩ := slo_of_size N (x := y) (by
     simp only [DataW.slice.sizeOf_spec] at hN
     simp only at h5
     omega) h4 (fun z hz => hs z (by
     simp only [DataW.weights, Tryz.underlying22]
     exact List.mem_cons_of_mem _ (List.mem_append_left _ (weightsAll_inS hmem z (h6 z hz)))))
    exact ⟨(.mk no k l mo sub, u), cs', h1, (h3 sub).1, (h3 sub).2, hsub⟩)
   have e : (Value.slice (some a) len m) = .slice (some a) ((List.range len).map fun i => (PS i).1).length m := by simp
   rw [e]
   refine ⟨_, .mk (some a) m _ ((List.range len).map fun i => (PS i).2) (by simp; omega) (by simp; exact hl) (fun e => by cases e) (fun i hi => ?_) (fun i hi => ?_)⟩
   ·have hi' : i < len := by simpa using hi
    obtain ⟨cs', h1, h2, h3, _⟩ := hPS i hi'
    obtain ⟨_, hln, hc⟩ := World.cells?_some h1
    obtain ⟨bb, off, spot⟩ := a
    have hspot : spot = none := by
     obtain ⟨cs0, h0, _⟩ := hel 0 (by omega)
     obtain ⟨_, hl0, hc0⟩ := World.cells?_some h0
     have := hc0 0 (by omega)
     rw [List.getElem?_eq_getElem (by omega)] at this
     simpa [Addr.add] using World.cell?_spot this
    subst hspot
    rw [range_gs _ len i hi', range_gvs _ len i hi']
    have hr : W.rangeAt bb (off + i * 5) cs' := by
     intro j v hv
     have hj : j < 5 := by have := (List.getElem?_eq_some_iff.1 hv).1; omega
     have := hc j hj
     rw [addr_add, addr_add, hv] at this
     exact this
    rw [h2] at hr
    exact ⟨bb, off, rfl, block_lts (hr 0 _ rfl), hr, h3⟩
   ·have hi' : i < len := by simpa using hi
    obtain ⟨_, _, _, _, h4⟩ := hPS i hi'
    rw [range_gs _ len i hi', range_gvs _ len i hi']
    exact h4
theorem slo_of_trod {H : Type} {enc : TypeId × Value → H} {W : World} {m : Nat} {v : Value} {x : DataW H × List MemPlace} (hf : DataW.trod enc Tryz.prog W 0 (fun _ => true) true m 22 [v] = some x) (hs : ∀ n ∈ x.1.weights Tryz.prog 22, n ≤ reachBytes) : ∃ ts : List Slt, Slo W v ts := slo_of_size _ (Nat.le_refl _) hf hs
end Go.Proofs.YtalgcjkiajojoaaGreatDoor
namespace Go.Proofs.YtalgcjkiajojoaaGreatDoor
set_option maxRecDepth 100000
open Go Go.ChangeShapes Go.WideShapes Go.ChangeAt Go.RowKit Go.Deep
/-! Values out of the data. -/
theorem bVl56 : Tryz.prog.bytesOf 27 = 56 := by kernel_rfl
theorem cVl3 : Tryz.prog.cellsOf 27 = 3 := by kernel_rfl
theorem cUv1 : Tryz.prog.cellsOf 24 = 1 := by kernel_rfl
theorem cSv1 : Tryz.prog.cellsOf 25 = 1 := by kernel_rfl
theorem cBv1 : Tryz.prog.cellsOf 23 = 1 := by kernel_rfl
theorem block_ltv {w : World} {b o : Nat} {v : Value} (h : w.cell? ⟨b, o, none⟩ = some v) : b < w.heap.size := by
 rcases Nat.lt_or_ge b w.heap.size with x | x
 ·exact x
 ·have : w.heap[b]? = none := Array.getElem?_eq_none x
  simp [World.cell?, this] at h
theorem weightsAll_inV {H : Type} {P : Program} {e : TypeId} : ∀ {l : List (DataW H)} {d : DataW H}, d ∈ l → ∀ n ∈ d.weights P e, n ∈ DataW.weightsAll P e l
 | x :: r, d, h, n, hn => by
  rw [DataW.weightsAll, List.mem_append]
  rcases List.mem_cons.1 h with rfl | h
  ·exact .inl hn
  ·exact .inr (weightsAll_inV h n hn)
theorem range_gx (PS : Nat → VR) (n i : Nat) (h : i < n) : gx ((List.range n).map PS) i = PS i := by
 rw [gx, List.getD_eq_getElem?_getD, List.getElem?_map, List.getElem?_range h]; rfl
theorem range_gvt (PS : Nat → VT) (n i : Nat) (h : i < n) : gvt ((List.range n).map PS) i = PS i := by
 rw [gvt, List.getD_eq_getElem?_getD, List.getElem?_map, List.getElem?_range h]; rfl
theorem val_of_trod {H : Type} {enc : TypeId × Value → H} {W : World} {m : Nat} {cs : List Value} {x : DataW H × List MemPlace} (h : DataW.trod enc Tryz.prog W 0 (fun _ => true) true m 27 cs = some x) (hs : ∀ n ∈ x.1.weights Tryz.prog 27, n ≤ reachBytes) :
 ∃ (N : Nat) (bs : List B) (v u : Value) (n : Nat) (y : DataW H × List MemPlace), cs = [.int .u64 (N : Int), v, u] ∧ N < 18446744073709551616 ∧ BysC W v bs ∧ DataW.trod enc Tryz.prog W 0 (fun _ => true) true n 25 [u] = some y ∧ SizeOf.sizeOf y.1 < SizeOf.sizeOf x.1 ∧ ∀ z ∈ y.1.weights Tryz.prog 25, z ∈ x.1.weights Tryz.prog 27 := by
 obtain ⟨xs, m, rfl, rfl, hlen, hxl, hf⟩ := DataW.trod_struct Tryz.underlying27 h
 rw [cVl3] at hlen
 have g0 := hf 0 _ rfl; have g1 := hf 1 _ rfl; have g2 := hf 2 _ rfl
 clear hf h
 match cs, hlen, xs, hxl, g0, g1, g2 with
 | [c0, c1, c2], _, [x0, x1, x2], _, g0, g1, g2 =>
  obtain ⟨C, e0, _, wC⟩ := DataW.trod_int Tryz.underlying24 g0
  have q0 : c0 = .int .u64 C := by
   have q : ([c0, c1, c2].drop 0).take (Tryz.prog.cellsOf 24) = [.int .u64 C] := e0
   rw [cUv1] at q
   simpa using q
  have q1 : DataW.trod enc Tryz.prog W 0 (fun _ => true) true m 23 [c1] = some x1 := by
   have q : DataW.trod enc Tryz.prog W 0 (fun _ => true) true m 23 (([c0, c1, c2].drop 1).take (Tryz.prog.cellsOf 23)) = some x1 := g1
   rw [cBv1] at q
   simpa using q
  have q2 : DataW.trod enc Tryz.prog W 0 (fun _ => true) true m 25 [c2] = some x2 := by
   have q : DataW.trod enc Tryz.prog W 0 (fun _ => true) true m 25 (([c0, c1, c2].drop 2).take (Tryz.prog.cellsOf 25)) = some x2 := g2
   rw [cSv1] at q
   simpa using q
  have bC := bounds_u64 wC
  obtain ⟨N, rfl⟩ := Int.eq_ofNat_of_zero_le bC.1
  obtain ⟨v, bs, ev, hB⟩ := bysC_of_trod q1 (fun z hz => hs z (by
   simp only [DataW.weights, Tryz.underlying27]
   exact DataW.weights_mem_each (j := 1) rfl rfl z hz))
  injection ev with ev _
  subst ev
  refine ⟨N, bs, c1, c2, m, x2, by rw [q0], by omega, hB, q2, ?_, fun z hz => ?_⟩
  ·simp only [List.map_cons, List.map_nil, DataW.agg.sizeOf_spec, List.cons.sizeOf_spec]
   omega
  ·simp only [DataW.weights, Tryz.underlying27]
   exact DataW.weights_mem_each (j := 2) rfl rfl z hz
theorem bysC_form {W : World} {v : Value} {bs : List B} (h : BysC W v bs) : ∃ da dc, v = .slice da bs.length dc ∧ bs.length ≤ dc := by
 obtain ⟨⟨⟨ao, cap, e, _⟩, _⟩, _, hc⟩ := h
 rw [bl_len] at e
 exact ⟨ao, cap, e, hc _ _ _ e⟩
theorem inS_data {W : World} {da : Option Addr} {dl dc : Nat} {bs : List B} (h : BysC W (.slice da dl dc) bs) : InS W (fun _ => True) (lv dl da) := by
 intro a e
 have e1 := lv_some e
 subst e1
 obtain ⟨⟨ao, cap, e2, hl, hc, hz⟩, _⟩ := h.1
 injection e2 with e3 e4 e5
 subst e3
 have hpos : 0 < dl := by
  rcases Nat.eq_zero_or_pos dl with h0 | h0
  ·rw [h0] at e
   cases e
  ·exact h0
 obtain ⟨b, off, ea, hb, _⟩ := hc 0 (by omega)
 injection ea with ea
 subst ea
 exact ⟨trivial, hb⟩
theorem vtm_of_size {H : Type} {enc : TypeId × Value → H} {W : World} : ∀ (N : Nat) {m : Nat} {cs : List Value} {x : DataW H × List MemPlace}, SizeOf.sizeOf x.1 ≤ N → DataW.trod enc Tryz.prog W 0 (fun _ => true) true m 27 cs = some x → (∀ n ∈ x.1.weights Tryz.prog 27, n ≤ reachBytes) → ∃ (r : VR) (X : VT), cs = (vrv r).toList ∧ VtM W (fun _ => True) r X
 | 0, m, cs, x, hN, _, _ => by
  exfalso
  cases h : x.1 <;> rw [h] at hN <;> simp at hN
 | N + 1, m, cs, x, hN, hf, hs => by
  obtain ⟨Nn, bs, dv, u, n', y, hcs, hNn, hB, hy, hsz, hw⟩ := val_of_trod hf hs
  obtain ⟨da, dc, rfl, hdc⟩ := bysC_form hB
  have hI := inS_data hB
  rcases open_slice Tryz.underlying25 hy with ⟨hcu, hx⟩ | ⟨a, len, cap, m, n, D, Pl, hcu, _, hl, hm, hmm, hx, hel⟩
  ·injection hcu with hv _
   subst hv
   exact ⟨⟨Nn, da, bs.length, dc, none, 0, 0⟩, .mk Nn bs [], hcs, .mk ⟨Nn, da, bs.length, dc, none, 0, 0⟩ bs [] [] hNn rfl hB.2.1 hB.1 hdc hI rfl rfl (by simp) (by simp) (fun a e => by cases lv_some e) (fun i hi => by simp at hi) (fun i hi => by simp at hi)⟩
  ·injection hcu with hv _
   subst hv
   simp only [if_true] at hmm
   subst hmm
   rw [cVl3] at hel
   have hy1 : y.1 = .slice ((List.range len).map D) ((List.range (m - len)).map fun j => D (len + j)) := by rw [hx]
   have hb := hs ((((List.range len).map D).length + ((List.range (m - len)).map fun j => D (len + j)).length) * 56) (hw _ (by rw [hy1]; simp [DataW.weights, Tryz.underlying25, bVl56]))
   simp only [List.length_map, List.length_range, reachBytes] at hb
   obtain ⟨PS, hPS⟩ := @choose_lt (VR × VT) ⟨(vr0, vt0)⟩ len (fun i f => ∃ cs', W.cells? 0 (a.add (i * 3)) 3 = some cs' ∧ cs' = (vrv f.1).toList ∧ VtM W (fun _ => True) f.1 f.2) (fun i hi => by
    obtain ⟨cs', h1, h2⟩ := hel i (by omega)
    have hmem : D i ∈ (List.range len).map D := List.mem_map.2 ⟨i, List.mem_range.2 hi, rfl⟩
    have hsz2 : SizeOf.sizeOf (D i) < SizeOf.sizeOf ((List.range len).map D) := List.sizeOf_lt_of_mem hmem
    obtain ⟨r, X, e1, e2⟩ := vtm_of_size N (x := (D i, _)) (by
     rw [hy1] at hsz
     simp only [DataW.slice.sizeOf_spec] at hsz
     simp only
     omega) h2 (fun z hz => hs z (hw z (by
     rw [hy1]
     simp only [DataW.weights, Tryz.underlying25]
     exact List.mem_cons_of_mem _ (List.mem_append_left _ (weightsAll_inV hmem z hz)))))
    exact ⟨(r, X), cs', h1, e1, e2⟩)
   have spot : 0 < len → ∃ bb off, a = ⟨bb, off, none⟩ := fun h0 => by
    obtain ⟨bb, off, sp⟩ := a
    obtain ⟨cs0, h0', _⟩ := hel 0 (by omega)
    obtain ⟨_, hl0, hc0⟩ := World.cells?_some h0'
    have := hc0 0 (by omega)
    rw [List.getElem?_eq_getElem (by omega)] at this
    exact ⟨bb, off, by rw [show sp = none by simpa [Addr.add] using World.cell?_spot this]⟩
   have rng : ∀ i, i < len → ∃ b off, some a = some (⟨b, off, none⟩ : Addr) ∧ b < W.heap.size ∧ W.rangeAt b (off + i * 3) (vrv (PS i).1).toList := fun i hi => by
    obtain ⟨cs', h1, h2, _⟩ := hPS i hi
    obtain ⟨_, hln, hc⟩ := World.cells?_some h1
    obtain ⟨bb, off, rfl⟩ := spot (by omega)
    have hr : W.rangeAt bb (off + i * 3) cs' := by
     intro j v hv
     have hj : j < 3 := by have := (List.getElem?_eq_some_iff.1 hv).1; omega
     have := hc j hj
     rw [addr_add, addr_add, hv] at this
     exact this
    rw [h2] at hr
    exact ⟨bb, off, rfl, block_ltv (hr 0 _ rfl), hr⟩
   refine ⟨⟨Nn, da, bs.length, dc, some a, len, m⟩, .mk Nn bs ((List.range len).map fun i => (PS i).2), hcs, .mk ⟨Nn, da, bs.length, dc, some a, len, m⟩ bs ((List.range len).map fun i => (PS i).1) _ hNn rfl hB.2.1 hB.1 hdc hI (by simp) (by simp) (by simp; exact hl) (by simp; omega) (fun b e => ?_) (fun i hi => ?_) (fun i hi => ?_)⟩
   ·have e1 := lv_some e
    injection e1 with e1
    subst e1
    have hpos : 0 < len := by
     rcases Nat.eq_zero_or_pos len with h0 | h0
     ·rw [h0] at e
      cases e
     ·exact h0
    obtain ⟨bb, off, e2, hb2, _⟩ := rng 0 hpos
    injection e2 with e2
    subst e2
    exact ⟨trivial, hb2⟩
   ·have hi' : i < len := by simpa using hi
    obtain ⟨bb, off, e2, hb2, hr⟩ := rng i hi'
    rw [range_gx _ len i hi']
    exact ⟨bb, off, e2, hr⟩
   ·have hi' : i < len := by simpa using hi
    obtain ⟨_, _, _, h4⟩ := hPS i hi'
    rw [range_gx _ len i hi', range_gvt _ len i hi']
    exact h4
theorem val_of_data {H : Type} {enc : TypeId × Value → H} {W : World} {m : Nat} {cs : List Value} {x : DataW H × List MemPlace} (hf : DataW.trod enc Tryz.prog W 0 (fun _ => true) true m 27 cs = some x) (hs : ∀ n ∈ x.1.weights Tryz.prog 27, n ≤ reachBytes) : ∃ (r : VR) (X : VT), cs = (vrv r).toList ∧ VtM W (fun _ => True) r X := vtm_of_size _ (Nat.le_refl _) hf hs
end Go.Proofs.YtalgcjkiajojoaaGreatDoor
namespace Go.Proofs.YtalgcjkiajojoaaGreatDoor
set_option maxRecDepth 100000
open Go Go.RowKit
def rU : Go.Shelf.Ren where
 f := fun n => n
 t := fun n => if n = 5 then 5 else if n = 119 then 178 else if n = 138 then 180 else 181
 g := fun n => if n = 3 then 2 else 3
theorem tabs_of_reads {W : World} (h : laidMet Tryz.prog [("unicode/utf8.acceptRanges", Rows.laid_unicode_utf8_acceptRanges), ("unicode/utf8.first", Rows.laid_unicode_utf8_first)] W) : Lib.Utf8Tabs 2 3 W :=
 utf8Tabs_of_readsT (P := Tryz.prog) (ρ := rU) ⟨by kernel_rfl, by kernel_rfl, by kernel_rfl, by kernel_rfl⟩ ⟨by kernel_rfl, by kernel_rfl, by kernel_rfl, by kernel_rfl, by kernel_rfl, by kernel_rfl, by kernel_rfl⟩ (Lib.laidMet.reads h (.tail _ (.head _))) (Lib.laidMet.reads h (.head _))
end Go.Proofs.YtalgcjkiajojoaaGreatDoor

