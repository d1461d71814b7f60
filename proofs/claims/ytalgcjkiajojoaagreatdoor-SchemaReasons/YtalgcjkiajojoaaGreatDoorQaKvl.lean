import Derived.Test.YtalgcjkiajojoaaGreatDoorQaKts
import Derived.Test.YtalgcjkiajojoaaGreatDoorQaKtv
import Derived.Lib.SlBytesConst
import Derived.LaidEql
import Derived.Stop.Asserts
import Derived.Lib.IfaceEq
import Derived.RowKitTokens
import Derived.Test.YtalgcjkiajojoaaGreatDoorProg
import Derived.WalkKit
import Derived.WalkSpells
import Derived.WalkLawsBesides
import Derived.Lib.QuietBelow
import Derived.Laws.BitsAllLaws
import Derived.BigQuiet
import Derived.WalkMore
import Derived.Deep.MidRow
import Derived.Test.YtalgcjkiajojoaaGreatDoorQaOpen
import Derived.Test.YtalgcjkiajojoaaGreatDoorQaWs
namespace Go.Proofs.YtalgcjkiajojoaaGreatDoor
set_option maxRecDepth 100000
open Go Go.RowKit Go.Sort
attribute [local go_sem] setCell_drewN alloc_drewN
theorem slo_L (w : World) : Slo ((w.alloc (.cells #[.int .i64 1, .int .i64 4, .int .u64 0, .int .u64 0, .slice none 0 0] 52)).alloc (.cells #[.int .i64 1, .int .i64 1, .int .u64 1, .int .u64 300, .slice none 0 0, .int .i64 2, .int .i64 6, .int .u64 0, .int .u64 10, .slice none 0 0, .int .i64 5, .int .i64 9, .int .u64 0, .int .u64 2, .slice (some ⟨w.heap.size, 0, none⟩) 1 1] 52)) (.slice (some ⟨w.heap.size + 1, 0, none⟩) 3 3) tsL := by
 have r1 := hp1_0 w (.cells #[.int .i64 1, .int .i64 4, .int .u64 0, .int .u64 0, .slice none 0 0] 52)
 have r3 := hp1_0 (w.alloc (.cells #[.int .i64 1, .int .i64 4, .int .u64 0, .int .u64 0, .slice none 0 0] 52)) (.cells #[.int .i64 1, .int .i64 1, .int .u64 1, .int .u64 300, .slice none 0 0, .int .i64 2, .int .i64 6, .int .u64 0, .int .u64 10, .slice none 0 0, .int .i64 5, .int .i64 9, .int .u64 0, .int .u64 2, .slice (some ⟨w.heap.size, 0, none⟩) 1 1] 52)
 have hb : Below (w.alloc (.cells #[.int .i64 1, .int .i64 4, .int .u64 0, .int .u64 0, .slice none 0 0] 52)).heap.size (w.alloc (.cells #[.int .i64 1, .int .i64 4, .int .u64 0, .int .u64 0, .slice none 0 0] 52)) ((w.alloc (.cells #[.int .i64 1, .int .i64 4, .int .u64 0, .int .u64 0, .slice none 0 0] 52)).alloc (.cells #[.int .i64 1, .int .i64 1, .int .u64 1, .int .u64 300, .slice none 0 0, .int .i64 2, .int .i64 6, .int .u64 0, .int .u64 10, .slice none 0 0, .int .i64 5, .int .i64 9, .int .u64 0, .int .u64 2, .slice (some ⟨w.heap.size, 0, none⟩) 1 1] 52)) := (Below.refl _ _).alloc (Nat.le_refl _) _
 rw [size_alloc1] at r3
 replace r1 := keep hb r1
 have l1 := lt_of_row r1
 have l3 := lt_of_row r3
 have s1 : Slo ((w.alloc (.cells #[.int .i64 1, .int .i64 4, .int .u64 0, .int .u64 0, .slice none 0 0] 52)).alloc (.cells #[.int .i64 1, .int .i64 1, .int .u64 1, .int .u64 300, .slice none 0 0, .int .i64 2, .int .i64 6, .int .u64 0, .int .u64 10, .slice none 0 0, .int .i64 5, .int .i64 9, .int .u64 0, .int .u64 2, .slice (some ⟨w.heap.size, 0, none⟩) 1 1] 52)) (.slice none 0 0) [] := .mk none 0 [] [] (by simp) (by simp) (fun _ => rfl) (fun i hi => by simp at hi) (fun i hi => by simp at hi)
 have s2 : Slo ((w.alloc (.cells #[.int .i64 1, .int .i64 4, .int .u64 0, .int .u64 0, .slice none 0 0] 52)).alloc (.cells #[.int .i64 1, .int .i64 1, .int .u64 1, .int .u64 300, .slice none 0 0, .int .i64 2, .int .i64 6, .int .u64 0, .int .u64 10, .slice none 0 0, .int .i64 5, .int .i64 9, .int .u64 0, .int .u64 2, .slice (some ⟨w.heap.size, 0, none⟩) 1 1] 52)) (.slice (some ⟨w.heap.size, 0, none⟩) 1 1) [.mk 1 4 0 0 []] := by
  refine .mk (some ⟨w.heap.size, 0, none⟩) 1 [.mk 1 4 0 0 []] [.slice none 0 0] (by simp) (by simp) (fun e => by cases e) (fun i hi => ?_) (fun i hi => ?_)
  ·obtain rfl : i = 0 := by simpa using hi
   refine ⟨w.heap.size, 0, rfl, l1, fun j v hv => ?_, by simp [Sok, gs, Slt.no, Slt.kind, Slt.least, Slt.most]⟩
   have hj : j < 5 := (List.getElem?_eq_some_iff.1 hv).1
   rw [cell_of_row _ _ _ _ _ _ r1]
   match j, hj with
   | 0, _ => exact hv
   | 1, _ => exact hv
   | 2, _ => exact hv
   | 3, _ => exact hv
   | 4, _ => exact hv
  ·obtain rfl : i = 0 := by simpa using hi
   exact s1
 refine .mk (some ⟨w.heap.size + 1, 0, none⟩) 3 tsL [.slice none 0 0, .slice none 0 0, .slice (some ⟨w.heap.size, 0, none⟩) 1 1] (by decide) (by decide) (fun e => by cases e) (fun i hi => ?_) (fun i hi => ?_)
 ·have hi3 : i < 3 := hi
  refine ⟨w.heap.size + 1, 0, rfl, l3, fun j v hv => ?_, ?_⟩
  ·have hj : j < 5 := (List.getElem?_eq_some_iff.1 hv).1
   rw [cell_of_row _ _ _ _ _ _ r3]
   match i, hi3, j, hj with
   | 0, _, 0, _ => exact hv
   | 0, _, 1, _ => exact hv
   | 0, _, 2, _ => exact hv
   | 0, _, 3, _ => exact hv
   | 0, _, 4, _ => exact hv
   | 1, _, 0, _ => exact hv
   | 1, _, 1, _ => exact hv
   | 1, _, 2, _ => exact hv
   | 1, _, 3, _ => exact hv
   | 1, _, 4, _ => exact hv
   | 2, _, 0, _ => exact hv
   | 2, _, 1, _ => exact hv
   | 2, _, 2, _ => exact hv
   | 2, _, 3, _ => exact hv
   | 2, _, 4, _ => exact hv
  ·match i, hi3 with
   | 0, _ => exact ⟨by decide, by decide, by decide, by decide⟩
   | 1, _ => exact ⟨by decide, by decide, by decide, by decide⟩
   | 2, _ => exact ⟨by decide, by decide, by decide, by decide⟩
 ·have hi3 : i < 3 := hi
  match i, hi3 with
  | 0, _ => exact s1
  | 1, _ => exact s1
  | 2, _ => exact s2
theorem vtm_ls {W : World} {n : Nat} {xs : List VR} {ps : List VT} (hl : xs.length = ps.length) (hm : ps.length ≤ 5864062014634) (hr : W.heap[n]? = some (.cells (vrs xs).toArray 27 (0, 0))) (hs : ∀ i, i < ps.length → VtM W (fun _ => True) (gx xs i) (gvt ps i)) : VtM W (fun _ => True) ⟨0, none, 0, 0, some ⟨n, 0, none⟩, ps.length, ps.length⟩ (.mk 0 [] ps) := by
 refine .mk ⟨0, none, 0, 0, some ⟨n, 0, none⟩, ps.length, ps.length⟩ [] xs ps (by show 0 < 18446744073709551616; decide) rfl (by decide) (bysB_nil _ _) (Nat.le_refl _) (fun a e => by cases lv_some e) rfl hl (Nat.le_refl _) hm (fun a e => ?_) (fun i hi => ⟨n, 0, rfl, fun j v hv => ?_⟩) hs
 ·have := lv_some e
  cases this
  exact ⟨trivial, lt_of_row hr⟩
 ·have hj : j < 3 := (List.getElem?_eq_some_iff.1 hv).1
  rw [cell_of_row _ _ _ _ _ _ hr, List.getElem?_toArray, Nat.zero_add, vrs_at xs i j (by omega) hj]
  exact hv
theorem vtm_nm (W : World) (N : Nat) (h : N < 18446744073709551616) : VtM W (fun _ => True) ⟨N, none, 0, 0, none, 0, 0⟩ (.mk N [] []) :=
 .mk ⟨N, none, 0, 0, none, 0, 0⟩ [] [] [] h rfl (by decide) (bysB_nil _ _) (Nat.le_refl _) (fun a e => by cases lv_some e) rfl rfl (Nat.le_refl _) (by decide) (fun a e => by cases lv_some e) (fun i hi => by simp at hi) (fun i hi => by simp at hi)
def x1L : VR := ⟨1, none, 0, 0, none, 0, 0⟩
def xpL (n : Nat) : VR := ⟨0, none, 0, 0, some ⟨n, 0, none⟩, 1, 1⟩
def x300 : VR := ⟨300, none, 0, 0, none, 0, 0⟩
def xabL (n : Nat) : VR := ⟨0, some ⟨n, 0, none⟩, 2, 2, none, 0, 0⟩
def xvL (n : Nat) : VR := ⟨0, none, 0, 0, some ⟨n, 0, none⟩, 3, 3⟩
theorem vtm_L {W : World} {n0 n1 n2 n3 : Nat} (r0 : W.heap[n0]? = some (.cells #[.int .u8 97, .int .u8 98] 5 (2, 3))) (r1 : W.heap[n1]? = some (.cells #[.int .u64 1, .slice none 0 0, .slice none 0 0] 27 (0, 0))) (r2 : W.heap[n2]? = some (.cells #[.int .u64 0, .slice none 0 0, .slice (some ⟨n1, 0, none⟩) 1 1] 27 (0, 0)))
 (r3 : W.heap[n3]? = some (.cells #[.int .u64 300, .slice none 0 0, .slice none 0 0, .int .u64 0, .slice (some ⟨n0, 0, none⟩) 2 2, .slice none 0 0, .int .u64 0, .slice none 0 0, .slice (some ⟨n2, 0, none⟩) 1 1] 27 (0, 0))) : VtM W (fun _ => True) (xvL n3) vL := by
 have h1 : VtM W (fun _ => True) x1L (.mk 1 [] []) := vtm_nm W 1 (by decide)
 have h2 : VtM W (fun _ => True) (xpL n1) (.mk 0 [] [.mk 1 [] []]) := vtm_ls (xs := [x1L]) (ps := [.mk 1 [] []]) rfl (by decide) r1 (fun i hi => by
  obtain rfl : i = 0 := by simpa using hi
  exact h1)
 have h3 : VtM W (fun _ => True) (xpL n2) (.mk 0 [] [.mk 0 [] [.mk 1 [] []]]) := vtm_ls (xs := [xpL n1]) (ps := [.mk 0 [] [.mk 1 [] []]]) rfl (by decide) r2 (fun i hi => by
  obtain rfl : i = 0 := by simpa using hi
  exact h2)
 have h4 : VtM W (fun _ => True) x300 (.mk 300 [] []) := vtm_nm W 300 (by decide)
 have hB : BysB W (.slice (some ⟨n0, 0, none⟩) 2 2) [97#8, 98#8] := ⟨⟨some ⟨n0, 0, none⟩, 2, rfl, by decide, fun j hj => ⟨n0, 0, rfl, lt_of_row r0, by
  rw [Nat.zero_add, cell_of_row _ _ _ _ _ _ r0]
  match j, hj with
  | 0, _ => rfl
  | 1, _ => rfl⟩, bl_bnd _⟩, by decide, fun a l c h h2 => by cases h; cases h2⟩
 have h5 : VtM W (fun _ => True) (xabL n0) (.mk 0 [97#8, 98#8] []) := .mk (xabL n0) [97#8, 98#8] [] [] (by show 0 < 18446744073709551616; decide) rfl (by decide) hB (Nat.le_refl _) (fun a e => by
  have := lv_some e
  cases this
  exact ⟨trivial, lt_of_row r0⟩) rfl rfl (Nat.le_refl _) (by decide) (fun a e => by cases lv_some e) (fun i hi => by simp at hi) (fun i hi => by simp at hi)
 exact vtm_ls (xs := [x300, xabL n0, xpL n2]) (ps := [.mk 300 [] [], .mk 0 [97#8, 98#8] [], .mk 0 [] [.mk 0 [] [.mk 1 [] []]]]) rfl (by decide) r3 (fun i hi => by
  have hi3 : i < 3 := hi
  match i, hi3 with
  | 0, _ => exact h4
  | 1, _ => exact h5
  | 2, _ => exact h3)
theorem eqe_nils (W : World) : (binOp .eql 36 .nilIface .nilIface).run Tryz.prog W = .ok (.bool true) W := by kernel_rfl
theorem eqe_fault (v : Value) (W : World) : (binOp .eql 36 (.iface 39 v) .nilIface).run Tryz.prog W = .ok (.bool false) W := by kernel_rfl
theorem okL : tsL.length ≤ 16 ∧ vok tsL 0 1 ∧ gd tsL ∧ (spL tsL 0 0).2 ≤ 4194304 ∧ 1 + htT tsL ≤ 9223372036854775807 := vld_ok vld_L
set_option maxRecDepth 100000 in
set_option maxHeartbeats 8000000 in
theorem l_lives8 (w : World) (hT : Lib.Utf8Tabs 2 3 w) : Calls Tryz.prog 5 #[] w fun e w' => e = .returned (.bool true) ∧ Below w.heap.size w w' := by
 have kc := fun (W : World) (C : Array Value) (n c : Nat) => Go.Lib.run_convert_bytes_const (P := Tryz.prog) W 23 5 C n c Tryz.underlying23 Tryz.underlying5
 have cC := a_Compile (slo_L w) _ (Below.refl _ _)
 have hb0 : Below w.heap.size w ((w.alloc (.cells #[.int .i64 1, .int .i64 4, .int .u64 0, .int .u64 0, .slice none 0 0] 52)).alloc (.cells #[.int .i64 1, .int .i64 1, .int .u64 1, .int .u64 300, .slice none 0 0, .int .i64 2, .int .i64 6, .int .u64 0, .int .u64 10, .slice none 0 0, .int .i64 5, .int .i64 9, .int .u64 0, .int .u64 2, .slice (some ⟨w.heap.size, 0, none⟩) 1 1] 52)) := ((Below.refl _ _).alloc (Nat.le_refl _) _).alloc (by simp) _
 generalize hW : ((w.alloc (.cells #[.int .i64 1, .int .i64 4, .int .u64 0, .int .u64 0, .slice none 0 0] 52)).alloc (.cells #[.int .i64 1, .int .i64 1, .int .u64 1, .int .u64 300, .slice none 0 0, .int .i64 2, .int .i64 6, .int .u64 0, .int .u64 10, .slice none 0 0, .int .i64 5, .int .i64 9, .int .u64 0, .int .u64 2, .slice (some ⟨w.heap.size, 0, none⟩) 1 1] 52)) = W0 at cC hb0
 go_enter Tryz.func5, Tryz.ntmps5
 go_wp2_with (fail)
 clear hW
 refine cC.mono ?_
 rintro e_ w1 ⟨hb1, ⟨_, g, rfl, hg, hC⟩ | ⟨hz, _⟩⟩
 ·have hb := Below.after hb0 hb1
  clear cC hb1 hg hb0
  go_wp2_with (fail)
  have hb1 := Below.refl w1.heap.size w1
  have q0 := hp1_0 w1 (.cells #[.int .u8 97, .int .u8 98] 5 (2, 3))
  have p0 : Below w1.heap.size w1 (w1.alloc (.cells #[.int .u8 97, .int .u8 98] 5 (2, 3))) := (Below.refl _ _).alloc (Nat.le_refl _) _
  replace hb1 := Below.after hb1 p0
  have q1 := hp1_0 (w1.alloc (.cells #[.int .u8 97, .int .u8 98] 5 (2, 3))) (.cells #[.int .u64 1, .slice none 0 0, .slice none 0 0] 27)
  rw [show (w1.alloc (.cells #[.int .u8 97, .int .u8 98] 5 (2, 3))).heap.size = w1.heap.size + 1 by simp] at q1
  have p1 : Below (w1.alloc (.cells #[.int .u8 97, .int .u8 98] 5 (2, 3))).heap.size (w1.alloc (.cells #[.int .u8 97, .int .u8 98] 5 (2, 3))) ((w1.alloc (.cells #[.int .u8 97, .int .u8 98] 5 (2, 3))).alloc (.cells #[.int .u64 1, .slice none 0 0, .slice none 0 0] 27)) := (Below.refl _ _).alloc (Nat.le_refl _) _
  replace q0 := keep p1 q0
  replace hb1 := Below.after hb1 p1
  have q2 := hp1_0 ((w1.alloc (.cells #[.int .u8 97, .int .u8 98] 5 (2, 3))).alloc (.cells #[.int .u64 1, .slice none 0 0, .slice none 0 0] 27)) (.cells #[.int .u64 0, .slice none 0 0, .slice (some ⟨w1.heap.size + 1, 0, none⟩) 1 1] 27)
  rw [show ((w1.alloc (.cells #[.int .u8 97, .int .u8 98] 5 (2, 3))).alloc (.cells #[.int .u64 1, .slice none 0 0, .slice none 0 0] 27)).heap.size = w1.heap.size + 1 + 1 by simp] at q2
  have p2 : Below ((w1.alloc (.cells #[.int .u8 97, .int .u8 98] 5 (2, 3))).alloc (.cells #[.int .u64 1, .slice none 0 0, .slice none 0 0] 27)).heap.size ((w1.alloc (.cells #[.int .u8 97, .int .u8 98] 5 (2, 3))).alloc (.cells #[.int .u64 1, .slice none 0 0, .slice none 0 0] 27)) (((w1.alloc (.cells #[.int .u8 97, .int .u8 98] 5 (2, 3))).alloc (.cells #[.int .u64 1, .slice none 0 0, .slice none 0 0] 27)).alloc (.cells #[.int .u64 0, .slice none 0 0, .slice (some ⟨w1.heap.size + 1, 0, none⟩) 1 1] 27)) := (Below.refl _ _).alloc (Nat.le_refl _) _
  replace q0 := keep p2 q0
  replace q1 := keep p2 q1
  replace hb1 := Below.after hb1 p2
  have q3 := hp1_0 (((w1.alloc (.cells #[.int .u8 97, .int .u8 98] 5 (2, 3))).alloc (.cells #[.int .u64 1, .slice none 0 0, .slice none 0 0] 27)).alloc (.cells #[.int .u64 0, .slice none 0 0, .slice (some ⟨w1.heap.size + 1, 0, none⟩) 1 1] 27)) (.cells #[.int .u64 300, .slice none 0 0, .slice none 0 0, .int .u64 0, .slice (some ⟨w1.heap.size, 0, none⟩) 2 2, .slice none 0 0, .int .u64 0, .slice none 0 0, .slice (some ⟨w1.heap.size + 1 + 1, 0, none⟩) 1 1] 27)
  rw [show (((w1.alloc (.cells #[.int .u8 97, .int .u8 98] 5 (2, 3))).alloc (.cells #[.int .u64 1, .slice none 0 0, .slice none 0 0] 27)).alloc (.cells #[.int .u64 0, .slice none 0 0, .slice (some ⟨w1.heap.size + 1, 0, none⟩) 1 1] 27)).heap.size = w1.heap.size + 1 + 1 + 1 by simp] at q3
  have p3 : Below (((w1.alloc (.cells #[.int .u8 97, .int .u8 98] 5 (2, 3))).alloc (.cells #[.int .u64 1, .slice none 0 0, .slice none 0 0] 27)).alloc (.cells #[.int .u64 0, .slice none 0 0, .slice (some ⟨w1.heap.size + 1, 0, none⟩) 1 1] 27)).heap.size (((w1.alloc (.cells #[.int .u8 97, .int .u8 98] 5 (2, 3))).alloc (.cells #[.int .u64 1, .slice none 0 0, .slice none 0 0] 27)).alloc (.cells #[.int .u64 0, .slice none 0 0, .slice (some ⟨w1.heap.size + 1, 0, none⟩) 1 1] 27)) ((((w1.alloc (.cells #[.int .u8 97, .int .u8 98] 5 (2, 3))).alloc (.cells #[.int .u64 1, .slice none 0 0, .slice none 0 0] 27)).alloc (.cells #[.int .u64 0, .slice none 0 0, .slice (some ⟨w1.heap.size + 1, 0, none⟩) 1 1] 27)).alloc (.cells #[.int .u64 300, .slice none 0 0, .slice none 0 0, .int .u64 0, .slice (some ⟨w1.heap.size, 0, none⟩) 2 2, .slice none 0 0, .int .u64 0, .slice none 0 0, .slice (some ⟨w1.heap.size + 1 + 1, 0, none⟩) 1 1] 27)) := (Below.refl _ _).alloc (Nat.le_refl _) _
  replace q0 := keep p3 q0
  replace q1 := keep p3 q1
  replace q2 := keep p3 q2
  replace hb1 := Below.after hb1 p3
  have q4 := hp1_0 ((((w1.alloc (.cells #[.int .u8 97, .int .u8 98] 5 (2, 3))).alloc (.cells #[.int .u64 1, .slice none 0 0, .slice none 0 0] 27)).alloc (.cells #[.int .u64 0, .slice none 0 0, .slice (some ⟨w1.heap.size + 1, 0, none⟩) 1 1] 27)).alloc (.cells #[.int .u64 300, .slice none 0 0, .slice none 0 0, .int .u64 0, .slice (some ⟨w1.heap.size, 0, none⟩) 2 2, .slice none 0 0, .int .u64 0, .slice none 0 0, .slice (some ⟨w1.heap.size + 1 + 1, 0, none⟩) 1 1] 27)) (.cells #[.int .u64 0, .slice none 0 0, .slice (some ⟨w1.heap.size + 1 + 1 + 1, 0, none⟩) 3 3] 27)
  rw [show ((((w1.alloc (.cells #[.int .u8 97, .int .u8 98] 5 (2, 3))).alloc (.cells #[.int .u64 1, .slice none 0 0, .slice none 0 0] 27)).alloc (.cells #[.int .u64 0, .slice none 0 0, .slice (some ⟨w1.heap.size + 1, 0, none⟩) 1 1] 27)).alloc (.cells #[.int .u64 300, .slice none 0 0, .slice none 0 0, .int .u64 0, .slice (some ⟨w1.heap.size, 0, none⟩) 2 2, .slice none 0 0, .int .u64 0, .slice none 0 0, .slice (some ⟨w1.heap.size + 1 + 1, 0, none⟩) 1 1] 27)).heap.size = w1.heap.size + 1 + 1 + 1 + 1 by simp] at q4
  have p4 : Below ((((w1.alloc (.cells #[.int .u8 97, .int .u8 98] 5 (2, 3))).alloc (.cells #[.int .u64 1, .slice none 0 0, .slice none 0 0] 27)).alloc (.cells #[.int .u64 0, .slice none 0 0, .slice (some ⟨w1.heap.size + 1, 0, none⟩) 1 1] 27)).alloc (.cells #[.int .u64 300, .slice none 0 0, .slice none 0 0, .int .u64 0, .slice (some ⟨w1.heap.size, 0, none⟩) 2 2, .slice none 0 0, .int .u64 0, .slice none 0 0, .slice (some ⟨w1.heap.size + 1 + 1, 0, none⟩) 1 1] 27)).heap.size ((((w1.alloc (.cells #[.int .u8 97, .int .u8 98] 5 (2, 3))).alloc (.cells #[.int .u64 1, .slice none 0 0, .slice none 0 0] 27)).alloc (.cells #[.int .u64 0, .slice none 0 0, .slice (some ⟨w1.heap.size + 1, 0, none⟩) 1 1] 27)).alloc (.cells #[.int .u64 300, .slice none 0 0, .slice none 0 0, .int .u64 0, .slice (some ⟨w1.heap.size, 0, none⟩) 2 2, .slice none 0 0, .int .u64 0, .slice none 0 0, .slice (some ⟨w1.heap.size + 1 + 1, 0, none⟩) 1 1] 27)) (((((w1.alloc (.cells #[.int .u8 97, .int .u8 98] 5 (2, 3))).alloc (.cells #[.int .u64 1, .slice none 0 0, .slice none 0 0] 27)).alloc (.cells #[.int .u64 0, .slice none 0 0, .slice (some ⟨w1.heap.size + 1, 0, none⟩) 1 1] 27)).alloc (.cells #[.int .u64 300, .slice none 0 0, .slice none 0 0, .int .u64 0, .slice (some ⟨w1.heap.size, 0, none⟩) 2 2, .slice none 0 0, .int .u64 0, .slice none 0 0, .slice (some ⟨w1.heap.size + 1 + 1, 0, none⟩) 1 1] 27)).alloc (.cells #[.int .u64 0, .slice none 0 0, .slice (some ⟨w1.heap.size + 1 + 1 + 1, 0, none⟩) 3 3] 27)) := (Below.refl _ _).alloc (Nat.le_refl _) _
  replace q0 := keep p4 q0
  replace q1 := keep p4 q1
  replace q2 := keep p4 q2
  replace q3 := keep p4 q3
  replace hb1 := Below.after hb1 p4
  generalize (((((w1.alloc (.cells #[.int .u8 97, .int .u8 98] 5 (2, 3))).alloc (.cells #[.int .u64 1, .slice none 0 0, .slice none 0 0] 27)).alloc (.cells #[.int .u64 0, .slice none 0 0, .slice (some ⟨w1.heap.size + 1, 0, none⟩) 1 1] 27)).alloc (.cells #[.int .u64 300, .slice none 0 0, .slice none 0 0, .int .u64 0, .slice (some ⟨w1.heap.size, 0, none⟩) 2 2, .slice none 0 0, .int .u64 0, .slice none 0 0, .slice (some ⟨w1.heap.size + 1 + 1, 0, none⟩) 1 1] 27)).alloc (.cells #[.int .u64 0, .slice none 0 0, .slice (some ⟨w1.heap.size + 1 + 1 + 1, 0, none⟩) 3 3] 27)) = w5 at *
  clear p0 p1 p2 p3 p4
  generalize w1.heap.size + 1 + 1 + 1 + 1 = n4 at *
  generalize w1.heap.size + 1 + 1 + 1 = n3 at *
  generalize w1.heap.size + 1 + 1 = n2 at *
  generalize w1.heap.size + 1 = n1 at *
  have hV := vtm_L q0 q1 q2 q3
  clear q0 q1 q2 q3
  replace hC := hC.keep hb1
  replace hb := Below.after hb hb1
  have hT5 := Utf8Tabs_below hT hb
  have cE : Calls Tryz.prog 12 #[.pointer (some ⟨g, 0, none⟩), .agg #[.int .u64 0, .slice none 0 0, .slice (some ⟨n3, 0, none⟩) 3 3]] w5 _ := a_EncodeT plo8 okL.2.2.1 _ (xvL n3) vL w5 hT5 hC hV okL.2.2.2.2
  refine cE.mono ?_
  rintro e_ w6 ⟨hE, hb6⟩
  rw [ckL] at hE
  obtain ⟨u, rfl, hU⟩ := hE
  rw [enL] at hU
  obtain ⟨ua, uc, rfl⟩ := slen_own hU
  have hUB := hU.bysB (by decide)
  have hUc := own_capT hU
  have hU12 : bL.length = 12 := rfl
  rw [hU12] at hUB hUc ⊢
  clear hU12
  change BysB w6 (.slice ua 12 uc) bL at hUB
  clear cE
  replace hC := hC.keep hb6
  replace hV := hV.blw hb6
  replace q4 := keep hb6 q4
  replace hT5 := Utf8Tabs_below hT5 hb6
  replace hb := Below.after hb hb6
  clear hb1 hU
  go_wp2_with (fail)
  obtain ⟨_, _, eD, eM⟩ := enc_back utD flD (by have := okL.1; omega) okL.2.1 okL.2.2.2.1 hV.nm (fr := 0) ckL
  rw [enL] at eD eM
  refine (a_DecodeT plo8 bL (.slice ua 12 uc) w6 hT5 hC hUB (fun a l c e => by injection e with e1 e2 e3; omega)).mono ?_
  rintro e_ w7 ⟨hD, hb7⟩
  rw [eD, eM] at hD
  obtain ⟨⟨yn, yda, ydl, ydc, ypa, ypl, ypc⟩, rfl, hY⟩ := hD
  unfold vrv vrw
  clear eD eM
  replace hC := hC.keep hb7
  replace hV := hV.blw hb7
  replace q4 := keep hb7 q4
  replace hT5 := Utf8Tabs_below hT5 hb7
  replace hUB := hUB.keep hb7
  replace hb := Below.after hb hb7
  have hba := (Below.refl w7.heap.size w7).alloc (Nat.le_refl _) (.cells #[.int .u64 (yn : Int), .slice yda ydl ydc, .slice ypa ypl ypc] 27)
  have q6 := hp1_0 w7 (.cells #[.int .u64 (yn : Int), .slice yda ydl ydc, .slice ypa ypl ypc] 27)
  replace hC := hC.keep hba
  replace hV := hV.blw hba
  replace q4 := keep hba q4
  replace hT5 := Utf8Tabs_below hT5 hba
  replace hUB := hUB.keep hba
  replace hb := Below.after hb hba
  replace hY := hY.blw hba
  clear hb7 hba hb6
  have HC := hide hC
  have HV := hide hV
  have HY := hide hY
  have HU := hide hUB
  have HT := hide hT5
  have HB := hide hb
  clear hC hV hY hUB hT5 hb hT
  go_wp2_with (fail)
  generalize w7.alloc (.cells #[.int .u64 (yn : Int), .slice yda ydl ydc, .slice ypa ypl ypc] 27) = w8 at *
  generalize w7.heap.size = n6 at *
  refine (a_DecodeT plo8 (bL.take 6) (.slice ua 6 uc) w8 HT.out HC.out (bysB_take8 HU.out (by decide)) (fun a l c e => by injection e with e1 e2 e3; omega)).mono ?_
  rintro e_ w9 ⟨hD, hb9⟩
  obtain ⟨f6, hf6⟩ := deL6
  rw [hf6] at hD
  obtain ⟨q, rfl, _, _⟩ := hD
  have hC := HC.out.keep hb9
  have hV := HV.out.blw hb9
  have hY := HY.out.blw hb9
  replace q4 := keep hb9 q4
  replace q6 := keep hb9 q6
  have hT5 := Utf8Tabs_below HT.out hb9
  have hUB := HU.out.keep hb9
  have hb := Below.after HB.out hb9
  replace HC := hide hC
  replace HV := hide hV
  replace HY := hide hY
  replace HU := hide hUB
  replace HT := hide hT5
  replace HB := hide hb
  clear hC hV hY hUB hT5 hb
  have hba := (Below.refl w9.heap.size w9).alloc (Nat.le_refl _) (.cells #[.int .u64 0, .slice none 0 0, .slice none 0 0] 27)
  have hC := HC.out.keep hba
  have hV := HV.out.blw hba
  have hY := HY.out.blw hba
  replace q4 := keep hba q4
  replace q6 := keep hba q6
  have hT5 := Utf8Tabs_below HT.out hba
  have hUB := HU.out.keep hba
  have hb := Below.after HB.out hba
  replace HC := hide hC
  replace HV := hide hV
  replace HY := hide hY
  replace HU := hide hUB
  replace HT := hide hT5
  replace HB := hide hb
  clear hC hV hY hUB hT5 hb
  clear hba hb9
  go_wp2_with (fail)
  generalize w9.alloc (.cells #[.int .u64 0, .slice none 0 0, .slice none 0 0] 27) = w10 at *
  have cR := a_RangeT _ HC.out
  rw [prs_L] at cR
  refine cR.mono ?_
  rintro e_ w11 ⟨rfl, hb11⟩
  have hC := HC.out.keep hb11
  have hV := HV.out.blw hb11
  have hY := HY.out.blw hb11
  replace q4 := keep hb11 q4
  replace q6 := keep hb11 q6
  have hT5 := Utf8Tabs_below HT.out hb11
  have hUB := HU.out.keep hb11
  have hb := Below.after HB.out hb11
  replace HC := hide hC
  replace HV := hide hV
  replace HY := hide hY
  replace HU := hide hUB
  replace HT := hide hT5
  replace HB := hide hb
  clear hC hV hY hUB hT5 hb
  clear cR hb11
  have e1 := eqe_nils
  have e2 := neq_fault (.pointer (some ⟨q, 0, none⟩))
  have kX : (convert 23 9 (.slice ua 12 uc)).run Tryz.prog w11 = .ok (.string ⟨#[8, 172, 2, 18, 2, 97, 98, 42, 3, 2, 8, 1]⟩) w11 := conv_byT HU.out.1
  have cS : Calls Tryz.prog 15 #[.agg #[.int .u64 0, .slice none 0 0, .slice (some ⟨n3, 0, none⟩) 3 3], .agg #[.int .u64 (yn : Int), .slice yda ydl ydc, .slice ypa ypl ypc]] w11 _ := a_same HV.out _ ⟨yn, yda, ydl, ydc, ypa, ypl, ypc⟩ vL w11 (Below.refl _ _) HY.out
  rw [show (@decide (vL = vL) (Classical.propDecidable _)) = true by simp] at cS
  go_wp2_with (first | (refine wpList_load_want rfl 27 _ rfl n4 rfl 27 #[.int .u64 0, .slice none 0 0, .slice (some ⟨n3, 0, none⟩) 3 3] (0, 0) _ q4 Tryz.underlying27 rfl infoV ?_) | (refine wpList_load_want rfl 27 _ rfl n6 rfl 27 #[.int .u64 (yn : Int), .slice yda ydl ydc, .slice ypa ypl ypc] (0, 0) _ q6 Tryz.underlying27 rfl infoV ?_) | fail)
  refine cS.mono ?_
  rintro e_ w12 ⟨rfl, hb12⟩
  have hb := Below.after HB.out hb12
  go_wp2_with (fail)
  go_ret
  exact ⟨rfl, hb⟩
 ·exact absurd vld_L hz
end Go.Proofs.YtalgcjkiajojoaaGreatDoor
namespace Go.Proofs.YtalgcjkiajojoaaGreatDoor
set_option maxRecDepth 100000
open Go Go.RowKit Go.Sort
/-! What check and decode find wrong: where, and of what kind. -/
def ckG (f : Flt3) : Prop := (1 ≤ f.line ∧ f.line ≤ 6) ∧ (0 ≤ f.at_ ∧ f.at_ ≤ 536870911) ∧ (f.why = 81 ∨ f.why = 83 ∨ f.why = 84)
theorem wth_or (n l m : Int) : wth n l m = 0 ∨ wth n l m = 83 := by
 unfold wth
 by_cases h : n < l ∨ m < n
 ·rw [if_pos h]; exact .inr rfl
 ·rw [if_neg h]; exact .inl rfl
theorem flD_or (n m : Nat) : flD n m = 0 ∨ flD n m = 83 ∨ flD n m = 84 := by
 unfold flD
 split
 ·exact .inr (.inr rfl)
 split
 ·exact .inr (.inr rfl)
 split
 ·exact .inr (.inr rfl)
 split
 ·exact .inr (.inl rfl)
 ·exact .inl rfl
section
variable (utf : List B → Bool) (flE : Nat → Nat → Int)
theorem plE8_or (hfl : ∀ n m, flE n m = 0 ∨ flE n m = 83 ∨ flE n m = 84) (k : Int) (l m : Nat) (x : VT) : plE8 utf flE k l m x = 0 ∨ plE8 utf flE k l m x = 83 ∨ plE8 utf flE k l m x = 84 := by
 have hw := fun n l m => (wth_or n l m).imp id (fun h : wth n l m = 83 => Or.inl (b := wth n l m = 84) h)
 unfold plE8
 split
 ·exact hw _ _ _
 split
 ·split
  ·exact hw _ _ _
  ·split
   ·exact .inl rfl
   ·exact .inr (.inr rfl)
 split
 ·exact hfl _ _
 split
 ·exact hw _ _ _
 ·exact hw _ _ _
theorem frs_some {f : VT → Option Flt3} : ∀ {xs : List VT} {e : Flt3}, frsT f xs = some e → ∃ p, f p = some e
 | [], e, h => by rw [frsT] at h; cases h
 | x :: xs, e, h => by
  rw [frsT] at h
  cases hx : f x with
  | some y => rw [hx] at h; exact ⟨x, by rw [hx]; exact h⟩
  | none => rw [hx] at h; exact frs_some h
theorem chk_or (hfl : ∀ n m, flE n m = 0 ∨ flE n m = 83 ∨ flE n m = 84) : ∀ (ts : List Slt) (xs : List VT) (prev deep : Int) (f : Flt3), vok ts prev deep → 1 ≤ deep → deep ≤ 6 → chT utf flE ts xs deep = some f → ckG f
 | [], xs, _, _, _, _, _, _, h => by rw [chT_nil] at h; cases h
 | t :: ts, [], _, _, _, _, _, _, h => by cases t; rw [chT] at h; cases h; intros; contradiction
 | .mk no k l m sub :: ts, x :: xs, prev, deep, f, hv, h1, h6, h => by
  rw [vok] at hv
  obtain ⟨⟨⟨_, hn1, hn2⟩, hfit, hsub⟩, hvt⟩ := hv
  rw [chT_cons] at h
  have hm : (k = 8 ∨ k = 9) → ∀ (p : VT) (f : Flt3), ckN sub.length (chT utf flE sub) p (deep + 1) = some f → ckG f := by
   intro hk p f hp
   obtain ⟨_, hd, hvs⟩ := hsub hk
   unfold ckN at hp
   split at hp
   ·injection hp with hp
    subst hp
    exact ⟨⟨by show 1 ≤ deep + 1; omega, hd⟩, ⟨by show (0 : Int) ≤ 0; omega, by show (0 : Int) ≤ 536870911; omega⟩, .inr (.inr rfl)⟩
   split at hp
   ·injection hp with hp
    subst hp
    exact ⟨⟨by show 1 ≤ deep + 1; omega, hd⟩, ⟨by show (0 : Int) ≤ 0; omega, by show (0 : Int) ≤ 536870911; omega⟩, .inl rfl⟩
   ·exact chk_or hfl sub p.parts 0 (deep + 1) f hvs (by omega) hd hp
  cases hs : slT utf flE (.mk no k l m sub) x deep with
  | none => rw [hs] at h; exact chk_or hfl ts xs no deep f hvt h1 h6 h
  | some y =>
   rw [hs] at h
   injection h with h
   subst h
   clear hvt
   replace hs : slN utf flE no k l m sub.length (chT utf flE sub) x deep = some y := hs
   unfold slN at hs
   split at hs
   ·rename_i h8
    exact hm (.inl h8) x y hs
   split at hs
   ·rename_i h9
    split at hs
    ·injection hs with hs
     subst hs
     exact ⟨⟨h1, h6⟩, ⟨by show 0 ≤ no; omega, hn2⟩, .inr (.inr rfl)⟩
    split at hs
    ·rename_i hw
     injection hs with hs
     subst hs
     refine ⟨⟨h1, h6⟩, ⟨by show 0 ≤ no; omega, hn2⟩, .inr (.inl ?_)⟩
     exact (wth_or _ _ _).resolve_left hw
    ·obtain ⟨p, hp⟩ := frs_some hs
     exact hm (.inr h9) p y hp
   ·unfold pck at hs
    split at hs
    ·injection hs with hs
     subst hs
     exact ⟨⟨h1, h6⟩, ⟨by show 0 ≤ no; omega, hn2⟩, .inr (.inr rfl)⟩
    split at hs
    ·cases hs
    ·rename_i hE
     injection hs with hs
     subst hs
     exact ⟨⟨h1, h6⟩, ⟨by show 0 ≤ no; omega, hn2⟩, .inr ((plE8_or utf flE hfl k l m x).resolve_left hE)⟩
theorem ck_or (hfl : ∀ n m, flE n m = 0 ∨ flE n m = 83 ∨ flE n m = 84) {ts : List Slt} {x : VT} {f : Flt3} (hv : vok ts 0 1) (h : ckT utf flE ts x 1 = some f) : ckG f := by
 unfold ckT ckN at h
 split at h
 ·injection h with h
  subst h
  exact ⟨⟨by show (1 : Int) ≤ 1; omega, by show (1 : Int) ≤ 6; omega⟩, ⟨by show (0 : Int) ≤ 0; omega, by show (0 : Int) ≤ 536870911; omega⟩, .inr (.inr rfl)⟩
 split at h
 ·injection h with h
  subst h
  exact ⟨⟨by show (1 : Int) ≤ 1; omega, by show (1 : Int) ≤ 6; omega⟩, ⟨by show (0 : Int) ≤ 0; omega, by show (0 : Int) ≤ 536870911; omega⟩, .inl rfl⟩
 ·exact chk_or utf flE hfl ts _ 0 1 f hv (by omega) (by omega) h
end
/-! decode -/
def deG (a : Int) (n : Nat) (f : Flt3) : Prop := f.line = 0 ∧ (a ≤ f.at_ ∧ f.at_ ≤ a + (n : Int)) ∧ f.why ≠ 0
theorem deG.wide {a b : Int} {n m : Nat} {f : Flt3} (h : deG a n f) (h1 : b ≤ a) (h2 : a + (n : Int) ≤ b + (m : Int)) : deG b m f := by
 obtain ⟨e1, ⟨e2, e3⟩, e4⟩ := h
 exact ⟨e1, ⟨by omega, by omega⟩, e4⟩
section
variable (utf : List B → Bool) (flE : Nat → Nat → Int)
end
end Go.Proofs.YtalgcjkiajojoaaGreatDoor
namespace Go.Proofs.YtalgcjkiajojoaaGreatDoor
set_option maxRecDepth 100000
open Go Go.RowKit Go.Extern.Stop Go.Stop Go.Extern
attribute [local go_sem] setCell_drewN alloc_drewN
/-! errors.Is, where the error is a fault and the target a number. -/
theorem is_typeOf (v : Value) (w : World) : (Extern.ReflectliteType.typeOf #[.iface 32 v]).run Tryz.prog w = .ok (.iface 110 (.agg #[.pointer (some ⟨4, 32, none⟩)])) w := by kernel_rfl
theorem is_comparable (w : World) : ((Extern.ReflectliteType.method fun t => do Go.Extern.Rtype.noPackHeld "Comparable" t; pure (.bool (← typeInfo t).comparable)) #[.agg #[.pointer (some ⟨4, 32, none⟩)]]).run Tryz.prog w = .ok (.bool true) w := by kernel_rfl
theorem is_methodComparable (v : Value) (w : World) : (Go.method 319 110 v "Comparable").run Tryz.prog w = .ok (124, v) w := by kernel_rfl
theorem is_methodUnwrap (v : Value) (w : World) : (Go.method 319 39 v "Unwrap").run Tryz.prog w = .ok (116, v) w := by kernel_rfl
theorem is_noIsF (v : Value) (xT : TypeId) (w : World) : (Instr.typeAssert (.iface 39 v) xT 124 true).run Tryz.prog w = .ok (.tuple #[.nilIface, .bool false]) w := run_typeAssert_lacksB Tryz.underlying124 (by kernel_rfl) (by kernel_rfl) v xT w
theorem is_hasUnwrapF (v : Value) (xT : TypeId) (w : World) : (Instr.typeAssert (.iface 39 v) xT 117 true).run Tryz.prog w = .ok (.tuple #[.iface 39 v, .bool true]) w := run_typeAssert_hasB Tryz.underlying117 (by kernel_rfl) v xT w
theorem is_noIsN (v : Value) (xT : TypeId) (w : World) : (Instr.typeAssert (.iface 32 v) xT 124 true).run Tryz.prog w = .ok (.tuple #[.nilIface, .bool false]) w := run_typeAssert_lacksB Tryz.underlying124 (by kernel_rfl) (by kernel_rfl) v xT w
theorem is_noUnwrapN (v : Value) (xT : TypeId) (w : World) : (Instr.typeAssert (.iface 32 v) xT 117 true).run Tryz.prog w = .ok (.tuple #[.nilIface, .bool false]) w := run_typeAssert_lacksB Tryz.underlying117 (by kernel_rfl) (by kernel_rfl) v xT w
theorem is_noUnwrapsN (v : Value) (xT : TypeId) (w : World) : (Instr.typeAssert (.iface 32 v) xT 119 true).run Tryz.prog w = .ok (.tuple #[.nilIface, .bool false]) w := run_typeAssert_lacksB Tryz.underlying119 (by kernel_rfl) (by kernel_rfl) v xT w
theorem is_eqNilN (n : Int) (w : World) : (binOp .eql 36 (.iface 32 (.int .i64 n)) .nilIface).run Tryz.prog w = .ok (.bool false) w := by kernel_rfl
theorem is_eqNilF (v : Value) (w : World) : (binOp .eql 36 (.iface 39 v) .nilIface).run Tryz.prog w = .ok (.bool false) w := by kernel_rfl
theorem is_eqN (a b : Int) (w : World) : (binOp .eql 36 (.iface 32 (.int .i64 a)) (.iface 32 (.int .i64 b))).run Tryz.prog w = .ok (.bool (a == b)) w := Lib.run_eql_iface_int w a b Tryz.underlying36 (by kernel_rfl) Tryz.underlying32
theorem is_eqFN (v u : Value) (w : World) : (binOp .eql 36 (.iface 39 v) (.iface 32 u)).run Tryz.prog w = .ok (.bool false) w := run_eql_iface_types (P := Tryz.prog) 39 32 v u Tryz.underlying36 (by decide) w
set_option maxRecDepth 100000 in
set_option maxHeartbeats 8000000 in
theorem is_fault (g : Nat) (x : Flt3) (y : Int) (w : World) (h : w.heap[g]? = some (.cells (frw x) 43 (0, 0))) : Calls Tryz.prog 13 #[.iface 39 (.pointer (some ⟨g, 0, none⟩)), .iface 32 (.int .i64 y)] w fun e w' => e = .returned (.bool (x.why == y)) ∧ w' = w := by
 have hc : w.cell? ⟨g, 2, none⟩ = some (.int .i64 x.why) := by rw [cell_of_row _ _ _ _ _ _ h]; rfl
 have h8 := @run_callFunc_extern Tryz.prog 31 _ Extern.ReflectliteType.typeOf Tryz.func31 (by kernel_rfl) (by kernel_rfl) (by kernel_rfl) (by kernel_rfl)
 have h32 := @run_callFunc_extern Tryz.prog 124 _ (Extern.ReflectliteType.method fun t => do Go.Extern.Rtype.noPackHeld "Comparable" t; pure (.bool (← typeInfo t).comparable)) Tryz.func124 (by kernel_rfl) (by kernel_rfl) (by kernel_rfl) (by kernel_rfl)
 have cT : ∀ w, (callFunc 124 #[.agg #[.pointer (some ⟨4, 32, none⟩)]]).run Tryz.prog w = .ok (.value (.bool true)) w := fun w => by rw [h32, is_comparable]; rfl
 have tT := is_typeOf
 clear h32
 have mR := is_methodComparable
 have mU := is_methodUnwrap
 have n1 := is_noIsF
 have n2 := is_hasUnwrapF
 have n3 := is_noIsN
 have n4 := is_noUnwrapN
 have n5 := is_noUnwrapsN
 have q1 := is_eqNilN
 have q2 := is_eqNilF
 have q3 := is_eqN
 have q4 := is_eqFN
 generalize x.why = z at *
 rcases hzy : (z == y)
 ·go_enter Tryz.func13, Tryz.ntmps13
  go_wp2
  refine wp_loop_rounds 2 ?_
  rw [rounds_succ]
  go_wp2
  rw [rounds_succ]
  go_wp2
  go_ret
  exact ⟨rfl, rfl⟩
 ·go_enter Tryz.func13, Tryz.ntmps13
  go_wp2
  refine wp_loop_rounds 2 ?_
  rw [rounds_succ]
  go_wp2
  rw [rounds_succ]
  go_wp2
  go_ret
  exact ⟨rfl, rfl⟩
end Go.Proofs.YtalgcjkiajojoaaGreatDoor
namespace Go.Proofs.YtalgcjkiajojoaaGreatDoor
set_option maxRecDepth 100000
open Go Go.RowKit Go.Sort
attribute [local go_sem] setCell_drewN alloc_drewN
set_option maxRecDepth 100000 in
set_option maxHeartbeats 16000000 in
theorem reasons_any {v : Value} {ts : List Slt} {x : VR} {X : VT} (W : World) (hT : Lib.Utf8Tabs 2 3 W) (hS : Slo W v ts) (hX : VtM W (fun _ => True) x X) : Calls Tryz.prog 4 #[v, .agg (vrv x)] W fun e W' => e = .returned (.bool true) ∧ Below W.heap.size W W' := by
 obtain ⟨ao, cap, rfl⟩ := hS.form
 have hck := fun F (hv : vok ts 0 1) (h : ckT utD flD ts X 1 = some F) => ck_or utD flD flD_or hv h
 replace hck := hide hck
 obtain ⟨xn, xda, xdl, xdc, xpa, xpl, xpc⟩ := x
 unfold vrv vrw
 have hb := (Below.refl W.heap.size W).alloc (Nat.le_refl _) (.cells #[.int .u64 (xn : Int), .slice xda xdl xdc, .slice xpa xpl xpc] 27)
 have rV := hp1_0 W (.cells #[.int .u64 (xn : Int), .slice xda xdl xdc, .slice xpa xpl xpc] 27)
 replace hT := Utf8Tabs_below hT hb
 replace hS := hS.keep hb
 replace hX := hX.blw hb
 go_enter Tryz.func4, Tryz.ntmps4
 go_wp2_with (fail)
 generalize W.alloc (.cells #[.int .u64 (xn : Int), .slice xda xdl xdc, .slice xpa xpl xpc] 27) = w0 at *
 refine (l_lives8 _ hT).mono ?_
 rintro e_ w1 ⟨rfl, hb1⟩
 replace hT := Utf8Tabs_below hT hb1
 replace hS := hS.keep hb1
 replace hX := hX.blw hb1
 replace rV := keep hb1 rV
 replace hb := Below.after hb hb1
 clear hb1
 go_wp2_with (first | (refine wpList_load_want rfl 27 _ rfl W.heap.size rfl 27 #[.int .u64 (xn : Int), .slice xda xdl xdc, .slice xpa xpl xpc] (0, 0) _ rV Tryz.underlying27 rfl infoV ?_) | fail)
 have cBs := l_bigSlots hS
 generalize decide (slL ts 10000 < 0) = bs at *
 refine (cBs).mono ?_
 rintro e_ w2 ⟨rfl, hb2⟩
 replace hT := Utf8Tabs_below hT hb2
 replace hS := hS.keep hb2
 replace hX := hX.blw hb2
 replace rV := keep hb2 rV
 replace hb := Below.after hb hb2
 clear hb2
 clear cBs
 cases bs
 rotate_left
 ·go_wp2_with (first | (refine wpList_load_want rfl 27 _ rfl W.heap.size rfl 27 #[.int .u64 (xn : Int), .slice xda xdl xdc, .slice xpa xpl xpc] (0, 0) _ rV Tryz.underlying27 rfl infoV ?_) | fail)
  refine (l_lives8 _ hT).mono ?_
  rintro e_ w3 ⟨rfl, hb3⟩
  replace hT := Utf8Tabs_below hT hb3
  replace hS := hS.keep hb3
  replace hX := hX.blw hb3
  replace rV := keep hb3 rV
  replace hb := Below.after hb hb3
  clear hb3
  go_wp2_with (first | (refine wpList_load_want rfl 27 _ rfl W.heap.size rfl 27 #[.int .u64 (xn : Int), .slice xda xdl xdc, .slice xpa xpl xpc] (0, 0) _ rV Tryz.underlying27 rfl infoV ?_) | fail)
  go_ret
  exact ⟨rfl, hb⟩
 go_wp2_with (first | (refine wpList_load_want rfl 27 _ rfl W.heap.size rfl 27 #[.int .u64 (xn : Int), .slice xda xdl xdc, .slice xpa xpl xpc] (0, 0) _ rV Tryz.underlying27 rfl infoV ?_) | fail)
 have cBv := a_bigValue _ hX
 generalize bgV X = bv at *
 unfold vrv vrw at cBv
 refine (cBv).mono ?_
 rintro e_ w3 ⟨rfl, hb3⟩
 replace hT := Utf8Tabs_below hT hb3
 replace hS := hS.keep hb3
 replace hX := hX.blw hb3
 replace rV := keep hb3 rV
 replace hb := Below.after hb hb3
 clear hb3
 clear cBv
 cases bv
 rotate_left
 ·go_wp2_with (first | (refine wpList_load_want rfl 27 _ rfl W.heap.size rfl 27 #[.int .u64 (xn : Int), .slice xda xdl xdc, .slice xpa xpl xpc] (0, 0) _ rV Tryz.underlying27 rfl infoV ?_) | fail)
  refine (l_lives8 _ hT).mono ?_
  rintro e_ w4 ⟨rfl, hb4⟩
  replace hT := Utf8Tabs_below hT hb4
  replace hS := hS.keep hb4
  replace hX := hX.blw hb4
  replace rV := keep hb4 rV
  replace hb := Below.after hb hb4
  clear hb4
  go_wp2_with (first | (refine wpList_load_want rfl 27 _ rfl W.heap.size rfl 27 #[.int .u64 (xn : Int), .slice xda xdl xdc, .slice xpa xpl xpc] (0, 0) _ rV Tryz.underlying27 rfl infoV ?_) | fail)
  go_ret
  exact ⟨rfl, hb⟩
 go_wp2_with (first | (refine wpList_load_want rfl 27 _ rfl W.heap.size rfl 27 #[.int .u64 (xn : Int), .slice xda xdl xdc, .slice xpa xpl xpc] (0, 0) _ rV Tryz.underlying27 rfl infoV ?_) | fail)
 refine (a_Compile hS _ (Below.refl _ _)).mono ?_
 rintro e_ w4 ⟨hb4, hor⟩
 replace hT := Utf8Tabs_below hT hb4
 replace hS := hS.keep hb4
 replace hX := hX.blw hb4
 replace rV := keep hb4 rV
 replace hb := Below.after hb hb4
 clear hb4
 rcases hor with ⟨hz, g, rfl, _, hC⟩ | ⟨hz, rfl⟩
 rotate_left
 ·have hz2 : (vld ts == 0) = false := by simpa using hz
  generalize vld ts = zz at *
  clear hz
  go_wp2_with (first | (refine wpList_load_want rfl 27 _ rfl W.heap.size rfl 27 #[.int .u64 (xn : Int), .slice xda xdl xdc, .slice xpa xpl xpc] (0, 0) _ rV Tryz.underlying27 rfl infoV ?_) | fail)
  go_ret
  exact ⟨rfl, hb⟩
 have ok := vld_ok hz
 clear hz
 go_wp2_with (first | (refine wpList_load_want rfl 27 _ rfl W.heap.size rfl 27 #[.int .u64 (xn : Int), .slice xda xdl xdc, .slice xpa xpl xpc] (0, 0) _ rV Tryz.underlying27 rfl infoV ?_) | fail)
 have cE := a_EncodeT plo8 ok.2.2.1 _ _ X _ hT hC hX ok.2.2.2.2
 unfold vrv vrw at cE
 obtain ⟨F, hF⟩ : ∃ F, ckT utD flD ts X 1 = F := ⟨_, rfl⟩
 rw [hF] at cE
 refine (cE).mono ?_
 rintro e_ w5 ⟨hE, hb5⟩
 replace hT := Utf8Tabs_below hT hb5
 replace hS := hS.keep hb5
 replace hX := hX.blw hb5
 replace rV := keep hb5 rV
 replace hb := Below.after hb hb5
 replace hC := hC.keep hb5
 clear hb5
 clear cE
 cases F with
 | none =>
  obtain ⟨u, rfl, hU⟩ := hE
  clear hU hck
  go_wp2_with (first | (refine wpList_load_want rfl 27 _ rfl W.heap.size rfl 27 #[.int .u64 (xn : Int), .slice xda xdl xdc, .slice xpa xpl xpc] (0, 0) _ rV Tryz.underlying27 rfl infoV ?_) | fail)
  have cK := a_CheckT plo8 _ _ X _ hT hC hX ok.2.2.2.2
  unfold vrv vrw at cK
  rw [hF] at cK
  refine (cK).mono ?_
  rintro e_ w6 ⟨hK, hb6⟩
  replace hT := Utf8Tabs_below hT hb6
  replace hS := hS.keep hb6
  replace hX := hX.blw hb6
  replace rV := keep hb6 rV
  replace hb := Below.after hb hb6
  replace hC := hC.keep hb6
  clear hb6
  obtain rfl : e_ = .returned .nilIface := hK
  have e1 := eqe_nils
  clear cK
  go_wp2_with (first | (refine wpList_load_want rfl 27 _ rfl W.heap.size rfl 27 #[.int .u64 (xn : Int), .slice xda xdl xdc, .slice xpa xpl xpc] (0, 0) _ rV Tryz.underlying27 rfl infoV ?_) | fail)
  go_ret
  exact ⟨rfl, hb⟩
 | some f =>
  obtain ⟨q, rfl, _, hq⟩ := hE
  obtain ⟨_, _, g5⟩ := hck.out _ ok.2.1 hF
  clear hck
  go_wp2_with (first | (refine wpList_load_want rfl 27 _ rfl W.heap.size rfl 27 #[.int .u64 (xn : Int), .slice xda xdl xdc, .slice xpa xpl xpc] (0, 0) _ rV Tryz.underlying27 rfl infoV ?_) | fail)
  have cK := a_CheckT plo8 _ _ X _ hT hC hX ok.2.2.2.2
  unfold vrv vrw at cK
  rw [hF] at cK
  refine (cK).mono ?_
  rintro e_ w6 ⟨hK, hb6⟩
  replace hT := Utf8Tabs_below hT hb6
  replace hS := hS.keep hb6
  replace hX := hX.blw hb6
  replace rV := keep hb6 rV
  replace hb := Below.after hb hb6
  replace hC := hC.keep hb6
  replace hq := keep hb6 hq
  clear hb6
  obtain ⟨q2, rfl, _, hq2⟩ := hK
  clear cK hF hT hS hX hC ok rV
  have e1 := eqe_fault (.pointer (some ⟨q, 0, none⟩))
  have e2 := eqe_fault (.pointer (some ⟨q2, 0, none⟩))
  have hba := (Below.refl w6.heap.size w6).alloc (Nat.le_refl _) (.cells #[.int .i64 81, .int .i64 83, .int .i64 84] 48)
  have rA := hp1_0 w6 (.cells #[.int .i64 81, .int .i64 83, .int .i64 84] 48)
  have a0 : (w6.alloc (.cells #[.int .i64 81, .int .i64 83, .int .i64 84] 48)).cell? ⟨w6.heap.size, 0, none⟩ = some (.int .i64 81) := by rw [cell_of_row _ _ _ _ _ _ rA]; rfl
  have a1 : (w6.alloc (.cells #[.int .i64 81, .int .i64 83, .int .i64 84] 48)).cell? ⟨w6.heap.size, 1, none⟩ = some (.int .i64 83) := by rw [cell_of_row _ _ _ _ _ _ rA]; rfl
  have a2 : (w6.alloc (.cells #[.int .i64 81, .int .i64 83, .int .i64 84] 48)).cell? ⟨w6.heap.size, 2, none⟩ = some (.int .i64 84) := by rw [cell_of_row _ _ _ _ _ _ rA]; rfl
  replace hq := keep hba hq
  replace hq2 := keep hba hq2
  replace hb := Below.after hb hba
  clear hba rA
  go_wp2_with (fail)
  generalize w6.alloc (.cells #[.int .i64 81, .int .i64 83, .int .i64 84] 48) = wa at *
  generalize w6.heap.size = ga at *
  have i1 := fun (y : Int) (w : World) (h : w.heap[q]? = some (.cells (frw f) 43 (0, 0))) => is_fault q f y w h
  have i2 := fun (y : Int) (w : World) (h : w.heap[q2]? = some (.cells (frw f) 43 (0, 0))) => is_fault q2 f y w h
  obtain ⟨y1, y2, y3⟩ := f
  simp only at g5 i1 i2
  rcases g5 with rfl | rfl | rfl
  ·refine wp_loop_rounds 4 ?_
   rw [rounds_succ]
   go_wp2_with (fail)
   refine (i1 81 _ hq).mono ?_
   rintro e_ w_ ⟨rfl, rfl⟩
   go_wp2_with (fail)
   have j1 := fun n => i1 81 (w_.drewN n) hq
   have j2 := fun n => i2 81 (w_.drewN n) hq2
   go_big_quiet (first | (with_reducible refine Calls.quiet_of_same (j1 _)) | (with_reducible refine Calls.quiet_of_same (j2 _)))
   clear j1 j2
   have hbd := below_drewN8 (Below.refl w_.heap.size w_) nq
   replace hq := keep hbd hq
   replace hq2 := keep hbd hq2
   replace hb := Below.after hb hbd
   replace a0 : (w_.drewN nq).cell? ⟨ga, 0, none⟩ = some (.int .i64 81) := a0
   replace a1 : (w_.drewN nq).cell? ⟨ga, 1, none⟩ = some (.int .i64 83) := a1
   replace a2 : (w_.drewN nq).cell? ⟨ga, 2, none⟩ = some (.int .i64 84) := a2
   clear hbd
   generalize w_.drewN nq = wn0 at *
   go_wp2_with (fail)
   rw [rounds_succ]
   go_wp2_with (fail)
   refine (i1 83 _ hq).mono ?_
   rintro e_ w_ ⟨rfl, rfl⟩
   go_wp2_with (fail)
   have j1 := fun n => i1 83 (w_.drewN n) hq
   have j2 := fun n => i2 83 (w_.drewN n) hq2
   go_big_quiet (first | (with_reducible refine Calls.quiet_of_same (j1 _)) | (with_reducible refine Calls.quiet_of_same (j2 _)))
   clear j1 j2
   have hbd := below_drewN8 (Below.refl w_.heap.size w_) nq
   replace hq := keep hbd hq
   replace hq2 := keep hbd hq2
   replace hb := Below.after hb hbd
   replace a0 : (w_.drewN nq).cell? ⟨ga, 0, none⟩ = some (.int .i64 81) := a0
   replace a1 : (w_.drewN nq).cell? ⟨ga, 1, none⟩ = some (.int .i64 83) := a1
   replace a2 : (w_.drewN nq).cell? ⟨ga, 2, none⟩ = some (.int .i64 84) := a2
   clear hbd
   generalize w_.drewN nq = wn1 at *
   go_wp2_with (fail)
   rw [rounds_succ]
   go_wp2_with (fail)
   refine (i1 84 _ hq).mono ?_
   rintro e_ w_ ⟨rfl, rfl⟩
   go_wp2_with (fail)
   have j1 := fun n => i1 84 (w_.drewN n) hq
   have j2 := fun n => i2 84 (w_.drewN n) hq2
   go_big_quiet (first | (with_reducible refine Calls.quiet_of_same (j1 _)) | (with_reducible refine Calls.quiet_of_same (j2 _)))
   clear j1 j2
   have hbd := below_drewN8 (Below.refl w_.heap.size w_) nq
   replace hq := keep hbd hq
   replace hq2 := keep hbd hq2
   replace hb := Below.after hb hbd
   replace a0 : (w_.drewN nq).cell? ⟨ga, 0, none⟩ = some (.int .i64 81) := a0
   replace a1 : (w_.drewN nq).cell? ⟨ga, 1, none⟩ = some (.int .i64 83) := a1
   replace a2 : (w_.drewN nq).cell? ⟨ga, 2, none⟩ = some (.int .i64 84) := a2
   clear hbd
   generalize w_.drewN nq = wn2 at *
   go_wp2_with (fail)
   rw [rounds_succ]
   go_wp2_with (fail)
   refine (i1 0 _ hq).mono ?_
   rintro e_ w_ ⟨rfl, rfl⟩
   go_wp2_with (fail)
   go_ret
   exact ⟨rfl, hb⟩
  ·refine wp_loop_rounds 4 ?_
   rw [rounds_succ]
   go_wp2_with (fail)
   refine (i1 81 _ hq).mono ?_
   rintro e_ w_ ⟨rfl, rfl⟩
   go_wp2_with (fail)
   have j1 := fun n => i1 81 (w_.drewN n) hq
   have j2 := fun n => i2 81 (w_.drewN n) hq2
   go_big_quiet (first | (with_reducible refine Calls.quiet_of_same (j1 _)) | (with_reducible refine Calls.quiet_of_same (j2 _)))
   clear j1 j2
   have hbd := below_drewN8 (Below.refl w_.heap.size w_) nq
   replace hq := keep hbd hq
   replace hq2 := keep hbd hq2
   replace hb := Below.after hb hbd
   replace a0 : (w_.drewN nq).cell? ⟨ga, 0, none⟩ = some (.int .i64 81) := a0
   replace a1 : (w_.drewN nq).cell? ⟨ga, 1, none⟩ = some (.int .i64 83) := a1
   replace a2 : (w_.drewN nq).cell? ⟨ga, 2, none⟩ = some (.int .i64 84) := a2
   clear hbd
   generalize w_.drewN nq = wn0 at *
   go_wp2_with (fail)
   rw [rounds_succ]
   go_wp2_with (fail)
   refine (i1 83 _ hq).mono ?_
   rintro e_ w_ ⟨rfl, rfl⟩
   go_wp2_with (fail)
   have j1 := fun n => i1 83 (w_.drewN n) hq
   have j2 := fun n => i2 83 (w_.drewN n) hq2
   go_big_quiet (first | (with_reducible refine Calls.quiet_of_same (j1 _)) | (with_reducible refine Calls.quiet_of_same (j2 _)))
   clear j1 j2
   have hbd := below_drewN8 (Below.refl w_.heap.size w_) nq
   replace hq := keep hbd hq
   replace hq2 := keep hbd hq2
   replace hb := Below.after hb hbd
   replace a0 : (w_.drewN nq).cell? ⟨ga, 0, none⟩ = some (.int .i64 81) := a0
   replace a1 : (w_.drewN nq).cell? ⟨ga, 1, none⟩ = some (.int .i64 83) := a1
   replace a2 : (w_.drewN nq).cell? ⟨ga, 2, none⟩ = some (.int .i64 84) := a2
   clear hbd
   generalize w_.drewN nq = wn1 at *
   go_wp2_with (fail)
   rw [rounds_succ]
   go_wp2_with (fail)
   refine (i1 84 _ hq).mono ?_
   rintro e_ w_ ⟨rfl, rfl⟩
   go_wp2_with (fail)
   have j1 := fun n => i1 84 (w_.drewN n) hq
   have j2 := fun n => i2 84 (w_.drewN n) hq2
   go_big_quiet (first | (with_reducible refine Calls.quiet_of_same (j1 _)) | (with_reducible refine Calls.quiet_of_same (j2 _)))
   clear j1 j2
   have hbd := below_drewN8 (Below.refl w_.heap.size w_) nq
   replace hq := keep hbd hq
   replace hq2 := keep hbd hq2
   replace hb := Below.after hb hbd
   replace a0 : (w_.drewN nq).cell? ⟨ga, 0, none⟩ = some (.int .i64 81) := a0
   replace a1 : (w_.drewN nq).cell? ⟨ga, 1, none⟩ = some (.int .i64 83) := a1
   replace a2 : (w_.drewN nq).cell? ⟨ga, 2, none⟩ = some (.int .i64 84) := a2
   clear hbd
   generalize w_.drewN nq = wn2 at *
   go_wp2_with (fail)
   rw [rounds_succ]
   go_wp2_with (fail)
   refine (i1 0 _ hq).mono ?_
   rintro e_ w_ ⟨rfl, rfl⟩
   go_wp2_with (fail)
   go_ret
   exact ⟨rfl, hb⟩
  ·refine wp_loop_rounds 4 ?_
   rw [rounds_succ]
   go_wp2_with (fail)
   refine (i1 81 _ hq).mono ?_
   rintro e_ w_ ⟨rfl, rfl⟩
   go_wp2_with (fail)
   have j1 := fun n => i1 81 (w_.drewN n) hq
   have j2 := fun n => i2 81 (w_.drewN n) hq2
   go_big_quiet (first | (with_reducible refine Calls.quiet_of_same (j1 _)) | (with_reducible refine Calls.quiet_of_same (j2 _)))
   clear j1 j2
   have hbd := below_drewN8 (Below.refl w_.heap.size w_) nq
   replace hq := keep hbd hq
   replace hq2 := keep hbd hq2
   replace hb := Below.after hb hbd
   replace a0 : (w_.drewN nq).cell? ⟨ga, 0, none⟩ = some (.int .i64 81) := a0
   replace a1 : (w_.drewN nq).cell? ⟨ga, 1, none⟩ = some (.int .i64 83) := a1
   replace a2 : (w_.drewN nq).cell? ⟨ga, 2, none⟩ = some (.int .i64 84) := a2
   clear hbd
   generalize w_.drewN nq = wn0 at *
   go_wp2_with (fail)
   rw [rounds_succ]
   go_wp2_with (fail)
   refine (i1 83 _ hq).mono ?_
   rintro e_ w_ ⟨rfl, rfl⟩
   go_wp2_with (fail)
   have j1 := fun n => i1 83 (w_.drewN n) hq
   have j2 := fun n => i2 83 (w_.drewN n) hq2
   go_big_quiet (first | (with_reducible refine Calls.quiet_of_same (j1 _)) | (with_reducible refine Calls.quiet_of_same (j2 _)))
   clear j1 j2
   have hbd := below_drewN8 (Below.refl w_.heap.size w_) nq
   replace hq := keep hbd hq
   replace hq2 := keep hbd hq2
   replace hb := Below.after hb hbd
   replace a0 : (w_.drewN nq).cell? ⟨ga, 0, none⟩ = some (.int .i64 81) := a0
   replace a1 : (w_.drewN nq).cell? ⟨ga, 1, none⟩ = some (.int .i64 83) := a1
   replace a2 : (w_.drewN nq).cell? ⟨ga, 2, none⟩ = some (.int .i64 84) := a2
   clear hbd
   generalize w_.drewN nq = wn1 at *
   go_wp2_with (fail)
   rw [rounds_succ]
   go_wp2_with (fail)
   refine (i1 84 _ hq).mono ?_
   rintro e_ w_ ⟨rfl, rfl⟩
   go_wp2_with (fail)
   have j1 := fun n => i1 84 (w_.drewN n) hq
   have j2 := fun n => i2 84 (w_.drewN n) hq2
   go_big_quiet (first | (with_reducible refine Calls.quiet_of_same (j1 _)) | (with_reducible refine Calls.quiet_of_same (j2 _)))
   clear j1 j2
   have hbd := below_drewN8 (Below.refl w_.heap.size w_) nq
   replace hq := keep hbd hq
   replace hq2 := keep hbd hq2
   replace hb := Below.after hb hbd
   replace a0 : (w_.drewN nq).cell? ⟨ga, 0, none⟩ = some (.int .i64 81) := a0
   replace a1 : (w_.drewN nq).cell? ⟨ga, 1, none⟩ = some (.int .i64 83) := a1
   replace a2 : (w_.drewN nq).cell? ⟨ga, 2, none⟩ = some (.int .i64 84) := a2
   clear hbd
   generalize w_.drewN nq = wn2 at *
   go_wp2_with (fail)
   rw [rounds_succ]
   go_wp2_with (fail)
   refine (i1 0 _ hq).mono ?_
   rintro e_ w_ ⟨rfl, rfl⟩
   go_wp2_with (fail)
   go_ret
   exact ⟨rfl, hb⟩
end Go.Proofs.YtalgcjkiajojoaaGreatDoor
namespace Go.Proofs.YtalgcjkiajojoaaGreatDoor
set_option maxRecDepth 100000
open Go Go.RowKit Go.Sort
attribute [local go_sem] setCell_drewN alloc_drewN
def hzr : List Value := [.int .i64 0, .int .i64 0, .int .u64 0, .int .u64 0, .slice none 0 0]
def hmk : List Value := [.int .i64 (-77), .int .i64 0, .int .u64 0, .int .u64 0, .slice none 0 0]
inductive HSl (W : World) (S : Nat → Prop) : Value → List Slt → Prop
 | mk (G : Nat) (ts : List Slt) (us : List Value) (hl : ts.length ≤ 10000) (hG : G < W.heap.size) (hS : S G)
  (h : ∀ i, i < ts.length → W.rangeAt G (i * 5) (srow (gs ts i) (gvs us i)) ∧ Sok (gs ts i))
  (hm : ∀ i, ts.length ≤ i → i < ts.length + 3 → W.rangeAt G (i * 5) hmk)
  (hs : ∀ i, i < ts.length → HSl W S (gvs us i) (gs ts i).sub) : HSl W S (.slice (some ⟨G, 0, none⟩) ts.length (ts.length + 3)) ts
theorem HSl.keep {W V : World} {S T : Nat → Prop} {v : Value} {ts : List Slt} (h : HSl W S v ts) (hs : W.heap.size ≤ V.heap.size) (hb : ∀ b, b < W.heap.size → S b → V.heap[b]? = W.heap[b]? ∧ T b) : HSl V T v ts := by
 induction h with
 | mk G ts us hl hG hS h hm _ ih =>
  exact .mk G ts us hl (by omega) (hb G hG hS).2 (fun i hi => ⟨range_same (h i hi).1 (hb G hG hS).1, (h i hi).2⟩) (fun i h1 h2 => range_same (hm i h1 h2) (hb G hG hS).1) ih
theorem HSl.form {W : World} {S : Nat → Prop} {v : Value} {ts : List Slt} (h : HSl W S v ts) : ∃ G, v = .slice (some ⟨G, 0, none⟩) ts.length (ts.length + 3) ∧ S G := by
 cases h with
 | mk G _ us hl hG hS h hm hs => exact ⟨G, rfl, hS⟩
def hrow (ts : List Slt) (us : List Value) (k i : Nat) : List Value := if i < k then (if i < ts.length then srow (gs ts i) (gvs us i) else hmk) else hzr
def Hrw (W : World) (G : Nat) (ts : List Slt) (us : List Value) (k : Nat) : Prop := ∃ cs, W.heap[G]? = some (.cells cs 52 (0, 0)) ∧ cs.size = (ts.length + 3) * 5 ∧ ∀ i c, i < ts.length + 3 → c < 5 → cs[i * 5 + c]? = (hrow ts us k i)[c]?
theorem Hrw.keep {W V : World} {G : Nat} {ts : List Slt} {us : List Value} {k : Nat} (h : Hrw W G ts us k) (hb : V.heap[G]? = W.heap[G]?) : Hrw V G ts us k := by
 obtain ⟨cs, h1, h2⟩ := h
 exact ⟨cs, hb.trans h1, h2⟩
theorem Hrw.range {W : World} {G : Nat} {ts : List Slt} {us : List Value} {k i : Nat} (h : Hrw W G ts us k) (hi : i < ts.length + 3) (hl : (hrow ts us k i).length = 5) : W.rangeAt G (i * 5) (hrow ts us k i) := by
 obtain ⟨cs, h1, h2, h3⟩ := h
 intro j v hv
 have hj := (List.getElem?_eq_some_iff.1 hv).1
 rw [cell_of_row _ _ _ _ _ _ h1, h3 i j hi (by omega)]
 exact hv
theorem Hrw.mark {W : World} {G : Nat} {ts : List Slt} {us : List Value} {k : Nat} (h : Hrw W G ts us k) (hk : ts.length ≤ k) (hk3 : k < ts.length + 3) : Hrw (W.setCell ⟨G, k * 5, none⟩ (.int .i64 (-77))) G ts us (k + 1) := by
 obtain ⟨cs, h1, h2, h3⟩ := h
 refine ⟨_, heap_setCell_same W G (k * 5) cs _ _ h1, by simp [h2], fun i c hi hc => ?_⟩
 rw [Array.getElem?_setIfInBounds]
 by_cases e : k * 5 = i * 5 + c
 ·have e1 : i = k := by omega
  have e2 : c = 0 := by omega
  subst e1 e2
  rw [if_pos e, if_pos (by omega)]
  unfold hrow
  rw [if_pos (by omega), if_neg (by omega)]; rfl
 ·rw [if_neg e, h3 i c hi hc]
  by_cases e1 : i = k
  ·subst e1
   have c0 : c ≠ 0 := by omega
   unfold hrow
   rw [if_neg (by omega), if_pos (by omega), if_neg (by omega)]
   rcases (by omega : c = 1 ∨ c = 2 ∨ c = 3 ∨ c = 4) with rfl | rfl | rfl | rfl <;> rfl
  ·unfold hrow
   by_cases e2 : i < k
   ·rw [if_pos e2, if_pos (show i < k + 1 by omega)]
   ·rw [if_neg e2, if_neg (show ¬ i < k + 1 by omega)]
theorem Hrw.slot {W V : World} {G : Nat} {ts : List Slt} {us : List Value} {k : Nat} {u v : Value} (h : Hrw W G ts us k) (hk : k < ts.length) (hu : us.length = k) (hV : V.heap[G]? = ((W.setCell ⟨G, k * 5, none⟩ (.int .i64 (-77))).setCells G (k * 5) (srow (gs ts k) u)).heap[G]?) : Hrw (V.setCell ⟨G, k * 5 + 4, none⟩ v) G ts (us ++ [v]) (k + 1) := by
 obtain ⟨cs, h1, h2, h3⟩ := h
 have s1 := heap_setCell_same W G (k * 5) cs _ (.int .i64 (-77)) h1
 have s2 : ((W.setCell ⟨G, k * 5, none⟩ (.int .i64 (-77))).setCells G (k * 5) (srow (gs ts k) u)).heap[G]? = _ :=
  heap_setCell_same _ G (k * 5 + 1 + 1 + 1 + 1) _ _ u (heap_setCell_same _ G (k * 5 + 1 + 1 + 1) _ _ (.int .u64 ((gs ts k).most : Int)) (heap_setCell_same _ G (k * 5 + 1 + 1) _ _ (.int .u64 ((gs ts k).least : Int)) (heap_setCell_same _ G (k * 5 + 1) _ _ (.int .i64 (gs ts k).kind) (heap_setCell_same _ G (k * 5) _ _ (.int .i64 (gs ts k).no) s1))))
 refine ⟨_, heap_setCell_same V G (k * 5 + 4) _ _ v (hV.trans s2), by simp [h2], fun i c hi hc => ?_⟩
 simp only [Array.getElem?_setIfInBounds, Array.size_setIfInBounds]
 by_cases e1 : i = k
 ·subst e1
  have e3 : hrow ts (us ++ [v]) (i + 1) i = srow (gs ts i) v := by
   unfold hrow; rw [if_pos (by omega), if_pos hk, gvs_top _ _ _ hu]
  rw [e3]
  have hb : i * 5 + c < cs.size := by omega
  rcases (by omega : c = 0 ∨ c = 1 ∨ c = 2 ∨ c = 3 ∨ c = 4) with rfl | rfl | rfl | rfl | rfl
  ·rw [if_neg (by omega), if_neg (by omega), if_neg (by omega), if_neg (by omega), if_neg (by omega), if_pos (by omega), if_pos (by omega)]; rfl
  ·rw [if_neg (by omega), if_neg (by omega), if_neg (by omega), if_neg (by omega), if_pos (by omega), if_pos (by omega)]; rfl
  ·rw [if_neg (by omega), if_neg (by omega), if_neg (by omega), if_pos (by omega), if_pos (by omega)]; rfl
  ·rw [if_neg (by omega), if_neg (by omega), if_pos (by omega), if_pos (by omega)]; rfl
  ·rw [if_pos (by omega), if_pos (by omega)]; rfl
 ·rw [if_neg (by omega), if_neg (by omega), if_neg (by omega), if_neg (by omega), if_neg (by omega), if_neg (by omega), if_neg (by omega), h3 i c hi hc]
  unfold hrow
  by_cases e2 : i < k
  ·rw [if_pos e2, if_pos (by omega), if_pos (by omega), if_pos (by omega), gvs_low _ _ _ (by omega)]
  ·rw [if_neg e2, if_neg (by omega)]
end Go.Proofs.YtalgcjkiajojoaaGreatDoor
namespace Go.Proofs.YtalgcjkiajojoaaGreatDoor
set_option maxRecDepth 100000
open Go Go.RowKit Go.Sort
attribute [local go_sem] setCell_drewN alloc_drewN
end Go.Proofs.YtalgcjkiajojoaaGreatDoor

