import Derived.Test.YtalgcjkiajojoaaGreatDoorQbKts
import Derived.Test.YtalgcjkiajojoaaGreatDoorQbKtv
import Derived.Lib.SlBytesConst
import Derived.Test.YtalgcjkiajojoaaGreatDoorProg
import Derived.WalkKit
import Derived.LaidEql
import Derived.Stop.Asserts
import Derived.RowKitTokens
import Derived.Test.YtalgcjkiajojoaaGreatDoorQbWr
import Derived.OwnWalk
import Derived.Deep.Cut
import Derived.Deep.RegionHeld3
import Derived.WalkSpells
import Derived.WalkLawsBesides
import Derived.Lib.QuietBelow
import Derived.BigQuiet
import Derived.OrdersHeld
import Derived.Test.YtalgcjkiajojoaaGreatDoorQbOpen
import Derived.Test.YtalgcjkiajojoaaGreatDoorQbXdb
import Derived.Deep.Slices
import Derived.ChangeSlices
import Derived.SizedLaws
namespace Go.Proofs.YtalgcjkiajojoaaGreatDoor
set_option maxRecDepth 100000
open Go Go.RowKit Go.Sort
attribute [local go_sem] setCell_drewN alloc_drewN
theorem slo_L (w : World) : Slo ((w.alloc (.cells #[.int .i64 1, .int .i64 4, .int .u64 0, .int .u64 0, .slice none 0 0] 52)).alloc (.cells #[.int .i64 1, .int .i64 1, .int .u64 1, .int .u64 300, .slice none 0 0, .int .i64 2, .int .i64 6, .int .u64 0, .int .u64 10, .slice none 0 0, .int .i64 5, .int .i64 9, .int .u64 0, .int .u64 2, .slice (some ⟨w.heap.size, 0, none⟩) 1 1] 52)) (.slice (some ⟨w.heap.size + 1, 0, none⟩) 3 3) tsL := by
 have r1 := hp1_0 w (.cells #[.int .i64 1, .int .i64 4, .int .u64 0, .int .u64 0, .slice none 0 0] 52)
 have r3 := hp1_0 (w.alloc (.cells #[.int .i64 1, .int .i64 4, .int .u64 0, .int .u64 0, .slice none 0 0] 52)) (.cells #[.int .i64 1, .int .i64 1, .int .u64 1, .int .u64 300, .slice none 0 0, .int .i64 2, .int .i64 6, .int .u64 0, .int .u64 10, .slice none 0 0, .int .i64 5, .int .i64 9, .int .u64 0, .int .u64 2, .slice (some ⟨w.heap.size, 0, none⟩) 1 1] 52)
 have hb : Below (w.alloc (.cells #[.int .i64 1, .int .i64 4, .int .u64 0, .int .u64 0, .slice none 0 0] 52)).heap.size (w.alloc (.cells #[.int .i64 1, .int .i64 4, .int .u64 0, .int .u64 0, .slice none 0 0] 52)) ((w.alloc (.cells #[.int .i64 1, .int .i64 4, .int .u64 0, .int .u64 0, .slice none 0 0] 52)).alloc (.cells #[.int .i64 1, .int .i64 1, .int .u64 1, .int .u64 300, .slice none 0 0, .int .i64 2, .int .i64 6, .int .u64 0, .int .u64 10, .slice none 0 0, .int .i64 5, .int .i64 9, .int .u64 0, .int .u64 2, .slice (some ⟨w.heap.size, 0, none⟩) 1 1] 52)) := (Below.refl _ _).alloc (Nat.le_refl _) _
 rw [size_alloc1] at r3
 replace r1 := keep hb r1
 have l1 := lt_of_row r1
 have l3 := lt_of_row r3
 have s1 : Slo ((w.alloc (.cells #[.int .i64 1, .int .i64 4, .int .u64 0, .int .u64 0, .slice none 0 0] 52)).alloc (.cells #[.int .i64 1, .int .i64 1, .int .u64 1, .int .u64 300, .slice none 0 0, .int .i64 2, .int .i64 6, .int .u64 0, .int .u64 10, .slice none 0 0, .int .i64 5, .int .i64 9, .int .u64 0, .int .u64 2, .slice (some ⟨w.heap.size, 0, none⟩) 1 1] 52)) (.slice none 0 0) [] := .mk none 0 [] [] (by simp) (by simp) (fun _ => rfl) (fun i hi => by simp at hi) (fun i hi => by simp at hi)
 have s2 : Slo ((w.alloc (.cells #[.int .i64 1, .int .i64 4, .int .u64 0, .int .u64 0, .slice none 0 0] 52)).alloc (.cells #[.int .i64 1, .int .i64 1, .int .u64 1, .int .u64 300, .slice none 0 0, .int .i64 2, .int .i64 6, .int .u64 0, .int .u64 10, .slice none 0 0, .int .i64 5, .int .i64 9, .int .u64 0, .int .u64 2, .slice (some ⟨w.heap.size, 0, none⟩) 1 1] 52)) (.slice (some ⟨w.heap.size, 0, none⟩) 1 1) [.mk 1 4 0 0 []] := by
  refine .mk (some ⟨w.heap.size, 0, none⟩) 1 [.mk 1 4 0 0 []] [.slice none 0 0] (by simp) (by simp) (fun e => by cases e) (fun i hi => ?_) (fun i hi => ?_)
  ·obtain rfl : i = 0 := by simpa using hi
   refine ⟨w.heap.size, 0, rfl, l1, fun j v hv => ?_, by simp [Sok, gs, Slt.no, Slt.kind, Slt.least, Slt.most]⟩
   have hj : j < 5 := (List.getElem?_eq_some_iff.1 hv).1
   rw [cell_of_row _ _ _ _ _ _ r1]
   match j, hj with
   | 0, _ => exact hv
   | 1, _ => exact hv
   | 2, _ => exact hv
   | 3, _ => exact hv
   | 4, _ => exact hv
  ·obtain rfl : i = 0 := by simpa using hi
   exact s1
 refine .mk (some ⟨w.heap.size + 1, 0, none⟩) 3 tsL [.slice none 0 0, .slice none 0 0, .slice (some ⟨w.heap.size, 0, none⟩) 1 1] (by decide) (by decide) (fun e => by cases e) (fun i hi => ?_) (fun i hi => ?_)
 ·have hi3 : i < 3 := hi
  refine ⟨w.heap.size + 1, 0, rfl, l3, fun j v hv => ?_, ?_⟩
  ·have hj : j < 5 := (List.getElem?_eq_some_iff.1 hv).1
   rw [cell_of_row _ _ _ _ _ _ r3]
   match i, hi3, j, hj with
   | 0, _, 0, _ => exact hv
   | 0, _, 1, _ => exact hv
   | 0, _, 2, _ => exact hv
   | 0, _, 3, _ => exact hv
   | 0, _, 4, _ => exact hv
   | 1, _, 0, _ => exact hv
   | 1, _, 1, _ => exact hv
   | 1, _, 2, _ => exact hv
   | 1, _, 3, _ => exact hv
   | 1, _, 4, _ => exact hv
   | 2, _, 0, _ => exact hv
   | 2, _, 1, _ => exact hv
   | 2, _, 2, _ => exact hv
   | 2, _, 3, _ => exact hv
   | 2, _, 4, _ => exact hv
  ·match i, hi3 with
   | 0, _ => exact ⟨by decide, by decide, by decide, by decide⟩
   | 1, _ => exact ⟨by decide, by decide, by decide, by decide⟩
   | 2, _ => exact ⟨by decide, by decide, by decide, by decide⟩
 ·have hi3 : i < 3 := hi
  match i, hi3 with
  | 0, _ => exact s1
  | 1, _ => exact s1
  | 2, _ => exact s2
theorem vtm_ls {W : World} {n : Nat} {xs : List VR} {ps : List VT} (hl : xs.length = ps.length) (hm : ps.length ≤ 5864062014634) (hr : W.heap[n]? = some (.cells (vrs xs).toArray 27 (0, 0))) (hs : ∀ i, i < ps.length → VtM W (fun _ => True) (gx xs i) (gvt ps i)) : VtM W (fun _ => True) ⟨0, none, 0, 0, some ⟨n, 0, none⟩, ps.length, ps.length⟩ (.mk 0 [] ps) := by
 refine .mk ⟨0, none, 0, 0, some ⟨n, 0, none⟩, ps.length, ps.length⟩ [] xs ps (by show 0 < 18446744073709551616; decide) rfl (by decide) (bysB_nil _ _) (Nat.le_refl _) (fun a e => by cases lv_some e) rfl hl (Nat.le_refl _) hm (fun a e => ?_) (fun i hi => ⟨n, 0, rfl, fun j v hv => ?_⟩) hs
 ·have := lv_some e
  cases this
  exact ⟨trivial, lt_of_row hr⟩
 ·have hj : j < 3 := (List.getElem?_eq_some_iff.1 hv).1
  rw [cell_of_row _ _ _ _ _ _ hr, List.getElem?_toArray, Nat.zero_add, vrs_at xs i j (by omega) hj]
  exact hv
theorem vtm_nm (W : World) (N : Nat) (h : N < 18446744073709551616) : VtM W (fun _ => True) ⟨N, none, 0, 0, none, 0, 0⟩ (.mk N [] []) :=
 .mk ⟨N, none, 0, 0, none, 0, 0⟩ [] [] [] h rfl (by decide) (bysB_nil _ _) (Nat.le_refl _) (fun a e => by cases lv_some e) rfl rfl (Nat.le_refl _) (by decide) (fun a e => by cases lv_some e) (fun i hi => by simp at hi) (fun i hi => by simp at hi)
def x1L : VR := ⟨1, none, 0, 0, none, 0, 0⟩
def xpL (n : Nat) : VR := ⟨0, none, 0, 0, some ⟨n, 0, none⟩, 1, 1⟩
def x300 : VR := ⟨300, none, 0, 0, none, 0, 0⟩
def xabL (n : Nat) : VR := ⟨0, some ⟨n, 0, none⟩, 2, 2, none, 0, 0⟩
def xvL (n : Nat) : VR := ⟨0, none, 0, 0, some ⟨n, 0, none⟩, 3, 3⟩
theorem vtm_L {W : World} {n0 n1 n2 n3 : Nat} (r0 : W.heap[n0]? = some (.cells #[.int .u8 97, .int .u8 98] 5 (2, 3))) (r1 : W.heap[n1]? = some (.cells #[.int .u64 1, .slice none 0 0, .slice none 0 0] 27 (0, 0))) (r2 : W.heap[n2]? = some (.cells #[.int .u64 0, .slice none 0 0, .slice (some ⟨n1, 0, none⟩) 1 1] 27 (0, 0)))
 (r3 : W.heap[n3]? = some (.cells #[.int .u64 300, .slice none 0 0, .slice none 0 0, .int .u64 0, .slice (some ⟨n0, 0, none⟩) 2 2, .slice none 0 0, .int .u64 0, .slice none 0 0, .slice (some ⟨n2, 0, none⟩) 1 1] 27 (0, 0))) : VtM W (fun _ => True) (xvL n3) vL := by
 have h1 : VtM W (fun _ => True) x1L (.mk 1 [] []) := vtm_nm W 1 (by decide)
 have h2 : VtM W (fun _ => True) (xpL n1) (.mk 0 [] [.mk 1 [] []]) := vtm_ls (xs := [x1L]) (ps := [.mk 1 [] []]) rfl (by decide) r1 (fun i hi => by
  obtain rfl : i = 0 := by simpa using hi
  exact h1)
 have h3 : VtM W (fun _ => True) (xpL n2) (.mk 0 [] [.mk 0 [] [.mk 1 [] []]]) := vtm_ls (xs := [xpL n1]) (ps := [.mk 0 [] [.mk 1 [] []]]) rfl (by decide) r2 (fun i hi => by
  obtain rfl : i = 0 := by simpa using hi
  exact h2)
 have h4 : VtM W (fun _ => True) x300 (.mk 300 [] []) := vtm_nm W 300 (by decide)
 have hB : BysB W (.slice (some ⟨n0, 0, none⟩) 2 2) [97#8, 98#8] := ⟨⟨some ⟨n0, 0, none⟩, 2, rfl, by decide, fun j hj => ⟨n0, 0, rfl, lt_of_row r0, by
  rw [Nat.zero_add, cell_of_row _ _ _ _ _ _ r0]
  match j, hj with
  | 0, _ => rfl
  | 1, _ => rfl⟩, bl_bnd _⟩, by decide, fun a l c h h2 => by cases h; cases h2⟩
 have h5 : VtM W (fun _ => True) (xabL n0) (.mk 0 [97#8, 98#8] []) := .mk (xabL n0) [97#8, 98#8] [] [] (by show 0 < 18446744073709551616; decide) rfl (by decide) hB (Nat.le_refl _) (fun a e => by
  have := lv_some e
  cases this
  exact ⟨trivial, lt_of_row r0⟩) rfl rfl (Nat.le_refl _) (by decide) (fun a e => by cases lv_some e) (fun i hi => by simp at hi) (fun i hi => by simp at hi)
 exact vtm_ls (xs := [x300, xabL n0, xpL n2]) (ps := [.mk 300 [] [], .mk 0 [97#8, 98#8] [], .mk 0 [] [.mk 0 [] [.mk 1 [] []]]]) rfl (by decide) r3 (fun i hi => by
  have hi3 : i < 3 := hi
  match i, hi3 with
  | 0, _ => exact h4
  | 1, _ => exact h5
  | 2, _ => exact h3)
theorem eqe_nils (W : World) : (binOp .eql 36 .nilIface .nilIface).run Tryz.prog W = .ok (.bool true) W := by kernel_rfl
theorem eqe_fault (v : Value) (W : World) : (binOp .eql 36 (.iface 39 v) .nilIface).run Tryz.prog W = .ok (.bool false) W := by kernel_rfl
theorem okL : tsL.length ≤ 16 ∧ vok tsL 0 1 ∧ gd tsL ∧ (spL tsL 0 0).2 ≤ 4194304 ∧ 1 + htT tsL ≤ 9223372036854775807 := vld_ok vld_L
set_option maxRecDepth 100000 in
set_option maxHeartbeats 8000000 in
theorem l_lives8 (w : World) (hT : Lib.Utf8Tabs 2 3 w) : Calls Tryz.prog 5 #[] w fun e w' => e = .returned (.bool true) ∧ Below w.heap.size w w' := by
 have kc := fun (W : World) (C : Array Value) (n c : Nat) => Go.Lib.run_convert_bytes_const (P := Tryz.prog) W 23 5 C n c Tryz.underlying23 Tryz.underlying5
 have cC := a_Compile (slo_L w) _ (Below.refl _ _)
 have hb0 : Below w.heap.size w ((w.alloc (.cells #[.int .i64 1, .int .i64 4, .int .u64 0, .int .u64 0, .slice none 0 0] 52)).alloc (.cells #[.int .i64 1, .int .i64 1, .int .u64 1, .int .u64 300, .slice none 0 0, .int .i64 2, .int .i64 6, .int .u64 0, .int .u64 10, .slice none 0 0, .int .i64 5, .int .i64 9, .int .u64 0, .int .u64 2, .slice (some ⟨w.heap.size, 0, none⟩) 1 1] 52)) := ((Below.refl _ _).alloc (Nat.le_refl _) _).alloc (by simp) _
 generalize hW : ((w.alloc (.cells #[.int .i64 1, .int .i64 4, .int .u64 0, .int .u64 0, .slice none 0 0] 52)).alloc (.cells #[.int .i64 1, .int .i64 1, .int .u64 1, .int .u64 300, .slice none 0 0, .int .i64 2, .int .i64 6, .int .u64 0, .int .u64 10, .slice none 0 0, .int .i64 5, .int .i64 9, .int .u64 0, .int .u64 2, .slice (some ⟨w.heap.size, 0, none⟩) 1 1] 52)) = W0 at cC hb0
 go_enter Tryz.func5, Tryz.ntmps5
 go_wp2_with (fail)
 clear hW
 refine cC.mono ?_
 rintro e_ w1 ⟨hb1, ⟨_, g, rfl, hg, hC⟩ | ⟨hz, _⟩⟩
 ·have hb := Below.after hb0 hb1
  clear cC hb1 hg hb0
  go_wp2_with (fail)
  have hb1 := Below.refl w1.heap.size w1
  have q0 := hp1_0 w1 (.cells #[.int .u8 97, .int .u8 98] 5 (2, 3))
  have p0 : Below w1.heap.size w1 (w1.alloc (.cells #[.int .u8 97, .int .u8 98] 5 (2, 3))) := (Below.refl _ _).alloc (Nat.le_refl _) _
  replace hb1 := Below.after hb1 p0
  have q1 := hp1_0 (w1.alloc (.cells #[.int .u8 97, .int .u8 98] 5 (2, 3))) (.cells #[.int .u64 1, .slice none 0 0, .slice none 0 0] 27)
  rw [show (w1.alloc (.cells #[.int .u8 97, .int .u8 98] 5 (2, 3))).heap.size = w1.heap.size + 1 by simp] at q1
  have p1 : Below (w1.alloc (.cells #[.int .u8 97, .int .u8 98] 5 (2, 3))).heap.size (w1.alloc (.cells #[.int .u8 97, .int .u8 98] 5 (2, 3))) ((w1.alloc (.cells #[.int .u8 97, .int .u8 98] 5 (2, 3))).alloc (.cells #[.int .u64 1, .slice none 0 0, .slice none 0 0] 27)) := (Below.refl _ _).alloc (Nat.le_refl _) _
  replace q0 := keep p1 q0
  replace hb1 := Below.after hb1 p1
  have q2 := hp1_0 ((w1.alloc (.cells #[.int .u8 97, .int .u8 98] 5 (2, 3))).alloc (.cells #[.int .u64 1, .slice none 0 0, .slice none 0 0] 27)) (.cells #[.int .u64 0, .slice none 0 0, .slice (some ⟨w1.heap.size + 1, 0, none⟩) 1 1] 27)
  rw [show ((w1.alloc (.cells #[.int .u8 97, .int .u8 98] 5 (2, 3))).alloc (.cells #[.int .u64 1, .slice none 0 0, .slice none 0 0] 27)).heap.size = w1.heap.size + 1 + 1 by simp] at q2
  have p2 : Below ((w1.alloc (.cells #[.int .u8 97, .int .u8 98] 5 (2, 3))).alloc (.cells #[.int .u64 1, .slice none 0 0, .slice none 0 0] 27)).heap.size ((w1.alloc (.cells #[.int .u8 97, .int .u8 98] 5 (2, 3))).alloc (.cells #[.int .u64 1, .slice none 0 0, .slice none 0 0] 27)) (((w1.alloc (.cells #[.int .u8 97, .int .u8 98] 5 (2, 3))).alloc (.cells #[.int .u64 1, .slice none 0 0, .slice none 0 0] 27)).alloc (.cells #[.int .u64 0, .slice none 0 0, .slice (some ⟨w1.heap.size + 1, 0, none⟩) 1 1] 27)) := (Below.refl _ _).alloc (Nat.le_refl _) _
  replace q0 := keep p2 q0
  replace q1 := keep p2 q1
  replace hb1 := Below.after hb1 p2
  have q3 := hp1_0 (((w1.alloc (.cells #[.int .u8 97, .int .u8 98] 5 (2, 3))).alloc (.cells #[.int .u64 1, .slice none 0 0, .slice none 0 0] 27)).alloc (.cells #[.int .u64 0, .slice none 0 0, .slice (some ⟨w1.heap.size + 1, 0, none⟩) 1 1] 27)) (.cells #[.int .u64 300, .slice none 0 0, .slice none 0 0, .int .u64 0, .slice (some ⟨w1.heap.size, 0, none⟩) 2 2, .slice none 0 0, .int .u64 0, .slice none 0 0, .slice (some ⟨w1.heap.size + 1 + 1, 0, none⟩) 1 1] 27)
  rw [show (((w1.alloc (.cells #[.int .u8 97, .int .u8 98] 5 (2, 3))).alloc (.cells #[.int .u64 1, .slice none 0 0, .slice none 0 0] 27)).alloc (.cells #[.int .u64 0, .slice none 0 0, .slice (some ⟨w1.heap.size + 1, 0, none⟩) 1 1] 27)).heap.size = w1.heap.size + 1 + 1 + 1 by simp] at q3
  have p3 : Below (((w1.alloc (.cells #[.int .u8 97, .int .u8 98] 5 (2, 3))).alloc (.cells #[.int .u64 1, .slice none 0 0, .slice none 0 0] 27)).alloc (.cells #[.int .u64 0, .slice none 0 0, .slice (some ⟨w1.heap.size + 1, 0, none⟩) 1 1] 27)).heap.size (((w1.alloc (.cells #[.int .u8 97, .int .u8 98] 5 (2, 3))).alloc (.cells #[.int .u64 1, .slice none 0 0, .slice none 0 0] 27)).alloc (.cells #[.int .u64 0, .slice none 0 0, .slice (some ⟨w1.heap.size + 1, 0, none⟩) 1 1] 27)) ((((w1.alloc (.cells #[.int .u8 97, .int .u8 98] 5 (2, 3))).alloc (.cells #[.int .u64 1, .slice none 0 0, .slice none 0 0] 27)).alloc (.cells #[.int .u64 0, .slice none 0 0, .slice (some ⟨w1.heap.size + 1, 0, none⟩) 1 1] 27)).alloc (.cells #[.int .u64 300, .slice none 0 0, .slice none 0 0, .int .u64 0, .slice (some ⟨w1.heap.size, 0, none⟩) 2 2, .slice none 0 0, .int .u64 0, .slice none 0 0, .slice (some ⟨w1.heap.size + 1 + 1, 0, none⟩) 1 1] 27)) := (Below.refl _ _).alloc (Nat.le_refl _) _
  replace q0 := keep p3 q0
  replace q1 := keep p3 q1
  replace q2 := keep p3 q2
  replace hb1 := Below.after hb1 p3
  have q4 := hp1_0 ((((w1.alloc (.cells #[.int .u8 97, .int .u8 98] 5 (2, 3))).alloc (.cells #[.int .u64 1, .slice none 0 0, .slice none 0 0] 27)).alloc (.cells #[.int .u64 0, .slice none 0 0, .slice (some ⟨w1.heap.size + 1, 0, none⟩) 1 1] 27)).alloc (.cells #[.int .u64 300, .slice none 0 0, .slice none 0 0, .int .u64 0, .slice (some ⟨w1.heap.size, 0, none⟩) 2 2, .slice none 0 0, .int .u64 0, .slice none 0 0, .slice (some ⟨w1.heap.size + 1 + 1, 0, none⟩) 1 1] 27)) (.cells #[.int .u64 0, .slice none 0 0, .slice (some ⟨w1.heap.size + 1 + 1 + 1, 0, none⟩) 3 3] 27)
  rw [show ((((w1.alloc (.cells #[.int .u8 97, .int .u8 98] 5 (2, 3))).alloc (.cells #[.int .u64 1, .slice none 0 0, .slice none 0 0] 27)).alloc (.cells #[.int .u64 0, .slice none 0 0, .slice (some ⟨w1.heap.size + 1, 0, none⟩) 1 1] 27)).alloc (.cells #[.int .u64 300, .slice none 0 0, .slice none 0 0, .int .u64 0, .slice (some ⟨w1.heap.size, 0, none⟩) 2 2, .slice none 0 0, .int .u64 0, .slice none 0 0, .slice (some ⟨w1.heap.size + 1 + 1, 0, none⟩) 1 1] 27)).heap.size = w1.heap.size + 1 + 1 + 1 + 1 by simp] at q4
  have p4 : Below ((((w1.alloc (.cells #[.int .u8 97, .int .u8 98] 5 (2, 3))).alloc (.cells #[.int .u64 1, .slice none 0 0, .slice none 0 0] 27)).alloc (.cells #[.int .u64 0, .slice none 0 0, .slice (some ⟨w1.heap.size + 1, 0, none⟩) 1 1] 27)).alloc (.cells #[.int .u64 300, .slice none 0 0, .slice none 0 0, .int .u64 0, .slice (some ⟨w1.heap.size, 0, none⟩) 2 2, .slice none 0 0, .int .u64 0, .slice none 0 0, .slice (some ⟨w1.heap.size + 1 + 1, 0, none⟩) 1 1] 27)).heap.size ((((w1.alloc (.cells #[.int .u8 97, .int .u8 98] 5 (2, 3))).alloc (.cells #[.int .u64 1, .slice none 0 0, .slice none 0 0] 27)).alloc (.cells #[.int .u64 0, .slice none 0 0, .slice (some ⟨w1.heap.size + 1, 0, none⟩) 1 1] 27)).alloc (.cells #[.int .u64 300, .slice none 0 0, .slice none 0 0, .int .u64 0, .slice (some ⟨w1.heap.size, 0, none⟩) 2 2, .slice none 0 0, .int .u64 0, .slice none 0 0, .slice (some ⟨w1.heap.size + 1 + 1, 0, none⟩) 1 1] 27)) (((((w1.alloc (.cells #[.int .u8 97, .int .u8 98] 5 (2, 3))).alloc (.cells #[.int .u64 1, .slice none 0 0, .slice none 0 0] 27)).alloc (.cells #[.int .u64 0, .slice none 0 0, .slice (some ⟨w1.heap.size + 1, 0, none⟩) 1 1] 27)).alloc (.cells #[.int .u64 300, .slice none 0 0, .slice none 0 0, .int .u64 0, .slice (some ⟨w1.heap.size, 0, none⟩) 2 2, .slice none 0 0, .int .u64 0, .slice none 0 0, .slice (some ⟨w1.heap.size + 1 + 1, 0, none⟩) 1 1] 27)).alloc (.cells #[.int .u64 0, .slice none 0 0, .slice (some ⟨w1.heap.size + 1 + 1 + 1, 0, none⟩) 3 3] 27)) := (Below.refl _ _).alloc (Nat.le_refl _) _
  replace q0 := keep p4 q0
  replace q1 := keep p4 q1
  replace q2 := keep p4 q2
  replace q3 := keep p4 q3
  replace hb1 := Below.after hb1 p4
  generalize (((((w1.alloc (.cells #[.int .u8 97, .int .u8 98] 5 (2, 3))).alloc (.cells #[.int .u64 1, .slice none 0 0, .slice none 0 0] 27)).alloc (.cells #[.int .u64 0, .slice none 0 0, .slice (some ⟨w1.heap.size + 1, 0, none⟩) 1 1] 27)).alloc (.cells #[.int .u64 300, .slice none 0 0, .slice none 0 0, .int .u64 0, .slice (some ⟨w1.heap.size, 0, none⟩) 2 2, .slice none 0 0, .int .u64 0, .slice none 0 0, .slice (some ⟨w1.heap.size + 1 + 1, 0, none⟩) 1 1] 27)).alloc (.cells #[.int .u64 0, .slice none 0 0, .slice (some ⟨w1.heap.size + 1 + 1 + 1, 0, none⟩) 3 3] 27)) = w5 at *
  clear p0 p1 p2 p3 p4
  generalize w1.heap.size + 1 + 1 + 1 + 1 = n4 at *
  generalize w1.heap.size + 1 + 1 + 1 = n3 at *
  generalize w1.heap.size + 1 + 1 = n2 at *
  generalize w1.heap.size + 1 = n1 at *
  have hV := vtm_L q0 q1 q2 q3
  clear q0 q1 q2 q3
  replace hC := hC.keep hb1
  replace hb := Below.after hb hb1
  have hT5 := Utf8Tabs_below hT hb
  have cE : Calls Tryz.prog 12 #[.pointer (some ⟨g, 0, none⟩), .agg #[.int .u64 0, .slice none 0 0, .slice (some ⟨n3, 0, none⟩) 3 3]] w5 _ := a_EncodeT plo8 okL.2.2.1 _ (xvL n3) vL w5 hT5 hC hV okL.2.2.2.2
  refine cE.mono ?_
  rintro e_ w6 ⟨hE, hb6⟩
  rw [ckL] at hE
  obtain ⟨u, rfl, hU⟩ := hE
  rw [enL] at hU
  obtain ⟨ua, uc, rfl⟩ := slen_own hU
  have hUB := hU.bysB (by decide)
  have hUc := own_capT hU
  have hU12 : bL.length = 12 := rfl
  rw [hU12] at hUB hUc ⊢
  clear hU12
  change BysB w6 (.slice ua 12 uc) bL at hUB
  clear cE
  replace hC := hC.keep hb6
  replace hV := hV.blw hb6
  replace q4 := keep hb6 q4
  replace hT5 := Utf8Tabs_below hT5 hb6
  replace hb := Below.after hb hb6
  clear hb1 hU
  go_wp2_with (fail)
  obtain ⟨_, _, eD, eM⟩ := enc_back utD flD (by have := okL.1; omega) okL.2.1 okL.2.2.2.1 hV.nm (fr := 0) ckL
  rw [enL] at eD eM
  refine (a_DecodeT plo8 bL (.slice ua 12 uc) w6 hT5 hC hUB (fun a l c e => by injection e with e1 e2 e3; omega)).mono ?_
  rintro e_ w7 ⟨hD, hb7⟩
  rw [eD, eM] at hD
  obtain ⟨⟨yn, yda, ydl, ydc, ypa, ypl, ypc⟩, rfl, hY⟩ := hD
  unfold vrv vrw
  clear eD eM
  replace hC := hC.keep hb7
  replace hV := hV.blw hb7
  replace q4 := keep hb7 q4
  replace hT5 := Utf8Tabs_below hT5 hb7
  replace hUB := hUB.keep hb7
  replace hb := Below.after hb hb7
  have hba := (Below.refl w7.heap.size w7).alloc (Nat.le_refl _) (.cells #[.int .u64 (yn : Int), .slice yda ydl ydc, .slice ypa ypl ypc] 27)
  have q6 := hp1_0 w7 (.cells #[.int .u64 (yn : Int), .slice yda ydl ydc, .slice ypa ypl ypc] 27)
  replace hC := hC.keep hba
  replace hV := hV.blw hba
  replace q4 := keep hba q4
  replace hT5 := Utf8Tabs_below hT5 hba
  replace hUB := hUB.keep hba
  replace hb := Below.after hb hba
  replace hY := hY.blw hba
  clear hb7 hba hb6
  have HC := hide hC
  have HV := hide hV
  have HY := hide hY
  have HU := hide hUB
  have HT := hide hT5
  have HB := hide hb
  clear hC hV hY hUB hT5 hb hT
  go_wp2_with (fail)
  generalize w7.alloc (.cells #[.int .u64 (yn : Int), .slice yda ydl ydc, .slice ypa ypl ypc] 27) = w8 at *
  generalize w7.heap.size = n6 at *
  refine (a_DecodeT plo8 (bL.take 6) (.slice ua 6 uc) w8 HT.out HC.out (bysB_take8 HU.out (by decide)) (fun a l c e => by injection e with e1 e2 e3; omega)).mono ?_
  rintro e_ w9 ⟨hD, hb9⟩
  obtain ⟨f6, hf6⟩ := deL6
  rw [hf6] at hD
  obtain ⟨q, rfl, _, _⟩ := hD
  have hC := HC.out.keep hb9
  have hV := HV.out.blw hb9
  have hY := HY.out.blw hb9
  replace q4 := keep hb9 q4
  replace q6 := keep hb9 q6
  have hT5 := Utf8Tabs_below HT.out hb9
  have hUB := HU.out.keep hb9
  have hb := Below.after HB.out hb9
  replace HC := hide hC
  replace HV := hide hV
  replace HY := hide hY
  replace HU := hide hUB
  replace HT := hide hT5
  replace HB := hide hb
  clear hC hV hY hUB hT5 hb
  have hba := (Below.refl w9.heap.size w9).alloc (Nat.le_refl _) (.cells #[.int .u64 0, .slice none 0 0, .slice none 0 0] 27)
  have hC := HC.out.keep hba
  have hV := HV.out.blw hba
  have hY := HY.out.blw hba
  replace q4 := keep hba q4
  replace q6 := keep hba q6
  have hT5 := Utf8Tabs_below HT.out hba
  have hUB := HU.out.keep hba
  have hb := Below.after HB.out hba
  replace HC := hide hC
  replace HV := hide hV
  replace HY := hide hY
  replace HU := hide hUB
  replace HT := hide hT5
  replace HB := hide hb
  clear hC hV hY hUB hT5 hb
  clear hba hb9
  go_wp2_with (fail)
  generalize w9.alloc (.cells #[.int .u64 0, .slice none 0 0, .slice none 0 0] 27) = w10 at *
  have cR := a_RangeT _ HC.out
  rw [prs_L] at cR
  refine cR.mono ?_
  rintro e_ w11 ⟨rfl, hb11⟩
  have hC := HC.out.keep hb11
  have hV := HV.out.blw hb11
  have hY := HY.out.blw hb11
  replace q4 := keep hb11 q4
  replace q6 := keep hb11 q6
  have hT5 := Utf8Tabs_below HT.out hb11
  have hUB := HU.out.keep hb11
  have hb := Below.after HB.out hb11
  replace HC := hide hC
  replace HV := hide hV
  replace HY := hide hY
  replace HU := hide hUB
  replace HT := hide hT5
  replace HB := hide hb
  clear hC hV hY hUB hT5 hb
  clear cR hb11
  have e1 := eqe_nils
  have e2 := neq_fault (.pointer (some ⟨q, 0, none⟩))
  have kX : (convert 23 9 (.slice ua 12 uc)).run Tryz.prog w11 = .ok (.string ⟨#[8, 172, 2, 18, 2, 97, 98, 42, 3, 2, 8, 1]⟩) w11 := conv_byT HU.out.1
  have cS : Calls Tryz.prog 15 #[.agg #[.int .u64 0, .slice none 0 0, .slice (some ⟨n3, 0, none⟩) 3 3], .agg #[.int .u64 (yn : Int), .slice yda ydl ydc, .slice ypa ypl ypc]] w11 _ := a_same HV.out _ ⟨yn, yda, ydl, ydc, ypa, ypl, ypc⟩ vL w11 (Below.refl _ _) HY.out
  rw [show (@decide (vL = vL) (Classical.propDecidable _)) = true by simp] at cS
  go_wp2_with (first | (refine wpList_load_want rfl 27 _ rfl n4 rfl 27 #[.int .u64 0, .slice none 0 0, .slice (some ⟨n3, 0, none⟩) 3 3] (0, 0) _ q4 Tryz.underlying27 rfl infoV ?_) | (refine wpList_load_want rfl 27 _ rfl n6 rfl 27 #[.int .u64 (yn : Int), .slice yda ydl ydc, .slice ypa ypl ypc] (0, 0) _ q6 Tryz.underlying27 rfl infoV ?_) | fail)
  refine cS.mono ?_
  rintro e_ w12 ⟨rfl, hb12⟩
  have hb := Below.after HB.out hb12
  go_wp2_with (fail)
  go_ret
  exact ⟨rfl, hb⟩
 ·exact absurd vld_L hz
end Go.Proofs.YtalgcjkiajojoaaGreatDoor
namespace Go.Proofs.YtalgcjkiajojoaaGreatDoor
set_option maxRecDepth 100000
open Go Go.RowKit Go.Sort
/-! What check and decode find wrong: where, and of what kind. -/
def ckG (f : Flt3) : Prop := (1 ≤ f.line ∧ f.line ≤ 6) ∧ (0 ≤ f.at_ ∧ f.at_ ≤ 536870911) ∧ (f.why = 81 ∨ f.why = 83 ∨ f.why = 84)
theorem wth_or (n l m : Int) : wth n l m = 0 ∨ wth n l m = 83 := by
 unfold wth
 by_cases h : n < l ∨ m < n
 ·rw [if_pos h]; exact .inr rfl
 ·rw [if_neg h]; exact .inl rfl
theorem flD_or (n m : Nat) : flD n m = 0 ∨ flD n m = 83 ∨ flD n m = 84 := by
 unfold flD
 split
 ·exact .inr (.inr rfl)
 split
 ·exact .inr (.inr rfl)
 split
 ·exact .inr (.inr rfl)
 split
 ·exact .inr (.inl rfl)
 ·exact .inl rfl
section
variable (utf : List B → Bool) (flE : Nat → Nat → Int)
theorem plE8_or (hfl : ∀ n m, flE n m = 0 ∨ flE n m = 83 ∨ flE n m = 84) (k : Int) (l m : Nat) (x : VT) : plE8 utf flE k l m x = 0 ∨ plE8 utf flE k l m x = 83 ∨ plE8 utf flE k l m x = 84 := by
 have hw := fun n l m => (wth_or n l m).imp id (fun h : wth n l m = 83 => Or.inl (b := wth n l m = 84) h)
 unfold plE8
 split
 ·exact hw _ _ _
 split
 ·split
  ·exact hw _ _ _
  ·split
   ·exact .inl rfl
   ·exact .inr (.inr rfl)
 split
 ·exact hfl _ _
 split
 ·exact hw _ _ _
 ·exact hw _ _ _
theorem frs_some {f : VT → Option Flt3} : ∀ {xs : List VT} {e : Flt3}, frsT f xs = some e → ∃ p, f p = some e
 | [], e, h => by rw [frsT] at h; cases h
 | x :: xs, e, h => by
  rw [frsT] at h
  cases hx : f x with
  | some y => rw [hx] at h; exact ⟨x, by rw [hx]; exact h⟩
  | none => rw [hx] at h; exact frs_some h
theorem chk_or (hfl : ∀ n m, flE n m = 0 ∨ flE n m = 83 ∨ flE n m = 84) : ∀ (ts : List Slt) (xs : List VT) (prev deep : Int) (f : Flt3), vok ts prev deep → 1 ≤ deep → deep ≤ 6 → chT utf flE ts xs deep = some f → ckG f
 | [], xs, _, _, _, _, _, _, h => by rw [chT_nil] at h; cases h
 | t :: ts, [], _, _, _, _, _, _, h => by cases t; rw [chT] at h; cases h; intros; contradiction
 | .mk no k l m sub :: ts, x :: xs, prev, deep, f, hv, h1, h6, h => by
  rw [vok] at hv
  obtain ⟨⟨⟨_, hn1, hn2⟩, hfit, hsub⟩, hvt⟩ := hv
  rw [chT_cons] at h
  have hm : (k = 8 ∨ k = 9) → ∀ (p : VT) (f : Flt3), ckN sub.length (chT utf flE sub) p (deep + 1) = some f → ckG f := by
   intro hk p f hp
   obtain ⟨_, hd, hvs⟩ := hsub hk
   unfold ckN at hp
   split at hp
   ·injection hp with hp
    subst hp
    exact ⟨⟨by show 1 ≤ deep + 1; omega, hd⟩, ⟨by show (0 : Int) ≤ 0; omega, by show (0 : Int) ≤ 536870911; omega⟩, .inr (.inr rfl)⟩
   split at hp
   ·injection hp with hp
    subst hp
    exact ⟨⟨by show 1 ≤ deep + 1; omega, hd⟩, ⟨by show (0 : Int) ≤ 0; omega, by show (0 : Int) ≤ 536870911; omega⟩, .inl rfl⟩
   ·exact chk_or hfl sub p.parts 0 (deep + 1) f hvs (by omega) hd hp
  cases hs : slT utf flE (.mk no k l m sub) x deep with
  | none => rw [hs] at h; exact chk_or hfl ts xs no deep f hvt h1 h6 h
  | some y =>
   rw [hs] at h
   injection h with h
   subst h
   clear hvt
   replace hs : slN utf flE no k l m sub.length (chT utf flE sub) x deep = some y := hs
   unfold slN at hs
   split at hs
   ·rename_i h8
    exact hm (.inl h8) x y hs
   split at hs
   ·rename_i h9
    split at hs
    ·injection hs with hs
     subst hs
     exact ⟨⟨h1, h6⟩, ⟨by show 0 ≤ no; omega, hn2⟩, .inr (.inr rfl)⟩
    split at hs
    ·rename_i hw
     injection hs with hs
     subst hs
     refine ⟨⟨h1, h6⟩, ⟨by show 0 ≤ no; omega, hn2⟩, .inr (.inl ?_)⟩
     exact (wth_or _ _ _).resolve_left hw
    ·obtain ⟨p, hp⟩ := frs_some hs
     exact hm (.inr h9) p y hp
   ·unfold pck at hs
    split at hs
    ·injection hs with hs
     subst hs
     exact ⟨⟨h1, h6⟩, ⟨by show 0 ≤ no; omega, hn2⟩, .inr (.inr rfl)⟩
    split at hs
    ·cases hs
    ·rename_i hE
     injection hs with hs
     subst hs
     exact ⟨⟨h1, h6⟩, ⟨by show 0 ≤ no; omega, hn2⟩, .inr ((plE8_or utf flE hfl k l m x).resolve_left hE)⟩
theorem ck_or (hfl : ∀ n m, flE n m = 0 ∨ flE n m = 83 ∨ flE n m = 84) {ts : List Slt} {x : VT} {f : Flt3} (hv : vok ts 0 1) (h : ckT utf flE ts x 1 = some f) : ckG f := by
 unfold ckT ckN at h
 split at h
 ·injection h with h
  subst h
  exact ⟨⟨by show (1 : Int) ≤ 1; omega, by show (1 : Int) ≤ 6; omega⟩, ⟨by show (0 : Int) ≤ 0; omega, by show (0 : Int) ≤ 536870911; omega⟩, .inr (.inr rfl)⟩
 split at h
 ·injection h with h
  subst h
  exact ⟨⟨by show (1 : Int) ≤ 1; omega, by show (1 : Int) ≤ 6; omega⟩, ⟨by show (0 : Int) ≤ 0; omega, by show (0 : Int) ≤ 536870911; omega⟩, .inl rfl⟩
 ·exact chk_or utf flE hfl ts _ 0 1 f hv (by omega) (by omega) h
end
/-! decode -/
def deG (a : Int) (n : Nat) (f : Flt3) : Prop := f.line = 0 ∧ (a ≤ f.at_ ∧ f.at_ ≤ a + (n : Int)) ∧ f.why ≠ 0
theorem deG.wide {a b : Int} {n m : Nat} {f : Flt3} (h : deG a n f) (h1 : b ≤ a) (h2 : a + (n : Int) ≤ b + (m : Int)) : deG b m f := by
 obtain ⟨e1, ⟨e2, e3⟩, e4⟩ := h
 exact ⟨e1, ⟨by omega, by omega⟩, e4⟩
theorem dpl_le (d : List B) : 0 ≤ dpl (dwh d) ∧ dpl (dwh d) ≤ (d.length : Int) := by
 unfold dpl dwh
 by_cases h : 4194304 < d.length
 ·rw [if_pos h]
  exact ⟨by decide, by show ((0 : Nat) : Int) ≤ _; omega⟩
 ·rw [if_neg h]
  have := whl_pl (d := d) d.length 0 0 0 (by omega)
  generalize (whl d d.length 0 0 0).2 = x at *
  cases x with
  | none => exact ⟨by decide, by show (0 : Int) ≤ _; omega⟩
  | some y =>
   obtain ⟨q, e⟩ := y
   have := this q e rfl
   simp only
   omega
theorem spa_le (d : List B) : 0 ≤ spa (sp d) ∧ spa (sp d) ≤ (d.length : Int) := by
 unfold sp
 by_cases h : 4194304 < d.length
 ·rw [if_pos h]; exact ⟨by decide, by show ((0 : Nat) : Int) ≤ _; omega⟩
 ·rw [if_neg h]
  cases hr : spl d.length 0 0 d with
  | ok ps => exact ⟨by show (0 : Int) ≤ 0; omega, by show (0 : Int) ≤ _; omega⟩
  | er e q =>
   have := (spl_er_b d.length 0 0 d e q hr).2
   exact ⟨by show (0 : Int) ≤ (q : Int); omega, by show (q : Int) ≤ _; omega⟩
theorem sp_jn {d : List B} (h : spe (sp d) = 0) : jn (spp (sp d)) = d := by
 rcases sp_cases d with ⟨_, q1, q2, _, _⟩ | q
 ·unfold jer at q1
  unfold jout at q2
  split at q1
  ·cases q1
  ·rename_i hb
   rw [if_neg hb] at q2
   exact q2
 ·rw [h] at q; cases q
theorem it_or {dec : List B → Int → Option Flt3} (hd : ∀ (b : List B) (fr : Int) (f : Flt3), dec b fr = some f → deG fr b.length f) : ∀ (bs : List (List B)) (fr : Int) (f : Flt3), itN dec bs fr = some f → deG fr (jn bs).length f
 | [], fr, f, h => by rw [itN] at h; cases h
 | b :: bs, fr, f, h => by
  rw [itN] at h
  have hl : (jn (b :: bs)).length = (en b.length).length + b.length + (jn bs).length := by
   rw [jn, List.length_append, itm_len]
  rw [hl]
  cases hb : dec b (fr + ((en b.length).length : Int)) with
  | some e =>
   rw [hb] at h
   injection h with h
   subst h
   exact (hd _ _ _ hb).wide (by omega) (by omega)
  | none =>
   rw [hb] at h
   exact (it_or hd bs _ f h).wide (by omega) (by omega)
section
variable (utf : List B → Bool) (flE : Nat → Nat → Int)
theorem dc_or : ∀ (ts : List Slt) (fs : List Fd) (at_ : Int) (x : Flt3), dcT utf flE ts fs at_ = some x → deG at_ (ebs fs).length x
 | [], [], _, _, h => by rw [dcT] at h; cases h
 | [], f :: fs, at_, x, h => by
  rw [dcT] at h
  injection h with h
  subst h
  exact ⟨rfl, ⟨Int.le_refl _, by show at_ ≤ at_ + _; omega⟩, by show (81 : Int) ≠ 0; decide⟩
 | _ :: _, [], at_, x, h => by
  rw [dcT] at h
  injection h with h
  subst h
  exact ⟨rfl, ⟨Int.le_refl _, by show at_ ≤ at_ + _; omega⟩, by show (81 : Int) ≠ 0; decide⟩
 | .mk no k l m sub :: ts, f :: fs, at_, x, h => by
  rw [dcT_cons] at h
  have hl : (ebs (f :: fs)).length = (fby f).length + (ebs fs).length := by rw [ebs, List.length_append]
  rw [hl]
  have hm : ∀ (b : List B) (fr : Int) (e : Flt3), deT utf flE sub b fr = some e → deG fr b.length e := by
   intro b fr e hb
   unfold deT decN at hb
   by_cases hz : der (dwh b) = 0
   ·rw [if_neg (by omega)] at hb
    have j := dc_or sub (dfs (dwh b)) fr e hb
    have hee := (dec_enc hz)
    rw [eout, if_pos hee.1] at hee
    rw [hee.2] at j
    exact j
   ·rw [if_pos hz] at hb
    injection hb with hb
    subst hb
    have := dpl_le b
    exact ⟨rfl, ⟨by show fr ≤ fr + _; omega, by show fr + _ ≤ _; omega⟩, hz⟩
  cases hs : dsT utf flE (.mk no k l m sub) f at_ with
  | none => rw [hs] at h; exact (dc_or ts fs _ x h).wide (by omega) (by omega)
  | some y =>
   rw [hs] at h
   injection h with h
   subst h
   have here : ∀ e : Int, e ≠ 0 → deG at_ ((fby f).length + (ebs fs).length) ⟨0, at_, e⟩ := fun e he => ⟨rfl, ⟨Int.le_refl _, by show at_ ≤ at_ + _; omega⟩, he⟩
   replace hs : dsN utf flE no k l m (deT utf flE sub) f at_ = some y := hs
   unfold dsN at hs
   split at hs
   ·injection hs with hs
    subst hs
    exact here _ (by decide)
   split at hs
   ·injection hs with hs
    subst hs
    exact here _ (by decide)
   rename_i hty
   replace hty : f.ty = wtA k := by omega
   unfold rdN at hs
   split at hs
   ·rename_i h8
    subst h8
    have := fby_dat (f := f) (by rw [hty]; rfl)
    exact (hm _ _ _ hs).wide (by omega) (by omega)
   split at hs
   ·rename_i h9
    subst h9
    have := fby_dat (f := f) (by rw [hty]; rfl)
    unfold lsN at hs
    split at hs
    ·rename_i he
     injection hs with hs
     subst hs
     have := spa_le f.dat
     exact ⟨rfl, ⟨by show at_ ≤ at_ + _ - _ + _; omega, by show at_ + _ - _ + _ ≤ _; omega⟩, he⟩
    rename_i he
    split at hs
    ·rename_i hw
     injection hs with hs
     subst hs
     exact here _ hw
    ·have j := it_or hm _ _ _ hs
     rw [sp_jn (by simpa using he)] at j
     exact j.wide (by omega) (by omega)
   ·unfold rdE at hs
    split at hs
    ·cases hs
    ·rename_i hE
     injection hs with hs
     subst hs
     exact here _ hE
theorem de_or {ts : List Slt} {b : List B} {x : Flt3} (h : deT utf flE ts b 0 = some x) : deG 0 b.length x := by
 unfold deT decN at h
 by_cases hz : der (dwh b) = 0
 ·rw [if_neg (by omega)] at h
  have j := dc_or utf flE ts (dfs (dwh b)) 0 x h
  have hee := (dec_enc hz)
  rw [eout, if_pos hee.1] at hee
  rw [hee.2] at j
  exact j
 ·rw [if_pos hz] at h
  injection h with h
  subst h
  have := dpl_le b
  exact ⟨rfl, ⟨by show (0 : Int) ≤ 0 + _; omega, by show 0 + _ ≤ _; omega⟩, hz⟩
end
end Go.Proofs.YtalgcjkiajojoaaGreatDoor
namespace Go.Proofs.YtalgcjkiajojoaaGreatDoor
set_option maxRecDepth 100000
open Go Go.RowKit Go.Extern.Stop Go.Stop Go.Extern
theorem as_valueOf27 (t : Addr) (w : World) : (ReflectliteValue.unpack (.iface 41 (.pointer (some t)))).run Tryz.prog w
 = .ok (.agg #[.pointer (some ⟨4, 41, none⟩), .pointer (some ⟨w.heap.size, 0, none⟩), .int .u64 150]) (w.alloc (.cells #[.pointer (some t)] 41)) := by kernel_rfl
theorem as_type27 (a : Addr) (w : World) : (ReflectliteValue.methodAny (ReflectliteValue.valueError "reflectlite.Value.Type" 0) (fun t _ _ _ => ReflectliteType.toType t) #[.agg #[.pointer (some ⟨4, 41, none⟩), .pointer (some a), .int .u64 150]]).run Tryz.prog w
 = .ok (.iface 110 (.agg #[.pointer (some ⟨4, 41, none⟩)])) w := by kernel_rfl
theorem as_methodKind (h : Value) (w : World) : (Go.method 319 110 (.agg #[h]) "Kind").run Tryz.prog w = .ok (111, h) w := by kernel_rfl
theorem as_kind27 (w : World) : ((ReflectliteType.abiMethod fun t => (fun a : Nat => Value.int IntKind.u8 (a : Int)) <$> Rtype.kind t) #[.pointer (some ⟨4, 41, none⟩)]).run Tryz.prog w = .ok (.int .u8 22) w := by kernel_rfl
theorem as_kind25 (w : World) : ((ReflectliteType.abiMethod fun t => (fun a : Nat => Value.int IntKind.u8 (a : Int)) <$> Rtype.kind t) #[.pointer (some ⟨4, 39, none⟩)]).run Tryz.prog w = .ok (.int .u8 22) w := by kernel_rfl
theorem as_rlm (z : Sem Value) (f : TypeId → Addr → Nat → Nat → Sem Value) (v : Value) :
 ReflectliteValue.method z f #[v] = (do match ← ReflectliteValue.parts v with | none => z | some (t, a, fl) => f t a fl (fl % 32)) := rfl
theorem as_parts27 (a : Addr) (w : World) : (ReflectliteValue.parts (.agg #[.pointer (some ⟨4, 41, none⟩), .pointer (some a), .int .u64 150])).run Tryz.prog w = .ok (some (41, a, 150)) w := by kernel_rfl
theorem as_isNil27 (a p : Addr) (W : World) (ha : W.cell? a = some (.pointer (some p))) :
 (ReflectliteValue.method (ReflectliteValue.valueError "reflectlite.Value.IsNil" 0) ReflectliteValue.isNil #[.agg #[.pointer (some ⟨4, 41, none⟩), .pointer (some a), .int .u64 150]]).run Tryz.prog W = .ok (.bool false) W := by
 rw [as_rlm]
 simp only [Sem.run_bind, as_parts27, Result.andThen]
 simp [ReflectliteValue.isNil, loadVar, isAgg, underlying, Tryz.underlying41, ha, Result.andThen]
theorem as_methodElem (h : Value) (w : World) : (Go.method 319 110 (.agg #[h]) "Elem").run Tryz.prog w = .ok (125, .agg #[h]) w := by kernel_rfl
theorem as_methodImplements (h : Value) (w : World) : (Go.method 319 110 (.agg #[h]) "Implements").run Tryz.prog w = .ok (126, .agg #[h]) w := by kernel_rfl
theorem as_methodAssignableTo (h : Value) (w : World) : (Go.method 319 110 (.agg #[h]) "AssignableTo").run Tryz.prog w = .ok (123, .agg #[h]) w := by kernel_rfl
theorem as_elem27 (w : World) : (ReflectliteType.method ReflectliteType.elem #[.agg #[.pointer (some ⟨4, 41, none⟩)]]).run Tryz.prog w = .ok (.iface 110 (.agg #[.pointer (some ⟨4, 39, none⟩)])) w := by kernel_rfl
theorem as_implements25 (w : World) : (ReflectliteType.relation "Implements" ReflectliteType.implements_ #[.agg #[.pointer (some ⟨4, 39, none⟩)], .iface 110 (.agg #[.pointer (some ⟨4, 36, none⟩)])]).run Tryz.prog w = .ok (.bool true) w := by kernel_rfl
theorem as_typeOf25 (v : Value) (w : World) : (ReflectliteType.typeOf #[.iface 39 v]).run Tryz.prog w = .ok (.iface 110 (.agg #[.pointer (some ⟨4, 39, none⟩)])) w := by kernel_rfl
theorem as_assignable25 (w : World) : (ReflectliteType.relation "AssignableTo" ReflectliteType.assignableTo #[.agg #[.pointer (some ⟨4, 39, none⟩)], .iface 110 (.agg #[.pointer (some ⟨4, 39, none⟩)])]).run Tryz.prog w = .ok (.bool true) w := by kernel_rfl
theorem as_valueOf25 (e : Addr) (w : World) : (ReflectliteValue.unpack (.iface 39 (.pointer (some e)))).run Tryz.prog w
 = .ok (.agg #[.pointer (some ⟨4, 39, none⟩), .pointer (some ⟨w.heap.size, 0, none⟩), .int .u64 150]) (w.alloc (.cells #[.pointer (some e)] 39)) := by kernel_rfl
theorem as_elemOf27 (w : World) : (Rtype.elem? 41).run Tryz.prog w = .ok (some 39) w := by kernel_rfl
theorem as_mk25 (p : Addr) (w : World) : (ReflectliteValue.mk 39 p ReflectliteValue.flagAddr).run Tryz.prog w = .ok (.agg #[.pointer (some ⟨4, 39, none⟩), .pointer (some p), .int .u64 406]) w := by kernel_rfl
theorem as_elemV27 (a p : Addr) (W : World) (ha : W.cell? a = some (.pointer (some p))) :
 (ReflectliteValue.method (ReflectliteValue.valueError "reflectlite.Value.Elem" 0) ReflectliteValue.elem #[.agg #[.pointer (some ⟨4, 41, none⟩), .pointer (some a), .int .u64 150]]).run Tryz.prog W
  = .ok (.agg #[.pointer (some ⟨4, 39, none⟩), .pointer (some p), .int .u64 406]) W := by
 rw [as_rlm]
 simp only [Sem.run_bind, as_parts27, Result.andThen]
 simp [ReflectliteValue.elem, loadVar, isAgg, underlying, Tryz.underlying41, ha, Result.andThen, as_elemOf27, as_mk25]
theorem as_rls (v x : Value) : ReflectliteValue.set #[v, x] = (do
 let (some (dst, a, fl), some (src, b, _)) := (← ReflectliteValue.parts v, ← ReflectliteValue.parts x)
  | unsupported (.noEntry "extern/(internal/reflectlite.Value).Set.zeroValue")
 if fl / ReflectliteValue.flagAddr % 2 == 0 then unsupported (.noEntry "extern/(internal/reflectlite.Value).Set.unaddressable")
 let val ← loadVar src b
 if ← Rtype.directlyAssignable dst src then storeVar dst a val
 else if ← Rtype.implements dst src then
  if (← Rtype.kind src) == 20 then
   match val with
   | .nilIface => unsupported (.noEntry "extern/reflectlite: a nil value of one interface type handed on as a value of another")
   | _ => storeVar dst a val
  else storeVar dst a (.iface src val)
 else panicString ("reflectlite.Set: value of type " ++ (← Rtype.spelt src) ++ " is not assignable to type " ++ (← Rtype.spelt dst))
 pure (.tuple #[])) := rfl
theorem as_parts25a (a : Addr) (w : World) : (ReflectliteValue.parts (.agg #[.pointer (some ⟨4, 39, none⟩), .pointer (some a), .int .u64 406])).run Tryz.prog w = .ok (some (39, a, 406)) w := by kernel_rfl
theorem as_parts25 (a : Addr) (w : World) : (ReflectliteValue.parts (.agg #[.pointer (some ⟨4, 39, none⟩), .pointer (some a), .int .u64 150])).run Tryz.prog w = .ok (some (39, a, 150)) w := by kernel_rfl
theorem as_direct25 (w : World) : (Rtype.directlyAssignable 39 39).run Tryz.prog w = .ok true w := by kernel_rfl
theorem as_set25 (ta b e : Addr) (old : Value) (W : World) (hb : W.cell? b = some (.pointer (some e))) (ht : W.cell? ta = some old) (hf : W.frozen? ta = false) :
 (ReflectliteValue.set #[.agg #[.pointer (some ⟨4, 39, none⟩), .pointer (some ta), .int .u64 406], .agg #[.pointer (some ⟨4, 39, none⟩), .pointer (some b), .int .u64 150]]).run Tryz.prog W
  = .ok (.tuple #[]) (W.setCell ta (.pointer (some e))) := by
 rw [as_rls]
 simp only [Sem.run_bind, as_parts25a, as_parts25, Result.andThen]
 simp [ReflectliteValue.flagAddr, loadVar, isAgg, underlying, Tryz.underlying39, hb, Result.andThen, as_direct25, storeVar, Value.cells, storeCells, Addr.add]
 rw [run_store Tryz.prog W ta _ _ (by rfl)]
 simp [ht, hf]
set_option maxHeartbeats 4000000 in
theorem as_hit (e t : Addr) (old : Value) (w : World) (hg : w.cell? ⟨0, 0, none⟩ = some (.iface 110 (.agg #[.pointer (some ⟨4, 36, none⟩)]))) (ht0 : w.cell? t = some old) (hf0 : w.frozen? t = false) :
 Calls Tryz.prog 10 #[.iface 39 (.pointer (some e)), .iface 41 (.pointer (some t))] w fun ev w' => ev = .returned (.bool true) ∧ w' = ((((w.alloc (.cells #[.pointer (some t)] 41)).alloc (.cells #[.pointer (some ⟨4, 41, none⟩), .pointer (some ⟨w.heap.size, 0, none⟩), .int .u64 150] 74)).alloc (.cells #[.pointer (some ⟨4, 41, none⟩), .pointer (some ⟨w.heap.size, 0, none⟩), .int .u64 150] 74)).alloc (.cells #[.pointer (some e)] 39)).setCell t (.pointer (some e)) := by
 have h6 := @run_callFunc_extern Tryz.prog 24 _ (fun args => ReflectliteValue.unpack (args.getD 0 (.tuple #[]))) Tryz.func24 (by kernel_rfl) (by kernel_rfl) (by kernel_rfl) (by kernel_rfl)
 have h7 := @run_callFunc_extern Tryz.prog 25 _ (ReflectliteValue.methodAny (ReflectliteValue.valueError "reflectlite.Value.Type" 0) (fun t _ _ _ => ReflectliteType.toType t)) Tryz.func25 (by kernel_rfl) (by kernel_rfl) (by kernel_rfl) (by kernel_rfl)
 have h8 := @run_callFunc_extern Tryz.prog 26 _ (ReflectliteValue.method (ReflectliteValue.valueError "reflectlite.Value.IsNil" 0) ReflectliteValue.isNil) Tryz.func26 (by kernel_rfl) (by kernel_rfl) (by kernel_rfl) (by kernel_rfl)
 have h27 := @run_callFunc_extern Tryz.prog 111 _ (ReflectliteType.abiMethod fun t => do pure (.int .u8 (← Rtype.kind t))) Tryz.func111 (by kernel_rfl) (by kernel_rfl) (by kernel_rfl) (by kernel_rfl)
 have h37 := @run_callFunc_extern Tryz.prog 125 _ (ReflectliteType.method ReflectliteType.elem) Tryz.func125 (by kernel_rfl) (by kernel_rfl) (by kernel_rfl) (by kernel_rfl)
 have h38 := @run_callFunc_extern Tryz.prog 126 _ (ReflectliteType.relation "Implements" ReflectliteType.implements_) Tryz.func126 (by kernel_rfl) (by kernel_rfl) (by kernel_rfl) (by kernel_rfl)
 have h10 := @run_callFunc_extern Tryz.prog 31 _ ReflectliteType.typeOf Tryz.func31 (by kernel_rfl) (by kernel_rfl) (by kernel_rfl) (by kernel_rfl)
 have h35 := @run_callFunc_extern Tryz.prog 123 _ (ReflectliteType.relation "AssignableTo" ReflectliteType.assignableTo) Tryz.func123 (by kernel_rfl) (by kernel_rfl) (by kernel_rfl) (by kernel_rfl)
 have h11 := @run_callFunc_extern Tryz.prog 42 _ (ReflectliteValue.method (ReflectliteValue.valueError "reflectlite.Value.Elem" 0) ReflectliteValue.elem) Tryz.func42 (by kernel_rfl) (by kernel_rfl) (by kernel_rfl) (by kernel_rfl)
 have h12 := @run_callFunc_extern Tryz.prog 43 _ ReflectliteValue.set Tryz.func43 (by kernel_rfl) (by kernel_rfl) (by kernel_rfl) (by kernel_rfl)
 have tO := as_typeOf25
 have mA := as_methodAssignableTo
 have a25 := as_assignable25
 have v25 := as_valueOf25
 have f6 := as_valueOf27
 have f7 := as_type27
 have mK := as_methodKind
 have mE := as_methodElem
 have mI := as_methodImplements
 have k27 := as_kind27
 have k25 := as_kind25
 have e27 := as_elem27
 have i25 := as_implements25
 have n8 := as_isNil27 ⟨w.heap.size, 0, none⟩ t ((w.alloc (.cells #[.pointer (some t)] 41)).alloc (.cells #[.pointer (some ⟨4, 41, none⟩), .pointer (some ⟨w.heap.size, 0, none⟩), .int .u64 150] 74)) (by simp)
 have hlt : 0 < w.heap.size := by
  rcases Nat.lt_or_ge 0 w.heap.size with h | h
  ·exact h
  ·simp [World.cell?, Array.getElem?_eq_none h] at hg
 have hg2 : ((w.alloc (.cells #[.pointer (some t)] 41)).alloc (.cells #[.pointer (some ⟨4, 41, none⟩), .pointer (some ⟨w.heap.size, 0, none⟩), .int .u64 150] 74)).cell? ⟨0, 0, none⟩ = some (.iface 110 (.agg #[.pointer (some ⟨4, 36, none⟩)])) := by
  rw [World.cell?_alloc_lt _ _ ⟨0, 0, none⟩ (by simp <;> omega), World.cell?_alloc_lt _ _ ⟨0, 0, none⟩ hlt]; exact hg
 have htl : t.block < w.heap.size := by
  rcases Nat.lt_or_ge t.block w.heap.size with h | h
  ·exact h
  ·simp [World.cell?, Array.getElem?_eq_none h] at ht0
 have el := as_elemV27 ⟨w.heap.size, 0, none⟩ t (((w.alloc (.cells #[.pointer (some t)] 41)).alloc (.cells #[.pointer (some ⟨4, 41, none⟩), .pointer (some ⟨w.heap.size, 0, none⟩), .int .u64 150] 74)).alloc (.cells #[.pointer (some ⟨4, 41, none⟩), .pointer (some ⟨w.heap.size, 0, none⟩), .int .u64 150] 74)) (by rw [World.cell?_alloc_lt _ _ ⟨w.heap.size, 0, none⟩ (by simp; omega)]; simp)
 have st := as_set25 t ⟨w.heap.size + 1 + 1 + 1, 0, none⟩ e old ((((w.alloc (.cells #[.pointer (some t)] 41)).alloc (.cells #[.pointer (some ⟨4, 41, none⟩), .pointer (some ⟨w.heap.size, 0, none⟩), .int .u64 150] 74)).alloc (.cells #[.pointer (some ⟨4, 41, none⟩), .pointer (some ⟨w.heap.size, 0, none⟩), .int .u64 150] 74)).alloc (.cells #[.pointer (some e)] 39))
  (by rw [World.cell?_alloc_at _ _ _ _ (by simp)]; rfl)
  (by rw [World.cell?_alloc_lt _ _ t (by simp; omega), World.cell?_alloc_lt _ _ t (by simp; omega), World.cell?_alloc_lt _ _ t (by simp; omega), World.cell?_alloc_lt _ _ t htl]; exact ht0)
  (by rw [World.frozen?_alloc_old _ _ t (by simp; omega), World.frozen?_alloc_old _ _ t (by simp; omega), World.frozen?_alloc_old _ _ t (by simp; omega), World.frozen?_alloc_old _ _ t (Nat.ne_of_lt htl)]; exact hf0)
 go_enter Tryz.func10, Tryz.ntmps10
 go_wp2
 refine wp_loop_rounds 1 ?_
 rw [rounds_succ]
 go_wp2
 go_ret
 exact ⟨rfl, rfl⟩
def Ety (w : World) : Prop := w.cell? ⟨0, 0, none⟩ = some (.iface 110 (.agg #[.pointer (some ⟨4, 36, none⟩)]))
end Go.Proofs.YtalgcjkiajojoaaGreatDoor
namespace Go.Proofs.YtalgcjkiajojoaaGreatDoor
set_option maxRecDepth 100000
open Go Go.RowKit Go.Sort
attribute [local go_sem] setCell_drewN alloc_drewN
end Go.Proofs.YtalgcjkiajojoaaGreatDoor
namespace Go.Proofs.YtalgcjkiajojoaaGreatDoor
set_option maxRecDepth 100000
open Go Go.RowKit Go.Sort
attribute [local go_sem] setCell_drewN alloc_drewN
end Go.Proofs.YtalgcjkiajojoaaGreatDoor
namespace Go.Proofs.YtalgcjkiajojoaaGreatDoor
set_option maxRecDepth 100000
open Go Go.RowKit Go.Sort Go.ChangeShapes Go.WideShapes Go.Deep
end Go.Proofs.YtalgcjkiajojoaaGreatDoor
namespace Go.Proofs.YtalgcjkiajojoaaGreatDoor
set_option maxRecDepth 100000
open Go Go.RowKit Go.Sort
attribute [local go_sem] setCell_drewN alloc_drewN
section
variable {P : Program}
end
section
variable {P : Program} {ops : Array Oper} {Q : Exit → Act → World → Prop} {md : Region.Mode} {S : World → Prop}
end
end Go.Proofs.YtalgcjkiajojoaaGreatDoor
namespace Go.Proofs.YtalgcjkiajojoaaGreatDoor
set_option maxRecDepth 100000
open Go Go.RowKit Go.Sort
attribute [local go_sem] setCell_drewN alloc_drewN
theorem Ety.keep {w w' : World} {n : Nat} (h : Ety w) (hb : Below n w w') (hn : n = w.heap.size) : Ety w' := by
 subst hn
 unfold Ety at *
 have hl : 0 < w.heap.size := by
  rcases Nat.lt_or_ge 0 w.heap.size with q | q
  ·exact q
  ·simp [World.cell?, Array.getElem?_eq_none q] at h
 rw [World.cell?_of_block (hb.block _ hl)]
 exact h
theorem as_fault (g k : Nat) (w : World) (hE : Ety w) (hk : w.heap[k]? = some (.cells #[.pointer none] 39 (0, 0))) : Calls Tryz.prog 10 #[.iface 39 (.pointer (some ⟨g, 0, none⟩)), .iface 41 (.pointer (some ⟨k, 0, none⟩))] w fun e w' => e = .returned (.bool true) ∧ w'.heap[k]? = some (.cells #[.pointer (some ⟨g, 0, none⟩)] 39 (0, 0)) ∧ But k w w' := by
 have hl := lt_of_row hk
 refine (as_hit ⟨g, 0, none⟩ ⟨k, 0, none⟩ (.pointer none) w hE (by rw [cell_of_row _ _ _ _ _ _ hk]; rfl) (row_frozen hk 0)).mono ?_
 rintro e w' ⟨rfl, rfl⟩
 have hb : Below w.heap.size w ((((w.alloc (.cells #[.pointer (some ⟨k, 0, none⟩)] 41)).alloc (.cells #[.pointer (some ⟨4, 41, none⟩), .pointer (some ⟨w.heap.size, 0, none⟩), .int .u64 150] 74)).alloc (.cells #[.pointer (some ⟨4, 41, none⟩), .pointer (some ⟨w.heap.size, 0, none⟩), .int .u64 150] 74)).alloc (.cells #[.pointer (some ⟨g, 0, none⟩)] 39)) := ((((Below.refl _ _).alloc (Nat.le_refl _) _).alloc (by simp) _).alloc (by simp; omega) _).alloc (by simp; omega) _
 generalize (((w.alloc (.cells #[.pointer (some ⟨k, 0, none⟩)] 41)).alloc (.cells #[.pointer (some ⟨4, 41, none⟩), .pointer (some ⟨w.heap.size, 0, none⟩), .int .u64 150] 74)).alloc (.cells #[.pointer (some ⟨4, 41, none⟩), .pointer (some ⟨w.heap.size, 0, none⟩), .int .u64 150] 74)).alloc (.cells #[.pointer (some ⟨g, 0, none⟩)] 39) = w4 at *
 exact ⟨rfl, row_set (keep hb hk) 0 _, (But.of hb).trans (But.set w4 _)⟩
end Go.Proofs.YtalgcjkiajojoaaGreatDoor

