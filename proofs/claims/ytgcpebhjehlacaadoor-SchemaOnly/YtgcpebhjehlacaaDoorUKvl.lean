import Derived.Test.YtgcpebhjehlacaaDoorUKts
import Derived.Test.YtgcpebhjehlacaaDoorUKtv
import Derived.Lib.SlBytesConst
import Derived.Test.YtgcpebhjehlacaaDoorUXdc
import Derived.Test.YtgcpebhjehlacaaDoorProg
import Derived.WalkKit
import Derived.WalkSpells
import Derived.WalkLawsBesides
import Derived.Lib.QuietBelow
import Derived.Laws.BitsAllLaws
import Derived.BigQuiet
import Derived.WalkMore
import Derived.Deep.MidRow
import Derived.Test.YtgcpebhjehlacaaDoorUOpen
import Derived.Test.YtgcpebhjehlacaaDoorUWs
import Derived.ProofKit
import Derived.OpenShut
import Derived.ChangeOld
import Derived.Deep.Slices
import Derived.Test.YtgcpebhjehlacaaDoorRows
import Derived.Lib.LaidU8T
import Derived.Lib.LaidIn
import Derived.Laws.EntriesVeiled
namespace Go.Proofs.YtgcpebhjehlacaaDoor
set_option maxRecDepth 100000
open Go Go.RowKit Go.Sort
attribute [local go_sem] setCell_drewN alloc_drewN
theorem slo_L (w : World) : Slo ((w.alloc (.cells #[.int .i64 1, .int .i64 4, .int .u64 0, .int .u64 0, .slice none 0 0] 53)).alloc (.cells #[.int .i64 1, .int .i64 1, .int .u64 1, .int .u64 300, .slice none 0 0, .int .i64 2, .int .i64 6, .int .u64 0, .int .u64 10, .slice none 0 0, .int .i64 5, .int .i64 9, .int .u64 0, .int .u64 2, .slice (some ⟨w.heap.size, 0, none⟩) 1 1] 53)) (.slice (some ⟨w.heap.size + 1, 0, none⟩) 3 3) tsL := by
 have r1 := hp1_0 w (.cells #[.int .i64 1, .int .i64 4, .int .u64 0, .int .u64 0, .slice none 0 0] 53)
 have r3 := hp1_0 (w.alloc (.cells #[.int .i64 1, .int .i64 4, .int .u64 0, .int .u64 0, .slice none 0 0] 53)) (.cells #[.int .i64 1, .int .i64 1, .int .u64 1, .int .u64 300, .slice none 0 0, .int .i64 2, .int .i64 6, .int .u64 0, .int .u64 10, .slice none 0 0, .int .i64 5, .int .i64 9, .int .u64 0, .int .u64 2, .slice (some ⟨w.heap.size, 0, none⟩) 1 1] 53)
 have hb : Below (w.alloc (.cells #[.int .i64 1, .int .i64 4, .int .u64 0, .int .u64 0, .slice none 0 0] 53)).heap.size (w.alloc (.cells #[.int .i64 1, .int .i64 4, .int .u64 0, .int .u64 0, .slice none 0 0] 53)) ((w.alloc (.cells #[.int .i64 1, .int .i64 4, .int .u64 0, .int .u64 0, .slice none 0 0] 53)).alloc (.cells #[.int .i64 1, .int .i64 1, .int .u64 1, .int .u64 300, .slice none 0 0, .int .i64 2, .int .i64 6, .int .u64 0, .int .u64 10, .slice none 0 0, .int .i64 5, .int .i64 9, .int .u64 0, .int .u64 2, .slice (some ⟨w.heap.size, 0, none⟩) 1 1] 53)) := (Below.refl _ _).alloc (Nat.le_refl _) _
 rw [size_alloc1] at r3
 replace r1 := keep hb r1
 have l1 := lt_of_row r1
 have l3 := lt_of_row r3
 have s1 : Slo ((w.alloc (.cells #[.int .i64 1, .int .i64 4, .int .u64 0, .int .u64 0, .slice none 0 0] 53)).alloc (.cells #[.int .i64 1, .int .i64 1, .int .u64 1, .int .u64 300, .slice none 0 0, .int .i64 2, .int .i64 6, .int .u64 0, .int .u64 10, .slice none 0 0, .int .i64 5, .int .i64 9, .int .u64 0, .int .u64 2, .slice (some ⟨w.heap.size, 0, none⟩) 1 1] 53)) (.slice none 0 0) [] := .mk none 0 [] [] (by simp) (by simp) (fun _ => rfl) (fun i hi => by simp at hi) (fun i hi => by simp at hi)
 have s2 : Slo ((w.alloc (.cells #[.int .i64 1, .int .i64 4, .int .u64 0, .int .u64 0, .slice none 0 0] 53)).alloc (.cells #[.int .i64 1, .int .i64 1, .int .u64 1, .int .u64 300, .slice none 0 0, .int .i64 2, .int .i64 6, .int .u64 0, .int .u64 10, .slice none 0 0, .int .i64 5, .int .i64 9, .int .u64 0, .int .u64 2, .slice (some ⟨w.heap.size, 0, none⟩) 1 1] 53)) (.slice (some ⟨w.heap.size, 0, none⟩) 1 1) [.mk 1 4 0 0 []] := by
  refine .mk (some ⟨w.heap.size, 0, none⟩) 1 [.mk 1 4 0 0 []] [.slice none 0 0] (by simp) (by simp) (fun e => by cases e) (fun i hi => ?_) (fun i hi => ?_)
  ·obtain rfl : i = 0 := by simpa using hi
   refine ⟨w.heap.size, 0, rfl, l1, fun j v hv => ?_, by simp [Sok, gs, Slt.no, Slt.kind, Slt.least, Slt.most]⟩
   have hj : j < 5 := (List.getElem?_eq_some_iff.1 hv).1
   rw [cell_of_row _ _ _ _ _ _ r1]
   match j, hj with
   | 0, _ => exact hv
   | 1, _ => exact hv
   | 2, _ => exact hv
   | 3, _ => exact hv
   | 4, _ => exact hv
  ·obtain rfl : i = 0 := by simpa using hi
   exact s1
 refine .mk (some ⟨w.heap.size + 1, 0, none⟩) 3 tsL [.slice none 0 0, .slice none 0 0, .slice (some ⟨w.heap.size, 0, none⟩) 1 1] (by decide) (by decide) (fun e => by cases e) (fun i hi => ?_) (fun i hi => ?_)
 ·have hi3 : i < 3 := hi
  refine ⟨w.heap.size + 1, 0, rfl, l3, fun j v hv => ?_, ?_⟩
  ·have hj : j < 5 := (List.getElem?_eq_some_iff.1 hv).1
   rw [cell_of_row _ _ _ _ _ _ r3]
   match i, hi3, j, hj with
   | 0, _, 0, _ => exact hv
   | 0, _, 1, _ => exact hv
   | 0, _, 2, _ => exact hv
   | 0, _, 3, _ => exact hv
   | 0, _, 4, _ => exact hv
   | 1, _, 0, _ => exact hv
   | 1, _, 1, _ => exact hv
   | 1, _, 2, _ => exact hv
   | 1, _, 3, _ => exact hv
   | 1, _, 4, _ => exact hv
   | 2, _, 0, _ => exact hv
   | 2, _, 1, _ => exact hv
   | 2, _, 2, _ => exact hv
   | 2, _, 3, _ => exact hv
   | 2, _, 4, _ => exact hv
  ·match i, hi3 with
   | 0, _ => exact ⟨by decide, by decide, by decide, by decide⟩
   | 1, _ => exact ⟨by decide, by decide, by decide, by decide⟩
   | 2, _ => exact ⟨by decide, by decide, by decide, by decide⟩
 ·have hi3 : i < 3 := hi
  match i, hi3 with
  | 0, _ => exact s1
  | 1, _ => exact s1
  | 2, _ => exact s2
theorem vtm_ls {W : World} {n : Nat} {xs : List VR} {ps : List VT} (hl : xs.length = ps.length) (hm : ps.length ≤ 5864062014634) (hr : W.heap[n]? = some (.cells (vrs xs).toArray 27 (0, 0))) (hs : ∀ i, i < ps.length → VtM W (fun _ => True) (gx xs i) (gvt ps i)) : VtM W (fun _ => True) ⟨0, none, 0, 0, some ⟨n, 0, none⟩, ps.length, ps.length⟩ (.mk 0 [] ps) := by
 refine .mk ⟨0, none, 0, 0, some ⟨n, 0, none⟩, ps.length, ps.length⟩ [] xs ps (by show 0 < 18446744073709551616; decide) rfl (by decide) (bysB_nil _ _) (Nat.le_refl _) (fun a e => by cases lv_some e) rfl hl (Nat.le_refl _) hm (fun a e => ?_) (fun i hi => ⟨n, 0, rfl, fun j v hv => ?_⟩) hs
 ·have := lv_some e
  cases this
  exact ⟨trivial, lt_of_row hr⟩
 ·have hj : j < 3 := (List.getElem?_eq_some_iff.1 hv).1
  rw [cell_of_row _ _ _ _ _ _ hr, List.getElem?_toArray, Nat.zero_add, vrs_at xs i j (by omega) hj]
  exact hv
theorem vtm_nm (W : World) (N : Nat) (h : N < 18446744073709551616) : VtM W (fun _ => True) ⟨N, none, 0, 0, none, 0, 0⟩ (.mk N [] []) :=
 .mk ⟨N, none, 0, 0, none, 0, 0⟩ [] [] [] h rfl (by decide) (bysB_nil _ _) (Nat.le_refl _) (fun a e => by cases lv_some e) rfl rfl (Nat.le_refl _) (by decide) (fun a e => by cases lv_some e) (fun i hi => by simp at hi) (fun i hi => by simp at hi)
def x1L : VR := ⟨1, none, 0, 0, none, 0, 0⟩
def xpL (n : Nat) : VR := ⟨0, none, 0, 0, some ⟨n, 0, none⟩, 1, 1⟩
def x300 : VR := ⟨300, none, 0, 0, none, 0, 0⟩
def xabL (n : Nat) : VR := ⟨0, some ⟨n, 0, none⟩, 2, 2, none, 0, 0⟩
def xvL (n : Nat) : VR := ⟨0, none, 0, 0, some ⟨n, 0, none⟩, 3, 3⟩
theorem vtm_L {W : World} {n0 n1 n2 n3 : Nat} (r0 : W.heap[n0]? = some (.cells #[.int .u8 97, .int .u8 98] 5 (2, 3))) (r1 : W.heap[n1]? = some (.cells #[.int .u64 1, .slice none 0 0, .slice none 0 0] 27 (0, 0))) (r2 : W.heap[n2]? = some (.cells #[.int .u64 0, .slice none 0 0, .slice (some ⟨n1, 0, none⟩) 1 1] 27 (0, 0)))
 (r3 : W.heap[n3]? = some (.cells #[.int .u64 300, .slice none 0 0, .slice none 0 0, .int .u64 0, .slice (some ⟨n0, 0, none⟩) 2 2, .slice none 0 0, .int .u64 0, .slice none 0 0, .slice (some ⟨n2, 0, none⟩) 1 1] 27 (0, 0))) : VtM W (fun _ => True) (xvL n3) vL := by
 have h1 : VtM W (fun _ => True) x1L (.mk 1 [] []) := vtm_nm W 1 (by decide)
 have h2 : VtM W (fun _ => True) (xpL n1) (.mk 0 [] [.mk 1 [] []]) := vtm_ls (xs := [x1L]) (ps := [.mk 1 [] []]) rfl (by decide) r1 (fun i hi => by
  obtain rfl : i = 0 := by simpa using hi
  exact h1)
 have h3 : VtM W (fun _ => True) (xpL n2) (.mk 0 [] [.mk 0 [] [.mk 1 [] []]]) := vtm_ls (xs := [xpL n1]) (ps := [.mk 0 [] [.mk 1 [] []]]) rfl (by decide) r2 (fun i hi => by
  obtain rfl : i = 0 := by simpa using hi
  exact h2)
 have h4 : VtM W (fun _ => True) x300 (.mk 300 [] []) := vtm_nm W 300 (by decide)
 have hB : BysB W (.slice (some ⟨n0, 0, none⟩) 2 2) [97#8, 98#8] := ⟨⟨some ⟨n0, 0, none⟩, 2, rfl, by decide, fun j hj => ⟨n0, 0, rfl, lt_of_row r0, by
  rw [Nat.zero_add, cell_of_row _ _ _ _ _ _ r0]
  match j, hj with
  | 0, _ => rfl
  | 1, _ => rfl⟩, bl_bnd _⟩, by decide, fun a l c h h2 => by cases h; cases h2⟩
 have h5 : VtM W (fun _ => True) (xabL n0) (.mk 0 [97#8, 98#8] []) := .mk (xabL n0) [97#8, 98#8] [] [] (by show 0 < 18446744073709551616; decide) rfl (by decide) hB (Nat.le_refl _) (fun a e => by
  have := lv_some e
  cases this
  exact ⟨trivial, lt_of_row r0⟩) rfl rfl (Nat.le_refl _) (by decide) (fun a e => by cases lv_some e) (fun i hi => by simp at hi) (fun i hi => by simp at hi)
 exact vtm_ls (xs := [x300, xabL n0, xpL n2]) (ps := [.mk 300 [] [], .mk 0 [97#8, 98#8] [], .mk 0 [] [.mk 0 [] [.mk 1 [] []]]]) rfl (by decide) r3 (fun i hi => by
  have hi3 : i < 3 := hi
  match i, hi3 with
  | 0, _ => exact h4
  | 1, _ => exact h5
  | 2, _ => exact h3)
theorem eqe_nils (W : World) : (binOp .eql 36 .nilIface .nilIface).run Tryd.prog W = .ok (.bool true) W := by kernel_rfl
theorem okL : tsL.length ≤ 16 ∧ vok tsL 0 1 ∧ gd tsL ∧ (spL tsL 0 0).2 ≤ 4194304 ∧ 1 + htT tsL ≤ 9223372036854775807 := vld_ok vld_L
set_option maxRecDepth 100000 in
set_option maxHeartbeats 8000000 in
theorem l_lives8 (w : World) (hT : Lib.Utf8Tabs 1 2 w) : Calls Tryd.prog 8 #[] w fun e w' => e = .returned (.bool true) ∧ Below w.heap.size w w' := by
 have kc := fun (W : World) (C : Array Value) (n c : Nat) => Go.Lib.run_convert_bytes_const (P := Tryd.prog) W 24 5 C n c Tryd.underlying24 Tryd.underlying5
 have cC := a_Compile (slo_L w) _ (Below.refl _ _)
 have hb0 : Below w.heap.size w ((w.alloc (.cells #[.int .i64 1, .int .i64 4, .int .u64 0, .int .u64 0, .slice none 0 0] 53)).alloc (.cells #[.int .i64 1, .int .i64 1, .int .u64 1, .int .u64 300, .slice none 0 0, .int .i64 2, .int .i64 6, .int .u64 0, .int .u64 10, .slice none 0 0, .int .i64 5, .int .i64 9, .int .u64 0, .int .u64 2, .slice (some ⟨w.heap.size, 0, none⟩) 1 1] 53)) := ((Below.refl _ _).alloc (Nat.le_refl _) _).alloc (by simp) _
 generalize hW : ((w.alloc (.cells #[.int .i64 1, .int .i64 4, .int .u64 0, .int .u64 0, .slice none 0 0] 53)).alloc (.cells #[.int .i64 1, .int .i64 1, .int .u64 1, .int .u64 300, .slice none 0 0, .int .i64 2, .int .i64 6, .int .u64 0, .int .u64 10, .slice none 0 0, .int .i64 5, .int .i64 9, .int .u64 0, .int .u64 2, .slice (some ⟨w.heap.size, 0, none⟩) 1 1] 53)) = W0 at cC hb0
 go_enter Tryd.func8, Tryd.ntmps8
 go_wp2_with (fail)
 clear hW
 refine cC.mono ?_
 rintro e_ w1 ⟨hb1, ⟨_, g, rfl, hg, hC⟩ | ⟨hz, _⟩⟩
 ·have hb := Below.after hb0 hb1
  clear cC hb1 hg hb0
  go_wp2_with (fail)
  have hb1 := Below.refl w1.heap.size w1
  have q0 := hp1_0 w1 (.cells #[.int .u8 97, .int .u8 98] 5 (2, 3))
  have p0 : Below w1.heap.size w1 (w1.alloc (.cells #[.int .u8 97, .int .u8 98] 5 (2, 3))) := (Below.refl _ _).alloc (Nat.le_refl _) _
  replace hb1 := Below.after hb1 p0
  have q1 := hp1_0 (w1.alloc (.cells #[.int .u8 97, .int .u8 98] 5 (2, 3))) (.cells #[.int .u64 1, .slice none 0 0, .slice none 0 0] 27)
  rw [show (w1.alloc (.cells #[.int .u8 97, .int .u8 98] 5 (2, 3))).heap.size = w1.heap.size + 1 by simp] at q1
  have p1 : Below (w1.alloc (.cells #[.int .u8 97, .int .u8 98] 5 (2, 3))).heap.size (w1.alloc (.cells #[.int .u8 97, .int .u8 98] 5 (2, 3))) ((w1.alloc (.cells #[.int .u8 97, .int .u8 98] 5 (2, 3))).alloc (.cells #[.int .u64 1, .slice none 0 0, .slice none 0 0] 27)) := (Below.refl _ _).alloc (Nat.le_refl _) _
  replace q0 := keep p1 q0
  replace hb1 := Below.after hb1 p1
  have q2 := hp1_0 ((w1.alloc (.cells #[.int .u8 97, .int .u8 98] 5 (2, 3))).alloc (.cells #[.int .u64 1, .slice none 0 0, .slice none 0 0] 27)) (.cells #[.int .u64 0, .slice none 0 0, .slice (some ⟨w1.heap.size + 1, 0, none⟩) 1 1] 27)
  rw [show ((w1.alloc (.cells #[.int .u8 97, .int .u8 98] 5 (2, 3))).alloc (.cells #[.int .u64 1, .slice none 0 0, .slice none 0 0] 27)).heap.size = w1.heap.size + 1 + 1 by simp] at q2
  have p2 : Below ((w1.alloc (.cells #[.int .u8 97, .int .u8 98] 5 (2, 3))).alloc (.cells #[.int .u64 1, .slice none 0 0, .slice none 0 0] 27)).heap.size ((w1.alloc (.cells #[.int .u8 97, .int .u8 98] 5 (2, 3))).alloc (.cells #[.int .u64 1, .slice none 0 0, .slice none 0 0] 27)) (((w1.alloc (.cells #[.int .u8 97, .int .u8 98] 5 (2, 3))).alloc (.cells #[.int .u64 1, .slice none 0 0, .slice none 0 0] 27)).alloc (.cells #[.int .u64 0, .slice none 0 0, .slice (some ⟨w1.heap.size + 1, 0, none⟩) 1 1] 27)) := (Below.refl _ _).alloc (Nat.le_refl _) _
  replace q0 := keep p2 q0
  replace q1 := keep p2 q1
  replace hb1 := Below.after hb1 p2
  have q3 := hp1_0 (((w1.alloc (.cells #[.int .u8 97, .int .u8 98] 5 (2, 3))).alloc (.cells #[.int .u64 1, .slice none 0 0, .slice none 0 0] 27)).alloc (.cells #[.int .u64 0, .slice none 0 0, .slice (some ⟨w1.heap.size + 1, 0, none⟩) 1 1] 27)) (.cells #[.int .u64 300, .slice none 0 0, .slice none 0 0, .int .u64 0, .slice (some ⟨w1.heap.size, 0, none⟩) 2 2, .slice none 0 0, .int .u64 0, .slice none 0 0, .slice (some ⟨w1.heap.size + 1 + 1, 0, none⟩) 1 1] 27)
  rw [show (((w1.alloc (.cells #[.int .u8 97, .int .u8 98] 5 (2, 3))).alloc (.cells #[.int .u64 1, .slice none 0 0, .slice none 0 0] 27)).alloc (.cells #[.int .u64 0, .slice none 0 0, .slice (some ⟨w1.heap.size + 1, 0, none⟩) 1 1] 27)).heap.size = w1.heap.size + 1 + 1 + 1 by simp] at q3
  have p3 : Below (((w1.alloc (.cells #[.int .u8 97, .int .u8 98] 5 (2, 3))).alloc (.cells #[.int .u64 1, .slice none 0 0, .slice none 0 0] 27)).alloc (.cells #[.int .u64 0, .slice none 0 0, .slice (some ⟨w1.heap.size + 1, 0, none⟩) 1 1] 27)).heap.size (((w1.alloc (.cells #[.int .u8 97, .int .u8 98] 5 (2, 3))).alloc (.cells #[.int .u64 1, .slice none 0 0, .slice none 0 0] 27)).alloc (.cells #[.int .u64 0, .slice none 0 0, .slice (some ⟨w1.heap.size + 1, 0, none⟩) 1 1] 27)) ((((w1.alloc (.cells #[.int .u8 97, .int .u8 98] 5 (2, 3))).alloc (.cells #[.int .u64 1, .slice none 0 0, .slice none 0 0] 27)).alloc (.cells #[.int .u64 0, .slice none 0 0, .slice (some ⟨w1.heap.size + 1, 0, none⟩) 1 1] 27)).alloc (.cells #[.int .u64 300, .slice none 0 0, .slice none 0 0, .int .u64 0, .slice (some ⟨w1.heap.size, 0, none⟩) 2 2, .slice none 0 0, .int .u64 0, .slice none 0 0, .slice (some ⟨w1.heap.size + 1 + 1, 0, none⟩) 1 1] 27)) := (Below.refl _ _).alloc (Nat.le_refl _) _
  replace q0 := keep p3 q0
  replace q1 := keep p3 q1
  replace q2 := keep p3 q2
  replace hb1 := Below.after hb1 p3
  have q4 := hp1_0 ((((w1.alloc (.cells #[.int .u8 97, .int .u8 98] 5 (2, 3))).alloc (.cells #[.int .u64 1, .slice none 0 0, .slice none 0 0] 27)).alloc (.cells #[.int .u64 0, .slice none 0 0, .slice (some ⟨w1.heap.size + 1, 0, none⟩) 1 1] 27)).alloc (.cells #[.int .u64 300, .slice none 0 0, .slice none 0 0, .int .u64 0, .slice (some ⟨w1.heap.size, 0, none⟩) 2 2, .slice none 0 0, .int .u64 0, .slice none 0 0, .slice (some ⟨w1.heap.size + 1 + 1, 0, none⟩) 1 1] 27)) (.cells #[.int .u64 0, .slice none 0 0, .slice (some ⟨w1.heap.size + 1 + 1 + 1, 0, none⟩) 3 3] 27)
  rw [show ((((w1.alloc (.cells #[.int .u8 97, .int .u8 98] 5 (2, 3))).alloc (.cells #[.int .u64 1, .slice none 0 0, .slice none 0 0] 27)).alloc (.cells #[.int .u64 0, .slice none 0 0, .slice (some ⟨w1.heap.size + 1, 0, none⟩) 1 1] 27)).alloc (.cells #[.int .u64 300, .slice none 0 0, .slice none 0 0, .int .u64 0, .slice (some ⟨w1.heap.size, 0, none⟩) 2 2, .slice none 0 0, .int .u64 0, .slice none 0 0, .slice (some ⟨w1.heap.size + 1 + 1, 0, none⟩) 1 1] 27)).heap.size = w1.heap.size + 1 + 1 + 1 + 1 by simp] at q4
  have p4 : Below ((((w1.alloc (.cells #[.int .u8 97, .int .u8 98] 5 (2, 3))).alloc (.cells #[.int .u64 1, .slice none 0 0, .slice none 0 0] 27)).alloc (.cells #[.int .u64 0, .slice none 0 0, .slice (some ⟨w1.heap.size + 1, 0, none⟩) 1 1] 27)).alloc (.cells #[.int .u64 300, .slice none 0 0, .slice none 0 0, .int .u64 0, .slice (some ⟨w1.heap.size, 0, none⟩) 2 2, .slice none 0 0, .int .u64 0, .slice none 0 0, .slice (some ⟨w1.heap.size + 1 + 1, 0, none⟩) 1 1] 27)).heap.size ((((w1.alloc (.cells #[.int .u8 97, .int .u8 98] 5 (2, 3))).alloc (.cells #[.int .u64 1, .slice none 0 0, .slice none 0 0] 27)).alloc (.cells #[.int .u64 0, .slice none 0 0, .slice (some ⟨w1.heap.size + 1, 0, none⟩) 1 1] 27)).alloc (.cells #[.int .u64 300, .slice none 0 0, .slice none 0 0, .int .u64 0, .slice (some ⟨w1.heap.size, 0, none⟩) 2 2, .slice none 0 0, .int .u64 0, .slice none 0 0, .slice (some ⟨w1.heap.size + 1 + 1, 0, none⟩) 1 1] 27)) (((((w1.alloc (.cells #[.int .u8 97, .int .u8 98] 5 (2, 3))).alloc (.cells #[.int .u64 1, .slice none 0 0, .slice none 0 0] 27)).alloc (.cells #[.int .u64 0, .slice none 0 0, .slice (some ⟨w1.heap.size + 1, 0, none⟩) 1 1] 27)).alloc (.cells #[.int .u64 300, .slice none 0 0, .slice none 0 0, .int .u64 0, .slice (some ⟨w1.heap.size, 0, none⟩) 2 2, .slice none 0 0, .int .u64 0, .slice none 0 0, .slice (some ⟨w1.heap.size + 1 + 1, 0, none⟩) 1 1] 27)).alloc (.cells #[.int .u64 0, .slice none 0 0, .slice (some ⟨w1.heap.size + 1 + 1 + 1, 0, none⟩) 3 3] 27)) := (Below.refl _ _).alloc (Nat.le_refl _) _
  replace q0 := keep p4 q0
  replace q1 := keep p4 q1
  replace q2 := keep p4 q2
  replace q3 := keep p4 q3
  replace hb1 := Below.after hb1 p4
  generalize (((((w1.alloc (.cells #[.int .u8 97, .int .u8 98] 5 (2, 3))).alloc (.cells #[.int .u64 1, .slice none 0 0, .slice none 0 0] 27)).alloc (.cells #[.int .u64 0, .slice none 0 0, .slice (some ⟨w1.heap.size + 1, 0, none⟩) 1 1] 27)).alloc (.cells #[.int .u64 300, .slice none 0 0, .slice none 0 0, .int .u64 0, .slice (some ⟨w1.heap.size, 0, none⟩) 2 2, .slice none 0 0, .int .u64 0, .slice none 0 0, .slice (some ⟨w1.heap.size + 1 + 1, 0, none⟩) 1 1] 27)).alloc (.cells #[.int .u64 0, .slice none 0 0, .slice (some ⟨w1.heap.size + 1 + 1 + 1, 0, none⟩) 3 3] 27)) = w5 at *
  clear p0 p1 p2 p3 p4
  generalize w1.heap.size + 1 + 1 + 1 + 1 = n4 at *
  generalize w1.heap.size + 1 + 1 + 1 = n3 at *
  generalize w1.heap.size + 1 + 1 = n2 at *
  generalize w1.heap.size + 1 = n1 at *
  have hV := vtm_L q0 q1 q2 q3
  clear q0 q1 q2 q3
  replace hC := hC.keep hb1
  replace hb := Below.after hb hb1
  have hT5 := Utf8Tabs_below hT hb
  have cE : Calls Tryd.prog 12 #[.pointer (some ⟨g, 0, none⟩), .agg #[.int .u64 0, .slice none 0 0, .slice (some ⟨n3, 0, none⟩) 3 3]] w5 _ := a_EncodeT plo8 okL.2.2.1 _ (xvL n3) vL w5 hT5 hC hV okL.2.2.2.2
  refine cE.mono ?_
  rintro e_ w6 ⟨hE, hb6⟩
  rw [ckL] at hE
  obtain ⟨u, rfl, hU⟩ := hE
  rw [enL] at hU
  obtain ⟨ua, uc, rfl⟩ := slen_own hU
  have hUB := hU.bysB (by decide)
  have hUc := own_capT hU
  have hU12 : bL.length = 12 := rfl
  rw [hU12] at hUB hUc ⊢
  clear hU12
  change BysB w6 (.slice ua 12 uc) bL at hUB
  clear cE
  replace hC := hC.keep hb6
  replace hV := hV.blw hb6
  replace q4 := keep hb6 q4
  replace hT5 := Utf8Tabs_below hT5 hb6
  replace hb := Below.after hb hb6
  clear hb1 hU
  go_wp2_with (fail)
  obtain ⟨_, _, eD, eM⟩ := enc_back utD flD (by have := okL.1; omega) okL.2.1 okL.2.2.2.1 hV.nm (fr := 0) ckL
  rw [enL] at eD eM
  refine (a_DecodeT plo8 bL (.slice ua 12 uc) w6 hT5 hC hUB (fun a l c e => by injection e with e1 e2 e3; omega)).mono ?_
  rintro e_ w7 ⟨hD, hb7⟩
  rw [eD, eM] at hD
  obtain ⟨⟨yn, yda, ydl, ydc, ypa, ypl, ypc⟩, rfl, hY⟩ := hD
  unfold vrv vrw
  clear eD eM
  replace hC := hC.keep hb7
  replace hV := hV.blw hb7
  replace q4 := keep hb7 q4
  replace hT5 := Utf8Tabs_below hT5 hb7
  replace hUB := hUB.keep hb7
  replace hb := Below.after hb hb7
  have hba := (Below.refl w7.heap.size w7).alloc (Nat.le_refl _) (.cells #[.int .u64 (yn : Int), .slice yda ydl ydc, .slice ypa ypl ypc] 27)
  have q6 := hp1_0 w7 (.cells #[.int .u64 (yn : Int), .slice yda ydl ydc, .slice ypa ypl ypc] 27)
  replace hC := hC.keep hba
  replace hV := hV.blw hba
  replace q4 := keep hba q4
  replace hT5 := Utf8Tabs_below hT5 hba
  replace hUB := hUB.keep hba
  replace hb := Below.after hb hba
  replace hY := hY.blw hba
  clear hb7 hba hb6
  have HC := hide hC
  have HV := hide hV
  have HY := hide hY
  have HU := hide hUB
  have HT := hide hT5
  have HB := hide hb
  clear hC hV hY hUB hT5 hb hT
  go_wp2_with (fail)
  generalize w7.alloc (.cells #[.int .u64 (yn : Int), .slice yda ydl ydc, .slice ypa ypl ypc] 27) = w8 at *
  generalize w7.heap.size = n6 at *
  refine (a_DecodeT plo8 (bL.take 6) (.slice ua 6 uc) w8 HT.out HC.out (bysB_take8 HU.out (by decide)) (fun a l c e => by injection e with e1 e2 e3; omega)).mono ?_
  rintro e_ w9 ⟨hD, hb9⟩
  obtain ⟨f6, hf6⟩ := deL6
  rw [hf6] at hD
  obtain ⟨q, rfl, _, _⟩ := hD
  have hC := HC.out.keep hb9
  have hV := HV.out.blw hb9
  have hY := HY.out.blw hb9
  replace q4 := keep hb9 q4
  replace q6 := keep hb9 q6
  have hT5 := Utf8Tabs_below HT.out hb9
  have hUB := HU.out.keep hb9
  have hb := Below.after HB.out hb9
  replace HC := hide hC
  replace HV := hide hV
  replace HY := hide hY
  replace HU := hide hUB
  replace HT := hide hT5
  replace HB := hide hb
  clear hC hV hY hUB hT5 hb
  have hba := (Below.refl w9.heap.size w9).alloc (Nat.le_refl _) (.cells #[.int .u64 0, .slice none 0 0, .slice none 0 0] 27)
  have hC := HC.out.keep hba
  have hV := HV.out.blw hba
  have hY := HY.out.blw hba
  replace q4 := keep hba q4
  replace q6 := keep hba q6
  have hT5 := Utf8Tabs_below HT.out hba
  have hUB := HU.out.keep hba
  have hb := Below.after HB.out hba
  replace HC := hide hC
  replace HV := hide hV
  replace HY := hide hY
  replace HU := hide hUB
  replace HT := hide hT5
  replace HB := hide hb
  clear hC hV hY hUB hT5 hb
  clear hba hb9
  go_wp2_with (fail)
  generalize w9.alloc (.cells #[.int .u64 0, .slice none 0 0, .slice none 0 0] 27) = w10 at *
  have cR := a_RangeT _ HC.out
  rw [prs_L] at cR
  refine cR.mono ?_
  rintro e_ w11 ⟨rfl, hb11⟩
  have hC := HC.out.keep hb11
  have hV := HV.out.blw hb11
  have hY := HY.out.blw hb11
  replace q4 := keep hb11 q4
  replace q6 := keep hb11 q6
  have hT5 := Utf8Tabs_below HT.out hb11
  have hUB := HU.out.keep hb11
  have hb := Below.after HB.out hb11
  replace HC := hide hC
  replace HV := hide hV
  replace HY := hide hY
  replace HU := hide hUB
  replace HT := hide hT5
  replace HB := hide hb
  clear hC hV hY hUB hT5 hb
  clear cR hb11
  have e1 := eqe_nils
  have e2 := neq_fault (.pointer (some ⟨q, 0, none⟩))
  have kX : (convert 24 9 (.slice ua 12 uc)).run Tryd.prog w11 = .ok (.string ⟨#[8, 172, 2, 18, 2, 97, 98, 42, 3, 2, 8, 1]⟩) w11 := conv_byT HU.out.1
  have cS : Calls Tryd.prog 16 #[.agg #[.int .u64 0, .slice none 0 0, .slice (some ⟨n3, 0, none⟩) 3 3], .agg #[.int .u64 (yn : Int), .slice yda ydl ydc, .slice ypa ypl ypc]] w11 _ := a_same HV.out _ ⟨yn, yda, ydl, ydc, ypa, ypl, ypc⟩ vL w11 (Below.refl _ _) HY.out
  rw [show (@decide (vL = vL) (Classical.propDecidable _)) = true by simp] at cS
  go_wp2_with (first | (refine wpList_load_want rfl 27 _ rfl n4 rfl 27 #[.int .u64 0, .slice none 0 0, .slice (some ⟨n3, 0, none⟩) 3 3] (0, 0) _ q4 Tryd.underlying27 rfl infoV ?_) | (refine wpList_load_want rfl 27 _ rfl n6 rfl 27 #[.int .u64 (yn : Int), .slice yda ydl ydc, .slice ypa ypl ypc] (0, 0) _ q6 Tryd.underlying27 rfl infoV ?_) | fail)
  refine cS.mono ?_
  rintro e_ w12 ⟨rfl, hb12⟩
  have hb := Below.after HB.out hb12
  go_wp2_with (fail)
  go_ret
  exact ⟨rfl, hb⟩
 ·exact absurd vld_L hz
end Go.Proofs.YtgcpebhjehlacaaDoor
namespace Go.Proofs.YtgcpebhjehlacaaDoor
set_option maxRecDepth 100000
open Go Go.RowKit Go.Sort
attribute [local go_sem] setCell_drewN alloc_drewN
set_option maxRecDepth 100000 in
set_option maxHeartbeats 8000000 in
theorem only_any {v b : Value} {ts : List Slt} {d : List B} (W : World) (hT : Lib.Utf8Tabs 1 2 W) (hS : Slo W v ts) (hB0 : BysC W b d) : Calls Tryd.prog 4 #[v, b] W fun e W' => e = .returned (.bool true) ∧ Below W.heap.size W W' := by
 obtain ⟨ao, cap, rfl⟩ := hS.form
 obtain ⟨bo, bc, rfl⟩ := hB0.1.form
 have hbc : d.length ≤ bc := hB0.2.2 _ _ _ rfl
 have hdl := hB0.2.1
 have hBb := hB0.1
 have hcap : ∀ a l c, Value.slice bo d.length bc = .slice a l c → l ≤ c := hB0.2.2
 clear hB0
 replace hcap := hide hcap
 have hb := Below.refl W.heap.size W
 go_enter Tryd.func4, Tryd.ntmps4
 go_wp2_with (fail)
 refine (l_lives8 _ hT).mono ?_
 rintro e_ w1 ⟨rfl, hb1⟩
 replace hT := Utf8Tabs_below hT hb1
 replace hS := hS.keep hb1
 replace hBb := hBb.keep hb1
 replace hb := Below.after hb hb1
 clear hb1
 go_wp2_with (fail)
 have cBs := l_bigSlots hS
 generalize decide (slL ts 10000 < 0) = bs at *
 refine (cBs).mono ?_
 rintro e_ w2 ⟨rfl, hb2⟩
 replace hT := Utf8Tabs_below hT hb2
 replace hS := hS.keep hb2
 replace hBb := hBb.keep hb2
 replace hb := Below.after hb hb2
 clear hb2
 clear cBs
 cases bs
 rotate_left
 ·go_wp2_with (fail)
  refine (l_lives8 _ hT).mono ?_
  rintro e_ w3 ⟨rfl, hb3⟩
  replace hT := Utf8Tabs_below hT hb3
  replace hS := hS.keep hb3
  replace hBb := hBb.keep hb3
  replace hb := Below.after hb hb3
  clear hb3
  go_wp2_with (fail)
  go_ret
  exact ⟨rfl, hb⟩
 go_wp2_with (fail)
 refine (a_Compile hS _ (Below.refl _ _)).mono ?_
 rintro e_ w3 ⟨hb3, hor⟩
 replace hT := Utf8Tabs_below hT hb3
 replace hS := hS.keep hb3
 replace hBb := hBb.keep hb3
 replace hb := Below.after hb hb3
 clear hb3
 rcases hor with ⟨hz, g, rfl, _, hC⟩ | ⟨hz, rfl⟩
 rotate_left
 ·have hz2 : (vld ts == 0) = false := by simpa using hz
  generalize vld ts = zz at *
  clear hz
  go_wp2_with (fail)
  go_ret
  exact ⟨rfl, hb⟩
 have ok := vld_ok hz
 clear hz
 go_wp2_with (fail)
 have cD := a_DecodeT plo8 d _ _ hT hC hBb hcap.out
 obtain ⟨F, hF⟩ : ∃ F, deT utD flD ts d 0 = F := ⟨_, rfl⟩
 rw [hF] at cD
 refine (cD).mono ?_
 rintro e_ w4 ⟨hD, hb4⟩
 replace hT := Utf8Tabs_below hT hb4
 replace hS := hS.keep hb4
 replace hBb := hBb.keep hb4
 replace hb := Below.after hb hb4
 replace hC := hC.keep hb4
 clear hb4
 clear cD
 cases F with
 | some f =>
  obtain ⟨q, rfl, _, _⟩ := hD
  have e1 := neq_fault (.pointer (some ⟨q, 0, none⟩))
  have hba := (Below.refl w4.heap.size w4).alloc (Nat.le_refl _) (.cells #[.int .u64 0, .slice none 0 0, .slice none 0 0] 27)
  replace hb := Below.after hb hba
  clear hba
  go_wp2_with (fail)
  go_ret
  exact ⟨rfl, hb⟩
 | none =>
  obtain ⟨⟨yn, yda, ydl, ydc, ypa, ypl, ypc⟩, rfl, hY⟩ := hD
  unfold vrv vrw
  obtain ⟨m1, m2, m3, m4⟩ := dec_back utD flD ok.2.2.1 1 hF
  have hNm := hY.nm
  obtain ⟨h1, h2, _, _⟩ := enc_back utD flD (by have := ok.1; omega) ok.2.1 ok.2.2.2.1 hNm (fr := 0) m2
  rw [m1, ← prS_spL] at h1 h2
  have h3 := ok.2.2.2.1
  rw [← prS_spL] at h3
  have hba := (Below.refl w4.heap.size w4).alloc (Nat.le_refl _) (.cells #[.int .u64 (yn : Int), .slice yda ydl ydc, .slice ypa ypl ypc] 27)
  have rY := hp1_0 w4 (.cells #[.int .u64 (yn : Int), .slice yda ydl ydc, .slice ypa ypl ypc] 27)
  have e1 := neq_nils
  replace hT := Utf8Tabs_below hT hba
  replace hS := hS.keep hba
  replace hBb := hBb.keep hba
  replace hb := Below.after hb hba
  replace hC := hC.keep hba
  replace hY := hY.blw hba
  clear hba
  go_wp2_with (first | (refine wpList_load_want rfl 27 _ rfl w4.heap.size rfl 27 #[.int .u64 (yn : Int), .slice yda ydl ydc, .slice ypa ypl ypc] (0, 0) _ rY Tryd.underlying27 rfl infoV ?_) | fail)
  generalize w4.alloc (.cells #[.int .u64 (yn : Int), .slice yda ydl ydc, .slice ypa ypl ypc] 27) = w90 at *
  generalize w4.heap.size = gy at *
  have cE := a_EncodeT plo8 ok.2.2.1 _ _ _ _ hT hC hY ok.2.2.2.2
  unfold vrv vrw at cE
  rw [m2, m1] at cE
  refine (cE).mono ?_
  rintro e_ w5 ⟨hE, hb5⟩
  replace hT := Utf8Tabs_below hT hb5
  replace hS := hS.keep hb5
  replace hBb := hBb.keep hb5
  replace hb := Below.after hb hb5
  replace hC := hC.keep hb5
  replace hY := hY.blw hb5
  replace rY := keep hb5 rY
  clear hb5
  obtain ⟨u, rfl, hU⟩ := hE
  obtain ⟨ua, uc, rfl⟩ := slen_own hU
  have hUB := hU.bysB (by omega)
  clear hU cE
  go_wp2_with (first | (refine wpList_load_want rfl 27 _ rfl gy rfl 27 #[.int .u64 (yn : Int), .slice yda ydl ydc, .slice ypa ypl ypc] (0, 0) _ rY Tryd.underlying27 rfl infoV ?_) | fail)
  have cW := a_decode d _ _ hBb hcap.out
  rw [m3] at cW
  refine (cW).mono ?_
  rintro e_ w6 ⟨u2, us, rfl, hFt, hb6⟩
  replace hT := Utf8Tabs_below hT hb6
  replace hS := hS.keep hb6
  replace hBb := hBb.keep hb6
  replace hb := Below.after hb hb6
  replace hC := hC.keep hb6
  replace hY := hY.blw hb6
  replace rY := keep hb6 rY
  replace hUB := hUB.keep hb6
  clear hb6
  obtain ⟨fa, fc, rfl⟩ : ∃ a c, u2 = .slice a ts.length c := by
   obtain ⟨a, c, e⟩ := own_slice hFt.1
   exact ⟨a, c, by rw [e, m4]⟩
  clear hFt cW
  go_wp2_with (first | (refine wpList_load_want rfl 27 _ rfl gy rfl 27 #[.int .u64 (yn : Int), .slice yda ydl ydc, .slice ypa ypl ypc] (0, 0) _ rY Tryd.underlying27 rfl infoV ?_) | fail)
  have cR := a_RangeT _ hC
  refine (cR).mono ?_
  rintro e_ w7 ⟨rfl, hb7⟩
  replace hT := Utf8Tabs_below hT hb7
  replace hS := hS.keep hb7
  replace hBb := hBb.keep hb7
  replace hb := Below.after hb hb7
  replace hC := hC.keep hb7
  replace hY := hY.blw hb7
  replace rY := keep hb7 rY
  replace hUB := hUB.keep hb7
  clear hb7
  clear cR
  go_wp2_with (first | (refine wpList_load_want rfl 27 _ rfl gy rfl 27 #[.int .u64 (yn : Int), .slice yda ydl ydc, .slice ypa ypl ypc] (0, 0) _ rY Tryd.underlying27 rfl infoV ?_) | fail)
  have cK := a_CheckT plo8 _ _ _ _ hT hC hY ok.2.2.2.2
  unfold vrv vrw at cK
  rw [m2] at cK
  refine (cK).mono ?_
  rintro e_ w8 ⟨hK, hb8⟩
  replace hT := Utf8Tabs_below hT hb8
  replace hS := hS.keep hb8
  replace hBb := hBb.keep hb8
  replace hb := Below.after hb hb8
  replace hC := hC.keep hb8
  replace hY := hY.blw hb8
  replace rY := keep hb8 rY
  replace hUB := hUB.keep hb8
  clear hb8
  obtain rfl : e_ = .returned .nilIface := hK
  clear cK
  have e2 := eqe_nils
  have kU := conv_byT hUB.1
  have kB := conv_byT hBb.1
  generalize strOfNums (bl d) = sd at *
  generalize (prS ts).1 = lo at *
  generalize (prS ts).2 = hi at *
  clear m1 m3 hUB hBb hcap
  generalize d.length = n at *
  have z1 : (lo : Int) ≤ (n : Int) := by omega
  have z2 : (n : Int) ≤ (hi : Int) := by omega
  go_wp2_with (first | (refine wpList_load_want rfl 27 _ rfl gy rfl 27 #[.int .u64 (yn : Int), .slice yda ydl ydc, .slice ypa ypl ypc] (0, 0) _ rY Tryd.underlying27 rfl infoV ?_) | fail)
  go_ret
  exact ⟨rfl, hb⟩
end Go.Proofs.YtgcpebhjehlacaaDoor
namespace Go.Proofs.YtgcpebhjehlacaaDoor
set_option maxRecDepth 100000
open Go Go.RowKit Go.Sort
attribute [local go_sem] setCell_drewN alloc_drewN
def hzr : List Value := [.int .i64 0, .int .i64 0, .int .u64 0, .int .u64 0, .slice none 0 0]
def hmk : List Value := [.int .i64 (-77), .int .i64 0, .int .u64 0, .int .u64 0, .slice none 0 0]
inductive HSl (W : World) (S : Nat → Prop) : Value → List Slt → Prop
 | mk (G : Nat) (ts : List Slt) (us : List Value) (hl : ts.length ≤ 10000) (hG : G < W.heap.size) (hS : S G)
  (h : ∀ i, i < ts.length → W.rangeAt G (i * 5) (srow (gs ts i) (gvs us i)) ∧ Sok (gs ts i))
  (hm : ∀ i, ts.length ≤ i → i < ts.length + 3 → W.rangeAt G (i * 5) hmk)
  (hs : ∀ i, i < ts.length → HSl W S (gvs us i) (gs ts i).sub) : HSl W S (.slice (some ⟨G, 0, none⟩) ts.length (ts.length + 3)) ts
theorem HSl.keep {W V : World} {S T : Nat → Prop} {v : Value} {ts : List Slt} (h : HSl W S v ts) (hs : W.heap.size ≤ V.heap.size) (hb : ∀ b, b < W.heap.size → S b → V.heap[b]? = W.heap[b]? ∧ T b) : HSl V T v ts := by
 induction h with
 | mk G ts us hl hG hS h hm _ ih =>
  exact .mk G ts us hl (by omega) (hb G hG hS).2 (fun i hi => ⟨range_same (h i hi).1 (hb G hG hS).1, (h i hi).2⟩) (fun i h1 h2 => range_same (hm i h1 h2) (hb G hG hS).1) ih
theorem HSl.form {W : World} {S : Nat → Prop} {v : Value} {ts : List Slt} (h : HSl W S v ts) : ∃ G, v = .slice (some ⟨G, 0, none⟩) ts.length (ts.length + 3) ∧ S G := by
 cases h with
 | mk G _ us hl hG hS h hm hs => exact ⟨G, rfl, hS⟩
def hrow (ts : List Slt) (us : List Value) (k i : Nat) : List Value := if i < k then (if i < ts.length then srow (gs ts i) (gvs us i) else hmk) else hzr
def Hrw (W : World) (G : Nat) (ts : List Slt) (us : List Value) (k : Nat) : Prop := ∃ cs, W.heap[G]? = some (.cells cs 53 (0, 0)) ∧ cs.size = (ts.length + 3) * 5 ∧ ∀ i c, i < ts.length + 3 → c < 5 → cs[i * 5 + c]? = (hrow ts us k i)[c]?
theorem Hrw.keep {W V : World} {G : Nat} {ts : List Slt} {us : List Value} {k : Nat} (h : Hrw W G ts us k) (hb : V.heap[G]? = W.heap[G]?) : Hrw V G ts us k := by
 obtain ⟨cs, h1, h2⟩ := h
 exact ⟨cs, hb.trans h1, h2⟩
theorem Hrw.range {W : World} {G : Nat} {ts : List Slt} {us : List Value} {k i : Nat} (h : Hrw W G ts us k) (hi : i < ts.length + 3) (hl : (hrow ts us k i).length = 5) : W.rangeAt G (i * 5) (hrow ts us k i) := by
 obtain ⟨cs, h1, h2, h3⟩ := h
 intro j v hv
 have hj := (List.getElem?_eq_some_iff.1 hv).1
 rw [cell_of_row _ _ _ _ _ _ h1, h3 i j hi (by omega)]
 exact hv
theorem Hrw.mark {W : World} {G : Nat} {ts : List Slt} {us : List Value} {k : Nat} (h : Hrw W G ts us k) (hk : ts.length ≤ k) (hk3 : k < ts.length + 3) : Hrw (W.setCell ⟨G, k * 5, none⟩ (.int .i64 (-77))) G ts us (k + 1) := by
 obtain ⟨cs, h1, h2, h3⟩ := h
 refine ⟨_, heap_setCell_same W G (k * 5) cs _ _ h1, by simp [h2], fun i c hi hc => ?_⟩
 rw [Array.getElem?_setIfInBounds]
 by_cases e : k * 5 = i * 5 + c
 ·have e1 : i = k := by omega
  have e2 : c = 0 := by omega
  subst e1 e2
  rw [if_pos e, if_pos (by omega)]
  unfold hrow
  rw [if_pos (by omega), if_neg (by omega)]; rfl
 ·rw [if_neg e, h3 i c hi hc]
  by_cases e1 : i = k
  ·subst e1
   have c0 : c ≠ 0 := by omega
   unfold hrow
   rw [if_neg (by omega), if_pos (by omega), if_neg (by omega)]
   rcases (by omega : c = 1 ∨ c = 2 ∨ c = 3 ∨ c = 4) with rfl | rfl | rfl | rfl <;> rfl
  ·unfold hrow
   by_cases e2 : i < k
   ·rw [if_pos e2, if_pos (show i < k + 1 by omega)]
   ·rw [if_neg e2, if_neg (show ¬ i < k + 1 by omega)]
theorem Hrw.slot {W V : World} {G : Nat} {ts : List Slt} {us : List Value} {k : Nat} {u v : Value} (h : Hrw W G ts us k) (hk : k < ts.length) (hu : us.length = k) (hV : V.heap[G]? = ((W.setCell ⟨G, k * 5, none⟩ (.int .i64 (-77))).setCells G (k * 5) (srow (gs ts k) u)).heap[G]?) : Hrw (V.setCell ⟨G, k * 5 + 4, none⟩ v) G ts (us ++ [v]) (k + 1) := by
 obtain ⟨cs, h1, h2, h3⟩ := h
 have s1 := heap_setCell_same W G (k * 5) cs _ (.int .i64 (-77)) h1
 have s2 : ((W.setCell ⟨G, k * 5, none⟩ (.int .i64 (-77))).setCells G (k * 5) (srow (gs ts k) u)).heap[G]? = _ :=
  heap_setCell_same _ G (k * 5 + 1 + 1 + 1 + 1) _ _ u (heap_setCell_same _ G (k * 5 + 1 + 1 + 1) _ _ (.int .u64 ((gs ts k).most : Int)) (heap_setCell_same _ G (k * 5 + 1 + 1) _ _ (.int .u64 ((gs ts k).least : Int)) (heap_setCell_same _ G (k * 5 + 1) _ _ (.int .i64 (gs ts k).kind) (heap_setCell_same _ G (k * 5) _ _ (.int .i64 (gs ts k).no) s1))))
 refine ⟨_, heap_setCell_same V G (k * 5 + 4) _ _ v (hV.trans s2), by simp [h2], fun i c hi hc => ?_⟩
 simp only [Array.getElem?_setIfInBounds, Array.size_setIfInBounds]
 by_cases e1 : i = k
 ·subst e1
  have e3 : hrow ts (us ++ [v]) (i + 1) i = srow (gs ts i) v := by
   unfold hrow; rw [if_pos (by omega), if_pos hk, gvs_top _ _ _ hu]
  rw [e3]
  have hb : i * 5 + c < cs.size := by omega
  rcases (by omega : c = 0 ∨ c = 1 ∨ c = 2 ∨ c = 3 ∨ c = 4) with rfl | rfl | rfl | rfl | rfl
  ·rw [if_neg (by omega), if_neg (by omega), if_neg (by omega), if_neg (by omega), if_neg (by omega), if_pos (by omega), if_pos (by omega)]; rfl
  ·rw [if_neg (by omega), if_neg (by omega), if_neg (by omega), if_neg (by omega), if_pos (by omega), if_pos (by omega)]; rfl
  ·rw [if_neg (by omega), if_neg (by omega), if_neg (by omega), if_pos (by omega), if_pos (by omega)]; rfl
  ·rw [if_neg (by omega), if_neg (by omega), if_pos (by omega), if_pos (by omega)]; rfl
  ·rw [if_pos (by omega), if_pos (by omega)]; rfl
 ·rw [if_neg (by omega), if_neg (by omega), if_neg (by omega), if_neg (by omega), if_neg (by omega), if_neg (by omega), if_neg (by omega), h3 i c hi hc]
  unfold hrow
  by_cases e2 : i < k
  ·rw [if_pos e2, if_pos (by omega), if_pos (by omega), if_pos (by omega), gvs_low _ _ _ (by omega)]
  ·rw [if_neg e2, if_neg (by omega)]
end Go.Proofs.YtgcpebhjehlacaaDoor
namespace Go.Proofs.YtgcpebhjehlacaaDoor
set_option maxRecDepth 100000
open Go Go.RowKit Go.Sort
attribute [local go_sem] setCell_drewN alloc_drewN
end Go.Proofs.YtgcpebhjehlacaaDoor
namespace Go.Proofs.YtgcpebhjehlacaaDoor
set_option maxRecDepth 100000
open Go Go.ChangeShapes Go.WideShapes Go.ChangeAt Go.RowKit Go.Deep
/-! Schemas out of the data. -/
theorem bSl56 : Tryd.prog.bytesOf 53 = 56 := by kernel_rfl
theorem cSl5 : Tryd.prog.cellsOf 53 = 5 := by kernel_rfl
theorem cI1s : Tryd.prog.cellsOf 3 = 1 := by kernel_rfl
theorem cU1s : Tryd.prog.cellsOf 23 = 1 := by kernel_rfl
theorem cSs1 : Tryd.prog.cellsOf 22 = 1 := by kernel_rfl
theorem block_lts {w : World} {b o : Nat} {v : Value} (h : w.cell? ⟨b, o, none⟩ = some v) : b < w.heap.size := by
 rcases Nat.lt_or_ge b w.heap.size with x | x
 ·exact x
 ·have : w.heap[b]? = none := Array.getElem?_eq_none x
  simp [World.cell?, this] at h
theorem weightsAll_inS {H : Type} {P : Program} {e : TypeId} : ∀ {l : List (DataW H)} {d : DataW H}, d ∈ l → ∀ n ∈ d.weights P e, n ∈ DataW.weightsAll P e l
 | x :: r, d, h, n, hn => by
  rw [DataW.weightsAll, List.mem_append]
  rcases List.mem_cons.1 h with rfl | h
  ·exact .inl hn
  ·exact .inr (weightsAll_inS h n hn)
theorem range_gs (PS : Nat → Slt) (n i : Nat) (h : i < n) : gs ((List.range n).map PS) i = PS i := by
 rw [gs, List.getD_eq_getElem?_getD, List.getElem?_map, List.getElem?_range h]; rfl
theorem range_gvs (PS : Nat → Value) (n i : Nat) (h : i < n) : gvs ((List.range n).map PS) i = PS i := by
 rw [gvs, List.getD_eq_getElem?_getD, List.getElem?_map, List.getElem?_range h]; rfl
theorem slot_of_trod {H : Type} {enc : TypeId × Value → H} {W : World} {m : Nat} {cs : List Value} {x : DataW H × List MemPlace} (h : DataW.trod enc Tryd.prog W 0 (fun _ => true) true m 53 cs = some x) :
 ∃ (no k : Int) (l mo : Nat) (u : Value) (n : Nat) (y : DataW H × List MemPlace), (∀ sub, cs = srow (.mk no k l mo sub) u ∧ Sok (.mk no k l mo sub)) ∧ DataW.trod enc Tryd.prog W 0 (fun _ => true) true n 22 [u] = some y ∧ SizeOf.sizeOf y.1 < SizeOf.sizeOf x.1 ∧ ∀ z ∈ y.1.weights Tryd.prog 22, z ∈ x.1.weights Tryd.prog 53 := by
 obtain ⟨xs, m, rfl, rfl, hlen, hxl, hf⟩ := DataW.trod_struct Tryd.underlying53 h
 rw [cSl5] at hlen
 have g0 := hf 0 _ rfl; have g1 := hf 1 _ rfl; have g2 := hf 2 _ rfl; have g3 := hf 3 _ rfl; have g4 := hf 4 _ rfl
 clear hf h
 match cs, hlen, xs, hxl, g0, g1, g2, g3, g4 with
 | [c0, c1, c2, c3, c4], _, [x0, x1, x2, x3, x4], _, g0, g1, g2, g3, g4 =>
  obtain ⟨K, e0, _, wK⟩ := DataW.trod_int Tryd.underlying3 g0
  obtain ⟨A, e1, _, wA⟩ := DataW.trod_int Tryd.underlying3 g1
  obtain ⟨C, e2, _, wC⟩ := DataW.trod_int Tryd.underlying23 g2
  obtain ⟨E, e3, _, wE⟩ := DataW.trod_int Tryd.underlying23 g3
  have q0 : c0 = .int .i64 K := by
   have q : ([c0, c1, c2, c3, c4].drop 0).take (Tryd.prog.cellsOf 3) = [.int .i64 K] := e0
   rw [cI1s] at q
   simpa using q
  have q1 : c1 = .int .i64 A := by
   have q : ([c0, c1, c2, c3, c4].drop 1).take (Tryd.prog.cellsOf 3) = [.int .i64 A] := e1
   rw [cI1s] at q
   simpa using q
  have q2 : c2 = .int .u64 C := by
   have q : ([c0, c1, c2, c3, c4].drop 2).take (Tryd.prog.cellsOf 23) = [.int .u64 C] := e2
   rw [cU1s] at q
   simpa using q
  have q3 : c3 = .int .u64 E := by
   have q : ([c0, c1, c2, c3, c4].drop 3).take (Tryd.prog.cellsOf 23) = [.int .u64 E] := e3
   rw [cU1s] at q
   simpa using q
  have q4 : DataW.trod enc Tryd.prog W 0 (fun _ => true) true m 22 [c4] = some x4 := by
   have q : DataW.trod enc Tryd.prog W 0 (fun _ => true) true m 22 (([c0, c1, c2, c3, c4].drop 4).take (Tryd.prog.cellsOf 22)) = some x4 := g4
   rw [cSs1] at q
   simpa using q
  have bK := bounds_i64 wK
  have bA := bounds_i64 wA
  have bC := bounds_u64 wC
  have bE := bounds_u64 wE
  obtain ⟨N, rfl⟩ := Int.eq_ofNat_of_zero_le bC.1
  obtain ⟨M, rfl⟩ := Int.eq_ofNat_of_zero_le bE.1
  refine ⟨K, A, N, M, c4, m, x4, fun sub => ⟨by rw [q0, q1, q2, q3]; rfl, bK, bA, by show N < _; omega, by show M < _; omega⟩, q4, ?_, fun z hz => ?_⟩
  ·simp only [List.map_cons, List.map_nil, DataW.agg.sizeOf_spec, List.cons.sizeOf_spec]
   omega
  ·simp only [DataW.weights, Tryd.underlying53]
   exact DataW.weights_mem_each (j := 4) rfl rfl z hz
theorem slo_of_size {H : Type} {enc : TypeId × Value → H} {W : World} : ∀ (N : Nat) {m : Nat} {v : Value} {x : DataW H × List MemPlace}, SizeOf.sizeOf x.1 ≤ N → DataW.trod enc Tryd.prog W 0 (fun _ => true) true m 22 [v] = some x → (∀ n ∈ x.1.weights Tryd.prog 22, n ≤ reachBytes) → ∃ ts : List Slt, Slo W v ts
 | 0, m, v, x, hN, _, _ => by
  exfalso
  cases h : x.1 <;> rw [h] at hN <;> simp at hN
 | N + 1, m, v, x, hN, hf, hs => by
  rcases open_slice Tryd.underlying22 hf with ⟨hcs, hx⟩ | ⟨a, len, cap, m, n, D, Pl, hcs, _, hl, hm, hmm, hx, hel⟩
  ·injection hcs with hv _
   subst hv
   exact ⟨[], .mk none 0 [] [] (by simp) (by simp) (fun _ => rfl) (fun i hi => by simp at hi) (fun i hi => by simp at hi)⟩
  ·injection hcs with hv _
   subst hv
   subst hx
   simp only [if_true] at hmm
   subst hmm
   rw [cSl5] at hel
   have hb := hs ((((List.range len).map D).length + ((List.range (m - len)).map fun j => D (len + j)).length) * 56) (by simp [DataW.weights, Tryd.underlying22, bSl56])
   simp only [List.length_map, List.length_range, reachBytes] at hb
   obtain ⟨PS, hPS⟩ := @choose_lt (Slt × Value) ⟨(s0, undef)⟩ len (fun i f => ∃ cs', W.cells? 0 (a.add (i * 5)) 5 = some cs' ∧ cs' = srow f.1 f.2 ∧ Sok f.1 ∧ Slo W f.2 f.1.sub) (fun i hi => by
    obtain ⟨cs', h1, h2⟩ := hel i (by omega)
    obtain ⟨no, k, l, mo, u, n', y, h3, h4, h5, h6⟩ := slot_of_trod h2
    have hmem : D i ∈ (List.range len).map D := List.mem_map.2 ⟨i, List.mem_range.2 hi, rfl⟩
    have hsz : SizeOf.sizeOf (D i) < SizeOf.sizeOf ((List.range len).map D) := List.sizeOf_lt_of_mem hmem
    obtain ⟨sub, hsub⟩ := slo_of_size N (x := y) (by
     simp only [DataW.slice.sizeOf_spec] at hN
     simp only at h5
     omega) h4 (fun z hz => hs z (by
     simp only [DataW.weights, Tryd.underlying22]
     exact List.mem_cons_of_mem _ (List.mem_append_left _ (weightsAll_inS hmem z (h6 z hz)))))
    exact ⟨(.mk no k l mo sub, u), cs', h1, (h3 sub).1, (h3 sub).2, hsub⟩)
   have e : (Value.slice (some a) len m) = .slice (some a) ((List.range len).map fun i => (PS i).1).length m := by simp
   rw [e]
   refine ⟨_, .mk (some a) m _ ((List.range len).map fun i => (PS i).2) (by simp; omega) (by simp; exact hl) (fun e => by cases e) (fun i hi => ?_) (fun i hi => ?_)⟩
   ·have hi' : i < len := by simpa using hi
    obtain ⟨cs', h1, h2, h3, _⟩ := hPS i hi'
    obtain ⟨_, hln, hc⟩ := World.cells?_some h1
    obtain ⟨bb, off, spot⟩ := a
    have hspot : spot = none := by
     obtain ⟨cs0, h0, _⟩ := hel 0 (by omega)
     obtain ⟨_, hl0, hc0⟩ := World.cells?_some h0
     have := hc0 0 (by omega)
     rw [List.getElem?_eq_getElem (by omega)] at this
     simpa [Addr.add] using World.cell?_spot this
    subst hspot
    rw [range_gs _ len i hi', range_gvs _ len i hi']
    have hr : W.rangeAt bb (off + i * 5) cs' := by
     intro j v hv
     have hj : j < 5 := by have := (List.getElem?_eq_some_iff.1 hv).1; omega
     have := hc j hj
     rw [addr_add, addr_add, hv] at this
     exact this
    rw [h2] at hr
    exact ⟨bb, off, rfl, block_lts (hr 0 _ rfl), hr, h3⟩
   ·have hi' : i < len := by simpa using hi
    obtain ⟨_, _, _, _, h4⟩ := hPS i hi'
    rw [range_gs _ len i hi', range_gvs _ len i hi']
    exact h4
theorem slo_of_trod {H : Type} {enc : TypeId × Value → H} {W : World} {m : Nat} {v : Value} {x : DataW H × List MemPlace} (hf : DataW.trod enc Tryd.prog W 0 (fun _ => true) true m 22 [v] = some x) (hs : ∀ n ∈ x.1.weights Tryd.prog 22, n ≤ reachBytes) : ∃ ts : List Slt, Slo W v ts := slo_of_size _ (Nat.le_refl _) hf hs
end Go.Proofs.YtgcpebhjehlacaaDoor
namespace Go.Proofs.YtgcpebhjehlacaaDoor
set_option maxRecDepth 100000
open Go Go.RowKit
def rU : Go.Shelf.Ren where
 f := fun n => n
 t := fun n => if n = 5 then 5 else if n = 119 then 154 else if n = 138 then 156 else 157
 g := fun n => if n = 3 then 1 else 2
theorem tabs_of_reads {W : World} (h : laidMet Tryd.prog [("unicode/utf8.acceptRanges", Rows.laid_unicode_utf8_acceptRanges), ("unicode/utf8.first", Rows.laid_unicode_utf8_first)] W) : Lib.Utf8Tabs 1 2 W :=
 utf8Tabs_of_readsT (P := Tryd.prog) (ρ := rU) ⟨by kernel_rfl, by kernel_rfl, by kernel_rfl, by kernel_rfl⟩ ⟨by kernel_rfl, by kernel_rfl, by kernel_rfl, by kernel_rfl, by kernel_rfl, by kernel_rfl, by kernel_rfl⟩ (Lib.laidMet.reads h (.tail _ (.head _))) (Lib.laidMet.reads h (.head _))
end Go.Proofs.YtgcpebhjehlacaaDoor

