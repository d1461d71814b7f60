import Derived.Test.YtgcpebhjehlacaaDoorWKts
import Derived.Test.YtgcpebhjehlacaaDoorWKtv
import Derived.Lib.SlBytesConst
import Derived.Test.YtgcpebhjehlacaaDoorWJrc
namespace Go.Proofs.YtgcpebhjehlacaaDoor
set_option maxRecDepth 100000
open Go Go.RowKit Go.Sort
attribute [local go_sem] setCell_drewN alloc_drewN
theorem slo_L (w : World) : Slo ((w.alloc (.cells #[.int .i64 1, .int .i64 4, .int .u64 0, .int .u64 0, .slice none 0 0] 53)).alloc (.cells #[.int .i64 1, .int .i64 1, .int .u64 1, .int .u64 300, .slice none 0 0, .int .i64 2, .int .i64 6, .int .u64 0, .int .u64 10, .slice none 0 0, .int .i64 5, .int .i64 9, .int .u64 0, .int .u64 2, .slice (some ⟨w.heap.size, 0, none⟩) 1 1] 53)) (.slice (some ⟨w.heap.size + 1, 0, none⟩) 3 3) tsL := by
 have r1 := hp1_0 w (.cells #[.int .i64 1, .int .i64 4, .int .u64 0, .int .u64 0, .slice none 0 0] 53)
 have r3 := hp1_0 (w.alloc (.cells #[.int .i64 1, .int .i64 4, .int .u64 0, .int .u64 0, .slice none 0 0] 53)) (.cells #[.int .i64 1, .int .i64 1, .int .u64 1, .int .u64 300, .slice none 0 0, .int .i64 2, .int .i64 6, .int .u64 0, .int .u64 10, .slice none 0 0, .int .i64 5, .int .i64 9, .int .u64 0, .int .u64 2, .slice (some ⟨w.heap.size, 0, none⟩) 1 1] 53)
 have hb : Below (w.alloc (.cells #[.int .i64 1, .int .i64 4, .int .u64 0, .int .u64 0, .slice none 0 0] 53)).heap.size (w.alloc (.cells #[.int .i64 1, .int .i64 4, .int .u64 0, .int .u64 0, .slice none 0 0] 53)) ((w.alloc (.cells #[.int .i64 1, .int .i64 4, .int .u64 0, .int .u64 0, .slice none 0 0] 53)).alloc (.cells #[.int .i64 1, .int .i64 1, .int .u64 1, .int .u64 300, .slice none 0 0, .int .i64 2, .int .i64 6, .int .u64 0, .int .u64 10, .slice none 0 0, .int .i64 5, .int .i64 9, .int .u64 0, .int .u64 2, .slice (some ⟨w.heap.size, 0, none⟩) 1 1] 53)) := (Below.refl _ _).alloc (Nat.le_refl _) _
 rw [size_alloc1] at r3
 replace r1 := keep hb r1
 have l1 := lt_of_row r1
 have l3 := lt_of_row r3
 have s1 : Slo ((w.alloc (.cells #[.int .i64 1, .int .i64 4, .int .u64 0, .int .u64 0, .slice none 0 0] 53)).alloc (.cells #[.int .i64 1, .int .i64 1, .int .u64 1, .int .u64 300, .slice none 0 0, .int .i64 2, .int .i64 6, .int .u64 0, .int .u64 10, .slice none 0 0, .int .i64 5, .int .i64 9, .int .u64 0, .int .u64 2, .slice (some ⟨w.heap.size, 0, none⟩) 1 1] 53)) (.slice none 0 0) [] := .mk none 0 [] [] (by simp) (by simp) (fun _ => rfl) (fun i hi => by simp at hi) (fun i hi => by simp at hi)
 have s2 : Slo ((w.alloc (.cells #[.int .i64 1, .int .i64 4, .int .u64 0, .int .u64 0, .slice none 0 0] 53)).alloc (.cells #[.int .i64 1, .int .i64 1, .int .u64 1, .int .u64 300, .slice none 0 0, .int .i64 2, .int .i64 6, .int .u64 0, .int .u64 10, .slice none 0 0, .int .i64 5, .int .i64 9, .int .u64 0, .int .u64 2, .slice (some ⟨w.heap.size, 0, none⟩) 1 1] 53)) (.slice (some ⟨w.heap.size, 0, none⟩) 1 1) [.mk 1 4 0 0 []] := by
  refine .mk (some ⟨w.heap.size, 0, none⟩) 1 [.mk 1 4 0 0 []] [.slice none 0 0] (by simp) (by simp) (fun e => by cases e) (fun i hi => ?_) (fun i hi => ?_)
  ·obtain rfl : i = 0 := by simpa using hi
   refine ⟨w.heap.size, 0, rfl, l1, fun j v hv => ?_, by simp [Sok, gs, Slt.no, Slt.kind, Slt.least, Slt.most]⟩
   have hj : j < 5 := (List.getElem?_eq_some_iff.1 hv).1
   rw [cell_of_row _ _ _ _ _ _ r1]
   match j, hj with
   | 0, _ => exact hv
   | 1, _ => exact hv
   | 2, _ => exact hv
   | 3, _ => exact hv
   | 4, _ => exact hv
  ·obtain rfl : i = 0 := by simpa using hi
   exact s1
 refine .mk (some ⟨w.heap.size + 1, 0, none⟩) 3 tsL [.slice none 0 0, .slice none 0 0, .slice (some ⟨w.heap.size, 0, none⟩) 1 1] (by decide) (by decide) (fun e => by cases e) (fun i hi => ?_) (fun i hi => ?_)
 ·have hi3 : i < 3 := hi
  refine ⟨w.heap.size + 1, 0, rfl, l3, fun j v hv => ?_, ?_⟩
  ·have hj : j < 5 := (List.getElem?_eq_some_iff.1 hv).1
   rw [cell_of_row _ _ _ _ _ _ r3]
   match i, hi3, j, hj with
   | 0, _, 0, _ => exact hv
   | 0, _, 1, _ => exact hv
   | 0, _, 2, _ => exact hv
   | 0, _, 3, _ => exact hv
   | 0, _, 4, _ => exact hv
   | 1, _, 0, _ => exact hv
   | 1, _, 1, _ => exact hv
   | 1, _, 2, _ => exact hv
   | 1, _, 3, _ => exact hv
   | 1, _, 4, _ => exact hv
   | 2, _, 0, _ => exact hv
   | 2, _, 1, _ => exact hv
   | 2, _, 2, _ => exact hv
   | 2, _, 3, _ => exact hv
   | 2, _, 4, _ => exact hv
  ·match i, hi3 with
   | 0, _ => exact ⟨by decide, by decide, by decide, by decide⟩
   | 1, _ => exact ⟨by decide, by decide, by decide, by decide⟩
   | 2, _ => exact ⟨by decide, by decide, by decide, by decide⟩
 ·have hi3 : i < 3 := hi
  match i, hi3 with
  | 0, _ => exact s1
  | 1, _ => exact s1
  | 2, _ => exact s2
theorem vtm_ls {W : World} {n : Nat} {xs : List VR} {ps : List VT} (hl : xs.length = ps.length) (hm : ps.length ≤ 5864062014634) (hr : W.heap[n]? = some (.cells (vrs xs).toArray 27 (0, 0))) (hs : ∀ i, i < ps.length → VtM W (fun _ => True) (gx xs i) (gvt ps i)) : VtM W (fun _ => True) ⟨0, none, 0, 0, some ⟨n, 0, none⟩, ps.length, ps.length⟩ (.mk 0 [] ps) := by
 refine .mk ⟨0, none, 0, 0, some ⟨n, 0, none⟩, ps.length, ps.length⟩ [] xs ps (by show 0 < 18446744073709551616; decide) rfl (by decide) (bysB_nil _ _) (Nat.le_refl _) (fun a e => by cases lv_some e) rfl hl (Nat.le_refl _) hm (fun a e => ?_) (fun i hi => ⟨n, 0, rfl, fun j v hv => ?_⟩) hs
 ·have := lv_some e
  cases this
  exact ⟨trivial, lt_of_row hr⟩
 ·have hj : j < 3 := (List.getElem?_eq_some_iff.1 hv).1
  rw [cell_of_row _ _ _ _ _ _ hr, List.getElem?_toArray, Nat.zero_add, vrs_at xs i j (by omega) hj]
  exact hv
theorem vtm_nm (W : World) (N : Nat) (h : N < 18446744073709551616) : VtM W (fun _ => True) ⟨N, none, 0, 0, none, 0, 0⟩ (.mk N [] []) :=
 .mk ⟨N, none, 0, 0, none, 0, 0⟩ [] [] [] h rfl (by decide) (bysB_nil _ _) (Nat.le_refl _) (fun a e => by cases lv_some e) rfl rfl (Nat.le_refl _) (by decide) (fun a e => by cases lv_some e) (fun i hi => by simp at hi) (fun i hi => by simp at hi)
def x1L : VR := ⟨1, none, 0, 0, none, 0, 0⟩
def xpL (n : Nat) : VR := ⟨0, none, 0, 0, some ⟨n, 0, none⟩, 1, 1⟩
def x300 : VR := ⟨300, none, 0, 0, none, 0, 0⟩
def xabL (n : Nat) : VR := ⟨0, some ⟨n, 0, none⟩, 2, 2, none, 0, 0⟩
def xvL (n : Nat) : VR := ⟨0, none, 0, 0, some ⟨n, 0, none⟩, 3, 3⟩
theorem vtm_L {W : World} {n0 n1 n2 n3 : Nat} (r0 : W.heap[n0]? = some (.cells #[.int .u8 97, .int .u8 98] 5 (2, 3))) (r1 : W.heap[n1]? = some (.cells #[.int .u64 1, .slice none 0 0, .slice none 0 0] 27 (0, 0))) (r2 : W.heap[n2]? = some (.cells #[.int .u64 0, .slice none 0 0, .slice (some ⟨n1, 0, none⟩) 1 1] 27 (0, 0)))
 (r3 : W.heap[n3]? = some (.cells #[.int .u64 300, .slice none 0 0, .slice none 0 0, .int .u64 0, .slice (some ⟨n0, 0, none⟩) 2 2, .slice none 0 0, .int .u64 0, .slice none 0 0, .slice (some ⟨n2, 0, none⟩) 1 1] 27 (0, 0))) : VtM W (fun _ => True) (xvL n3) vL := by
 have h1 : VtM W (fun _ => True) x1L (.mk 1 [] []) := vtm_nm W 1 (by decide)
 have h2 : VtM W (fun _ => True) (xpL n1) (.mk 0 [] [.mk 1 [] []]) := vtm_ls (xs := [x1L]) (ps := [.mk 1 [] []]) rfl (by decide) r1 (fun i hi => by
  obtain rfl : i = 0 := by simpa using hi
  exact h1)
 have h3 : VtM W (fun _ => True) (xpL n2) (.mk 0 [] [.mk 0 [] [.mk 1 [] []]]) := vtm_ls (xs := [xpL n1]) (ps := [.mk 0 [] [.mk 1 [] []]]) rfl (by decide) r2 (fun i hi => by
  obtain rfl : i = 0 := by simpa using hi
  exact h2)
 have h4 : VtM W (fun _ => True) x300 (.mk 300 [] []) := vtm_nm W 300 (by decide)
 have hB : BysB W (.slice (some ⟨n0, 0, none⟩) 2 2) [97#8, 98#8] := ⟨⟨some ⟨n0, 0, none⟩, 2, rfl, by decide, fun j hj => ⟨n0, 0, rfl, lt_of_row r0, by
  rw [Nat.zero_add, cell_of_row _ _ _ _ _ _ r0]
  match j, hj with
  | 0, _ => rfl
  | 1, _ => rfl⟩, bl_bnd _⟩, by decide, fun a l c h h2 => by cases h; cases h2⟩
 have h5 : VtM W (fun _ => True) (xabL n0) (.mk 0 [97#8, 98#8] []) := .mk (xabL n0) [97#8, 98#8] [] [] (by show 0 < 18446744073709551616; decide) rfl (by decide) hB (Nat.le_refl _) (fun a e => by
  have := lv_some e
  cases this
  exact ⟨trivial, lt_of_row r0⟩) rfl rfl (Nat.le_refl _) (by decide) (fun a e => by cases lv_some e) (fun i hi => by simp at hi) (fun i hi => by simp at hi)
 exact vtm_ls (xs := [x300, xabL n0, xpL n2]) (ps := [.mk 300 [] [], .mk 0 [97#8, 98#8] [], .mk 0 [] [.mk 0 [] [.mk 1 [] []]]]) rfl (by decide) r3 (fun i hi => by
  have hi3 : i < 3 := hi
  match i, hi3 with
  | 0, _ => exact h4
  | 1, _ => exact h5
  | 2, _ => exact h3)
theorem eqe_nils (W : World) : (binOp .eql 36 .nilIface .nilIface).run Tryd.prog W = .ok (.bool true) W := by kernel_rfl
theorem okL : tsL.length ≤ 16 ∧ vok tsL 0 1 ∧ gd tsL ∧ (spL tsL 0 0).2 ≤ 4194304 ∧ 1 + htT tsL ≤ 9223372036854775807 := vld_ok vld_L
set_option maxRecDepth 100000 in
set_option maxHeartbeats 8000000 in
theorem l_lives8 (w : World) (hT : Lib.Utf8Tabs 1 2 w) : Calls Tryd.prog 8 #[] w fun e w' => e = .returned (.bool true) ∧ Below w.heap.size w w' := by
 have kc := fun (W : World) (C : Array Value) (n c : Nat) => Go.Lib.run_convert_bytes_const (P := Tryd.prog) W 24 5 C n c Tryd.underlying24 Tryd.underlying5
 have cC := a_Compile (slo_L w) _ (Below.refl _ _)
 have hb0 : Below w.heap.size w ((w.alloc (.cells #[.int .i64 1, .int .i64 4, .int .u64 0, .int .u64 0, .slice none 0 0] 53)).alloc (.cells #[.int .i64 1, .int .i64 1, .int .u64 1, .int .u64 300, .slice none 0 0, .int .i64 2, .int .i64 6, .int .u64 0, .int .u64 10, .slice none 0 0, .int .i64 5, .int .i64 9, .int .u64 0, .int .u64 2, .slice (some ⟨w.heap.size, 0, none⟩) 1 1] 53)) := ((Below.refl _ _).alloc (Nat.le_refl _) _).alloc (by simp) _
 generalize hW : ((w.alloc (.cells #[.int .i64 1, .int .i64 4, .int .u64 0, .int .u64 0, .slice none 0 0] 53)).alloc (.cells #[.int .i64 1, .int .i64 1, .int .u64 1, .int .u64 300, .slice none 0 0, .int .i64 2, .int .i64 6, .int .u64 0, .int .u64 10, .slice none 0 0, .int .i64 5, .int .i64 9, .int .u64 0, .int .u64 2, .slice (some ⟨w.heap.size, 0, none⟩) 1 1] 53)) = W0 at cC hb0
 go_enter Tryd.func8, Tryd.ntmps8
 go_wp2_with (fail)
 clear hW
 refine cC.mono ?_
 rintro e_ w1 ⟨hb1, ⟨_, g, rfl, hg, hC⟩ | ⟨hz, _⟩⟩
 ·have hb := Below.after hb0 hb1
  clear cC hb1 hg hb0
  go_wp2_with (fail)
  have hb1 := Below.refl w1.heap.size w1
  have q0 := hp1_0 w1 (.cells #[.int .u8 97, .int .u8 98] 5 (2, 3))
  have p0 : Below w1.heap.size w1 (w1.alloc (.cells #[.int .u8 97, .int .u8 98] 5 (2, 3))) := (Below.refl _ _).alloc (Nat.le_refl _) _
  replace hb1 := Below.after hb1 p0
  have q1 := hp1_0 (w1.alloc (.cells #[.int .u8 97, .int .u8 98] 5 (2, 3))) (.cells #[.int .u64 1, .slice none 0 0, .slice none 0 0] 27)
  rw [show (w1.alloc (.cells #[.int .u8 97, .int .u8 98] 5 (2, 3))).heap.size = w1.heap.size + 1 by simp] at q1
  have p1 : Below (w1.alloc (.cells #[.int .u8 97, .int .u8 98] 5 (2, 3))).heap.size (w1.alloc (.cells #[.int .u8 97, .int .u8 98] 5 (2, 3))) ((w1.alloc (.cells #[.int .u8 97, .int .u8 98] 5 (2, 3))).alloc (.cells #[.int .u64 1, .slice none 0 0, .slice none 0 0] 27)) := (Below.refl _ _).alloc (Nat.le_refl _) _
  replace q0 := keep p1 q0
  replace hb1 := Below.after hb1 p1
  have q2 := hp1_0 ((w1.alloc (.cells #[.int .u8 97, .int .u8 98] 5 (2, 3))).alloc (.cells #[.int .u64 1, .slice none 0 0, .slice none 0 0] 27)) (.cells #[.int .u64 0, .slice none 0 0, .slice (some ⟨w1.heap.size + 1, 0, none⟩) 1 1] 27)
  rw [show ((w1.alloc (.cells #[.int .u8 97, .int .u8 98] 5 (2, 3))).alloc (.cells #[.int .u64 1, .slice none 0 0, .slice none 0 0] 27)).heap.size = w1.heap.size + 1 + 1 by simp] at q2
  have p2 : Below ((w1.alloc (.cells #[.int .u8 97, .int .u8 98] 5 (2, 3))).alloc (.cells #[.int .u64 1, .slice none 0 0, .slice none 0 0] 27)).heap.size ((w1.alloc (.cells #[.int .u8 97, .int .u8 98] 5 (2, 3))).alloc (.cells #[.int .u64 1, .slice none 0 0, .slice none 0 0] 27)) (((w1.alloc (.cells #[.int .u8 97, .int .u8 98] 5 (2, 3))).alloc (.cells #[.int .u64 1, .slice none 0 0, .slice none 0 0] 27)).alloc (.cells #[.int .u64 0, .slice none 0 0, .slice (some ⟨w1.heap.size + 1, 0, none⟩) 1 1] 27)) := (Below.refl _ _).alloc (Nat.le_refl _) _
  replace q0 := keep p2 q0
  replace q1 := keep p2 q1
  replace hb1 := Below.after hb1 p2
  have q3 := hp1_0 (((w1.alloc (.cells #[.int .u8 97, .int .u8 98] 5 (2, 3))).alloc (.cells #[.int .u64 1, .slice none 0 0, .slice none 0 0] 27)).alloc (.cells #[.int .u64 0, .slice none 0 0, .slice (some ⟨w1.heap.size + 1, 0, none⟩) 1 1] 27)) (.cells #[.int .u64 300, .slice none 0 0, .slice none 0 0, .int .u64 0, .slice (some ⟨w1.heap.size, 0, none⟩) 2 2, .slice none 0 0, .int .u64 0, .slice none 0 0, .slice (some ⟨w1.heap.size + 1 + 1, 0, none⟩) 1 1] 27)
  rw [show (((w1.alloc (.cells #[.int .u8 97, .int .u8 98] 5 (2, 3))).alloc (.cells #[.int .u64 1, .slice none 0 0, .slice none 0 0] 27)).alloc (.cells #[.int .u64 0, .slice none 0 0, .slice (some ⟨w1.heap.size + 1, 0, none⟩) 1 1] 27)).heap.size = w1.heap.size + 1 + 1 + 1 by simp] at q3
  have p3 : Below (((w1.alloc (.cells #[.int .u8 97, .int .u8 98] 5 (2, 3))).alloc (.cells #[.int .u64 1, .slice none 0 0, .slice none 0 0] 27)).alloc (.cells #[.int .u64 0, .slice none 0 0, .slice (some ⟨w1.heap.size + 1, 0, none⟩) 1 1] 27)).heap.size (((w1.alloc (.cells #[.int .u8 97, .int .u8 98] 5 (2, 3))).alloc (.cells #[.int .u64 1, .slice none 0 0, .slice none 0 0] 27)).alloc (.cells #[.int .u64 0, .slice none 0 0, .slice (some ⟨w1.heap.size + 1, 0, none⟩) 1 1] 27)) ((((w1.alloc (.cells #[.int .u8 97, .int .u8 98] 5 (2, 3))).alloc (.cells #[.int .u64 1, .slice none 0 0, .slice none 0 0] 27)).alloc (.cells #[.int .u64 0, .slice none 0 0, .slice (some ⟨w1.heap.size + 1, 0, none⟩) 1 1] 27)).alloc (.cells #[.int .u64 300, .slice none 0 0, .slice none 0 0, .int .u64 0, .slice (some ⟨w1.heap.size, 0, none⟩) 2 2, .slice none 0 0, .int .u64 0, .slice none 0 0, .slice (some ⟨w1.heap.size + 1 + 1, 0, none⟩) 1 1] 27)) := (Below.refl _ _).alloc (Nat.le_refl _) _
  replace q0 := keep p3 q0
  replace q1 := keep p3 q1
  replace q2 := keep p3 q2
  replace hb1 := Below.after hb1 p3
  have q4 := hp1_0 ((((w1.alloc (.cells #[.int .u8 97, .int .u8 98] 5 (2, 3))).alloc (.cells #[.int .u64 1, .slice none 0 0, .slice none 0 0] 27)).alloc (.cells #[.int .u64 0, .slice none 0 0, .slice (some ⟨w1.heap.size + 1, 0, none⟩) 1 1] 27)).alloc (.cells #[.int .u64 300, .slice none 0 0, .slice none 0 0, .int .u64 0, .slice (some ⟨w1.heap.size, 0, none⟩) 2 2, .slice none 0 0, .int .u64 0, .slice none 0 0, .slice (some ⟨w1.heap.size + 1 + 1, 0, none⟩) 1 1] 27)) (.cells #[.int .u64 0, .slice none 0 0, .slice (some ⟨w1.heap.size + 1 + 1 + 1, 0, none⟩) 3 3] 27)
  rw [show ((((w1.alloc (.cells #[.int .u8 97, .int .u8 98] 5 (2, 3))).alloc (.cells #[.int .u64 1, .slice none 0 0, .slice none 0 0] 27)).alloc (.cells #[.int .u64 0, .slice none 0 0, .slice (some ⟨w1.heap.size + 1, 0, none⟩) 1 1] 27)).alloc (.cells #[.int .u64 300, .slice none 0 0, .slice none 0 0, .int .u64 0, .slice (some ⟨w1.heap.size, 0, none⟩) 2 2, .slice none 0 0, .int .u64 0, .slice none 0 0, .slice (some ⟨w1.heap.size + 1 + 1, 0, none⟩) 1 1] 27)).heap.size = w1.heap.size + 1 + 1 + 1 + 1 by simp] at q4
  have p4 : Below ((((w1.alloc (.cells #[.int .u8 97, .int .u8 98] 5 (2, 3))).alloc (.cells #[.int .u64 1, .slice none 0 0, .slice none 0 0] 27)).alloc (.cells #[.int .u64 0, .slice none 0 0, .slice (some ⟨w1.heap.size + 1, 0, none⟩) 1 1] 27)).alloc (.cells #[.int .u64 300, .slice none 0 0, .slice none 0 0, .int .u64 0, .slice (some ⟨w1.heap.size, 0, none⟩) 2 2, .slice none 0 0, .int .u64 0, .slice none 0 0, .slice (some ⟨w1.heap.size + 1 + 1, 0, none⟩) 1 1] 27)).heap.size ((((w1.alloc (.cells #[.int .u8 97, .int .u8 98] 5 (2, 3))).alloc (.cells #[.int .u64 1, .slice none 0 0, .slice none 0 0] 27)).alloc (.cells #[.int .u64 0, .slice none 0 0, .slice (some ⟨w1.heap.size + 1, 0, none⟩) 1 1] 27)).alloc (.cells #[.int .u64 300, .slice none 0 0, .slice none 0 0, .int .u64 0, .slice (some ⟨w1.heap.size, 0, none⟩) 2 2, .slice none 0 0, .int .u64 0, .slice none 0 0, .slice (some ⟨w1.heap.size + 1 + 1, 0, none⟩) 1 1] 27)) (((((w1.alloc (.cells #[.int .u8 97, .int .u8 98] 5 (2, 3))).alloc (.cells #[.int .u64 1, .slice none 0 0, .slice none 0 0] 27)).alloc (.cells #[.int .u64 0, .slice none 0 0, .slice (some ⟨w1.heap.size + 1, 0, none⟩) 1 1] 27)).alloc (.cells #[.int .u64 300, .slice none 0 0, .slice none 0 0, .int .u64 0, .slice (some ⟨w1.heap.size, 0, none⟩) 2 2, .slice none 0 0, .int .u64 0, .slice none 0 0, .slice (some ⟨w1.heap.size + 1 + 1, 0, none⟩) 1 1] 27)).alloc (.cells #[.int .u64 0, .slice none 0 0, .slice (some ⟨w1.heap.size + 1 + 1 + 1, 0, none⟩) 3 3] 27)) := (Below.refl _ _).alloc (Nat.le_refl _) _
  replace q0 := keep p4 q0
  replace q1 := keep p4 q1
  replace q2 := keep p4 q2
  replace q3 := keep p4 q3
  replace hb1 := Below.after hb1 p4
  generalize (((((w1.alloc (.cells #[.int .u8 97, .int .u8 98] 5 (2, 3))).alloc (.cells #[.int .u64 1, .slice none 0 0, .slice none 0 0] 27)).alloc (.cells #[.int .u64 0, .slice none 0 0, .slice (some ⟨w1.heap.size + 1, 0, none⟩) 1 1] 27)).alloc (.cells #[.int .u64 300, .slice none 0 0, .slice none 0 0, .int .u64 0, .slice (some ⟨w1.heap.size, 0, none⟩) 2 2, .slice none 0 0, .int .u64 0, .slice none 0 0, .slice (some ⟨w1.heap.size + 1 + 1, 0, none⟩) 1 1] 27)).alloc (.cells #[.int .u64 0, .slice none 0 0, .slice (some ⟨w1.heap.size + 1 + 1 + 1, 0, none⟩) 3 3] 27)) = w5 at *
  clear p0 p1 p2 p3 p4
  generalize w1.heap.size + 1 + 1 + 1 + 1 = n4 at *
  generalize w1.heap.size + 1 + 1 + 1 = n3 at *
  generalize w1.heap.size + 1 + 1 = n2 at *
  generalize w1.heap.size + 1 = n1 at *
  have hV := vtm_L q0 q1 q2 q3
  clear q0 q1 q2 q3
  replace hC := hC.keep hb1
  replace hb := Below.after hb hb1
  have hT5 := Utf8Tabs_below hT hb
  have cE : Calls Tryd.prog 12 #[.pointer (some ⟨g, 0, none⟩), .agg #[.int .u64 0, .slice none 0 0, .slice (some ⟨n3, 0, none⟩) 3 3]] w5 _ := a_EncodeT plo8 okL.2.2.1 _ (xvL n3) vL w5 hT5 hC hV okL.2.2.2.2
  refine cE.mono ?_
  rintro e_ w6 ⟨hE, hb6⟩
  rw [ckL] at hE
  obtain ⟨u, rfl, hU⟩ := hE
  rw [enL] at hU
  obtain ⟨ua, uc, rfl⟩ := slen_own hU
  have hUB := hU.bysB (by decide)
  have hUc := own_capT hU
  have hU12 : bL.length = 12 := rfl
  rw [hU12] at hUB hUc ⊢
  clear hU12
  change BysB w6 (.slice ua 12 uc) bL at hUB
  clear cE
  replace hC := hC.keep hb6
  replace hV := hV.blw hb6
  replace q4 := keep hb6 q4
  replace hT5 := Utf8Tabs_below hT5 hb6
  replace hb := Below.after hb hb6
  clear hb1 hU
  go_wp2_with (fail)
  obtain ⟨_, _, eD, eM⟩ := enc_back utD flD (by have := okL.1; omega) okL.2.1 okL.2.2.2.1 hV.nm (fr := 0) ckL
  rw [enL] at eD eM
  refine (a_DecodeT plo8 bL (.slice ua 12 uc) w6 hT5 hC hUB (fun a l c e => by injection e with e1 e2 e3; omega)).mono ?_
  rintro e_ w7 ⟨hD, hb7⟩
  rw [eD, eM] at hD
  obtain ⟨⟨yn, yda, ydl, ydc, ypa, ypl, ypc⟩, rfl, hY⟩ := hD
  unfold vrv vrw
  clear eD eM
  replace hC := hC.keep hb7
  replace hV := hV.blw hb7
  replace q4 := keep hb7 q4
  replace hT5 := Utf8Tabs_below hT5 hb7
  replace hUB := hUB.keep hb7
  replace hb := Below.after hb hb7
  have hba := (Below.refl w7.heap.size w7).alloc (Nat.le_refl _) (.cells #[.int .u64 (yn : Int), .slice yda ydl ydc, .slice ypa ypl ypc] 27)
  have q6 := hp1_0 w7 (.cells #[.int .u64 (yn : Int), .slice yda ydl ydc, .slice ypa ypl ypc] 27)
  replace hC := hC.keep hba
  replace hV := hV.blw hba
  replace q4 := keep hba q4
  replace hT5 := Utf8Tabs_below hT5 hba
  replace hUB := hUB.keep hba
  replace hb := Below.after hb hba
  replace hY := hY.blw hba
  clear hb7 hba hb6
  have HC := hide hC
  have HV := hide hV
  have HY := hide hY
  have HU := hide hUB
  have HT := hide hT5
  have HB := hide hb
  clear hC hV hY hUB hT5 hb hT
  go_wp2_with (fail)
  generalize w7.alloc (.cells #[.int .u64 (yn : Int), .slice yda ydl ydc, .slice ypa ypl ypc] 27) = w8 at *
  generalize w7.heap.size = n6 at *
  refine (a_DecodeT plo8 (bL.take 6) (.slice ua 6 uc) w8 HT.out HC.out (bysB_take8 HU.out (by decide)) (fun a l c e => by injection e with e1 e2 e3; omega)).mono ?_
  rintro e_ w9 ⟨hD, hb9⟩
  obtain ⟨f6, hf6⟩ := deL6
  rw [hf6] at hD
  obtain ⟨q, rfl, _, _⟩ := hD
  have hC := HC.out.keep hb9
  have hV := HV.out.blw hb9
  have hY := HY.out.blw hb9
  replace q4 := keep hb9 q4
  replace q6 := keep hb9 q6
  have hT5 := Utf8Tabs_below HT.out hb9
  have hUB := HU.out.keep hb9
  have hb := Below.after HB.out hb9
  replace HC := hide hC
  replace HV := hide hV
  replace HY := hide hY
  replace HU := hide hUB
  replace HT := hide hT5
  replace HB := hide hb
  clear hC hV hY hUB hT5 hb
  have hba := (Below.refl w9.heap.size w9).alloc (Nat.le_refl _) (.cells #[.int .u64 0, .slice none 0 0, .slice none 0 0] 27)
  have hC := HC.out.keep hba
  have hV := HV.out.blw hba
  have hY := HY.out.blw hba
  replace q4 := keep hba q4
  replace q6 := keep hba q6
  have hT5 := Utf8Tabs_below HT.out hba
  have hUB := HU.out.keep hba
  have hb := Below.after HB.out hba
  replace HC := hide hC
  replace HV := hide hV
  replace HY := hide hY
  replace HU := hide hUB
  replace HT := hide hT5
  replace HB := hide hb
  clear hC hV hY hUB hT5 hb
  clear hba hb9
  go_wp2_with (fail)
  generalize w9.alloc (.cells #[.int .u64 0, .slice none 0 0, .slice none 0 0] 27) = w10 at *
  have cR := a_RangeT _ HC.out
  rw [prs_L] at cR
  refine cR.mono ?_
  rintro e_ w11 ⟨rfl, hb11⟩
  have hC := HC.out.keep hb11
  have hV := HV.out.blw hb11
  have hY := HY.out.blw hb11
  replace q4 := keep hb11 q4
  replace q6 := keep hb11 q6
  have hT5 := Utf8Tabs_below HT.out hb11
  have hUB := HU.out.keep hb11
  have hb := Below.after HB.out hb11
  replace HC := hide hC
  replace HV := hide hV
  replace HY := hide hY
  replace HU := hide hUB
  replace HT := hide hT5
  replace HB := hide hb
  clear hC hV hY hUB hT5 hb
  clear cR hb11
  have e1 := eqe_nils
  have e2 := neq_fault (.pointer (some ⟨q, 0, none⟩))
  have kX : (convert 24 9 (.slice ua 12 uc)).run Tryd.prog w11 = .ok (.string ⟨#[8, 172, 2, 18, 2, 97, 98, 42, 3, 2, 8, 1]⟩) w11 := conv_byT HU.out.1
  have cS : Calls Tryd.prog 16 #[.agg #[.int .u64 0, .slice none 0 0, .slice (some ⟨n3, 0, none⟩) 3 3], .agg #[.int .u64 (yn : Int), .slice yda ydl ydc, .slice ypa ypl ypc]] w11 _ := a_same HV.out _ ⟨yn, yda, ydl, ydc, ypa, ypl, ypc⟩ vL w11 (Below.refl _ _) HY.out
  rw [show (@decide (vL = vL) (Classical.propDecidable _)) = true by simp] at cS
  go_wp2_with (first | (refine wpList_load_want rfl 27 _ rfl n4 rfl 27 #[.int .u64 0, .slice none 0 0, .slice (some ⟨n3, 0, none⟩) 3 3] (0, 0) _ q4 Tryd.underlying27 rfl infoV ?_) | (refine wpList_load_want rfl 27 _ rfl n6 rfl 27 #[.int .u64 (yn : Int), .slice yda ydl ydc, .slice ypa ypl ypc] (0, 0) _ q6 Tryd.underlying27 rfl infoV ?_) | fail)
  refine cS.mono ?_
  rintro e_ w12 ⟨rfl, hb12⟩
  have hb := Below.after HB.out hb12
  go_wp2_with (fail)
  go_ret
  exact ⟨rfl, hb⟩
 ·exact absurd vld_L hz
end Go.Proofs.YtgcpebhjehlacaaDoor
namespace Go.Proofs.YtgcpebhjehlacaaDoor
set_option maxRecDepth 100000
open Go Go.RowKit Go.Sort
end Go.Proofs.YtgcpebhjehlacaaDoor
namespace Go.Proofs.YtgcpebhjehlacaaDoor
set_option maxRecDepth 100000
open Go Go.RowKit Go.Sort
/-! A schema within one. -/
theorem pck_dp {d d' no : Int} {b : Bool} {n dl pl : Nat} {E : Int} (h : pck d no b n dl pl E = none) : pck d' no b n dl pl E = none := by
 unfold pck at h ⊢
 split at h
 ·cases h
 ·rename_i h1
  rw [if_neg h1]
  split at h
  ·rename_i h2
   rw [if_pos h2]
  ·cases h
theorem ck_some {ts : List Slt} {x : VT} {deep : Int} (h1 : x.num = 0) (h2 : x.dat = []) (h3 : x.parts.length = ts.length) (h4 : chT utD flD ts x.parts deep = none) : ckT utD flD ts x deep = none := by
 unfold ckT ckN
 rw [if_neg (by rw [h1, h2]; simp), if_neg (by omega)]
 exact h4
theorem frs_al8 {f : VT → Option Flt3} : ∀ {xs : List VT}, (∀ p ∈ xs, f p = none) → frsT f xs = none
 | [], _ => by rw [frsT]
 | x :: xs, h => by
  rw [frsT, h x (by simp)]
  exact frs_al8 fun p hp => h p (by simp [hp])
theorem ch_dp : ∀ (ts : List Slt) (xs : List VT) (d d' : Int), chT utD flD ts xs d = none → xs.length = ts.length → chT utD flD ts xs d' = none
 | [], xs, d, d', _, _ => chT_nil utD flD xs d'
 | _ :: _, [], _, _, _, h => by simp at h
 | .mk no k l m sub :: ts, x :: xs, d, d', h, hl => by
  rw [chT_cons] at h ⊢
  cases hs : slT utD flD (.mk no k l m sub) x d with
  | some f => rw [hs] at h; cases h
  | none =>
   rw [hs] at h
   have hs' : slT utD flD (.mk no k l m sub) x d' = none := by
    by_cases h8 : k = 8
    ·rw [slT_msg utD flD (show (Slt.mk no k l m sub).kind = 8 from h8)] at hs ⊢
     obtain ⟨c1, c2, c3, c4⟩ := ck_none utD flD hs
     exact ck_some c1 c2 c3 (ch_dp sub x.parts _ _ c4 c3)
    ·by_cases h9 : k = 9
     ·rw [slT_lst utD flD (show (Slt.mk no k l m sub).kind = 9 from h9)] at hs ⊢
      split at hs
      ·cases hs
      ·rename_i q1
       rw [if_neg q1]
       split at hs
       ·cases hs
       ·rename_i q2
        rw [if_neg q2]
        refine frs_al8 fun p hp => ?_
        obtain ⟨c1, c2, c3, c4⟩ := ck_none utD flD (frs_none hs p hp)
        exact ck_some c1 c2 c3 (ch_dp sub p.parts _ _ c4 c3)
     ·rw [slT_pl utD flD (show (Slt.mk no k l m sub).kind ≠ 8 from h8) (show (Slt.mk no k l m sub).kind ≠ 9 from h9)] at hs ⊢
      exact pck_dp hs
   rw [hs']
   exact ch_dp ts xs d d' h (by simpa using hl)
theorem ck_dp {ts : List Slt} {X : VT} {d : Int} (d' : Int) (h : ckT utD flD ts X d = none) : ckT utD flD ts X d' = none := by
 obtain ⟨c1, c2, c3, c4⟩ := ck_none utD flD h
 exact ck_some c1 c2 c3 (ch_dp ts X.parts _ _ c4 c3)
theorem sl_8 (no : Int) (ts : List Slt) (X : VT) : slT utD flD (.mk no 8 0 0 ts) X 1 = ckT utD flD ts X 2 := slT_msg utD flD (by rfl) X 1
theorem sl_9 (no : Int) (ts : List Slt) (X : VT) : slT utD flD (.mk no 9 1 1 ts) (.mk 0 [] [X]) 1 = ckT utD flD ts X 2 := by
 rw [slT_lst utD flD (by rfl)]
 show frsT (fun p => ckT utD flD ts p (1 + 1)) [X] = _
 rw [frsT]
 simp only [show (1 : Int) + 1 = 2 from rfl]
 cases h : ckT utD flD ts X 2 with
 | some f => rfl
 | none => rfl
theorem wrap_ck8 (no : Int) (ts : List Slt) (X : VT) : ckT utD flD [.mk no 8 0 0 ts] (.mk 0 [] [X]) 1 = ckT utD flD ts X 2 := by
 show chT utD flD [_] [_] 1 = _
 rw [chT_cons, sl_8]
 cases h : ckT utD flD ts X 2 with
 | some f => rfl
 | none => exact chT_nil utD flD [] 1
theorem wrap_ck9 (no : Int) (ts : List Slt) (X : VT) : ckT utD flD [.mk no 9 1 1 ts] (.mk 0 [] [.mk 0 [] [X]]) 1 = ckT utD flD ts X 2 := by
 show chT utD flD [_] [_] 1 = _
 rw [chT_cons, sl_9]
 cases h : ckT utD flD ts X 2 with
 | some f => rfl
 | none => exact chT_nil utD flD [] 1
theorem ck_both {ts : List Slt} {X : VT} : (ckT utD flD ts X 2 = none) ↔ (ckT utD flD ts X 1 = none) := ⟨ck_dp 1, ck_dp 2⟩
theorem en_lenk : ∀ k n : Nat, n < 128 ^ (k + 1) → (en n).length ≤ k + 1
 | 0, n, h => by rw [en_lo (by simpa using h)]; simp
 | k + 1, n, h => by
  by_cases q : n < 128
  ·rw [en_lo q]; simp
  ·rw [en_hi q, List.length_cons]
   have := en_lenk k (n / 128) (Nat.div_lt_of_lt_mul (by rw [Nat.pow_succ, Nat.mul_comm] at h; exact h))
   omega
theorem en_pos8 (n : Nat) : 1 ≤ (en n).length := by
 by_cases q : n < 128
 ·rw [en_lo q]; simp
 ·rw [en_hi q]; simp
theorem en_mono8 : ∀ {b a : Nat}, a ≤ b → (en a).length ≤ (en b).length := by
 intro b
 induction b using Nat.strongRecOn with
 | ind b ih =>
  intro a h
  by_cases q : a < 128
  ·rw [en_lo q]
   exact en_pos8 b
  ·rw [en_hi q, en_hi (show ¬ b < 128 by omega), List.length_cons, List.length_cons]
   have := ih (b / 128) (by omega) (a := a / 128) (Nat.div_le_div_right h)
   omega
theorem hdl_5 {no : Int} (h : 1 ≤ no ∧ no ≤ 536870911) (k : Int) (hk : k = 8 ∨ k = 9) : 1 ≤ hdl no k ∧ hdl no k ≤ 5 := by
 unfold hdl
 refine ⟨en_pos8 _, en_lenk 4 _ ?_⟩
 have : (tyOf k).toNat = 2 := by rcases hk with rfl | rfl <;> rfl
 rw [this]
 have : (128 : Nat) ^ (4 + 1) = 34359738368 := by decide
 omega
theorem frm_b {n : Nat} (h : n ≤ 4194305) : frm n ≤ n + 4 := by
 unfold frm
 have h0 : (128 : Nat) ^ (3 + 1) = 268435456 := by decide
 have h1 := en_lenk 3 n (by omega)
 have : cpd (n + (en n).length) ≤ n + (en n).length := by unfold cpd; split <;> omega
 omega
theorem cpd_self (n : Nat) : cpd n ≤ n := by unfold cpd; split <;> omega
theorem cpd_pos {n : Nat} (h : 1 ≤ n) : 1 ≤ cpd n := by unfold cpd; split <;> omega
theorem spL_nl (a b : Nat) : spL [] a b = (a, b) := by rw [spL]
theorem spL_8 (no : Int) (ts : List Slt) : spL [.mk no 8 0 0 ts] 0 0 = (cpd (0 + hdl no 8 + frm (spL ts 0 0).1), cpd (0 + hdl no 8 + frm (spL ts 0 0).2)) := by
 rw [spL_cons, spL_nl]
 rfl
theorem spL_9 (no : Int) (ts : List Slt) : spL [.mk no 9 1 1 ts] 0 0 = (cpd (0 + hdl no 9 + frm (cpd (frm (spL ts 0 0).1 * 1))), cpd (0 + hdl no 9 + frm (cpd (frm (spL ts 0 0).2 * 1)))) := by
 rw [spL_cons, spL_nl]
 rfl
theorem lft_8 (no : Int) (ts : List Slt) : lft [.mk no 8 0 0 ts] 1 256 = if no < 1 ∨ 536870911 < no ∨ no ≤ 0 then -1 else lft ts 2 255 := by
 unfold lft
 rw [if_neg (by simp), lfL_cons, if_neg (by decide)]
 have s8 : sfit (.mk no 8 0 0 ts) = true := rfl
 have n8 : nst (.mk no 8 0 0 ts) := .inl rfl
 simp only [Slt.no, Slt.sub, s8, n8, true_and, Bool.true_eq_false, or_false]
 split
 ·rfl
 ·rw [if_pos (by decide), lfL_nl]
  rfl
theorem lft_9 (no : Int) (ts : List Slt) : lft [.mk no 9 1 1 ts] 1 256 = if no < 1 ∨ 536870911 < no ∨ no ≤ 0 then -1 else lft ts 2 255 := by
 unfold lft
 rw [if_neg (by simp), lfL_cons, if_neg (by decide)]
 have s8 : sfit (.mk no 9 1 1 ts) = true := rfl
 have n8 : nst (.mk no 9 1 1 ts) := .inr rfl
 simp only [Slt.no, Slt.sub, s8, n8, true_and, Bool.true_eq_false, or_false]
 split
 ·rfl
 ·rw [if_pos (by decide), lfL_nl]
  rfl
theorem wrap_vld (no : Int) (ts : List Slt) (h : vld [.mk no 8 0 0 ts] ≠ vld [.mk no 9 1 1 ts] ∨ no < 1 ∨ 536870911 < no) : (vld [.mk no 8 0 0 ts] ≠ 0 ∧ vld [.mk no 9 1 1 ts] ≠ 0) ∨ (1 ≤ no ∧ no ≤ 536870911 ∧ 4194284 < (spL ts 0 0).2) := by
 unfold vld at h ⊢
 rw [lft_8, lft_9] at *
 by_cases hn : no < 1 ∨ 536870911 < no ∨ no ≤ 0
 ·rw [if_pos hn]
  exact .inl ⟨by rw [if_pos (by decide)]; decide, by rw [if_pos (by decide)]; decide⟩
 ·rw [if_neg hn] at *
  by_cases hl : lft ts 2 255 < 0
  ·exact .inl ⟨by rw [if_pos hl]; decide, by rw [if_pos hl]; decide⟩
  ·refine .inr ⟨by omega, by omega, ?_⟩
   rcases Nat.lt_or_ge 4194284 (spL ts 0 0).2 with q | q
   ·exact q
   ·exfalso
    rw [spL_8, spL_9] at h
    have a8 := hdl_5 (no := no) ⟨by omega, by omega⟩ 8 (.inl rfl)
    have a9 := hdl_5 (no := no) ⟨by omega, by omega⟩ 9 (.inr rfl)
    have b1 := frm_b (n := (spL ts 0 0).2) (by omega)
    have b2 := cpd_self (frm (spL ts 0 0).2 * 1)
    have b3 := frm_b (n := cpd (frm (spL ts 0 0).2 * 1)) (by omega)
    have c8 := cpd_self (0 + hdl no 8 + frm (spL ts 0 0).2)
    have c9 := cpd_self (0 + hdl no 9 + frm (cpd (frm (spL ts 0 0).2 * 1)))
    rw [if_neg hl, if_neg hl, if_neg (by simp only; omega), if_neg (by simp only; omega)] at h
    omega
theorem eout_one {f : Fd} (h : 0 < (eout [f]).length) : eout [f] = fby f := by
 unfold eout at h ⊢
 by_cases q : eer [f] = 0
 ·rw [if_pos q]
  show fby f ++ [] = _
  rw [List.append_nil]
 ·rw [if_neg q] at h
  simp at h
theorem wrap_en8 {no : Int} {ts : List Slt} {X : VT} (hn : 1 ≤ no ∧ no ≤ 536870911) (hv : vld [.mk no 8 0 0 ts] = 0) (hN : NmT (.mk 0 [] [X])) (hc : ckT utD flD ts X 1 = none) : enT [.mk no 8 0 0 ts] (.mk 0 [] [X]) = en (8 * no.toNat + 2) ++ itm (enT ts X) := by
 have ok := vld_ok hv
 have h1 := (enc_back utD flD (by simp) ok.2.1 ok.2.2.2.1 hN (deep := 1) (fr := 0) (by rw [wrap_ck8]; exact ck_both.2 hc)).1
 have a8 := hdl_5 hn 8 (.inl rfl)
 rw [spL_8] at h1
 have h0 : 0 < (enT [.mk no 8 0 0 ts] (.mk 0 [] [X])).length := by
  have : 1 ≤ cpd (0 + hdl no 8 + frm (spL ts 0 0).1) := cpd_pos (by omega)
  simp only at h1
  omega
 have e : fdT [.mk no 8 0 0 ts] [X] = [⟨no, 2, 0, enT ts X⟩] := by
  rw [fdT_cons, fdT_nil, msg_field _ (by rfl)]
  rfl
 unfold enT at h0 ⊢
 show eout (fdT [_] [_]) = _
 change 0 < (eout (fdT [_] [_])).length at h0
 rw [e] at h0 ⊢
 rw [eout_one h0]
 rfl
theorem wrap_en9 {no : Int} {ts : List Slt} {X : VT} (hn : 1 ≤ no ∧ no ≤ 536870911) (hv : vld [.mk no 9 1 1 ts] = 0) (hN : NmT (.mk 0 [] [.mk 0 [] [X]])) (hc : ckT utD flD ts X 1 = none) (hb : (itm (enT ts X)).length ≤ 4194304) : enT [.mk no 9 1 1 ts] (.mk 0 [] [.mk 0 [] [X]]) = en (8 * no.toNat + 2) ++ itm (itm (enT ts X)) := by
 have ok := vld_ok hv
 have h1 := (enc_back utD flD (by simp) ok.2.1 ok.2.2.2.1 hN (deep := 1) (fr := 0) (by rw [wrap_ck9]; exact ck_both.2 hc)).1
 have a8 := hdl_5 hn 9 (.inr rfl)
 rw [spL_9] at h1
 have h0 : 0 < (enT [.mk no 9 1 1 ts] (.mk 0 [] [.mk 0 [] [X]])).length := by
  have : 1 ≤ cpd (0 + hdl no 9 + frm (cpd (frm (spL ts 0 0).1 * 1))) := cpd_pos (by omega)
  simp only at h1
  omega
 have ej : jout [enT ts X] = itm (enT ts X) := by
  have : jn [enT ts X] = itm (enT ts X) := by show itm _ ++ [] = _; rw [List.append_nil]
  unfold jout
  rw [if_neg (by unfold jbad; rw [this]; simp; omega), this]
 have e : fdT [.mk no 9 1 1 ts] [.mk 0 [] [X]] = [⟨no, 2, 0, itm (enT ts X)⟩] := by
  rw [fdT_cons, fdT_nil, lst_field _ (by rfl)]
  show [(⟨no, 2, 0, jout [enT ts X]⟩ : Fd)] = _
  rw [ej]
 unfold enT at h0 ⊢
 show eout (fdT [_] [_]) = _
 change 0 < (eout (fdT [_] [_])).length at h0
 rw [e] at h0 ⊢
 rw [eout_one h0]
 rfl
theorem wrap_itm {no : Int} {ts : List Slt} (hv : vld [.mk no 9 1 1 ts] = 0) {b : List B} (hb : b.length ≤ (spL ts 0 0).2) : (itm b).length ≤ 4194304 := by
 have h := (vld_ok hv).2.2.2.1
 rw [spL_9] at h
 simp only at h
 have hm : (en b.length).length ≤ (en (spL ts 0 0).2).length := en_mono8 hb
 have e : (itm b).length = (en b.length).length + b.length := by unfold itm; rw [List.length_append]
 rw [e]
 generalize (en b.length).length = p at *
 unfold frm at h
 generalize (en (spL ts 0 0).2).length = q at *
 generalize (spL ts 0 0).2 = M at *
 unfold cpd at h
 split at h <;> split at h <;> split at h <;> (try omega)
 all_goals (split at h <;> omega)
end Go.Proofs.YtgcpebhjehlacaaDoor

