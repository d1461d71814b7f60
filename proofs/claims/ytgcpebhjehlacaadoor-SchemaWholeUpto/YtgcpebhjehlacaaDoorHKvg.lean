import Derived.Test.YtgcpebhjehlacaaDoorHKvf
import Derived.Test.YtgcpebhjehlacaaDoorHKtn
import Derived.Lib.SlBytesConst
import Derived.Test.YtgcpebhjehlacaaDoorHJrc
import Derived.Test.YtgcpebhjehlacaaDoorHXdc
import Derived.Test.YtgcpebhjehlacaaDoorProg
import Derived.WalkKit
import Derived.WalkSpells
import Derived.WalkLawsBesides
import Derived.Lib.QuietBelow
import Derived.Laws.BitsAllLaws
import Derived.BigQuiet
import Derived.WalkMore
import Derived.Deep.MidRow
import Derived.Test.YtgcpebhjehlacaaDoorHOpen
import Derived.Test.YtgcpebhjehlacaaDoorHWs
namespace Go.Proofs.YtgcpebhjehlacaaDoor
set_option maxRecDepth 100000
open Go Go.RowKit Go.Sort
theorem ht_vok : ∀ (ts : List Slt) (prev deep : Int), deep ≤ 6 → vok ts prev deep → htT ts ≤ 8 - deep
 | [], _, deep, hd, _ => by rw [htT]; omega
 | .mk no k l m sub :: ts, prev, deep, hd, h => by
  rw [vok] at h
  obtain ⟨⟨_, hf, hn⟩, ht⟩ := h
  have h1 := ht_vok ts no deep hd ht
  have h2 : htT sub + 1 ≤ 8 - deep := by
   by_cases hk : k = 8 ∨ k = 9
   ·obtain ⟨_, hd1, hv⟩ := hn hk
    have := ht_vok sub 0 (deep + 1) (by omega) hv
    omega
   ·have : sub = [] := by
     refine List.eq_nil_of_length_eq_zero ?_
     unfold fitN fitB at hf
     by_cases q : (((sub.length : Nat) : Int) == 0) = true
     ·have := eq_of_beq q
      omega
     ·rw [Bool.not_eq_true] at q
      rw [q] at hf
      exfalso
      revert hf
      split <;> simp_all
    subst this
    rw [htT]
    omega
  rw [htT]
  omega
theorem vld_ok {ts : List Slt} (h : vld ts = 0) : ts.length ≤ 16 ∧ vok ts 0 1 ∧ gd ts ∧ (spL ts 0 0).2 ≤ 4194304 ∧ 1 + htT ts ≤ 9223372036854775807 := by
 unfold vld at h
 split at h
 ·cases h
 ·rename_i h1
  split at h
  ·cases h
  ·rename_i h2
   have hg := lft_gd ts 1 256 (by decide) (by omega)
   have h3 := h1
   unfold lft at h3
   split at h3
   ·omega
   ·rename_i h4
    have hv : vok ts 0 1 := by
     by_cases q : vok ts 0 1 ∧ (tot ts : Int) ≤ 256
     ·exact q.1
     ·have := (lfL_val ts 0 1 256 (by decide)).2 q
      omega
    have := ht_vok ts 0 1 (by decide) hv
    exact ⟨by omega, hv, hg, by omega, by omega⟩
theorem bysB_take8 {W : World} {a : Option Addr} {n c k : Nat} {d : List B} (h : BysB W (.slice a n c) d) (hk : k ≤ d.length) : BysB W (.slice a k c) (d.take k) := by
 obtain ⟨⟨ao, cap, e, hl, hc, hz⟩, h2, h3⟩ := h
 injection e with e1 e2 e3
 subst e1 e3
 have hlt : (d.take k).length = k := by rw [List.length_take]; omega
 refine ⟨⟨a, c, by rw [bl_len, hlt], by rw [bl_len, hlt]; rw [bl_len] at hl; omega, fun j hj => ?_, bl_bnd _⟩, by omega, fun a' l' c' q hn => ?_⟩
 ·rw [bl_len, hlt] at hj
  obtain ⟨b, off, e4, hb, hcell⟩ := hc j (by rw [bl_len]; omega)
  refine ⟨b, off, e4, hb, ?_⟩
  rw [hcell, bl_get, bl_get, List.getD_eq_getElem?_getD, List.getD_eq_getElem?_getD, List.getElem?_take_of_lt hj]
 ·injection q with q1 q2 q3
  subst q1 q3
  exact h3 _ _ _ rfl hn
theorem plo8 : Plo utD flD (Lib.Utf8Tabs 1 2) where
 keep := fun _ _ h hb => Utf8Tabs_below h hb
 txt := fun _ _ _ _ _ hG hc hB => a_utf8 hG hc hB
 flt := fun w n m hn => a_flt8 w n m hn
attribute [local go_sem] setCell_drewN alloc_drewN
set_option maxRecDepth 100000 in
theorem a_RangeT {ts : List Slt} {g : Nat} (w : World) (h : Cdc w g ts) : Calls Tryd.prog 15 #[.pointer (some ⟨g, 0, none⟩)] w fun e w' => e = .returned (.tuple #[.int .i64 ((prS ts).1 : Int), .int .i64 ((prS ts).2 : Int)]) ∧ Below w.heap.size w w' := by
 obtain ⟨x, _, h⟩ := h
 have c1 : w.cell? ⟨g, 1, none⟩ = some (.int .i64 ((prS ts).1 : Int)) := cell_of_row _ _ _ _ _ _ h
 have c2 : w.cell? ⟨g, 2, none⟩ = some (.int .i64 ((prS ts).2 : Int)) := cell_of_row _ _ _ _ _ _ h
 have k1 : ∀ p : Regrown, (grow (redrawn w p.d) p.os).cell? ⟨g, 1, none⟩ = _ := fun p => cell_regrown c1 p.d p.os
 have k2 : ∀ p : Regrown, (grow (redrawn w p.d) p.os).cell? ⟨g, 2, none⟩ = _ := fun p => cell_regrown c2 p.d p.os
 go_enter Tryd.func15, Tryd.ntmps15
 go_wp2_with (fail)
 refine wp_region_quiet_below (by kernel_rfl) (by kernel_rfl) ?_
 go_big_quiet_step (fail)
 go_big_quiet_step (fail)
 go_big_quiet_step (fail)
 go_big_quiet_step (fail)
 go_big_quiet_step (fail)
 go_big_quiet_step (fail)
 go_big_quiet_step (fail)
 go_big_quiet_step (fail)
 go_big_quiet_step (fail)
 go_big_quiet_step (fail)
 refine wpQuiet_nil ?_
 rintro _ ⟨p, rfl⟩
 have hb2 := below_regrown w p.d p.os
 generalize grow (redrawn w p.d) p.os = w1 at *
 clear k1 k2
 go_wp2_with (fail)
 go_ret2
 exact ⟨rfl, hb2⟩
end Go.Proofs.YtgcpebhjehlacaaDoor
namespace Go.Proofs.YtgcpebhjehlacaaDoor
set_option maxRecDepth 100000
open Go Go.RowKit Go.Sort
attribute [local go_sem] setCell_drewN alloc_drewN
theorem slo_L (w : World) : Slo ((w.alloc (.cells #[.int .i64 1, .int .i64 4, .int .u64 0, .int .u64 0, .slice none 0 0] 53)).alloc (.cells #[.int .i64 1, .int .i64 1, .int .u64 1, .int .u64 300, .slice none 0 0, .int .i64 2, .int .i64 6, .int .u64 0, .int .u64 10, .slice none 0 0, .int .i64 5, .int .i64 9, .int .u64 0, .int .u64 2, .slice (some ⟨w.heap.size, 0, none⟩) 1 1] 53)) (.slice (some ⟨w.heap.size + 1, 0, none⟩) 3 3) tsL := by
 have r1 := hp1_0 w (.cells #[.int .i64 1, .int .i64 4, .int .u64 0, .int .u64 0, .slice none 0 0] 53)
 have r3 := hp1_0 (w.alloc (.cells #[.int .i64 1, .int .i64 4, .int .u64 0, .int .u64 0, .slice none 0 0] 53)) (.cells #[.int .i64 1, .int .i64 1, .int .u64 1, .int .u64 300, .slice none 0 0, .int .i64 2, .int .i64 6, .int .u64 0, .int .u64 10, .slice none 0 0, .int .i64 5, .int .i64 9, .int .u64 0, .int .u64 2, .slice (some ⟨w.heap.size, 0, none⟩) 1 1] 53)
 have hb : Below (w.alloc (.cells #[.int .i64 1, .int .i64 4, .int .u64 0, .int .u64 0, .slice none 0 0] 53)).heap.size (w.alloc (.cells #[.int .i64 1, .int .i64 4, .int .u64 0, .int .u64 0, .slice none 0 0] 53)) ((w.alloc (.cells #[.int .i64 1, .int .i64 4, .int .u64 0, .int .u64 0, .slice none 0 0] 53)).alloc (.cells #[.int .i64 1, .int .i64 1, .int .u64 1, .int .u64 300, .slice none 0 0, .int .i64 2, .int .i64 6, .int .u64 0, .int .u64 10, .slice none 0 0, .int .i64 5, .int .i64 9, .int .u64 0, .int .u64 2, .slice (some ⟨w.heap.size, 0, none⟩) 1 1] 53)) := (Below.refl _ _).alloc (Nat.le_refl _) _
 rw [size_alloc1] at r3
 replace r1 := keep hb r1
 have l1 := lt_of_row r1
 have l3 := lt_of_row r3
 have s1 : Slo ((w.alloc (.cells #[.int .i64 1, .int .i64 4, .int .u64 0, .int .u64 0, .slice none 0 0] 53)).alloc (.cells #[.int .i64 1, .int .i64 1, .int .u64 1, .int .u64 300, .slice none 0 0, .int .i64 2, .int .i64 6, .int .u64 0, .int .u64 10, .slice none 0 0, .int .i64 5, .int .i64 9, .int .u64 0, .int .u64 2, .slice (some ⟨w.heap.size, 0, none⟩) 1 1] 53)) (.slice none 0 0) [] := .mk none 0 [] [] (by simp) (by simp) (fun _ => rfl) (fun i hi => by simp at hi) (fun i hi => by simp at hi)
 have s2 : Slo ((w.alloc (.cells #[.int .i64 1, .int .i64 4, .int .u64 0, .int .u64 0, .slice none 0 0] 53)).alloc (.cells #[.int .i64 1, .int .i64 1, .int .u64 1, .int .u64 300, .slice none 0 0, .int .i64 2, .int .i64 6, .int .u64 0, .int .u64 10, .slice none 0 0, .int .i64 5, .int .i64 9, .int .u64 0, .int .u64 2, .slice (some ⟨w.heap.size, 0, none⟩) 1 1] 53)) (.slice (some ⟨w.heap.size, 0, none⟩) 1 1) [.mk 1 4 0 0 []] := by
  refine .mk (some ⟨w.heap.size, 0, none⟩) 1 [.mk 1 4 0 0 []] [.slice none 0 0] (by simp) (by simp) (fun e => by cases e) (fun i hi => ?_) (fun i hi => ?_)
  ·obtain rfl : i = 0 := by simpa using hi
   refine ⟨w.heap.size, 0, rfl, l1, fun j v hv => ?_, by simp [Sok, gs, Slt.no, Slt.kind, Slt.least, Slt.most]⟩
   have hj : j < 5 := (List.getElem?_eq_some_iff.1 hv).1
   rw [cell_of_row _ _ _ _ _ _ r1]
   match j, hj with
   | 0, _ => exact hv
   | 1, _ => exact hv
   | 2, _ => exact hv
   | 3, _ => exact hv
   | 4, _ => exact hv
  ·obtain rfl : i = 0 := by simpa using hi
   exact s1
 refine .mk (some ⟨w.heap.size + 1, 0, none⟩) 3 tsL [.slice none 0 0, .slice none 0 0, .slice (some ⟨w.heap.size, 0, none⟩) 1 1] (by decide) (by decide) (fun e => by cases e) (fun i hi => ?_) (fun i hi => ?_)
 ·have hi3 : i < 3 := hi
  refine ⟨w.heap.size + 1, 0, rfl, l3, fun j v hv => ?_, ?_⟩
  ·have hj : j < 5 := (List.getElem?_eq_some_iff.1 hv).1
   rw [cell_of_row _ _ _ _ _ _ r3]
   match i, hi3, j, hj with
   | 0, _, 0, _ => exact hv
   | 0, _, 1, _ => exact hv
   | 0, _, 2, _ => exact hv
   | 0, _, 3, _ => exact hv
   | 0, _, 4, _ => exact hv
   | 1, _, 0, _ => exact hv
   | 1, _, 1, _ => exact hv
   | 1, _, 2, _ => exact hv
   | 1, _, 3, _ => exact hv
   | 1, _, 4, _ => exact hv
   | 2, _, 0, _ => exact hv
   | 2, _, 1, _ => exact hv
   | 2, _, 2, _ => exact hv
   | 2, _, 3, _ => exact hv
   | 2, _, 4, _ => exact hv
  ·match i, hi3 with
   | 0, _ => exact ⟨by decide, by decide, by decide, by decide⟩
   | 1, _ => exact ⟨by decide, by decide, by decide, by decide⟩
   | 2, _ => exact ⟨by decide, by decide, by decide, by decide⟩
 ·have hi3 : i < 3 := hi
  match i, hi3 with
  | 0, _ => exact s1
  | 1, _ => exact s1
  | 2, _ => exact s2
theorem vtm_ls {W : World} {n : Nat} {xs : List VR} {ps : List VT} (hl : xs.length = ps.length) (hm : ps.length ≤ 5864062014634) (hr : W.heap[n]? = some (.cells (vrs xs).toArray 27 (0, 0))) (hs : ∀ i, i < ps.length → VtM W (fun _ => True) (gx xs i) (gvt ps i)) : VtM W (fun _ => True) ⟨0, none, 0, 0, some ⟨n, 0, none⟩, ps.length, ps.length⟩ (.mk 0 [] ps) := by
 refine .mk ⟨0, none, 0, 0, some ⟨n, 0, none⟩, ps.length, ps.length⟩ [] xs ps (by show 0 < 18446744073709551616; decide) rfl (by decide) (bysB_nil _ _) (Nat.le_refl _) (fun a e => by cases lv_some e) rfl hl (Nat.le_refl _) hm (fun a e => ?_) (fun i hi => ⟨n, 0, rfl, fun j v hv => ?_⟩) hs
 ·have := lv_some e
  cases this
  exact ⟨trivial, lt_of_row hr⟩
 ·have hj : j < 3 := (List.getElem?_eq_some_iff.1 hv).1
  rw [cell_of_row _ _ _ _ _ _ hr, List.getElem?_toArray, Nat.zero_add, vrs_at xs i j (by omega) hj]
  exact hv
theorem vtm_nm (W : World) (N : Nat) (h : N < 18446744073709551616) : VtM W (fun _ => True) ⟨N, none, 0, 0, none, 0, 0⟩ (.mk N [] []) :=
 .mk ⟨N, none, 0, 0, none, 0, 0⟩ [] [] [] h rfl (by decide) (bysB_nil _ _) (Nat.le_refl _) (fun a e => by cases lv_some e) rfl rfl (Nat.le_refl _) (by decide) (fun a e => by cases lv_some e) (fun i hi => by simp at hi) (fun i hi => by simp at hi)
def x1L : VR := ⟨1, none, 0, 0, none, 0, 0⟩
def xpL (n : Nat) : VR := ⟨0, none, 0, 0, some ⟨n, 0, none⟩, 1, 1⟩
def x300 : VR := ⟨300, none, 0, 0, none, 0, 0⟩
def xabL (n : Nat) : VR := ⟨0, some ⟨n, 0, none⟩, 2, 2, none, 0, 0⟩
def xvL (n : Nat) : VR := ⟨0, none, 0, 0, some ⟨n, 0, none⟩, 3, 3⟩
theorem vtm_L {W : World} {n0 n1 n2 n3 : Nat} (r0 : W.heap[n0]? = some (.cells #[.int .u8 97, .int .u8 98] 5 (2, 3))) (r1 : W.heap[n1]? = some (.cells #[.int .u64 1, .slice none 0 0, .slice none 0 0] 27 (0, 0))) (r2 : W.heap[n2]? = some (.cells #[.int .u64 0, .slice none 0 0, .slice (some ⟨n1, 0, none⟩) 1 1] 27 (0, 0)))
 (r3 : W.heap[n3]? = some (.cells #[.int .u64 300, .slice none 0 0, .slice none 0 0, .int .u64 0, .slice (some ⟨n0, 0, none⟩) 2 2, .slice none 0 0, .int .u64 0, .slice none 0 0, .slice (some ⟨n2, 0, none⟩) 1 1] 27 (0, 0))) : VtM W (fun _ => True) (xvL n3) vL := by
 have h1 : VtM W (fun _ => True) x1L (.mk 1 [] []) := vtm_nm W 1 (by decide)
 have h2 : VtM W (fun _ => True) (xpL n1) (.mk 0 [] [.mk 1 [] []]) := vtm_ls (xs := [x1L]) (ps := [.mk 1 [] []]) rfl (by decide) r1 (fun i hi => by
  obtain rfl : i = 0 := by simpa using hi
  exact h1)
 have h3 : VtM W (fun _ => True) (xpL n2) (.mk 0 [] [.mk 0 [] [.mk 1 [] []]]) := vtm_ls (xs := [xpL n1]) (ps := [.mk 0 [] [.mk 1 [] []]]) rfl (by decide) r2 (fun i hi => by
  obtain rfl : i = 0 := by simpa using hi
  exact h2)
 have h4 : VtM W (fun _ => True) x300 (.mk 300 [] []) := vtm_nm W 300 (by decide)
 have hB : BysB W (.slice (some ⟨n0, 0, none⟩) 2 2) [97#8, 98#8] := ⟨⟨some ⟨n0, 0, none⟩, 2, rfl, by decide, fun j hj => ⟨n0, 0, rfl, lt_of_row r0, by
  rw [Nat.zero_add, cell_of_row _ _ _ _ _ _ r0]
  match j, hj with
  | 0, _ => rfl
  | 1, _ => rfl⟩, bl_bnd _⟩, by decide, fun a l c h h2 => by cases h; cases h2⟩
 have h5 : VtM W (fun _ => True) (xabL n0) (.mk 0 [97#8, 98#8] []) := .mk (xabL n0) [97#8, 98#8] [] [] (by show 0 < 18446744073709551616; decide) rfl (by decide) hB (Nat.le_refl _) (fun a e => by
  have := lv_some e
  cases this
  exact ⟨trivial, lt_of_row r0⟩) rfl rfl (Nat.le_refl _) (by decide) (fun a e => by cases lv_some e) (fun i hi => by simp at hi) (fun i hi => by simp at hi)
 exact vtm_ls (xs := [x300, xabL n0, xpL n2]) (ps := [.mk 300 [] [], .mk 0 [97#8, 98#8] [], .mk 0 [] [.mk 0 [] [.mk 1 [] []]]]) rfl (by decide) r3 (fun i hi => by
  have hi3 : i < 3 := hi
  match i, hi3 with
  | 0, _ => exact h4
  | 1, _ => exact h5
  | 2, _ => exact h3)
theorem eqe_nils (W : World) : (binOp .eql 36 .nilIface .nilIface).run Tryd.prog W = .ok (.bool true) W := by kernel_rfl
theorem eqe_fault (v : Value) (W : World) : (binOp .eql 36 (.iface 97 v) .nilIface).run Tryd.prog W = .ok (.bool false) W := by kernel_rfl
theorem okL : tsL.length ≤ 16 ∧ vok tsL 0 1 ∧ gd tsL ∧ (spL tsL 0 0).2 ≤ 4194304 ∧ 1 + htT tsL ≤ 9223372036854775807 := vld_ok vld_L
set_option maxRecDepth 100000 in
set_option maxHeartbeats 8000000 in
theorem l_lives8 (w : World) (hT : Lib.Utf8Tabs 1 2 w) : Calls Tryd.prog 8 #[] w fun e w' => e = .returned (.bool true) ∧ Below w.heap.size w w' := by
 have kc := fun (W : World) (C : Array Value) (n c : Nat) => Go.Lib.run_convert_bytes_const (P := Tryd.prog) W 24 5 C n c Tryd.underlying24 Tryd.underlying5
 have cC := a_Compile (slo_L w) _ (Below.refl _ _)
 have hb0 : Below w.heap.size w ((w.alloc (.cells #[.int .i64 1, .int .i64 4, .int .u64 0, .int .u64 0, .slice none 0 0] 53)).alloc (.cells #[.int .i64 1, .int .i64 1, .int .u64 1, .int .u64 300, .slice none 0 0, .int .i64 2, .int .i64 6, .int .u64 0, .int .u64 10, .slice none 0 0, .int .i64 5, .int .i64 9, .int .u64 0, .int .u64 2, .slice (some ⟨w.heap.size, 0, none⟩) 1 1] 53)) := ((Below.refl _ _).alloc (Nat.le_refl _) _).alloc (by simp) _
 generalize hW : ((w.alloc (.cells #[.int .i64 1, .int .i64 4, .int .u64 0, .int .u64 0, .slice none 0 0] 53)).alloc (.cells #[.int .i64 1, .int .i64 1, .int .u64 1, .int .u64 300, .slice none 0 0, .int .i64 2, .int .i64 6, .int .u64 0, .int .u64 10, .slice none 0 0, .int .i64 5, .int .i64 9, .int .u64 0, .int .u64 2, .slice (some ⟨w.heap.size, 0, none⟩) 1 1] 53)) = W0 at cC hb0
 go_enter Tryd.func8, Tryd.ntmps8
 go_wp2_with (fail)
 clear hW
 refine cC.mono ?_
 rintro e_ w1 ⟨hb1, ⟨_, g, rfl, hg, hC⟩ | ⟨hz, _⟩⟩
 ·have hb := Below.after hb0 hb1
  clear cC hb1 hg hb0
  go_wp2_with (fail)
  have hb1 := Below.refl w1.heap.size w1
  have q0 := hp1_0 w1 (.cells #[.int .u8 97, .int .u8 98] 5 (2, 3))
  have p0 : Below w1.heap.size w1 (w1.alloc (.cells #[.int .u8 97, .int .u8 98] 5 (2, 3))) := (Below.refl _ _).alloc (Nat.le_refl _) _
  replace hb1 := Below.after hb1 p0
  have q1 := hp1_0 (w1.alloc (.cells #[.int .u8 97, .int .u8 98] 5 (2, 3))) (.cells #[.int .u64 1, .slice none 0 0, .slice none 0 0] 27)
  rw [show (w1.alloc (.cells #[.int .u8 97, .int .u8 98] 5 (2, 3))).heap.size = w1.heap.size + 1 by simp] at q1
  have p1 : Below (w1.alloc (.cells #[.int .u8 97, .int .u8 98] 5 (2, 3))).heap.size (w1.alloc (.cells #[.int .u8 97, .int .u8 98] 5 (2, 3))) ((w1.alloc (.cells #[.int .u8 97, .int .u8 98] 5 (2, 3))).alloc (.cells #[.int .u64 1, .slice none 0 0, .slice none 0 0] 27)) := (Below.refl _ _).alloc (Nat.le_refl _) _
  replace q0 := keep p1 q0
  replace hb1 := Below.after hb1 p1
  have q2 := hp1_0 ((w1.alloc (.cells #[.int .u8 97, .int .u8 98] 5 (2, 3))).alloc (.cells #[.int .u64 1, .slice none 0 0, .slice none 0 0] 27)) (.cells #[.int .u64 0, .slice none 0 0, .slice (some ⟨w1.heap.size + 1, 0, none⟩) 1 1] 27)
  rw [show ((w1.alloc (.cells #[.int .u8 97, .int .u8 98] 5 (2, 3))).alloc (.cells #[.int .u64 1, .slice none 0 0, .slice none 0 0] 27)).heap.size = w1.heap.size + 1 + 1 by simp] at q2
  have p2 : Below ((w1.alloc (.cells #[.int .u8 97, .int .u8 98] 5 (2, 3))).alloc (.cells #[.int .u64 1, .slice none 0 0, .slice none 0 0] 27)).heap.size ((w1.alloc (.cells #[.int .u8 97, .int .u8 98] 5 (2, 3))).alloc (.cells #[.int .u64 1, .slice none 0 0, .slice none 0 0] 27)) (((w1.alloc (.cells #[.int .u8 97, .int .u8 98] 5 (2, 3))).alloc (.cells #[.int .u64 1, .slice none 0 0, .slice none 0 0] 27)).alloc (.cells #[.int .u64 0, .slice none 0 0, .slice (some ⟨w1.heap.size + 1, 0, none⟩) 1 1] 27)) := (Below.refl _ _).alloc (Nat.le_refl _) _
  replace q0 := keep p2 q0
  replace q1 := keep p2 q1
  replace hb1 := Below.after hb1 p2
  have q3 := hp1_0 (((w1.alloc (.cells #[.int .u8 97, .int .u8 98] 5 (2, 3))).alloc (.cells #[.int .u64 1, .slice none 0 0, .slice none 0 0] 27)).alloc (.cells #[.int .u64 0, .slice none 0 0, .slice (some ⟨w1.heap.size + 1, 0, none⟩) 1 1] 27)) (.cells #[.int .u64 300, .slice none 0 0, .slice none 0 0, .int .u64 0, .slice (some ⟨w1.heap.size, 0, none⟩) 2 2, .slice none 0 0, .int .u64 0, .slice none 0 0, .slice (some ⟨w1.heap.size + 1 + 1, 0, none⟩) 1 1] 27)
  rw [show (((w1.alloc (.cells #[.int .u8 97, .int .u8 98] 5 (2, 3))).alloc (.cells #[.int .u64 1, .slice none 0 0, .slice none 0 0] 27)).alloc (.cells #[.int .u64 0, .slice none 0 0, .slice (some ⟨w1.heap.size + 1, 0, none⟩) 1 1] 27)).heap.size = w1.heap.size + 1 + 1 + 1 by simp] at q3
  have p3 : Below (((w1.alloc (.cells #[.int .u8 97, .int .u8 98] 5 (2, 3))).alloc (.cells #[.int .u64 1, .slice none 0 0, .slice none 0 0] 27)).alloc (.cells #[.int .u64 0, .slice none 0 0, .slice (some ⟨w1.heap.size + 1, 0, none⟩) 1 1] 27)).heap.size (((w1.alloc (.cells #[.int .u8 97, .int .u8 98] 5 (2, 3))).alloc (.cells #[.int .u64 1, .slice none 0 0, .slice none 0 0] 27)).alloc (.cells #[.int .u64 0, .slice none 0 0, .slice (some ⟨w1.heap.size + 1, 0, none⟩) 1 1] 27)) ((((w1.alloc (.cells #[.int .u8 97, .int .u8 98] 5 (2, 3))).alloc (.cells #[.int .u64 1, .slice none 0 0, .slice none 0 0] 27)).alloc (.cells #[.int .u64 0, .slice none 0 0, .slice (some ⟨w1.heap.size + 1, 0, none⟩) 1 1] 27)).alloc (.cells #[.int .u64 300, .slice none 0 0, .slice none 0 0, .int .u64 0, .slice (some ⟨w1.heap.size, 0, none⟩) 2 2, .slice none 0 0, .int .u64 0, .slice none 0 0, .slice (some ⟨w1.heap.size + 1 + 1, 0, none⟩) 1 1] 27)) := (Below.refl _ _).alloc (Nat.le_refl _) _
  replace q0 := keep p3 q0
  replace q1 := keep p3 q1
  replace q2 := keep p3 q2
  replace hb1 := Below.after hb1 p3
  have q4 := hp1_0 ((((w1.alloc (.cells #[.int .u8 97, .int .u8 98] 5 (2, 3))).alloc (.cells #[.int .u64 1, .slice none 0 0, .slice none 0 0] 27)).alloc (.cells #[.int .u64 0, .slice none 0 0, .slice (some ⟨w1.heap.size + 1, 0, none⟩) 1 1] 27)).alloc (.cells #[.int .u64 300, .slice none 0 0, .slice none 0 0, .int .u64 0, .slice (some ⟨w1.heap.size, 0, none⟩) 2 2, .slice none 0 0, .int .u64 0, .slice none 0 0, .slice (some ⟨w1.heap.size + 1 + 1, 0, none⟩) 1 1] 27)) (.cells #[.int .u64 0, .slice none 0 0, .slice (some ⟨w1.heap.size + 1 + 1 + 1, 0, none⟩) 3 3] 27)
  rw [show ((((w1.alloc (.cells #[.int .u8 97, .int .u8 98] 5 (2, 3))).alloc (.cells #[.int .u64 1, .slice none 0 0, .slice none 0 0] 27)).alloc (.cells #[.int .u64 0, .slice none 0 0, .slice (some ⟨w1.heap.size + 1, 0, none⟩) 1 1] 27)).alloc (.cells #[.int .u64 300, .slice none 0 0, .slice none 0 0, .int .u64 0, .slice (some ⟨w1.heap.size, 0, none⟩) 2 2, .slice none 0 0, .int .u64 0, .slice none 0 0, .slice (some ⟨w1.heap.size + 1 + 1, 0, none⟩) 1 1] 27)).heap.size = w1.heap.size + 1 + 1 + 1 + 1 by simp] at q4
  have p4 : Below ((((w1.alloc (.cells #[.int .u8 97, .int .u8 98] 5 (2, 3))).alloc (.cells #[.int .u64 1, .slice none 0 0, .slice none 0 0] 27)).alloc (.cells #[.int .u64 0, .slice none 0 0, .slice (some ⟨w1.heap.size + 1, 0, none⟩) 1 1] 27)).alloc (.cells #[.int .u64 300, .slice none 0 0, .slice none 0 0, .int .u64 0, .slice (some ⟨w1.heap.size, 0, none⟩) 2 2, .slice none 0 0, .int .u64 0, .slice none 0 0, .slice (some ⟨w1.heap.size + 1 + 1, 0, none⟩) 1 1] 27)).heap.size ((((w1.alloc (.cells #[.int .u8 97, .int .u8 98] 5 (2, 3))).alloc (.cells #[.int .u64 1, .slice none 0 0, .slice none 0 0] 27)).alloc (.cells #[.int .u64 0, .slice none 0 0, .slice (some ⟨w1.heap.size + 1, 0, none⟩) 1 1] 27)).alloc (.cells #[.int .u64 300, .slice none 0 0, .slice none 0 0, .int .u64 0, .slice (some ⟨w1.heap.size, 0, none⟩) 2 2, .slice none 0 0, .int .u64 0, .slice none 0 0, .slice (some ⟨w1.heap.size + 1 + 1, 0, none⟩) 1 1] 27)) (((((w1.alloc (.cells #[.int .u8 97, .int .u8 98] 5 (2, 3))).alloc (.cells #[.int .u64 1, .slice none 0 0, .slice none 0 0] 27)).alloc (.cells #[.int .u64 0, .slice none 0 0, .slice (some ⟨w1.heap.size + 1, 0, none⟩) 1 1] 27)).alloc (.cells #[.int .u64 300, .slice none 0 0, .slice none 0 0, .int .u64 0, .slice (some ⟨w1.heap.size, 0, none⟩) 2 2, .slice none 0 0, .int .u64 0, .slice none 0 0, .slice (some ⟨w1.heap.size + 1 + 1, 0, none⟩) 1 1] 27)).alloc (.cells #[.int .u64 0, .slice none 0 0, .slice (some ⟨w1.heap.size + 1 + 1 + 1, 0, none⟩) 3 3] 27)) := (Below.refl _ _).alloc (Nat.le_refl _) _
  replace q0 := keep p4 q0
  replace q1 := keep p4 q1
  replace q2 := keep p4 q2
  replace q3 := keep p4 q3
  replace hb1 := Below.after hb1 p4
  generalize (((((w1.alloc (.cells #[.int .u8 97, .int .u8 98] 5 (2, 3))).alloc (.cells #[.int .u64 1, .slice none 0 0, .slice none 0 0] 27)).alloc (.cells #[.int .u64 0, .slice none 0 0, .slice (some ⟨w1.heap.size + 1, 0, none⟩) 1 1] 27)).alloc (.cells #[.int .u64 300, .slice none 0 0, .slice none 0 0, .int .u64 0, .slice (some ⟨w1.heap.size, 0, none⟩) 2 2, .slice none 0 0, .int .u64 0, .slice none 0 0, .slice (some ⟨w1.heap.size + 1 + 1, 0, none⟩) 1 1] 27)).alloc (.cells #[.int .u64 0, .slice none 0 0, .slice (some ⟨w1.heap.size + 1 + 1 + 1, 0, none⟩) 3 3] 27)) = w5 at *
  clear p0 p1 p2 p3 p4
  generalize w1.heap.size + 1 + 1 + 1 + 1 = n4 at *
  generalize w1.heap.size + 1 + 1 + 1 = n3 at *
  generalize w1.heap.size + 1 + 1 = n2 at *
  generalize w1.heap.size + 1 = n1 at *
  have hV := vtm_L q0 q1 q2 q3
  clear q0 q1 q2 q3
  replace hC := hC.keep hb1
  replace hb := Below.after hb hb1
  have hT5 := Utf8Tabs_below hT hb
  have cE : Calls Tryd.prog 12 #[.pointer (some ⟨g, 0, none⟩), .agg #[.int .u64 0, .slice none 0 0, .slice (some ⟨n3, 0, none⟩) 3 3]] w5 _ := a_EncodeT plo8 okL.2.2.1 _ (xvL n3) vL w5 hT5 hC hV okL.2.2.2.2
  refine cE.mono ?_
  rintro e_ w6 ⟨hE, hb6⟩
  rw [ckL] at hE
  obtain ⟨u, rfl, hU⟩ := hE
  rw [enL] at hU
  obtain ⟨ua, uc, rfl⟩ := slen_own hU
  have hUB := hU.bysB (by decide)
  have hUc := own_capT hU
  have hU12 : bL.length = 12 := rfl
  rw [hU12] at hUB hUc ⊢
  clear hU12
  change BysB w6 (.slice ua 12 uc) bL at hUB
  clear cE
  replace hC := hC.keep hb6
  replace hV := hV.blw hb6
  replace q4 := keep hb6 q4
  replace hT5 := Utf8Tabs_below hT5 hb6
  replace hb := Below.after hb hb6
  clear hb1 hU
  go_wp2_with (fail)
  obtain ⟨_, _, eD, eM⟩ := enc_back utD flD (by have := okL.1; omega) okL.2.1 okL.2.2.2.1 hV.nm (fr := 0) ckL
  rw [enL] at eD eM
  refine (a_DecodeT plo8 bL (.slice ua 12 uc) w6 hT5 hC hUB (fun a l c e => by injection e with e1 e2 e3; omega)).mono ?_
  rintro e_ w7 ⟨hD, hb7⟩
  rw [eD, eM] at hD
  obtain ⟨⟨yn, yda, ydl, ydc, ypa, ypl, ypc⟩, rfl, hY⟩ := hD
  unfold vrv vrw
  clear eD eM
  replace hC := hC.keep hb7
  replace hV := hV.blw hb7
  replace q4 := keep hb7 q4
  replace hT5 := Utf8Tabs_below hT5 hb7
  replace hUB := hUB.keep hb7
  replace hb := Below.after hb hb7
  have hba := (Below.refl w7.heap.size w7).alloc (Nat.le_refl _) (.cells #[.int .u64 (yn : Int), .slice yda ydl ydc, .slice ypa ypl ypc] 27)
  have q6 := hp1_0 w7 (.cells #[.int .u64 (yn : Int), .slice yda ydl ydc, .slice ypa ypl ypc] 27)
  replace hC := hC.keep hba
  replace hV := hV.blw hba
  replace q4 := keep hba q4
  replace hT5 := Utf8Tabs_below hT5 hba
  replace hUB := hUB.keep hba
  replace hb := Below.after hb hba
  replace hY := hY.blw hba
  clear hb7 hba hb6
  have HC := hide hC
  have HV := hide hV
  have HY := hide hY
  have HU := hide hUB
  have HT := hide hT5
  have HB := hide hb
  clear hC hV hY hUB hT5 hb hT
  go_wp2_with (fail)
  generalize w7.alloc (.cells #[.int .u64 (yn : Int), .slice yda ydl ydc, .slice ypa ypl ypc] 27) = w8 at *
  generalize w7.heap.size = n6 at *
  refine (a_DecodeT plo8 (bL.take 6) (.slice ua 6 uc) w8 HT.out HC.out (bysB_take8 HU.out (by decide)) (fun a l c e => by injection e with e1 e2 e3; omega)).mono ?_
  rintro e_ w9 ⟨hD, hb9⟩
  obtain ⟨f6, hf6⟩ := deL6
  rw [hf6] at hD
  obtain ⟨q, rfl, _, _⟩ := hD
  have hC := HC.out.keep hb9
  have hV := HV.out.blw hb9
  have hY := HY.out.blw hb9
  replace q4 := keep hb9 q4
  replace q6 := keep hb9 q6
  have hT5 := Utf8Tabs_below HT.out hb9
  have hUB := HU.out.keep hb9
  have hb := Below.after HB.out hb9
  replace HC := hide hC
  replace HV := hide hV
  replace HY := hide hY
  replace HU := hide hUB
  replace HT := hide hT5
  replace HB := hide hb
  clear hC hV hY hUB hT5 hb
  have hba := (Below.refl w9.heap.size w9).alloc (Nat.le_refl _) (.cells #[.int .u64 0, .slice none 0 0, .slice none 0 0] 27)
  have hC := HC.out.keep hba
  have hV := HV.out.blw hba
  have hY := HY.out.blw hba
  replace q4 := keep hba q4
  replace q6 := keep hba q6
  have hT5 := Utf8Tabs_below HT.out hba
  have hUB := HU.out.keep hba
  have hb := Below.after HB.out hba
  replace HC := hide hC
  replace HV := hide hV
  replace HY := hide hY
  replace HU := hide hUB
  replace HT := hide hT5
  replace HB := hide hb
  clear hC hV hY hUB hT5 hb
  clear hba hb9
  go_wp2_with (fail)
  generalize w9.alloc (.cells #[.int .u64 0, .slice none 0 0, .slice none 0 0] 27) = w10 at *
  have cR := a_RangeT _ HC.out
  rw [prs_L] at cR
  refine cR.mono ?_
  rintro e_ w11 ⟨rfl, hb11⟩
  have hC := HC.out.keep hb11
  have hV := HV.out.blw hb11
  have hY := HY.out.blw hb11
  replace q4 := keep hb11 q4
  replace q6 := keep hb11 q6
  have hT5 := Utf8Tabs_below HT.out hb11
  have hUB := HU.out.keep hb11
  have hb := Below.after HB.out hb11
  replace HC := hide hC
  replace HV := hide hV
  replace HY := hide hY
  replace HU := hide hUB
  replace HT := hide hT5
  replace HB := hide hb
  clear hC hV hY hUB hT5 hb
  clear cR hb11
  have e1 := eqe_nils
  have e2 := neq_fault (.pointer (some ⟨q, 0, none⟩))
  have kX : (convert 24 9 (.slice ua 12 uc)).run Tryd.prog w11 = .ok (.string ⟨#[8, 172, 2, 18, 2, 97, 98, 42, 3, 2, 8, 1]⟩) w11 := conv_byT HU.out.1
  have cS : Calls Tryd.prog 16 #[.agg #[.int .u64 0, .slice none 0 0, .slice (some ⟨n3, 0, none⟩) 3 3], .agg #[.int .u64 (yn : Int), .slice yda ydl ydc, .slice ypa ypl ypc]] w11 _ := a_same HV.out _ ⟨yn, yda, ydl, ydc, ypa, ypl, ypc⟩ vL w11 (Below.refl _ _) HY.out
  rw [show (@decide (vL = vL) (Classical.propDecidable _)) = true by simp] at cS
  go_wp2_with (first | (refine wpList_load_want rfl 27 _ rfl n4 rfl 27 #[.int .u64 0, .slice none 0 0, .slice (some ⟨n3, 0, none⟩) 3 3] (0, 0) _ q4 Tryd.underlying27 rfl infoV ?_) | (refine wpList_load_want rfl 27 _ rfl n6 rfl 27 #[.int .u64 (yn : Int), .slice yda ydl ydc, .slice ypa ypl ypc] (0, 0) _ q6 Tryd.underlying27 rfl infoV ?_) | fail)
  refine cS.mono ?_
  rintro e_ w12 ⟨rfl, hb12⟩
  have hb := Below.after HB.out hb12
  go_wp2_with (fail)
  go_ret
  exact ⟨rfl, hb⟩
 ·exact absurd vld_L hz
end Go.Proofs.YtgcpebhjehlacaaDoor
namespace Go.Proofs.YtgcpebhjehlacaaDoor
set_option maxRecDepth 100000
open Go Go.RowKit Go.Sort
theorem cut_at8 (fs : List Fd) (n : Nat) : ∀ k, k ≤ fs.length → n < (ebs (fs.take k)).length → ∃ c, c < k ∧ (ebs (fs.take c)).length ≤ n ∧ n < (ebs (fs.take (c + 1))).length
 | 0, _, h => by simp [ebs] at h
 | k + 1, hk, h => by
  rcases Nat.lt_or_ge n (ebs (fs.take k)).length with q | q
  ·obtain ⟨c, h1, h2, h3⟩ := cut_at8 fs n k (by omega) q
   exact ⟨c, by omega, h2, h3⟩
  ·exact ⟨k, by omega, q, h⟩
theorem cut_bad {ts : List Slt} (h : vok ts 0 1) (hl : ts.length ≤ 16) (hg : gd ts) (hs : (spL ts 0 0).2 ≤ 4194304) {X : VT} (hX : NmT X) {deep fr : Int} (hc : ckT utD flD ts X deep = none) {n : Nat} (hn : n < (enT ts X).length) : ∃ f, deT utD flD ts ((enT ts X).take n) fr = some f := by
 cases hD : deT utD flD ts ((enT ts X).take n) fr with
 | some f => exact ⟨f, rfl⟩
 | none =>
  exfalso
  obtain ⟨_, _, d3, d4⟩ := dec_back utD flD hg 1 hD
  obtain ⟨c1, c2, c3, c4⟩ := ck_none utD flD hc
  obtain ⟨N, d, ps⟩ := X
  obtain rfl : N = 0 := c1
  obtain rfl : d = [] := c2
  replace c3 : ps.length = ts.length := c3
  replace c4 : chT utD flD ts ps deep = none := c4
  cases hX with
  | mk _ _ _ _ _ hnp =>
  obtain ⟨r1, r2, r3, r4, r5, r6⟩ := rt2 utD flD ts ps 0 1 0 0 deep fr h (by decide) c4 c3 hnp hs
  have hlen := fdT_len ts ps c3.symm
  have hee : eer (fdT ts ps) = 0 := eer_ok.2 ⟨by omega, r1, by omega⟩
  have hen : enT ts (.mk 0 [] ps) = ebs (fdT ts ps) := if_pos hee
  rw [hen] at hn d3 d4
  obtain ⟨c, h1, h2, h3⟩ := cut_at8 (fdT ts ps) n (fdT ts ps).length (Nat.le_refl _) (by rw [List.take_length]; exact hn)
  rcases Nat.eq_or_lt_of_le h2 with e | e
  ·rw [← e] at d4
   rw [(dec_end hee r2).2.2, List.length_take] at d4
   omega
  ·rw [(dec_cut hee r2 h1 e h3).1] at d3
   cases d3
end Go.Proofs.YtgcpebhjehlacaaDoor
namespace Go.Proofs.YtgcpebhjehlacaaDoor
set_option maxRecDepth 100000
open Go Go.RowKit Go.Sort
attribute [local go_sem] setCell_drewN alloc_drewN
theorem own_ge {W : World} {b : Nat} {v : Value} {d : List B} (h : Own W b v d) : ∀ k, v.ownBlock = some k → b ≤ k := by
 intro k e
 obtain ⟨_, ⟨rfl, _⟩ | ⟨g, cap, cur, rfl, hb, _⟩⟩ := h
 ·cases e
 ·cases e
  exact hb
theorem own_mt (W : World) : Own (W.alloc (.cells #[] 5)) W.heap.size (.slice (some ⟨W.heap.size, 0, none⟩) 0 0) [] :=
 ⟨rfl, .inr ⟨W.heap.size, 0, #[], rfl, Nat.le_refl _, hp1_0 W _, Nat.le_refl _, by decide, rfl, rfl⟩⟩
set_option maxRecDepth 100000 in
set_option maxHeartbeats 16000000 in
theorem whole_any {v b : Value} {ts : List Slt} {x : VR} {X : VT} {d : List B} {ct : Int} (W : World) (hT : Lib.Utf8Tabs 1 2 W) (hS : Slo W v ts) (hX : VtM W (fun _ => True) x X) (hct : -9223372036854775808 ≤ ct ∧ ct ≤ 9223372036854775807) (hB0 : BysC W b d) (hdm : d.length ≤ 1048576) : Calls Tryd.prog 5 #[v, .agg (vrv x), .int .i64 ct, b] W fun e W' => e = .returned (.bool true) ∧ Below W.heap.size W W' := by
 obtain ⟨ao, cap, rfl⟩ := hS.form
 obtain ⟨bo, bc, rfl⟩ := hB0.1.form
 have hdl := hB0.2.1
 have hBb := hB0.1
 clear hB0
 have hNm := hX.nm
 obtain ⟨xn, xda, xdl, xdc, xpa, xpl, xpc⟩ := x
 unfold vrv vrw
 have hb := (Below.refl W.heap.size W).alloc (Nat.le_refl _) (.cells #[.int .u64 (xn : Int), .slice xda xdl xdc, .slice xpa xpl xpc] 27)
 have rV := hp1_0 W (.cells #[.int .u64 (xn : Int), .slice xda xdl xdc, .slice xpa xpl xpc] 27)
 replace hT := Utf8Tabs_below hT hb
 replace hS := hS.keep hb
 replace hX := hX.blw hb
 replace hBb := hBb.keep hb
 go_enter Tryd.func5, Tryd.ntmps5
 go_wp2_with (fail)
 generalize W.alloc (.cells #[.int .u64 (xn : Int), .slice xda xdl xdc, .slice xpa xpl xpc] 27) = w0 at *
 refine (l_lives8 _ hT).mono ?_
 rintro e_ w1 ⟨rfl, hb1⟩
 replace hT := Utf8Tabs_below hT hb1
 replace hS := hS.keep hb1
 replace hX := hX.blw hb1
 replace hBb := hBb.keep hb1
 replace rV := keep hb1 rV
 replace hb := Below.after hb hb1
 clear hb1
 go_wp2_with (first | (refine wpList_load_want rfl 27 _ rfl W.heap.size rfl 27 #[.int .u64 (xn : Int), .slice xda xdl xdc, .slice xpa xpl xpc] (0, 0) _ rV Tryd.underlying27 rfl infoV ?_) | fail)
 have cBs := l_bigSlots hS
 generalize decide (slL ts 10000 < 0) = bs at *
 refine (cBs).mono ?_
 rintro e_ w2 ⟨rfl, hb2⟩
 replace hT := Utf8Tabs_below hT hb2
 replace hS := hS.keep hb2
 replace hX := hX.blw hb2
 replace hBb := hBb.keep hb2
 replace rV := keep hb2 rV
 replace hb := Below.after hb hb2
 clear hb2
 clear cBs
 cases bs
 rotate_left
 ·go_wp2_with (first | (refine wpList_load_want rfl 27 _ rfl W.heap.size rfl 27 #[.int .u64 (xn : Int), .slice xda xdl xdc, .slice xpa xpl xpc] (0, 0) _ rV Tryd.underlying27 rfl infoV ?_) | fail)
  refine (l_lives8 _ hT).mono ?_
  rintro e_ w3 ⟨rfl, hb3⟩
  replace hT := Utf8Tabs_below hT hb3
  replace hS := hS.keep hb3
  replace hX := hX.blw hb3
  replace hBb := hBb.keep hb3
  replace rV := keep hb3 rV
  replace hb := Below.after hb hb3
  clear hb3
  go_wp2_with (first | (refine wpList_load_want rfl 27 _ rfl W.heap.size rfl 27 #[.int .u64 (xn : Int), .slice xda xdl xdc, .slice xpa xpl xpc] (0, 0) _ rV Tryd.underlying27 rfl infoV ?_) | fail)
  go_ret
  exact ⟨rfl, hb⟩
 go_wp2_with (first | (refine wpList_load_want rfl 27 _ rfl W.heap.size rfl 27 #[.int .u64 (xn : Int), .slice xda xdl xdc, .slice xpa xpl xpc] (0, 0) _ rV Tryd.underlying27 rfl infoV ?_) | fail)
 have cBv := a_bigValue _ hX
 generalize bgV X = bv at *
 unfold vrv vrw at cBv
 refine (cBv).mono ?_
 rintro e_ w3 ⟨rfl, hb3⟩
 replace hT := Utf8Tabs_below hT hb3
 replace hS := hS.keep hb3
 replace hX := hX.blw hb3
 replace hBb := hBb.keep hb3
 replace rV := keep hb3 rV
 replace hb := Below.after hb hb3
 clear hb3
 clear cBv
 cases bv
 rotate_left
 ·go_wp2_with (first | (refine wpList_load_want rfl 27 _ rfl W.heap.size rfl 27 #[.int .u64 (xn : Int), .slice xda xdl xdc, .slice xpa xpl xpc] (0, 0) _ rV Tryd.underlying27 rfl infoV ?_) | fail)
  refine (l_lives8 _ hT).mono ?_
  rintro e_ w4 ⟨rfl, hb4⟩
  replace hT := Utf8Tabs_below hT hb4
  replace hS := hS.keep hb4
  replace hX := hX.blw hb4
  replace hBb := hBb.keep hb4
  replace rV := keep hb4 rV
  replace hb := Below.after hb hb4
  clear hb4
  go_wp2_with (first | (refine wpList_load_want rfl 27 _ rfl W.heap.size rfl 27 #[.int .u64 (xn : Int), .slice xda xdl xdc, .slice xpa xpl xpc] (0, 0) _ rV Tryd.underlying27 rfl infoV ?_) | fail)
  go_ret
  exact ⟨rfl, hb⟩
 go_wp2_with (first | (refine wpList_load_want rfl 27 _ rfl W.heap.size rfl 27 #[.int .u64 (xn : Int), .slice xda xdl xdc, .slice xpa xpl xpc] (0, 0) _ rV Tryd.underlying27 rfl infoV ?_) | fail)
 refine (a_Compile hS _ (Below.refl _ _)).mono ?_
 rintro e_ w4 ⟨hb4, hor⟩
 replace hT := Utf8Tabs_below hT hb4
 replace hS := hS.keep hb4
 replace hX := hX.blw hb4
 replace hBb := hBb.keep hb4
 replace rV := keep hb4 rV
 replace hb := Below.after hb hb4
 clear hb4
 rcases hor with ⟨hz, g, rfl, _, hC⟩ | ⟨hz, rfl⟩
 rotate_left
 ·have hz2 : (vld ts == 0) = false := by simpa using hz
  generalize vld ts = zz at *
  clear hz
  go_wp2_with (first | (refine wpList_load_want rfl 27 _ rfl W.heap.size rfl 27 #[.int .u64 (xn : Int), .slice xda xdl xdc, .slice xpa xpl xpc] (0, 0) _ rV Tryd.underlying27 rfl infoV ?_) | fail)
  go_ret
  exact ⟨rfl, hb⟩
 have ok := vld_ok hz
 clear hz
 go_wp2_with (first | (refine wpList_load_want rfl 27 _ rfl W.heap.size rfl 27 #[.int .u64 (xn : Int), .slice xda xdl xdc, .slice xpa xpl xpc] (0, 0) _ rV Tryd.underlying27 rfl infoV ?_) | fail)
 have cE := a_EncodeT plo8 ok.2.2.1 _ _ X _ hT hC hX ok.2.2.2.2
 obtain ⟨F, hF⟩ : ∃ F, ckT utD flD ts X 1 = F := ⟨_, rfl⟩
 unfold vrv vrw at cE
 rw [hF] at cE
 refine (cE).mono ?_
 rintro e_ w5 ⟨hE, hb5⟩
 replace hT := Utf8Tabs_below hT hb5
 replace hS := hS.keep hb5
 replace hX := hX.blw hb5
 replace hBb := hBb.keep hb5
 replace rV := keep hb5 rV
 replace hb := Below.after hb hb5
 replace hC := hC.keep hb5
 clear hb5
 clear cE
 cases F with
 | some f =>
  obtain ⟨q, rfl, _, _⟩ := hE
  have e1 := neq_fault (.pointer (some ⟨q, 0, none⟩))
  go_wp2_with (first | (refine wpList_load_want rfl 27 _ rfl W.heap.size rfl 27 #[.int .u64 (xn : Int), .slice xda xdl xdc, .slice xpa xpl xpc] (0, 0) _ rV Tryd.underlying27 rfl infoV ?_) | fail)
  go_ret
  exact ⟨rfl, hb⟩
 | none =>
  obtain ⟨u, rfl, hU⟩ := hE
  obtain ⟨h1, h2, eD, _⟩ := enc_back utD flD (by have := ok.1; omega) ok.2.1 ok.2.2.2.1 hNm (fr := 0) hF
  have hcut := fun n hn => cut_bad (fr := 0) (n := n) ok.2.1 ok.1 ok.2.2.1 ok.2.2.2.1 hNm hF hn
  obtain ⟨L, hL⟩ : ∃ L, enT ts X = L := ⟨_, rfl⟩
  rw [hL] at h1 h2 eD hcut hU
  have hl4 : L.length ≤ 4194304 := by have := ok.2.2.2.1; omega
  obtain ⟨ua, uc, rfl⟩ := slen_own hU
  have hUB := hU.bysB (by omega)
  have hUc := own_capT hU
  clear hU hL
  have e1 := neq_nils
  have e2 := eqe_nils
  by_cases hcc : 0 ≤ ct ∧ ct < (L.length : Int)
  ·obtain ⟨m, rfl⟩ := Int.eq_ofNat_of_zero_le hcc.1
   have hm : m < L.length := by omega
   obtain ⟨f, hf⟩ := hcut m hm
   have z1 : (0 : Int) ≤ (m : Int) := by omega
   have z2 : (m : Int) < (L.length : Int) := by omega
   have z3 : m ≤ uc := by omega
   clear hcc hct
   go_wp2_with (first | (refine wpList_load_want rfl 27 _ rfl W.heap.size rfl 27 #[.int .u64 (xn : Int), .slice xda xdl xdc, .slice xpa xpl xpc] (0, 0) _ rV Tryd.underlying27 rfl infoV ?_) | fail)
   have cD := a_DecodeT plo8 (L.take m) _ _ hT hC (bysB_take8 hUB (by omega)) (fun a l c e => by injection e with e1 e2 e3; omega)
   rw [hf] at cD
   refine (cD).mono ?_
   rintro e_ w6 ⟨hD, hb6⟩
   replace hT := Utf8Tabs_below hT hb6
   replace hS := hS.keep hb6
   replace hX := hX.blw hb6
   replace hBb := hBb.keep hb6
   replace rV := keep hb6 rV
   replace hb := Below.after hb hb6
   replace hC := hC.keep hb6
   replace hUB := hUB.keep hb6
   clear hb6
   obtain ⟨q2, rfl, _, _⟩ := hD
   clear cD
   have e3 := eqe_fault (.pointer (some ⟨q2, 0, none⟩))
   have hba := (Below.refl w6.heap.size w6).alloc (Nat.le_refl _) (.cells #[.int .u64 0, .slice none 0 0, .slice none 0 0] 27)
   replace hT := Utf8Tabs_below hT hba
   replace hS := hS.keep hba
   replace hX := hX.blw hba
   replace hBb := hBb.keep hba
   replace rV := keep hba rV
   replace hb := Below.after hb hba
   replace hC := hC.keep hba
   replace hUB := hUB.keep hba
   clear hba
   rcases Nat.eq_zero_or_pos d.length with hd0 | hd0
   ·obtain rfl := List.eq_nil_of_length_eq_zero hd0
    clear hT hS hX hBb rV hC hUB hcut eD
    go_wp2_with (fail)
    go_ret
    exact ⟨rfl, hb⟩
   ·have z0 : decide ((d.length : Int) > 0) = true := decide_eq_true (by omega)
    have hba := (Below.refl (w6.alloc (.cells #[.int .u64 0, .slice none 0 0, .slice none 0 0] 27)).heap.size (w6.alloc (.cells #[.int .u64 0, .slice none 0 0, .slice none 0 0] 27))).alloc (Nat.le_refl _) (.cells #[] 5)
    have hO0 := own_mt (w6.alloc (.cells #[.int .u64 0, .slice none 0 0, .slice none 0 0] 27))
    have hbase : (w6.alloc (.cells #[.int .u64 0, .slice none 0 0, .slice none 0 0] 27)).heap.size ≤ ((w6.alloc (.cells #[.int .u64 0, .slice none 0 0, .slice none 0 0] 27)).alloc (.cells #[] 5)).heap.size := by simp
    have hU8 := hUB.keep hba
    have hsz : (w6.alloc (.cells #[.int .u64 0, .slice none 0 0, .slice none 0 0] 27)).heap.size = w6.heap.size + 1 := by simp
    rw [hsz] at hO0 hbase hba
    replace hsz := hide hsz
    have hlen1 : ([] : List B).length + L.length ≤ 140737488355328 := by simp; omega
    have hlen2 : ([] ++ L : List B).length + d.length ≤ 140737488355328 := by simp; omega
    have hlen3 : (([] ++ L) ++ d : List B).length ≤ 140737488355000 := by simp; omega
    have hlen4 : L.length < ([] ++ L ++ d).length := by simp; omega
    have hl4' := hl4
    replace hlen1 := hide hlen1
    replace hlen2 := hide hlen2
    replace hlen3 := hide hlen3
    replace hlen4 := hide hlen4
    replace hb := hide hb
    replace hC := hide hC
    replace hT := hide hT
    replace hX := hide hX
    replace hBb := hide hBb
    replace eD := hide eD
    clear hcut hl4 hl4' hUc hS rV h1 h2 hUB
    go_wp2_with (first | (refine wpList_append_B rfl _ _ rfl (w6.heap.size + 1) (.slice (some ⟨w6.heap.size + 1, 0, none⟩) 0 0) [] rfl hO0 (.slice ua L.length uc) L rfl hU8 hlen1.out hbase ?_; intro v1 x1 hO1 hg1; have hbx1 := Below.grown hba hg1 hbase (fun k e => by cases e; exact Nat.le_refl _); have hBb1 := hBb.out.keep (by rw [hsz.out]; exact hbx1); have hbase1 := Nat.le_trans hbase hg1.size) | (refine wpList_append_B rfl _ _ rfl (w6.heap.size + 1) v1 ([] ++ L) rfl hO1 (.slice bo d.length bc) d rfl hBb1 hlen2.out hbase1 ?_; intro v2 x2 hO2 hg2; have hbx2 := Below.grown hbx1 hg2 hbase1 (own_ge hO1)) | fail)
    obtain ⟨ob, oc, rfl⟩ := slen_own hO2
    rw [← hsz.out] at hbx2
    have hcp := own_capT hO2
    have hOB := hO2.bysB hlen3.out
    obtain ⟨G, hG⟩ : ∃ G, deT utD flD ts ([] ++ L ++ d) 0 = G := ⟨_, rfl⟩
    have cD := a_DecodeT plo8 ([] ++ L ++ d) _ x2 (Utf8Tabs_below hT.out hbx2) (hC.out.keep hbx2) hOB (fun a l c e => by injection e with e1 e2 e3; omega)
    rw [hG] at cD
    clear hOB hO1 hO2 hg1 hg2 hBb1 hbx1 hcp
    refine cD.mono ?_
    rintro e_ x3 ⟨hD, hb3⟩
    have hb4 := Below.after (Below.after hb.out hbx2) hb3
    clear cD
    cases G with
    | none =>
     exfalso
     obtain ⟨r, _, hY⟩ := hD
     obtain ⟨m1, m2, _, _⟩ := dec_back utD flD ok.2.2.1 1 hG
     obtain ⟨f, hf⟩ := cut_bad (fr := 0) (n := L.length) ok.2.1 ok.1 ok.2.2.1 ok.2.2.2.1 hY.nm m2 (by rw [m1]; exact hlen4.out)
     rw [m1, List.nil_append, List.take_left, eD.out] at hf
     cases hf
    | some f =>
     obtain ⟨q9, rfl, _, _⟩ := hD
     have e9 := neq_fault (.pointer (some ⟨q9, 0, none⟩))
     have hb := Below.after hb4 ((Below.refl x3.heap.size x3).alloc (Nat.le_refl _) (.cells #[.int .u64 0, .slice none 0 0, .slice none 0 0] 27))
     clear hG hb3 hbx2
     go_wp2_with (fail)
     go_ret
     exact ⟨rfl, hb⟩
  ·have zc : decide (ct ≥ 0) = true → decide (ct < (L.length : Int)) = false := fun h => by simp at h ⊢; omega
   rcases Int.lt_or_le ct 0 with q | q
   ·have z1 : decide (ct ≥ 0) = false := by simp; omega
    clear zc hcc
    rcases Nat.eq_zero_or_pos d.length with hd0 | hd0
    ·obtain rfl := List.eq_nil_of_length_eq_zero hd0
     clear hT hS hX hBb rV hC hUB hcut eD
     go_wp2_with (fail)
     go_ret
     exact ⟨rfl, hb⟩
    ·have z0 : decide ((d.length : Int) > 0) = true := decide_eq_true (by omega)
     have hba := (Below.refl w5.heap.size w5).alloc (Nat.le_refl _) (.cells #[] 5)
     have hO0 := own_mt w5
     have hbase : w5.heap.size ≤ (w5.alloc (.cells #[] 5)).heap.size := by simp
     have hU8 := hUB.keep hba
     have hsz : w5.heap.size = w5.heap.size := rfl
     skip
     replace hsz := hide hsz
     have hlen1 : ([] : List B).length + L.length ≤ 140737488355328 := by simp; omega
     have hlen2 : ([] ++ L : List B).length + d.length ≤ 140737488355328 := by simp; omega
     have hlen3 : (([] ++ L) ++ d : List B).length ≤ 140737488355000 := by simp; omega
     have hlen4 : L.length < ([] ++ L ++ d).length := by simp; omega
     have hl4' := hl4
     replace hlen1 := hide hlen1
     replace hlen2 := hide hlen2
     replace hlen3 := hide hlen3
     replace hlen4 := hide hlen4
     replace hb := hide hb
     replace hC := hide hC
     replace hT := hide hT
     replace hX := hide hX
     replace hBb := hide hBb
     replace eD := hide eD
     clear hcut hl4 hl4' hUc hS rV h1 h2 hUB
     go_wp2_with (first | (refine wpList_append_B rfl _ _ rfl (w5.heap.size) (.slice (some ⟨w5.heap.size, 0, none⟩) 0 0) [] rfl hO0 (.slice ua L.length uc) L rfl hU8 hlen1.out hbase ?_; intro v1 x1 hO1 hg1; have hbx1 := Below.grown hba hg1 hbase (fun k e => by cases e; exact Nat.le_refl _); have hBb1 := hBb.out.keep hbx1; have hbase1 := Nat.le_trans hbase hg1.size) | (refine wpList_append_B rfl _ _ rfl (w5.heap.size) v1 ([] ++ L) rfl hO1 (.slice bo d.length bc) d rfl hBb1 hlen2.out hbase1 ?_; intro v2 x2 hO2 hg2; have hbx2 := Below.grown hbx1 hg2 hbase1 (own_ge hO1)) | fail)
     obtain ⟨ob, oc, rfl⟩ := slen_own hO2
     skip
     have hcp := own_capT hO2
     have hOB := hO2.bysB hlen3.out
     obtain ⟨G, hG⟩ : ∃ G, deT utD flD ts ([] ++ L ++ d) 0 = G := ⟨_, rfl⟩
     have cD := a_DecodeT plo8 ([] ++ L ++ d) _ x2 (Utf8Tabs_below hT.out hbx2) (hC.out.keep hbx2) hOB (fun a l c e => by injection e with e1 e2 e3; omega)
     rw [hG] at cD
     clear hOB hO1 hO2 hg1 hg2 hBb1 hbx1 hcp
     refine cD.mono ?_
     rintro e_ x3 ⟨hD, hb3⟩
     have hb4 := Below.after (Below.after hb.out hbx2) hb3
     clear cD
     cases G with
     | none =>
      exfalso
      obtain ⟨r, _, hY⟩ := hD
      obtain ⟨m1, m2, _, _⟩ := dec_back utD flD ok.2.2.1 1 hG
      obtain ⟨f, hf⟩ := cut_bad (fr := 0) (n := L.length) ok.2.1 ok.1 ok.2.2.1 ok.2.2.2.1 hY.nm m2 (by rw [m1]; exact hlen4.out)
      rw [m1, List.nil_append, List.take_left, eD.out] at hf
      cases hf
     | some f =>
      obtain ⟨q9, rfl, _, _⟩ := hD
      have e9 := neq_fault (.pointer (some ⟨q9, 0, none⟩))
      have hb := Below.after hb4 ((Below.refl x3.heap.size x3).alloc (Nat.le_refl _) (.cells #[.int .u64 0, .slice none 0 0, .slice none 0 0] 27))
      clear hG hb3 hbx2
      go_wp2_with (fail)
      go_ret
      exact ⟨rfl, hb⟩
   ·have z1 : decide (ct ≥ 0) = true := by simp; omega
    have z2 := zc z1
    clear zc hcc
    rcases Nat.eq_zero_or_pos d.length with hd0 | hd0
    ·obtain rfl := List.eq_nil_of_length_eq_zero hd0
     clear hT hS hX hBb rV hC hUB hcut eD
     go_wp2_with (fail)
     go_ret
     exact ⟨rfl, hb⟩
    ·have z0 : decide ((d.length : Int) > 0) = true := decide_eq_true (by omega)
     have hba := (Below.refl w5.heap.size w5).alloc (Nat.le_refl _) (.cells #[] 5)
     have hO0 := own_mt w5
     have hbase : w5.heap.size ≤ (w5.alloc (.cells #[] 5)).heap.size := by simp
     have hU8 := hUB.keep hba
     have hsz : w5.heap.size = w5.heap.size := rfl
     skip
     replace hsz := hide hsz
     have hlen1 : ([] : List B).length + L.length ≤ 140737488355328 := by simp; omega
     have hlen2 : ([] ++ L : List B).length + d.length ≤ 140737488355328 := by simp; omega
     have hlen3 : (([] ++ L) ++ d : List B).length ≤ 140737488355000 := by simp; omega
     have hlen4 : L.length < ([] ++ L ++ d).length := by simp; omega
     have hl4' := hl4
     replace hlen1 := hide hlen1
     replace hlen2 := hide hlen2
     replace hlen3 := hide hlen3
     replace hlen4 := hide hlen4
     replace hb := hide hb
     replace hC := hide hC
     replace hT := hide hT
     replace hX := hide hX
     replace hBb := hide hBb
     replace eD := hide eD
     clear hcut hl4 hl4' hUc hS rV h1 h2 hUB
     go_wp2_with (first | (refine wpList_append_B rfl _ _ rfl (w5.heap.size) (.slice (some ⟨w5.heap.size, 0, none⟩) 0 0) [] rfl hO0 (.slice ua L.length uc) L rfl hU8 hlen1.out hbase ?_; intro v1 x1 hO1 hg1; have hbx1 := Below.grown hba hg1 hbase (fun k e => by cases e; exact Nat.le_refl _); have hBb1 := hBb.out.keep hbx1; have hbase1 := Nat.le_trans hbase hg1.size) | (refine wpList_append_B rfl _ _ rfl (w5.heap.size) v1 ([] ++ L) rfl hO1 (.slice bo d.length bc) d rfl hBb1 hlen2.out hbase1 ?_; intro v2 x2 hO2 hg2; have hbx2 := Below.grown hbx1 hg2 hbase1 (own_ge hO1)) | fail)
     obtain ⟨ob, oc, rfl⟩ := slen_own hO2
     skip
     have hcp := own_capT hO2
     have hOB := hO2.bysB hlen3.out
     obtain ⟨G, hG⟩ : ∃ G, deT utD flD ts ([] ++ L ++ d) 0 = G := ⟨_, rfl⟩
     have cD := a_DecodeT plo8 ([] ++ L ++ d) _ x2 (Utf8Tabs_below hT.out hbx2) (hC.out.keep hbx2) hOB (fun a l c e => by injection e with e1 e2 e3; omega)
     rw [hG] at cD
     clear hOB hO1 hO2 hg1 hg2 hBb1 hbx1 hcp
     refine cD.mono ?_
     rintro e_ x3 ⟨hD, hb3⟩
     have hb4 := Below.after (Below.after hb.out hbx2) hb3
     clear cD
     cases G with
     | none =>
      exfalso
      obtain ⟨r, _, hY⟩ := hD
      obtain ⟨m1, m2, _, _⟩ := dec_back utD flD ok.2.2.1 1 hG
      obtain ⟨f, hf⟩ := cut_bad (fr := 0) (n := L.length) ok.2.1 ok.1 ok.2.2.1 ok.2.2.2.1 hY.nm m2 (by rw [m1]; exact hlen4.out)
      rw [m1, List.nil_append, List.take_left, eD.out] at hf
      cases hf
     | some f =>
      obtain ⟨q9, rfl, _, _⟩ := hD
      have e9 := neq_fault (.pointer (some ⟨q9, 0, none⟩))
      have hb := Below.after hb4 ((Below.refl x3.heap.size x3).alloc (Nat.le_refl _) (.cells #[.int .u64 0, .slice none 0 0, .slice none 0 0] 27))
      clear hG hb3 hbx2
      go_wp2_with (fail)
      go_ret
      exact ⟨rfl, hb⟩
end Go.Proofs.YtgcpebhjehlacaaDoor
namespace Go.Proofs.YtgcpebhjehlacaaDoor
set_option maxRecDepth 100000
open Go Go.RowKit Go.Sort
attribute [local go_sem] setCell_drewN alloc_drewN
def hzr : List Value := [.int .i64 0, .int .i64 0, .int .u64 0, .int .u64 0, .slice none 0 0]
def hmk : List Value := [.int .i64 (-77), .int .i64 0, .int .u64 0, .int .u64 0, .slice none 0 0]
inductive HSl (W : World) (S : Nat → Prop) : Value → List Slt → Prop
 | mk (G : Nat) (ts : List Slt) (us : List Value) (hl : ts.length ≤ 10000) (hG : G < W.heap.size) (hS : S G)
  (h : ∀ i, i < ts.length → W.rangeAt G (i * 5) (srow (gs ts i) (gvs us i)) ∧ Sok (gs ts i))
  (hm : ∀ i, ts.length ≤ i → i < ts.length + 3 → W.rangeAt G (i * 5) hmk)
  (hs : ∀ i, i < ts.length → HSl W S (gvs us i) (gs ts i).sub) : HSl W S (.slice (some ⟨G, 0, none⟩) ts.length (ts.length + 3)) ts
theorem HSl.keep {W V : World} {S T : Nat → Prop} {v : Value} {ts : List Slt} (h : HSl W S v ts) (hs : W.heap.size ≤ V.heap.size) (hb : ∀ b, b < W.heap.size → S b → V.heap[b]? = W.heap[b]? ∧ T b) : HSl V T v ts := by
 induction h with
 | mk G ts us hl hG hS h hm _ ih =>
  exact .mk G ts us hl (by omega) (hb G hG hS).2 (fun i hi => ⟨range_same (h i hi).1 (hb G hG hS).1, (h i hi).2⟩) (fun i h1 h2 => range_same (hm i h1 h2) (hb G hG hS).1) ih
theorem HSl.form {W : World} {S : Nat → Prop} {v : Value} {ts : List Slt} (h : HSl W S v ts) : ∃ G, v = .slice (some ⟨G, 0, none⟩) ts.length (ts.length + 3) ∧ S G := by
 cases h with
 | mk G _ us hl hG hS h hm hs => exact ⟨G, rfl, hS⟩
def hrow (ts : List Slt) (us : List Value) (k i : Nat) : List Value := if i < k then (if i < ts.length then srow (gs ts i) (gvs us i) else hmk) else hzr
def Hrw (W : World) (G : Nat) (ts : List Slt) (us : List Value) (k : Nat) : Prop := ∃ cs, W.heap[G]? = some (.cells cs 53 (0, 0)) ∧ cs.size = (ts.length + 3) * 5 ∧ ∀ i c, i < ts.length + 3 → c < 5 → cs[i * 5 + c]? = (hrow ts us k i)[c]?
theorem Hrw.keep {W V : World} {G : Nat} {ts : List Slt} {us : List Value} {k : Nat} (h : Hrw W G ts us k) (hb : V.heap[G]? = W.heap[G]?) : Hrw V G ts us k := by
 obtain ⟨cs, h1, h2⟩ := h
 exact ⟨cs, hb.trans h1, h2⟩
theorem Hrw.range {W : World} {G : Nat} {ts : List Slt} {us : List Value} {k i : Nat} (h : Hrw W G ts us k) (hi : i < ts.length + 3) (hl : (hrow ts us k i).length = 5) : W.rangeAt G (i * 5) (hrow ts us k i) := by
 obtain ⟨cs, h1, h2, h3⟩ := h
 intro j v hv
 have hj := (List.getElem?_eq_some_iff.1 hv).1
 rw [cell_of_row _ _ _ _ _ _ h1, h3 i j hi (by omega)]
 exact hv
theorem Hrw.mark {W : World} {G : Nat} {ts : List Slt} {us : List Value} {k : Nat} (h : Hrw W G ts us k) (hk : ts.length ≤ k) (hk3 : k < ts.length + 3) : Hrw (W.setCell ⟨G, k * 5, none⟩ (.int .i64 (-77))) G ts us (k + 1) := by
 obtain ⟨cs, h1, h2, h3⟩ := h
 refine ⟨_, heap_setCell_same W G (k * 5) cs _ _ h1, by simp [h2], fun i c hi hc => ?_⟩
 rw [Array.getElem?_setIfInBounds]
 by_cases e : k * 5 = i * 5 + c
 ·have e1 : i = k := by omega
  have e2 : c = 0 := by omega
  subst e1 e2
  rw [if_pos e, if_pos (by omega)]
  unfold hrow
  rw [if_pos (by omega), if_neg (by omega)]; rfl
 ·rw [if_neg e, h3 i c hi hc]
  by_cases e1 : i = k
  ·subst e1
   have c0 : c ≠ 0 := by omega
   unfold hrow
   rw [if_neg (by omega), if_pos (by omega), if_neg (by omega)]
   rcases (by omega : c = 1 ∨ c = 2 ∨ c = 3 ∨ c = 4) with rfl | rfl | rfl | rfl <;> rfl
  ·unfold hrow
   by_cases e2 : i < k
   ·rw [if_pos e2, if_pos (show i < k + 1 by omega)]
   ·rw [if_neg e2, if_neg (show ¬ i < k + 1 by omega)]
theorem Hrw.slot {W V : World} {G : Nat} {ts : List Slt} {us : List Value} {k : Nat} {u v : Value} (h : Hrw W G ts us k) (hk : k < ts.length) (hu : us.length = k) (hV : V.heap[G]? = ((W.setCell ⟨G, k * 5, none⟩ (.int .i64 (-77))).setCells G (k * 5) (srow (gs ts k) u)).heap[G]?) : Hrw (V.setCell ⟨G, k * 5 + 4, none⟩ v) G ts (us ++ [v]) (k + 1) := by
 obtain ⟨cs, h1, h2, h3⟩ := h
 have s1 := heap_setCell_same W G (k * 5) cs _ (.int .i64 (-77)) h1
 have s2 : ((W.setCell ⟨G, k * 5, none⟩ (.int .i64 (-77))).setCells G (k * 5) (srow (gs ts k) u)).heap[G]? = _ :=
  heap_setCell_same _ G (k * 5 + 1 + 1 + 1 + 1) _ _ u (heap_setCell_same _ G (k * 5 + 1 + 1 + 1) _ _ (.int .u64 ((gs ts k).most : Int)) (heap_setCell_same _ G (k * 5 + 1 + 1) _ _ (.int .u64 ((gs ts k).least : Int)) (heap_setCell_same _ G (k * 5 + 1) _ _ (.int .i64 (gs ts k).kind) (heap_setCell_same _ G (k * 5) _ _ (.int .i64 (gs ts k).no) s1))))
 refine ⟨_, heap_setCell_same V G (k * 5 + 4) _ _ v (hV.trans s2), by simp [h2], fun i c hi hc => ?_⟩
 simp only [Array.getElem?_setIfInBounds, Array.size_setIfInBounds]
 by_cases e1 : i = k
 ·subst e1
  have e3 : hrow ts (us ++ [v]) (i + 1) i = srow (gs ts i) v := by
   unfold hrow; rw [if_pos (by omega), if_pos hk, gvs_top _ _ _ hu]
  rw [e3]
  have hb : i * 5 + c < cs.size := by omega
  rcases (by omega : c = 0 ∨ c = 1 ∨ c = 2 ∨ c = 3 ∨ c = 4) with rfl | rfl | rfl | rfl | rfl
  ·rw [if_neg (by omega), if_neg (by omega), if_neg (by omega), if_neg (by omega), if_neg (by omega), if_pos (by omega), if_pos (by omega)]; rfl
  ·rw [if_neg (by omega), if_neg (by omega), if_neg (by omega), if_neg (by omega), if_pos (by omega), if_pos (by omega)]; rfl
  ·rw [if_neg (by omega), if_neg (by omega), if_neg (by omega), if_pos (by omega), if_pos (by omega)]; rfl
  ·rw [if_neg (by omega), if_neg (by omega), if_pos (by omega), if_pos (by omega)]; rfl
  ·rw [if_pos (by omega), if_pos (by omega)]; rfl
 ·rw [if_neg (by omega), if_neg (by omega), if_neg (by omega), if_neg (by omega), if_neg (by omega), if_neg (by omega), if_neg (by omega), h3 i c hi hc]
  unfold hrow
  by_cases e2 : i < k
  ·rw [if_pos e2, if_pos (by omega), if_pos (by omega), if_pos (by omega), gvs_low _ _ _ (by omega)]
  ·rw [if_neg e2, if_neg (by omega)]
end Go.Proofs.YtgcpebhjehlacaaDoor
namespace Go.Proofs.YtgcpebhjehlacaaDoor
set_option maxRecDepth 100000
open Go Go.RowKit Go.Sort
attribute [local go_sem] setCell_drewN alloc_drewN
end Go.Proofs.YtgcpebhjehlacaaDoor

