import Derived.Test.YtmflfdedhbnfnaaDoorProg
import Derived.WalkKit
import Derived.WalkSpells
import Derived.WalkLawsBesides
import Derived.Lib.QuietBelow
import Derived.BigQuiet
import Derived.OwnWalk
import Derived.Lib.SlBytesConst
import Derived.OrdersHeld
import Derived.Deep.RegionHeld3
import Derived.Test.YtmflfdedhbnfnaaDoorS0
import Derived.Test.YtmflfdedhbnfnaaDoorS4
import Derived.RangeFuncNested
import Derived.RangeFuncBound
import Derived.RangeFuncCalls
import Derived.RangeFuncLeaves
import Derived.Shelf.Abstract
import Derived.Shelf.RegionOpen
import Derived.OwnWalkIn
import Derived.TacticsInMore
import Derived.LoopNIn
import Derived.LoopIn
namespace Go.Proofs.YtmflfdedhbnfnaaDoor
set_option maxRecDepth 100000
open Go Go.RowKit Go.Sort
attribute [local go_sem] setCell_drewN alloc_drewN


/-- A slice's room. -/
def vcap : Value → Nat
  | .slice _ _ c => c
  | _ => 0
set_option maxRecDepth 100000 in
set_option maxHeartbeats 4000000 in
theorem r_part (l : List Int) (o : Nat) (ho : o + 32 ≤ l.length) (hl : l.length ≤ 4096) (w : World) (v : Value) (hB : Bys w v l) : Calls Tryd.prog 32 #[v, .int .i64 (o : Int)] w fun e w' => e = .returned (.agg (irow .u8 (pt l o 32))) ∧ Below w.heap.size w w' := by
  have hz0 := zr_len 32
  have hpl := pt_len l o 32 ho
  have hc : ∀ i, i < 32 → ∃ b off, v = .slice (some ⟨b, off, none⟩) l.length (vcap v) ∧ b < w.heap.size ∧ w.cell? ⟨b, off + (o + i), none⟩ = some (.int .u8 ((pt l o 32).getD i 0)) := fun i hi => by
    obtain ⟨ao, cap, rfl, _, hc, _⟩ := hB
    obtain ⟨b, off, rfl, hb, h1⟩ := hc (o + i) (by omega)
    exact ⟨b, off, rfl, hb, by rw [h1, pt_get l o 32 i hi]⟩
  obtain ⟨b, off, hv, hbl, _⟩ := hc 0 (by decide)
  replace hc : ∀ i, i < 32 → w.cell? ⟨b, off + (o + i), none⟩ = some (.int .u8 ((pt l o 32).getD i 0)) := fun i hi => by
    obtain ⟨b', off', e, _, h1⟩ := hc i hi
    rw [hv] at e
    cases e
    exact h1
  rw [hv]
  generalize vcap v = cap
  clear hB hv
  generalize eP : pt l o 32 = P at *
  replace eP := hide eP
  have R0 := hp2_0 w (.cells (irow .u8 (zr 32)) 23) (.cells (irow .u8 (zr 32)) 23)
  have R1 := hp2_1 w (.cells (irow .u8 (zr 32)) 23) (.cells (irow .u8 (zr 32)) 23)
  have hw2 : Below w.heap.size w ((w.alloc (.cells (irow .u8 (zr 32)) 23)).alloc (.cells (irow .u8 (zr 32)) 23)) := ((Below.refl _ _).alloc (Nat.le_refl _) _).alloc (by simp) _
  rw [← mix_zero P (zr 32)] at R1
  go_enter Tryd.func32, Tryd.ntmps32
  go_wp2_with (first | (refine wpList_alloc rfl 23 rfl (irow .u8 (zr 32)) zkey ?_) | fail)
  try simp only [size_alloc1, Act.put, List.setIfInBounds_toArray, List.set_cons_succ, List.set_cons_zero]
  rw [mix_zero] at R1
  generalize (w.alloc (.cells (irow .u8 (zr 32)) 23)).alloc (.cells (irow .u8 (zr 32)) 23) = w1 at *
  rw [← mix_zero P (zr 32)] at R1
  go_loopw [6] (fun i wr => ∃ k : Nat, k ≤ 32 ∧ i = .int .i64 k ∧ wr.heap[w.heap.size + 1]? = some (.cells (irow .u8 (mix P (zr 32) k)) 23 (0, 0)) ∧ wr.heap[w.heap.size]? = some (.cells (irow .u8 (zr 32)) 23 (0, 0)) ∧ Below w.heap.size w wr) (fun i _ => 32 - (intOf i).toNat)
  case atStart => exact ⟨0, by omega, rfl, R1, R0, hw2⟩
  case round =>
    clear R0 R1 hw2
    obtain ⟨k, hk2, rfl, R1, R0, hw⟩ := hrel
    by_cases hlt : k < 32
    · have hd : decide ((k : Int) < 32) = true := by simp; omega
      have hd2 : decide ((o : Int) + (k : Int) < (l.length : Int)) = true := by simp; omega
      have h1 := hc k hlt
      have m1 := mix_set P (zr 32) k (by omega) (by omega)
      have n1 := mix_length P (zr 32) k (by omega) (by omega)
      generalize P.getD k 0 = x at *
      have c1 := (hw.cell (p := ⟨b, off + (o + k), none⟩) hbl).trans h1
      have f3 := row_frozen R1 k
      have d3 := irow_cell R1 (j := k) (by omega)
      have R1' := irow_set R1 k x
      rw [m1] at R1'
      have R0' : (wr.setCell ⟨w.heap.size + 1, k, none⟩ (.int .u8 x)).heap[w.heap.size]? = _ := heap_other R0 (by omega)
      have hw' := hw.setCell (show w.heap.size ≤ (⟨w.heap.size + 1, k, none⟩ : Addr).block from Nat.le_succ _) (.int .u8 x)
      clear h1 m1 R1 R0 hw hc n1
      generalize (mix P (zr 32) k).getD k 0 = x0 at *
      go_wp2_with (fail)
      refine ⟨⟨k + 1, by omega, by go_num, R1', R0', hw'⟩, ?_⟩
      simp [intOf]; omega
    · obtain rfl : k = 32 := by omega
      have hd : decide ((32 : Int) < 32) = false := by decide
      have ac := mix_all P (zr 32) (by omega)
      rw [hz0] at ac
      rw [ac] at R1
      clear ac hc
      have W2 := setRow_heap wr w.heap.size _ (irow .u8 P) _ _ R0
      have hw' := below_setRow hw (Nat.le_refl _) (irow .u8 P)
      go_wp2_with (first | (refine wpList_load_want rfl 23 _ rfl (w.heap.size + 1) rfl 23 (irow .u8 P) (0, 0) _ R1 Tryd.underlying23 rfl (infok8 _ hpl) ?_) | (refine wpList_store_row rfl 23 _ _ rfl (w.heap.size) (irow .u8 P) rfl rfl 23 _ R0 (infok8 _ hpl) (fit32 _ _ hz0 hpl) (irow_one _ _) ?_) | fail)
      exact bodyPost_ret (results_cell_row Tryd.results32 _ _ w.heap.size _ _ _ _ rfl W2 Tryd.underlying23 rfl (infok8 _ hpl)) rfl ⟨rfl, hw'⟩
set_option maxRecDepth 100000 in
set_option maxHeartbeats 4000000 in
theorem r_Root (root secret : List Int) (hrl : root.length = 32) (hsl : secret.length = 32) (hrz : ∀ z ∈ root, 0 ≤ z ∧ z < 256) (hsz : ∀ z ∈ secret, 0 ≤ z ∧ z < 256) (w : World) : Calls Tryd.prog 11 #[.agg (irow .u8 root), .agg (irow .u8 secret)] w fun e w' => e = .returned (.tuple #[.agg (irow .u8 (pt (rts root secret) 0 32)), .agg (irow .u8 (pt (rts root secret) 32 32)), .agg (irow .u8 (pt (rts root secret) 64 32))]) ∧ Below w.heap.size w w' := by
  have hxl := rts_len root secret
  have l0 : (pt (rts root secret) 0 32).length = 32 := pt_len _ _ _ (by omega)
  have l32 : (pt (rts root secret) 32 32).length = 32 := pt_len _ _ _ (by omega)
  have l64 : (pt (rts root secret) 64 32).length = 32 := pt_len _ _ _ (by omega)
  have hR : Hid (rts root secret = xpd (hm root secret) rtn 96) := hide rfl
  have R0 := hp5_0 w (.cells (irow .u8 root) 23) (.cells (irow .u8 secret) 23) (.cells (irow .u8 (zr 32)) 23) (.cells (irow .u8 (zr 32)) 23) (.cells (irow .u8 (zr 32)) 23)
  have R1 := hp5_1 w (.cells (irow .u8 root) 23) (.cells (irow .u8 secret) 23) (.cells (irow .u8 (zr 32)) 23) (.cells (irow .u8 (zr 32)) 23) (.cells (irow .u8 (zr 32)) 23)
  have R2 := hp5_2 w (.cells (irow .u8 root) 23) (.cells (irow .u8 secret) 23) (.cells (irow .u8 (zr 32)) 23) (.cells (irow .u8 (zr 32)) 23) (.cells (irow .u8 (zr 32)) 23)
  have R3 := hp5_3 w (.cells (irow .u8 root) 23) (.cells (irow .u8 secret) 23) (.cells (irow .u8 (zr 32)) 23) (.cells (irow .u8 (zr 32)) 23) (.cells (irow .u8 (zr 32)) 23)
  have R4 := hp5_4 w (.cells (irow .u8 root) 23) (.cells (irow .u8 secret) 23) (.cells (irow .u8 (zr 32)) 23) (.cells (irow .u8 (zr 32)) 23) (.cells (irow .u8 (zr 32)) 23)
  have hw : Below w.heap.size w (((((w.alloc (.cells (irow .u8 root) 23)).alloc (.cells (irow .u8 secret) 23)).alloc (.cells (irow .u8 (zr 32)) 23)).alloc (.cells (irow .u8 (zr 32)) 23)).alloc (.cells (irow .u8 (zr 32)) 23)) := ((((((Below.refl _ _).alloc (Nat.le_refl _) _).alloc (by simp) _).alloc (by simp; omega) _).alloc (by simp; omega) _).alloc (by simp; omega) _)
  have sk := slice_k w.heap.size
  have sk1 := slice_k (w.heap.size + 1)
  go_enter Tryd.func11, Tryd.ntmps11
  go_wp2_with (first | (refine wpList_box rfl 23 _ rfl _ rfl (bK _) ?_) | (refine wpList_alloc rfl 23 rfl (irow .u8 (zr 32)) zkey ?_) | fail)
  try simp only [size_alloc1, Act.put, List.setIfInBounds_toArray, List.set_cons_succ, List.set_cons_zero]
  generalize (((((w.alloc (.cells (irow .u8 root) 23)).alloc (.cells (irow .u8 secret) 23)).alloc (.cells (irow .u8 (zr 32)) 23)).alloc (.cells (irow .u8 (zr 32)) 23)).alloc (.cells (irow .u8 (zr 32)) 23)) = w0 at *
  have hbd : Below w0.heap.size w0 w0.drew := below_drN (Below.refl _ _) 1
  replace R0 := keep hbd R0
  replace R1 := keep hbd R1
  replace R2 := keep hbd R2
  replace R3 := keep hbd R3
  replace R4 := keep hbd R4
  replace hw := Below.after hw hbd
  clear hbd
  refine wp_region_noPanic ?_
  refine wp_region_held (S := fun _ => True) (by kernel_rfl) ?_
  change wpAnyH _ _ _ _ _ _ _ _ (World.drew _)
  generalize w0.drew = w1 at *
  refine wpAnyH_take (i := 0) (v := ?v1) rfl (by kernel_rfl) (by kernel_rfl) (by kernel_rfl) (fun _ _ _ h => h) (Or.inl ⟨by rfl, ?y1⟩) (trivial) ?r1
  case y1 =>
    intro w_ hS_
    go_simp
    try with_reducible rfl
  simp only [Act.put, List.getElem_toArray, List.getElem_cons_zero, List.setIfInBounds_toArray, List.set_cons_succ, List.set_cons_zero]
  refine wpAnyH_take (i := 1) (v := ?v2) rfl (by kernel_rfl) (by kernel_rfl) (by kernel_rfl) (fun _ _ _ h => h) (Or.inl ⟨by rfl, ?y2⟩) (trivial) ?r2
  case y2 =>
    intro w_ hS_
    go_simp
    try with_reducible rfl
  simp only [Act.put, List.getElem_toArray, List.getElem_cons_succ, List.getElem_cons_zero, List.setIfInBounds_toArray, List.set_cons_succ, List.set_cons_zero]
  refine wpAnyH_one (k := 2) (fuel := 7) (by kernel_rfl) rfl (by kernel_rfl) (fun K_ hK_ => ?_)
  refine wp_world_op (.slice (some ⟨w1.heap.size, 0, none⟩) 9 9) (w1.alloc (.cells #[.int .u8 112, .int .u8 97, .int .u8 119, .int .u8 108, .int .u8 32, .int .u8 114, .int .u8 111, .int .u8 111, .int .u8 116] 5)) (by kernel_rfl) ?_
  refine hK_ _ _ (trivial) ?_
  simp only [Act.put, List.getElem_toArray, List.getElem_cons_succ, List.getElem_cons_zero, List.setIfInBounds_toArray, List.set_cons_succ, List.set_cons_zero]
  clear hK_
  refine wpAnyH_one (k := 3) (fuel := 6) (by kernel_rfl) rfl (by kernel_rfl) (fun K_ hK_ => ?_)
  refine wp_convert 66 66 _ rfl _ (.slice (some ⟨w1.heap.size, 0, none⟩) 9 9) (w1.alloc (.cells #[.int .u8 112, .int .u8 97, .int .u8 119, .int .u8 108, .int .u8 32, .int .u8 114, .int .u8 111, .int .u8 111, .int .u8 116] 5 (9, 10))) rfl (Go.Lib.run_convert_bytes_const (P := Tryd.prog) w1 66 5 #[.int .u8 112, .int .u8 97, .int .u8 119, .int .u8 108, .int .u8 32, .int .u8 114, .int .u8 111, .int .u8 111, .int .u8 116] 9 9 Tryd.underlying66 Tryd.underlying5) ?_
  have hb_ : Below w1.heap.size w1 (w1.alloc (.cells #[.int .u8 112, .int .u8 97, .int .u8 119, .int .u8 108, .int .u8 32, .int .u8 114, .int .u8 111, .int .u8 111, .int .u8 116] 5 (9, 10))) := (Below.refl _ _).alloc (Nat.le_refl _) _
  have hN := rtn_bys w1
  have sz_g2 : w.heap.size ≤ w1.heap.size := hw.size
  replace R0 := keep hb_ R0
  replace R1 := keep hb_ R1
  replace R2 := keep hb_ R2
  replace R3 := keep hb_ R3
  replace R4 := keep hb_ R4
  replace hw := Below.after hw hb_
  clear hb_
  refine hK_ _ _ (trivial) ?_
  simp only [Act.put, List.getElem_toArray, List.getElem_cons_succ, List.getElem_cons_zero, List.setIfInBounds_toArray, List.set_cons_succ, List.set_cons_zero]
  clear hK_
  generalize w1.alloc (.cells #[.int .u8 112, .int .u8 97, .int .u8 119, .int .u8 108, .int .u8 32, .int .u8 114, .int .u8 111, .int .u8 111, .int .u8 116] 5 (9, 10)) = q1 at *
  generalize w1.heap.size = g2 at *
  refine wpAnyH_one (k := 4) (fuel := 5) (by kernel_rfl) rfl (by kernel_rfl) (fun K_ hK_ => ?_)
  have hB1_ : Bys q1 (.slice (some ⟨w.heap.size, 0, none⟩) 32 32) root := by
    have h := Bys.of_row R0 (by omega) hrz 32
    rw [hrl] at h
    exact h
  have hB2_ : Bys q1 (.slice (some ⟨w.heap.size + 1, 0, none⟩) 32 32) secret := by
    have h := Bys.of_row R1 (by omega) hsz 32
    rw [hsl] at h
    exact h
  refine wp_call_ex (f := 31) (by kernel_rfl) (r_derive4 root secret rtn 96 q1 _ _ _ ⟨hB1_, by omega, fun a l c h h2 => by cases h; cases h2⟩ ⟨hB2_, by omega, fun a l c h h2 => by cases h; cases h2⟩ (by omega) ⟨hN, by decide, fun a l c h h2 => by cases h; cases h2⟩ (by decide)) (fun v_ q3 hX_ => ?_)
  obtain ⟨hX2_, hb_⟩ := hX_
  replace R0 := keep hb_ R0
  replace R1 := keep hb_ R1
  replace R2 := keep hb_ R2
  replace R3 := keep hb_ R3
  replace R4 := keep hb_ R4
  replace hw := Below.after hw hb_
  clear hb_
  clear hB1_ hB2_ hN
  obtain ⟨m_, u_, hm_, _, rfl, hU⟩ | ⟨hm_, _⟩ := hX2_
  rotate_left
  · exact absurd hm_ (by decide)
  obtain rfl : m_ = 96 := by omega
  clear hm_
  rw [← hR.out] at hU
  replace hU := hU.1
  refine hK_ _ _ (trivial) ?_
  simp only [Act.put, List.getElem_toArray, List.getElem_cons_succ, List.getElem_cons_zero, List.setIfInBounds_toArray, List.set_cons_succ, List.set_cons_zero]
  clear hK_
  refine wpAnyH_take (i := 5) (v := ?v3) rfl (by kernel_rfl) (by kernel_rfl) (by kernel_rfl) (fun _ _ _ h => h) (Or.inl ⟨by rfl, ?y3⟩) (trivial) ?r3
  case y3 =>
    intro w_ hS_
    go_simp
    try with_reducible rfl
  simp only [Act.put, List.getElem_toArray, List.getElem_cons_succ, List.getElem_cons_zero, List.setIfInBounds_toArray, List.set_cons_succ, List.set_cons_zero]
  refine wpAnyH_take (i := 6) (v := ?v4) rfl (by kernel_rfl) (by kernel_rfl) (by kernel_rfl) (fun _ _ _ h => h) (Or.inl ⟨by rfl, ?y4⟩) (trivial) ?r4
  case y4 =>
    intro w_ hS_
    go_simp
    try with_reducible rfl
  simp only [Act.put, List.getElem_toArray, List.getElem_cons_succ, List.getElem_cons_zero, List.setIfInBounds_toArray, List.set_cons_succ, List.set_cons_zero]
  refine wpAnyH_take (i := 7) (v := ?v5) rfl (by kernel_rfl) (by kernel_rfl) (by kernel_rfl) (fun _ _ _ h => h) (Or.inl ⟨by rfl, ?y5⟩) (trivial) ?r5
  case y5 =>
    intro w_ hS_
    go_simp
    try with_reducible rfl
  simp only [Act.put, List.getElem_toArray, List.getElem_cons_succ, List.getElem_cons_zero, List.setIfInBounds_toArray, List.set_cons_succ, List.set_cons_zero]
  refine wpAnyH_take (i := 8) (v := ?v6) rfl (by kernel_rfl) (by kernel_rfl) (by kernel_rfl) (fun _ _ _ h => h) (Or.inl ⟨by rfl, ?y6⟩) (trivial) ?r6
  case y6 =>
    intro w_ hS_
    go_simp
    try with_reducible rfl
  simp only [Act.put, List.getElem_toArray, List.getElem_cons_succ, List.getElem_cons_zero, List.setIfInBounds_toArray, List.set_cons_succ, List.set_cons_zero]
  refine wpAnyH_take (i := 9) (v := ?v7) rfl (by kernel_rfl) (by kernel_rfl) (by kernel_rfl) (fun _ _ _ h => h) (Or.inl ⟨by rfl, ?y7⟩) (trivial) ?r7
  case y7 =>
    intro w_ hS_
    go_simp
    try with_reducible rfl
  simp only [Act.put, List.getElem_toArray, List.getElem_cons_succ, List.getElem_cons_zero, List.setIfInBounds_toArray, List.set_cons_succ, List.set_cons_zero]
  refine wpAnyH_done (by kernel_rfl) ?_ _
  refine NoPanic.normal ?_
  clear R0 R1
  go_wp2_with (fail)
  refine (r_part (rts root secret) 0 (by omega) (by omega) q3 u_ hU).mono ?_
  rintro e_ wp0 ⟨rfl, hb⟩
  replace R2 := keep hb R2
  replace R3 := keep hb R3
  replace R4 := keep hb R4
  replace hU := hU.keep hb
  replace hw := Below.after hw hb
  clear hb
  go_wp2_with (fail)
  refine (r_part (rts root secret) 32 (by omega) (by omega) wp0 u_ hU).mono ?_
  rintro e_ wp1 ⟨rfl, hb⟩
  replace R2 := keep hb R2
  replace R3 := keep hb R3
  replace R4 := keep hb R4
  replace hU := hU.keep hb
  replace hw := Below.after hw hb
  clear hb
  go_wp2_with (fail)
  refine (r_part (rts root secret) 64 (by omega) (by omega) wp1 u_ hU).mono ?_
  rintro e_ wp2 ⟨rfl, hb⟩
  replace R2 := keep hb R2
  replace R3 := keep hb R3
  replace R4 := keep hb R4
  replace hU := hU.keep hb
  replace hw := Below.after hw hb
  clear hb
  have a3 := (setRow_other wp2 (w.heap.size + 1 + 1) (w.heap.size + 1 + 1 + 1) (irow .u8 (pt (rts root secret) 0 32)) (by omega)).trans R3
  have a4 := (setRow_other (wp2.setRow (w.heap.size + 1 + 1) (irow .u8 (pt (rts root secret) 0 32))) (w.heap.size + 1 + 1 + 1) (w.heap.size + 1 + 1 + 1 + 1) (irow .u8 (pt (rts root secret) 32 32)) (by omega)).trans ((setRow_other wp2 (w.heap.size + 1 + 1) (w.heap.size + 1 + 1 + 1 + 1) (irow .u8 (pt (rts root secret) 0 32)) (by omega)).trans R4)
  have b2 := (setRow_other ((wp2.setRow (w.heap.size + 1 + 1) (irow .u8 (pt (rts root secret) 0 32))).setRow (w.heap.size + 1 + 1 + 1) (irow .u8 (pt (rts root secret) 32 32))) (w.heap.size + 1 + 1 + 1 + 1) (w.heap.size + 1 + 1) (irow .u8 (pt (rts root secret) 64 32)) (by omega)).trans ((setRow_other (wp2.setRow (w.heap.size + 1 + 1) (irow .u8 (pt (rts root secret) 0 32))) (w.heap.size + 1 + 1 + 1) (w.heap.size + 1 + 1) (irow .u8 (pt (rts root secret) 32 32)) (by omega)).trans (setRow_heap wp2 (w.heap.size + 1 + 1) _ (irow .u8 (pt (rts root secret) 0 32)) _ _ R2))
  have b3 := (setRow_other ((wp2.setRow (w.heap.size + 1 + 1) (irow .u8 (pt (rts root secret) 0 32))).setRow (w.heap.size + 1 + 1 + 1) (irow .u8 (pt (rts root secret) 32 32))) (w.heap.size + 1 + 1 + 1 + 1) (w.heap.size + 1 + 1 + 1) (irow .u8 (pt (rts root secret) 64 32)) (by omega)).trans (setRow_heap (wp2.setRow (w.heap.size + 1 + 1) (irow .u8 (pt (rts root secret) 0 32))) (w.heap.size + 1 + 1 + 1) _ (irow .u8 (pt (rts root secret) 32 32)) _ _ a3)
  have b4 := setRow_heap ((wp2.setRow (w.heap.size + 1 + 1) (irow .u8 (pt (rts root secret) 0 32))).setRow (w.heap.size + 1 + 1 + 1) (irow .u8 (pt (rts root secret) 32 32))) (w.heap.size + 1 + 1 + 1 + 1) _ (irow .u8 (pt (rts root secret) 64 32)) _ _ a4
  have hw9 := below_setRow (below_setRow (below_setRow hw (show w.heap.size ≤ w.heap.size + 1 + 1 by omega) (irow .u8 (pt (rts root secret) 0 32))) (show w.heap.size ≤ w.heap.size + 1 + 1 + 1 by omega) (irow .u8 (pt (rts root secret) 32 32))) (show w.heap.size ≤ w.heap.size + 1 + 1 + 1 + 1 by omega) (irow .u8 (pt (rts root secret) 64 32))
  go_wp2_with (first | (refine wpList_store_row rfl 23 _ _ rfl (w.heap.size + 1 + 1) (irow .u8 (pt (rts root secret) 0 32)) rfl rfl 23 _ R2 (infok8 _ l0) (fit32 _ _ (zr_len 32) l0) (irow_one _ _) ?_) | (refine wpList_store_row rfl 23 _ _ rfl (w.heap.size + 1 + 1 + 1) (irow .u8 (pt (rts root secret) 32 32)) rfl rfl 23 _ a3 (infok8 _ l32) (fit32 _ _ (zr_len 32) l32) (irow_one _ _) ?_) | (refine wpList_store_row rfl 23 _ _ rfl (w.heap.size + 1 + 1 + 1 + 1) (irow .u8 (pt (rts root secret) 64 32)) rfl rfl 23 _ a4 (infok8 _ l64) (fit32 _ _ (zr_len 32) l64) (irow_one _ _) ?_) | fail)
  exact bodyPost_ret (results_cell3_row Tryd.results11 _ _ (w.heap.size + 1 + 1) (w.heap.size + 1 + 1 + 1) (w.heap.size + 1 + 1 + 1 + 1) _ _ _ _ _ _ _ _ _ _ rfl rfl rfl b2 b3 b4 Tryd.underlying23 rfl (infok8 _ l0) (infok8 _ l32) (infok8 _ l64)) rfl ⟨rfl, hw9⟩
set_option maxRecDepth 100000 in
set_option maxHeartbeats 4000000 in
theorem r_Message (key : List Int) (hkl : key.length = 32) (hkz : ∀ z ∈ key, 0 ≤ z ∧ z < 256) (w : World) : Calls Tryd.prog 13 #[.agg (irow .u8 key)] w fun e w' => e = .returned (.tuple #[.agg (irow .u8 (pt (mss key) 0 32)), .agg (irow .u8 (pt (mss key) 32 16))]) ∧ Below w.heap.size w w' := by
  have hxl := mss_len key
  have hzl := zr_len 16
  have l0 : (pt (mss key) 0 32).length = 32 := pt_len _ _ _ (by omega)
  have l1 : (pt (mss key) 32 16).length = 16 := pt_len _ _ _ (by omega)
  have hR : Hid (mss key = xpd key msn 48) := hide rfl
  have R0 := hp3_0 w (.cells (irow .u8 key) 23) (.cells (irow .u8 (zr 32)) 23) (.cells (irow .u8 (zr 16)) 29)
  have R1 := hp3_1 w (.cells (irow .u8 key) 23) (.cells (irow .u8 (zr 32)) 23) (.cells (irow .u8 (zr 16)) 29)
  have R2 := hp3_2 w (.cells (irow .u8 key) 23) (.cells (irow .u8 (zr 32)) 23) (.cells (irow .u8 (zr 16)) 29)
  have hw : Below w.heap.size w (((w.alloc (.cells (irow .u8 key) 23)).alloc (.cells (irow .u8 (zr 32)) 23)).alloc (.cells (irow .u8 (zr 16)) 29)) := ((((Below.refl _ _).alloc (Nat.le_refl _) _).alloc (by simp) _).alloc (by simp; omega) _)
  have hz0 : (((w.alloc (.cells (irow .u8 key) 23)).alloc (.cells (irow .u8 (zr 32)) 23)).alloc (.cells (irow .u8 (zr 16)) 29)).heap.size = w.heap.size + 1 + 1 + 1 := by rw [size_alloc1, size_alloc1, size_alloc1]
  have cvs : (convert 66 66 (.slice (some ⟨w.heap.size + 1 + 1 + 1, 0, none⟩) 12 12)).run Tryd.prog ((((w.alloc (.cells (irow .u8 key) 23)).alloc (.cells (irow .u8 (zr 32)) 23)).alloc (.cells (irow .u8 (zr 16)) 29)).alloc (.cells #[.int .u8 112, .int .u8 97, .int .u8 119, .int .u8 108, .int .u8 32, .int .u8 109, .int .u8 101, .int .u8 115, .int .u8 115, .int .u8 97, .int .u8 103, .int .u8 101] 5)) = .ok (.slice (some ⟨w.heap.size + 1 + 1 + 1, 0, none⟩) 12 12) ((((w.alloc (.cells (irow .u8 key) 23)).alloc (.cells (irow .u8 (zr 32)) 23)).alloc (.cells (irow .u8 (zr 16)) 29)).alloc (.cells #[.int .u8 112, .int .u8 97, .int .u8 119, .int .u8 108, .int .u8 32, .int .u8 109, .int .u8 101, .int .u8 115, .int .u8 115, .int .u8 97, .int .u8 103, .int .u8 101] 5 (12, 13))) := by
    have h := Go.Lib.run_convert_bytes_const (P := Tryd.prog) (((w.alloc (.cells (irow .u8 key) 23)).alloc (.cells (irow .u8 (zr 32)) 23)).alloc (.cells (irow .u8 (zr 16)) 29)) 66 5 #[.int .u8 112, .int .u8 97, .int .u8 119, .int .u8 108, .int .u8 32, .int .u8 109, .int .u8 101, .int .u8 115, .int .u8 115, .int .u8 97, .int .u8 103, .int .u8 101] 12 12 Tryd.underlying66 Tryd.underlying5
    rw [hz0] at h
    exact h
  go_enter Tryd.func13, Tryd.ntmps13
  go_wp2_with (first | (refine wpList_box rfl 23 _ rfl _ rfl (bK _) ?_) | (refine wpList_alloc rfl 23 rfl (irow .u8 (zr 32)) zkey ?_) | (refine wpList_alloc rfl 29 rfl (irow .u8 (zr 16)) zno ?_) | (refine wpList_load_want rfl 23 _ rfl (w.heap.size) rfl 23 (irow .u8 key) (0, 0) _ R0 Tryd.underlying23 rfl (infok8 _ hkl) ?_) | fail)
  try simp only [size_alloc1, Act.put, List.setIfInBounds_toArray, List.set_cons_succ, List.set_cons_zero]
  clear cvs
  generalize (((w.alloc (.cells (irow .u8 key) 23)).alloc (.cells (irow .u8 (zr 32)) 23)).alloc (.cells (irow .u8 (zr 16)) 29)) = w0 at *
  have hba : Below w0.heap.size w0 (w0.alloc (.cells #[.int .u8 112, .int .u8 97, .int .u8 119, .int .u8 108, .int .u8 32, .int .u8 109, .int .u8 101, .int .u8 115, .int .u8 115, .int .u8 97, .int .u8 103, .int .u8 101] 5 (12, 13))) := (Below.refl _ _).alloc (Nat.le_refl _) _
  have hI := msn_bys w0
  rw [hz0] at hI
  replace R1 := keep hba R1
  replace R2 := keep hba R2
  replace hw := Below.after hw hba
  generalize w0.alloc (.cells #[.int .u8 112, .int .u8 97, .int .u8 119, .int .u8 108, .int .u8 32, .int .u8 109, .int .u8 101, .int .u8 115, .int .u8 115, .int .u8 97, .int .u8 103, .int .u8 101] 5 (12, 13)) = w1 at *
  have cX := r_expand4 key msn 48 w1 _ hkl hkz ⟨hI, by decide, fun a l c h h2 => by cases h; cases h2⟩ (by decide) (by decide)
  clear hba hI R0 hz0
  refine cX.mono ?_
  rintro e_ w2 ⟨v, rfl, hx, hb⟩
  rw [← hR.out] at hx
  replace hx := hx.1
  have l1w := lt_of_row R1
  have l2w := lt_of_row R2
  have hbs := hb.size
  replace R1 := keep hb R1
  replace R2 := keep hb R2
  replace hw := Below.after hw hb
  clear hb cX
  have hc : ∀ i, i < 16 → ∃ b off, v = .slice (some ⟨b, off, none⟩) 48 (vcap v) ∧ b < w2.heap.size ∧ w2.cell? ⟨b, off + (32 + i), none⟩ = some (.int .u8 ((pt (mss key) 32 16).getD i 0)) := fun i hi => by
    obtain ⟨ao, cap, rfl, _, hc, _⟩ := hx
    obtain ⟨b, off, rfl, hb, h1⟩ := hc (32 + i) (by omega)
    rw [hxl]
    exact ⟨b, off, rfl, hb, by rw [h1, pt_get _ 32 16 i hi]⟩
  obtain ⟨b, off, hv, hbl, _⟩ := hc 0 (by decide)
  replace hc : ∀ i, i < 16 → w2.cell? ⟨b, off + (32 + i), none⟩ = some (.int .u8 ((pt (mss key) 32 16).getD i 0)) := fun i hi => by
    obtain ⟨b', off', e, _, h1⟩ := hc i hi
    rw [hv] at e
    cases e
    exact h1
  generalize vcap v = cap at *
  subst hv
  replace hx : Hid (∀ V, Below w2.heap.size w2 V → Bys V (.slice (some ⟨b, off, none⟩) 48 cap) (mss key)) := hide (fun V h => hx.keep h)
  generalize eP : (pt (mss key) 32 16) = P at *
  replace eP := hide eP
  have hw2 : Below w.heap.size w (w2.alloc (.cells (irow .u8 (zr 16)) 29)) := hw.alloc hw.size _
  have hcw : Below w2.heap.size w2 (w2.alloc (.cells (irow .u8 (zr 16)) 29)) := (Below.refl _ _).alloc (Nat.le_refl _) _
  have R3 := hp1_0 w2 (.cells (irow .u8 (zr 16)) 29)
  replace R1 := keep hcw R1
  replace R2 := keep hcw R2
  have hs2 := hw.size
  go_wp2_with (first | (refine wpList_alloc rfl 29 rfl (irow .u8 (zr 16)) zno ?_) | fail)
  clear hw
  generalize w2.alloc (.cells (irow .u8 (zr 16)) 29) = w3 at *
  rw [← mix_zero P (zr 16)] at R3
  go_loopw [7] (fun i wr => ∃ k : Nat, k ≤ 16 ∧ i = .int .i64 k ∧ wr.heap[w2.heap.size]? = some (.cells (irow .u8 (mix P (zr 16) k)) 29 (0, 0)) ∧ wr.heap[w.heap.size + 1]? = some (.cells (irow .u8 (zr 32)) 23 (0, 0)) ∧ wr.heap[w.heap.size + 1 + 1]? = some (.cells (irow .u8 (zr 16)) 29 (0, 0)) ∧ Below w2.heap.size w2 wr ∧ Below w.heap.size w wr) (fun i _ => 16 - (intOf i).toNat)
  case atStart => exact ⟨0, by omega, rfl, R3, R1, R2, hcw, hw2⟩
  case round =>
    clear R1 R2 R3 hw2 hcw
    obtain ⟨k, hk2, rfl, R3, R1, R2, hcw, hw⟩ := hrel
    by_cases hlt : k < 16
    · have hd : decide ((k : Int) < 16) = true := by simp; omega
      have hd2 : decide ((32 : Int) + (k : Int) < 48) = true := by simp; omega
      have h1 := hc k hlt
      have m1 := mix_set P (zr 16) k (by omega) (by omega)
      have n1 := mix_length P (zr 16) k (by omega) (by omega)
      generalize P.getD k 0 = x at *
      have c1 := (hcw.cell (p := ⟨b, off + (32 + k), none⟩) hbl).trans h1
      have f3 := row_frozen R3 k
      have d3 := irow_cell R3 (j := k) (by omega)
      have R3' := irow_set R3 k x
      rw [m1] at R3'
      have R1a : (wr.setCell ⟨w2.heap.size, k, none⟩ (.int .u8 x)).heap[w.heap.size + 1]? = _ := heap_other R1 (by omega)
      have R2a : (wr.setCell ⟨w2.heap.size, k, none⟩ (.int .u8 x)).heap[w.heap.size + 1 + 1]? = _ := heap_other R2 (by omega)
      have hcwa := hcw.setCell (show w2.heap.size ≤ (⟨w2.heap.size, k, none⟩ : Addr).block from Nat.le_refl _) (.int .u8 x)
      have hwa := hw.setCell (show w.heap.size ≤ (⟨w2.heap.size, k, none⟩ : Addr).block from hs2) (.int .u8 x)
      clear h1 m1 R3 R1 R2 hcw hw hc n1
      generalize (mix P (zr 16) k).getD k 0 = x0 at *
      go_wp2_with (fail)
      refine ⟨⟨k + 1, by omega, by go_num, R3', R1a, R2a, hcwa, hwa⟩, ?_⟩
      simp [intOf]; omega
    · obtain rfl : k = 16 := by omega
      have hd : decide ((16 : Int) < 16) = false := by decide
      have ac := mix_all P (zr 16) (by omega)
      rw [hzl] at ac
      rw [ac] at R3
      clear ac hc
      have lw2 := lt_of_row R3
      go_wp2_with (fail)
      have hbd : Below wr.heap.size wr wr.drew := below_drN (Below.refl _ _) 1
      replace hcw := Below.after hcw hbd
      replace R1 := keep hbd R1
      replace R2 := keep hbd R2
      replace R3 := keep hbd R3
      replace hw := Below.after hw hbd
      clear hbd
      refine wp_region_noPanic ?_
      refine wp_region_held (S := fun W => W.heap[w2.heap.size]? = some (.cells (irow .u8 P) 29 (0, 0))) (by kernel_rfl) ?_
      change wpAnyH _ _ _ _ _ _ _ _ (World.drew _)
      generalize wr.drew = wz at *
      refine wpAnyH_take (i := 0) (v := ?v8) rfl (by kernel_rfl) (by kernel_rfl) (by kernel_rfl) (fun _ _ _ h => h) (Or.inl ⟨by rfl, ?y8⟩) (R3) ?r8
      case y8 =>
        intro w_ hS_
        go_simp
        try with_reducible rfl
      simp only [Act.put, List.getElem_toArray, List.getElem_cons_zero, List.setIfInBounds_toArray, List.set_cons_succ, List.set_cons_zero]
      refine wpAnyH_take (i := 2) (v := .agg (irow .u8 P)) rfl (by kernel_rfl) (by kernel_rfl) (by kernel_rfl) (fun _ _ _ h => h) (Or.inl ⟨by rfl, ?y9⟩) (R3) ?r9
      case y9 =>
        intro w_ hS_
        simp only [List.getElem_toArray, List.getElem_cons_succ, List.getElem_cons_zero]
        exact run_load_part 29 _ (by rfl) (w2.heap.size) 0 (by rfl) 29 (irow .u8 P) (0, 0) (irow .u8 P) _ (hS_) (all_row _) Tryd.underlying29 rfl (infoN _ l1)
      simp only [Act.put, List.getElem_toArray, List.getElem_cons_succ, List.getElem_cons_zero, List.setIfInBounds_toArray, List.set_cons_succ, List.set_cons_zero]
      refine wpAnyH_one (k := 1) (fuel := 2) (by kernel_rfl) rfl (by kernel_rfl) (fun K_ hK_ => ?_)
      have hX9 := hx.out _ hcw
      refine wp_call_ex (f := 32) (by kernel_rfl) (ex1 (r_part (mss key) 0 (by omega) (by omega) wz _ hX9)) (fun v_ q4 hX_ => ?_)
      obtain ⟨rfl, hb_⟩ := hX_
      replace hcw := Below.after hcw hb_
      replace R1 := keep hb_ R1
      replace R2 := keep hb_ R2
      replace R3 := keep hb_ R3
      replace hw := Below.after hw hb_
      clear hb_
      clear hX9
      refine hK_ _ _ (R3) ?_
      simp only [Act.put, List.getElem_toArray, List.getElem_cons_succ, List.getElem_cons_zero, List.setIfInBounds_toArray, List.set_cons_succ, List.set_cons_zero]
      clear hK_
      refine wpAnyH_one (k := 3) (fuel := 1) (by kernel_rfl) rfl (by kernel_rfl) (fun K_ hK_ => ?_)
      refine wp_store_row 23 _ _ rfl (w.heap.size + 1) (irow .u8 (pt (mss key) 0 32)) rfl rfl 23 _ R1 (infok8 _ l0) (fit32 _ _ (zr_len 32) l0) (irow_one _ _) ?_
      replace R2 := (setRow_other q4 (w.heap.size + 1) (w.heap.size + 1 + 1) (irow .u8 (pt (mss key) 0 32)) (by omega)).trans R2
      replace R3 := (setRow_other q4 (w.heap.size + 1) (w2.heap.size) (irow .u8 (pt (mss key) 0 32)) (by omega)).trans R3
      replace R1 := setRow_heap q4 (w.heap.size + 1) _ (irow .u8 (pt (mss key) 0 32)) _ _ R1
      replace hw := below_setRow hw (show w.heap.size ≤ w.heap.size + 1 by omega) (irow .u8 (pt (mss key) 0 32))
      refine hK_ _ _ (R3) ?_
      simp only [Act.put]
      clear hK_
      generalize q4.setRow (w.heap.size + 1) (irow .u8 (pt (mss key) 0 32)) = q5 at *
      refine wpAnyH_one (k := 4) (fuel := 0) (by kernel_rfl) rfl (by kernel_rfl) (fun K_ hK_ => ?_)
      refine wp_store_row 29 _ _ rfl (w.heap.size + 1 + 1) (irow .u8 P) rfl rfl 29 _ R2 (infoN _ l1) (fit16 _ _ (zr_len 16) l1) (irow_one _ _) ?_
      replace R1 := (setRow_other q5 (w.heap.size + 1 + 1) (w.heap.size + 1) (irow .u8 P) (by omega)).trans R1
      replace R3 := (setRow_other q5 (w.heap.size + 1 + 1) (w2.heap.size) (irow .u8 P) (by omega)).trans R3
      replace R2 := setRow_heap q5 (w.heap.size + 1 + 1) _ (irow .u8 P) _ _ R2
      replace hw := below_setRow hw (show w.heap.size ≤ w.heap.size + 1 + 1 by omega) (irow .u8 P)
      refine hK_ _ _ (R3) ?_
      simp only [Act.put]
      clear hK_
      generalize q5.setRow (w.heap.size + 1 + 1) (irow .u8 P) = q6 at *
      refine wpAnyH_done (by kernel_rfl) ?_ _
      refine NoPanic.normal ?_
      go_wp2
      exact bodyPost_ret (results_cell_cell Tryd.results13 _ _ (w.heap.size + 1) (w.heap.size + 1 + 1) _ _ _ _ _ _ _ _ rfl rfl R1 R2 Tryd.underlying23 rfl Tryd.underlying29 rfl (infok8 _ l0) (infoN _ l1)) rfl ⟨by rw [eP.out], hw⟩

end Go.Proofs.YtmflfdedhbnfnaaDoor

namespace Go.Proofs.YtmflfdedhbnfnaaDoor
set_option maxRecDepth 100000
open Go Go.RowKit Go.Sort
attribute [local go_sem] setCell_drewN alloc_drewN

/-- Where a walk shall stop. -/
def WpStay (p : Prop) : Prop := p
theorem wpList_stay {P : Program} {ops : Array Oper} {rest : List Oper} {a : Act} {w : World} {Q : Exit → Act → World → Prop} (h : WpStay (wpList P ops Q rest a w)) : wpList P ops Q rest a w := h
theorem eqKs (l : List Int) (hl : l.length = 32) (W : World) : (Op.equalIn 10000 23 (.agg (irow .u8 l)) (.agg (irow .u8 l))).run Tryd.prog W = .ok true W := by
  rw [eqK _ _ hl hl]; simp
theorem eqNs (l : List Int) (hl : l.length = 16) (w : World) : (Op.equalIn 10000 29 (.agg (irow .u8 l)) (.agg (irow .u8 l))).run Tryd.prog w = .ok true w := by
  obtain ⟨i0, hi, _⟩ := info8
  have h := run_equal_ints w Tryd.underlying29 Tryd.underlying5 hi (by kernel_rfl) l l hl hl
  simp only [decide_true] at h
  exact h
set_option maxRecDepth 100000 in
set_option maxHeartbeats 4000000 in
theorem makings_aux (a b A2 A1 P0 P1 P2 M0 M1 : List Int) (hal : a.length = 32) (hbl : b.length = 32) (l2 : A2.length = 32) (l1 : A1.length = 32) (p0 : P0.length = 32) (p1 : P1.length = 32) (p2 : P2.length = 32) (m0 : M0.length = 32) (m1 : M1.length = 16) (w : World)
    (cS : ∀ V, Below w.heap.size w V → Calls Tryd.prog 8 #[.agg (irow .u8 a)] V fun e w' => e = .returned (.tuple #[.agg (irow .u8 A2), .agg (irow .u8 A1)]) ∧ Below V.heap.size V w')
    (cT : ∀ V, Calls Tryd.prog 9 #[.agg (irow .u8 a)] V fun e w' => e = .returned (.tuple #[.agg (irow .u8 A2), .agg (irow .u8 A1)]) ∧ Below V.heap.size V w')
    (cR : ∀ V, Below w.heap.size w V → Calls Tryd.prog 10 #[.agg (irow .u8 a), .agg (irow .u8 b)] V fun e w' => e = .returned (.tuple #[.agg (irow .u8 P0), .agg (irow .u8 P1), .agg (irow .u8 P2)]) ∧ Below V.heap.size V w')
    (cU : ∀ V, Calls Tryd.prog 11 #[.agg (irow .u8 a), .agg (irow .u8 b)] V fun e w' => e = .returned (.tuple #[.agg (irow .u8 P0), .agg (irow .u8 P1), .agg (irow .u8 P2)]) ∧ Below V.heap.size V w')
    (cM : ∀ V, Below w.heap.size w V → Calls Tryd.prog 12 #[.agg (irow .u8 a)] V fun e w' => e = .returned (.tuple #[.agg (irow .u8 M0), .agg (irow .u8 M1)]) ∧ Below V.heap.size V w')
    (cN : ∀ V, Calls Tryd.prog 13 #[.agg (irow .u8 a)] V fun e w' => e = .returned (.tuple #[.agg (irow .u8 M0), .agg (irow .u8 M1)]) ∧ Below V.heap.size V w') : Calls Tryd.prog 3 #[.agg (irow .u8 a), .agg (irow .u8 b)] w fun e w' => e = .returned (.bool true) ∧ Below w.heap.size w w' := by
  have R0 := hp2_0 w (.cells (irow .u8 a) 23) (.cells (irow .u8 b) 23)
  have R1 := hp2_1 w (.cells (irow .u8 a) 23) (.cells (irow .u8 b) 23)
  have hw : Below w.heap.size w ((w.alloc (.cells (irow .u8 a) 23)).alloc (.cells (irow .u8 b) 23)) := (((Below.refl _ _).alloc (Nat.le_refl _) _).alloc (by simp) _)
  have e2 := eqKs A2 l2
  have e1 := eqKs A1 l1
  have q0 := eqKs P0 p0
  have q1 := eqKs P1 p1
  have q2 := eqKs P2 p2
  have n0 := eqKs M0 m0
  have n1 := eqNs M1 m1
  go_enter Tryd.func3, Tryd.ntmps3
  go_wp2_with (first | (refine wpList_box rfl 23 _ rfl _ rfl (bK _) ?_) | (refine wpList_load_want rfl 23 _ rfl (w.heap.size) rfl 23 (irow .u8 a) (0, 0) _ R0 Tryd.underlying23 rfl (infok8 _ hal) ?_) | fail)
  try simp only [size_alloc1, Act.put, List.setIfInBounds_toArray, List.set_cons_succ, List.set_cons_zero]
  generalize ((w.alloc (.cells (irow .u8 a) 23)).alloc (.cells (irow .u8 b) 23)) = w0 at *
  refine (cS w0 hw).mono ?_
  rintro e_ w0a ⟨rfl, hb⟩
  replace R0 := keep hb R0
  replace R1 := keep hb R1
  replace hw := Below.after hw hb
  clear hb
  have lt0_R0 := lt_of_row R0
  have zc00 := hp2_0 w0a (.cells (irow .u8 (zr 32)) 23) (.cells (irow .u8 (zr 32)) 23)
  have zc01 := hp2_1 w0a (.cells (irow .u8 (zr 32)) 23) (.cells (irow .u8 (zr 32)) 23)
  have yc000 := setRow_heap ((w0a.alloc (.cells (irow .u8 (zr 32)) 23)).alloc (.cells (irow .u8 (zr 32)) 23)) (w0a.heap.size) _ (irow .u8 A2) _ _ zc00
  have yc001 := (setRow_other ((w0a.alloc (.cells (irow .u8 (zr 32)) 23)).alloc (.cells (irow .u8 (zr 32)) 23)) (w0a.heap.size) (w0a.heap.size + 1) (irow .u8 A2) (by omega)).trans zc01
  have yc010 := (setRow_other (((w0a.alloc (.cells (irow .u8 (zr 32)) 23)).alloc (.cells (irow .u8 (zr 32)) 23)).setRow (w0a.heap.size) (irow .u8 A2)) (w0a.heap.size + 1) (w0a.heap.size) (irow .u8 A1) (by omega)).trans yc000
  have yc011 := setRow_heap (((w0a.alloc (.cells (irow .u8 (zr 32)) 23)).alloc (.cells (irow .u8 (zr 32)) 23)).setRow (w0a.heap.size) (irow .u8 A2)) (w0a.heap.size + 1) _ (irow .u8 A1) _ _ yc001
  have hbF : Below w0a.heap.size w0a ((((w0a.alloc (.cells (irow .u8 (zr 32)) 23)).alloc (.cells (irow .u8 (zr 32)) 23)).setRow (w0a.heap.size) (irow .u8 A2)).setRow (w0a.heap.size + 1) (irow .u8 A1)) := (below_setRow (below_setRow (((Below.refl _ _).alloc (Nat.le_refl _) _).alloc (by simp) _) (show w0a.heap.size ≤ w0a.heap.size by omega) (irow .u8 A2)) (show w0a.heap.size ≤ w0a.heap.size + 1 by omega) (irow .u8 A1))
  go_wp2_with (first | (refine wpList_alloc rfl 23 rfl (irow .u8 (zr 32)) zkey ?_) | (refine wpList_store_row rfl 23 _ _ rfl (w0a.heap.size) (irow .u8 A2) rfl rfl 23 _ zc00 (infok8 _ l2) (fit32 _ _ (zr_len 32) l2) (irow_one _ _) ?_; refine wpList_stay ?_) | fail)
  unfold WpStay
  go_wp2_with (first | (refine wpList_store_row rfl 23 _ _ rfl (w0a.heap.size + 1) (irow .u8 A1) rfl rfl 23 _ yc001 (infok8 _ l1) (fit32 _ _ (zr_len 32) l1) (irow_one _ _) ?_; refine wpList_stay ?_) | fail)
  unfold WpStay
  replace R0 := keep hbF R0
  replace R1 := keep hbF R1
  replace hw := Below.after hw hbF
  clear hbF
  generalize ((((w0a.alloc (.cells (irow .u8 (zr 32)) 23)).alloc (.cells (irow .u8 (zr 32)) 23)).setRow (w0a.heap.size) (irow .u8 A2)).setRow (w0a.heap.size + 1) (irow .u8 A1)) = w0b at *
  clear zc00 zc01 yc000 yc001
  generalize hg0 : w0a.heap.size = g0 at *
  clear hg0
  go_wp2_with (first | (refine wpList_load_want rfl 23 _ rfl (w.heap.size) rfl 23 (irow .u8 a) (0, 0) _ R0 Tryd.underlying23 rfl (infok8 _ hal) ?_) | (refine wpList_load_want rfl 23 _ rfl (w.heap.size + 1) rfl 23 (irow .u8 b) (0, 0) _ R1 Tryd.underlying23 rfl (infok8 _ hbl) ?_) | (refine wpList_load_want rfl 23 _ rfl (g0) rfl 23 (irow .u8 A2) (0, 0) _ yc010 Tryd.underlying23 rfl (infok8 _ l2) ?_) | (refine wpList_load_want rfl 23 _ rfl (g0 + 1) rfl 23 (irow .u8 A1) (0, 0) _ yc011 Tryd.underlying23 rfl (infok8 _ l1) ?_) | fail)
  refine (cT w0b).mono ?_
  rintro e_ w1a ⟨rfl, hb⟩
  replace R0 := keep hb R0
  replace R1 := keep hb R1
  replace yc010 := keep hb yc010
  replace yc011 := keep hb yc011
  replace hw := Below.after hw hb
  clear hb
  have lt1_R0 := lt_of_row R0
  have zc10 := hp2_0 w1a (.cells (irow .u8 (zr 32)) 23) (.cells (irow .u8 (zr 32)) 23)
  have zc11 := hp2_1 w1a (.cells (irow .u8 (zr 32)) 23) (.cells (irow .u8 (zr 32)) 23)
  have yc100 := setRow_heap ((w1a.alloc (.cells (irow .u8 (zr 32)) 23)).alloc (.cells (irow .u8 (zr 32)) 23)) (w1a.heap.size) _ (irow .u8 A2) _ _ zc10
  have yc101 := (setRow_other ((w1a.alloc (.cells (irow .u8 (zr 32)) 23)).alloc (.cells (irow .u8 (zr 32)) 23)) (w1a.heap.size) (w1a.heap.size + 1) (irow .u8 A2) (by omega)).trans zc11
  have yc110 := (setRow_other (((w1a.alloc (.cells (irow .u8 (zr 32)) 23)).alloc (.cells (irow .u8 (zr 32)) 23)).setRow (w1a.heap.size) (irow .u8 A2)) (w1a.heap.size + 1) (w1a.heap.size) (irow .u8 A1) (by omega)).trans yc100
  have yc111 := setRow_heap (((w1a.alloc (.cells (irow .u8 (zr 32)) 23)).alloc (.cells (irow .u8 (zr 32)) 23)).setRow (w1a.heap.size) (irow .u8 A2)) (w1a.heap.size + 1) _ (irow .u8 A1) _ _ yc101
  have hbF : Below w1a.heap.size w1a ((((w1a.alloc (.cells (irow .u8 (zr 32)) 23)).alloc (.cells (irow .u8 (zr 32)) 23)).setRow (w1a.heap.size) (irow .u8 A2)).setRow (w1a.heap.size + 1) (irow .u8 A1)) := (below_setRow (below_setRow (((Below.refl _ _).alloc (Nat.le_refl _) _).alloc (by simp) _) (show w1a.heap.size ≤ w1a.heap.size by omega) (irow .u8 A2)) (show w1a.heap.size ≤ w1a.heap.size + 1 by omega) (irow .u8 A1))
  go_wp2_with (first | (refine wpList_alloc rfl 23 rfl (irow .u8 (zr 32)) zkey ?_) | (refine wpList_store_row rfl 23 _ _ rfl (w1a.heap.size) (irow .u8 A2) rfl rfl 23 _ zc10 (infok8 _ l2) (fit32 _ _ (zr_len 32) l2) (irow_one _ _) ?_; refine wpList_stay ?_) | fail)
  unfold WpStay
  go_wp2_with (first | (refine wpList_store_row rfl 23 _ _ rfl (w1a.heap.size + 1) (irow .u8 A1) rfl rfl 23 _ yc101 (infok8 _ l1) (fit32 _ _ (zr_len 32) l1) (irow_one _ _) ?_; refine wpList_stay ?_) | fail)
  unfold WpStay
  replace R0 := keep hbF R0
  replace R1 := keep hbF R1
  replace yc010 := keep hbF yc010
  replace yc011 := keep hbF yc011
  replace hw := Below.after hw hbF
  clear hbF
  generalize ((((w1a.alloc (.cells (irow .u8 (zr 32)) 23)).alloc (.cells (irow .u8 (zr 32)) 23)).setRow (w1a.heap.size) (irow .u8 A2)).setRow (w1a.heap.size + 1) (irow .u8 A1)) = w1b at *
  clear zc10 zc11 yc100 yc101
  generalize hg1 : w1a.heap.size = g1 at *
  clear hg1
  go_wp2_with (first | (refine wpList_load_want rfl 23 _ rfl (w.heap.size) rfl 23 (irow .u8 a) (0, 0) _ R0 Tryd.underlying23 rfl (infok8 _ hal) ?_) | (refine wpList_load_want rfl 23 _ rfl (w.heap.size + 1) rfl 23 (irow .u8 b) (0, 0) _ R1 Tryd.underlying23 rfl (infok8 _ hbl) ?_) | (refine wpList_load_want rfl 23 _ rfl (g0) rfl 23 (irow .u8 A2) (0, 0) _ yc010 Tryd.underlying23 rfl (infok8 _ l2) ?_) | (refine wpList_load_want rfl 23 _ rfl (g0 + 1) rfl 23 (irow .u8 A1) (0, 0) _ yc011 Tryd.underlying23 rfl (infok8 _ l1) ?_) | (refine wpList_load_want rfl 23 _ rfl (g1) rfl 23 (irow .u8 A2) (0, 0) _ yc110 Tryd.underlying23 rfl (infok8 _ l2) ?_) | (refine wpList_load_want rfl 23 _ rfl (g1 + 1) rfl 23 (irow .u8 A1) (0, 0) _ yc111 Tryd.underlying23 rfl (infok8 _ l1) ?_) | fail)
  refine (cR w1b hw).mono ?_
  rintro e_ w2a ⟨rfl, hb⟩
  replace R0 := keep hb R0
  replace R1 := keep hb R1
  replace yc010 := keep hb yc010
  replace yc011 := keep hb yc011
  replace yc110 := keep hb yc110
  replace yc111 := keep hb yc111
  replace hw := Below.after hw hb
  clear hb
  have lt2_R0 := lt_of_row R0
  have zc20 := hp3_0 w2a (.cells (irow .u8 (zr 32)) 23) (.cells (irow .u8 (zr 32)) 23) (.cells (irow .u8 (zr 32)) 23)
  have zc21 := hp3_1 w2a (.cells (irow .u8 (zr 32)) 23) (.cells (irow .u8 (zr 32)) 23) (.cells (irow .u8 (zr 32)) 23)
  have zc22 := hp3_2 w2a (.cells (irow .u8 (zr 32)) 23) (.cells (irow .u8 (zr 32)) 23) (.cells (irow .u8 (zr 32)) 23)
  have yc200 := setRow_heap (((w2a.alloc (.cells (irow .u8 (zr 32)) 23)).alloc (.cells (irow .u8 (zr 32)) 23)).alloc (.cells (irow .u8 (zr 32)) 23)) (w2a.heap.size) _ (irow .u8 P0) _ _ zc20
  have yc201 := (setRow_other (((w2a.alloc (.cells (irow .u8 (zr 32)) 23)).alloc (.cells (irow .u8 (zr 32)) 23)).alloc (.cells (irow .u8 (zr 32)) 23)) (w2a.heap.size) (w2a.heap.size + 1) (irow .u8 P0) (by omega)).trans zc21
  have yc202 := (setRow_other (((w2a.alloc (.cells (irow .u8 (zr 32)) 23)).alloc (.cells (irow .u8 (zr 32)) 23)).alloc (.cells (irow .u8 (zr 32)) 23)) (w2a.heap.size) (w2a.heap.size + 1 + 1) (irow .u8 P0) (by omega)).trans zc22
  have yc210 := (setRow_other ((((w2a.alloc (.cells (irow .u8 (zr 32)) 23)).alloc (.cells (irow .u8 (zr 32)) 23)).alloc (.cells (irow .u8 (zr 32)) 23)).setRow (w2a.heap.size) (irow .u8 P0)) (w2a.heap.size + 1) (w2a.heap.size) (irow .u8 P1) (by omega)).trans yc200
  have yc211 := setRow_heap ((((w2a.alloc (.cells (irow .u8 (zr 32)) 23)).alloc (.cells (irow .u8 (zr 32)) 23)).alloc (.cells (irow .u8 (zr 32)) 23)).setRow (w2a.heap.size) (irow .u8 P0)) (w2a.heap.size + 1) _ (irow .u8 P1) _ _ yc201
  have yc212 := (setRow_other ((((w2a.alloc (.cells (irow .u8 (zr 32)) 23)).alloc (.cells (irow .u8 (zr 32)) 23)).alloc (.cells (irow .u8 (zr 32)) 23)).setRow (w2a.heap.size) (irow .u8 P0)) (w2a.heap.size + 1) (w2a.heap.size + 1 + 1) (irow .u8 P1) (by omega)).trans yc202
  have yc220 := (setRow_other (((((w2a.alloc (.cells (irow .u8 (zr 32)) 23)).alloc (.cells (irow .u8 (zr 32)) 23)).alloc (.cells (irow .u8 (zr 32)) 23)).setRow (w2a.heap.size) (irow .u8 P0)).setRow (w2a.heap.size + 1) (irow .u8 P1)) (w2a.heap.size + 1 + 1) (w2a.heap.size) (irow .u8 P2) (by omega)).trans yc210
  have yc221 := (setRow_other (((((w2a.alloc (.cells (irow .u8 (zr 32)) 23)).alloc (.cells (irow .u8 (zr 32)) 23)).alloc (.cells (irow .u8 (zr 32)) 23)).setRow (w2a.heap.size) (irow .u8 P0)).setRow (w2a.heap.size + 1) (irow .u8 P1)) (w2a.heap.size + 1 + 1) (w2a.heap.size + 1) (irow .u8 P2) (by omega)).trans yc211
  have yc222 := setRow_heap (((((w2a.alloc (.cells (irow .u8 (zr 32)) 23)).alloc (.cells (irow .u8 (zr 32)) 23)).alloc (.cells (irow .u8 (zr 32)) 23)).setRow (w2a.heap.size) (irow .u8 P0)).setRow (w2a.heap.size + 1) (irow .u8 P1)) (w2a.heap.size + 1 + 1) _ (irow .u8 P2) _ _ yc212
  have hbF : Below w2a.heap.size w2a ((((((w2a.alloc (.cells (irow .u8 (zr 32)) 23)).alloc (.cells (irow .u8 (zr 32)) 23)).alloc (.cells (irow .u8 (zr 32)) 23)).setRow (w2a.heap.size) (irow .u8 P0)).setRow (w2a.heap.size + 1) (irow .u8 P1)).setRow (w2a.heap.size + 1 + 1) (irow .u8 P2)) := (below_setRow (below_setRow (below_setRow ((((Below.refl _ _).alloc (Nat.le_refl _) _).alloc (by simp) _).alloc (by simp; omega) _) (show w2a.heap.size ≤ w2a.heap.size by omega) (irow .u8 P0)) (show w2a.heap.size ≤ w2a.heap.size + 1 by omega) (irow .u8 P1)) (show w2a.heap.size ≤ w2a.heap.size + 1 + 1 by omega) (irow .u8 P2))
  go_wp2_with (first | (refine wpList_alloc rfl 23 rfl (irow .u8 (zr 32)) zkey ?_) | (refine wpList_store_row rfl 23 _ _ rfl (w2a.heap.size) (irow .u8 P0) rfl rfl 23 _ zc20 (infok8 _ p0) (fit32 _ _ (zr_len 32) p0) (irow_one _ _) ?_; refine wpList_stay ?_) | fail)
  unfold WpStay
  go_wp2_with (first | (refine wpList_store_row rfl 23 _ _ rfl (w2a.heap.size + 1) (irow .u8 P1) rfl rfl 23 _ yc201 (infok8 _ p1) (fit32 _ _ (zr_len 32) p1) (irow_one _ _) ?_; refine wpList_stay ?_) | fail)
  unfold WpStay
  go_wp2_with (first | (refine wpList_store_row rfl 23 _ _ rfl (w2a.heap.size + 1 + 1) (irow .u8 P2) rfl rfl 23 _ yc212 (infok8 _ p2) (fit32 _ _ (zr_len 32) p2) (irow_one _ _) ?_; refine wpList_stay ?_) | fail)
  unfold WpStay
  replace R0 := keep hbF R0
  replace R1 := keep hbF R1
  replace yc010 := keep hbF yc010
  replace yc011 := keep hbF yc011
  replace yc110 := keep hbF yc110
  replace yc111 := keep hbF yc111
  replace hw := Below.after hw hbF
  clear hbF
  generalize ((((((w2a.alloc (.cells (irow .u8 (zr 32)) 23)).alloc (.cells (irow .u8 (zr 32)) 23)).alloc (.cells (irow .u8 (zr 32)) 23)).setRow (w2a.heap.size) (irow .u8 P0)).setRow (w2a.heap.size + 1) (irow .u8 P1)).setRow (w2a.heap.size + 1 + 1) (irow .u8 P2)) = w2b at *
  clear zc20 zc21 zc22 yc200 yc201 yc202 yc210 yc211 yc212
  generalize hg2 : w2a.heap.size = g2 at *
  clear hg2
  go_wp2_with (first | (refine wpList_load_want rfl 23 _ rfl (w.heap.size) rfl 23 (irow .u8 a) (0, 0) _ R0 Tryd.underlying23 rfl (infok8 _ hal) ?_) | (refine wpList_load_want rfl 23 _ rfl (w.heap.size + 1) rfl 23 (irow .u8 b) (0, 0) _ R1 Tryd.underlying23 rfl (infok8 _ hbl) ?_) | (refine wpList_load_want rfl 23 _ rfl (g0) rfl 23 (irow .u8 A2) (0, 0) _ yc010 Tryd.underlying23 rfl (infok8 _ l2) ?_) | (refine wpList_load_want rfl 23 _ rfl (g0 + 1) rfl 23 (irow .u8 A1) (0, 0) _ yc011 Tryd.underlying23 rfl (infok8 _ l1) ?_) | (refine wpList_load_want rfl 23 _ rfl (g1) rfl 23 (irow .u8 A2) (0, 0) _ yc110 Tryd.underlying23 rfl (infok8 _ l2) ?_) | (refine wpList_load_want rfl 23 _ rfl (g1 + 1) rfl 23 (irow .u8 A1) (0, 0) _ yc111 Tryd.underlying23 rfl (infok8 _ l1) ?_) | (refine wpList_load_want rfl 23 _ rfl (g2) rfl 23 (irow .u8 P0) (0, 0) _ yc220 Tryd.underlying23 rfl (infok8 _ p0) ?_) | (refine wpList_load_want rfl 23 _ rfl (g2 + 1) rfl 23 (irow .u8 P1) (0, 0) _ yc221 Tryd.underlying23 rfl (infok8 _ p1) ?_) | (refine wpList_load_want rfl 23 _ rfl (g2 + 1 + 1) rfl 23 (irow .u8 P2) (0, 0) _ yc222 Tryd.underlying23 rfl (infok8 _ p2) ?_) | fail)
  refine (cU w2b).mono ?_
  rintro e_ w3a ⟨rfl, hb⟩
  replace R0 := keep hb R0
  replace R1 := keep hb R1
  replace yc010 := keep hb yc010
  replace yc011 := keep hb yc011
  replace yc110 := keep hb yc110
  replace yc111 := keep hb yc111
  replace yc220 := keep hb yc220
  replace yc221 := keep hb yc221
  replace yc222 := keep hb yc222
  replace hw := Below.after hw hb
  clear hb
  have lt3_R0 := lt_of_row R0
  have zc30 := hp3_0 w3a (.cells (irow .u8 (zr 32)) 23) (.cells (irow .u8 (zr 32)) 23) (.cells (irow .u8 (zr 32)) 23)
  have zc31 := hp3_1 w3a (.cells (irow .u8 (zr 32)) 23) (.cells (irow .u8 (zr 32)) 23) (.cells (irow .u8 (zr 32)) 23)
  have zc32 := hp3_2 w3a (.cells (irow .u8 (zr 32)) 23) (.cells (irow .u8 (zr 32)) 23) (.cells (irow .u8 (zr 32)) 23)
  have yc300 := setRow_heap (((w3a.alloc (.cells (irow .u8 (zr 32)) 23)).alloc (.cells (irow .u8 (zr 32)) 23)).alloc (.cells (irow .u8 (zr 32)) 23)) (w3a.heap.size) _ (irow .u8 P0) _ _ zc30
  have yc301 := (setRow_other (((w3a.alloc (.cells (irow .u8 (zr 32)) 23)).alloc (.cells (irow .u8 (zr 32)) 23)).alloc (.cells (irow .u8 (zr 32)) 23)) (w3a.heap.size) (w3a.heap.size + 1) (irow .u8 P0) (by omega)).trans zc31
  have yc302 := (setRow_other (((w3a.alloc (.cells (irow .u8 (zr 32)) 23)).alloc (.cells (irow .u8 (zr 32)) 23)).alloc (.cells (irow .u8 (zr 32)) 23)) (w3a.heap.size) (w3a.heap.size + 1 + 1) (irow .u8 P0) (by omega)).trans zc32
  have yc310 := (setRow_other ((((w3a.alloc (.cells (irow .u8 (zr 32)) 23)).alloc (.cells (irow .u8 (zr 32)) 23)).alloc (.cells (irow .u8 (zr 32)) 23)).setRow (w3a.heap.size) (irow .u8 P0)) (w3a.heap.size + 1) (w3a.heap.size) (irow .u8 P1) (by omega)).trans yc300
  have yc311 := setRow_heap ((((w3a.alloc (.cells (irow .u8 (zr 32)) 23)).alloc (.cells (irow .u8 (zr 32)) 23)).alloc (.cells (irow .u8 (zr 32)) 23)).setRow (w3a.heap.size) (irow .u8 P0)) (w3a.heap.size + 1) _ (irow .u8 P1) _ _ yc301
  have yc312 := (setRow_other ((((w3a.alloc (.cells (irow .u8 (zr 32)) 23)).alloc (.cells (irow .u8 (zr 32)) 23)).alloc (.cells (irow .u8 (zr 32)) 23)).setRow (w3a.heap.size) (irow .u8 P0)) (w3a.heap.size + 1) (w3a.heap.size + 1 + 1) (irow .u8 P1) (by omega)).trans yc302
  have yc320 := (setRow_other (((((w3a.alloc (.cells (irow .u8 (zr 32)) 23)).alloc (.cells (irow .u8 (zr 32)) 23)).alloc (.cells (irow .u8 (zr 32)) 23)).setRow (w3a.heap.size) (irow .u8 P0)).setRow (w3a.heap.size + 1) (irow .u8 P1)) (w3a.heap.size + 1 + 1) (w3a.heap.size) (irow .u8 P2) (by omega)).trans yc310
  have yc321 := (setRow_other (((((w3a.alloc (.cells (irow .u8 (zr 32)) 23)).alloc (.cells (irow .u8 (zr 32)) 23)).alloc (.cells (irow .u8 (zr 32)) 23)).setRow (w3a.heap.size) (irow .u8 P0)).setRow (w3a.heap.size + 1) (irow .u8 P1)) (w3a.heap.size + 1 + 1) (w3a.heap.size + 1) (irow .u8 P2) (by omega)).trans yc311
  have yc322 := setRow_heap (((((w3a.alloc (.cells (irow .u8 (zr 32)) 23)).alloc (.cells (irow .u8 (zr 32)) 23)).alloc (.cells (irow .u8 (zr 32)) 23)).setRow (w3a.heap.size) (irow .u8 P0)).setRow (w3a.heap.size + 1) (irow .u8 P1)) (w3a.heap.size + 1 + 1) _ (irow .u8 P2) _ _ yc312
  have hbF : Below w3a.heap.size w3a ((((((w3a.alloc (.cells (irow .u8 (zr 32)) 23)).alloc (.cells (irow .u8 (zr 32)) 23)).alloc (.cells (irow .u8 (zr 32)) 23)).setRow (w3a.heap.size) (irow .u8 P0)).setRow (w3a.heap.size + 1) (irow .u8 P1)).setRow (w3a.heap.size + 1 + 1) (irow .u8 P2)) := (below_setRow (below_setRow (below_setRow ((((Below.refl _ _).alloc (Nat.le_refl _) _).alloc (by simp) _).alloc (by simp; omega) _) (show w3a.heap.size ≤ w3a.heap.size by omega) (irow .u8 P0)) (show w3a.heap.size ≤ w3a.heap.size + 1 by omega) (irow .u8 P1)) (show w3a.heap.size ≤ w3a.heap.size + 1 + 1 by omega) (irow .u8 P2))
  go_wp2_with (first | (refine wpList_alloc rfl 23 rfl (irow .u8 (zr 32)) zkey ?_) | (refine wpList_store_row rfl 23 _ _ rfl (w3a.heap.size) (irow .u8 P0) rfl rfl 23 _ zc30 (infok8 _ p0) (fit32 _ _ (zr_len 32) p0) (irow_one _ _) ?_; refine wpList_stay ?_) | fail)
  unfold WpStay
  go_wp2_with (first | (refine wpList_store_row rfl 23 _ _ rfl (w3a.heap.size + 1) (irow .u8 P1) rfl rfl 23 _ yc301 (infok8 _ p1) (fit32 _ _ (zr_len 32) p1) (irow_one _ _) ?_; refine wpList_stay ?_) | fail)
  unfold WpStay
  go_wp2_with (first | (refine wpList_store_row rfl 23 _ _ rfl (w3a.heap.size + 1 + 1) (irow .u8 P2) rfl rfl 23 _ yc312 (infok8 _ p2) (fit32 _ _ (zr_len 32) p2) (irow_one _ _) ?_; refine wpList_stay ?_) | fail)
  unfold WpStay
  replace R0 := keep hbF R0
  replace R1 := keep hbF R1
  replace yc010 := keep hbF yc010
  replace yc011 := keep hbF yc011
  replace yc110 := keep hbF yc110
  replace yc111 := keep hbF yc111
  replace yc220 := keep hbF yc220
  replace yc221 := keep hbF yc221
  replace yc222 := keep hbF yc222
  replace hw := Below.after hw hbF
  clear hbF
  generalize ((((((w3a.alloc (.cells (irow .u8 (zr 32)) 23)).alloc (.cells (irow .u8 (zr 32)) 23)).alloc (.cells (irow .u8 (zr 32)) 23)).setRow (w3a.heap.size) (irow .u8 P0)).setRow (w3a.heap.size + 1) (irow .u8 P1)).setRow (w3a.heap.size + 1 + 1) (irow .u8 P2)) = w3b at *
  clear zc30 zc31 zc32 yc300 yc301 yc302 yc310 yc311 yc312
  generalize hg3 : w3a.heap.size = g3 at *
  clear hg3
  go_wp2_with (first | (refine wpList_load_want rfl 23 _ rfl (w.heap.size) rfl 23 (irow .u8 a) (0, 0) _ R0 Tryd.underlying23 rfl (infok8 _ hal) ?_) | (refine wpList_load_want rfl 23 _ rfl (w.heap.size + 1) rfl 23 (irow .u8 b) (0, 0) _ R1 Tryd.underlying23 rfl (infok8 _ hbl) ?_) | (refine wpList_load_want rfl 23 _ rfl (g0) rfl 23 (irow .u8 A2) (0, 0) _ yc010 Tryd.underlying23 rfl (infok8 _ l2) ?_) | (refine wpList_load_want rfl 23 _ rfl (g0 + 1) rfl 23 (irow .u8 A1) (0, 0) _ yc011 Tryd.underlying23 rfl (infok8 _ l1) ?_) | (refine wpList_load_want rfl 23 _ rfl (g1) rfl 23 (irow .u8 A2) (0, 0) _ yc110 Tryd.underlying23 rfl (infok8 _ l2) ?_) | (refine wpList_load_want rfl 23 _ rfl (g1 + 1) rfl 23 (irow .u8 A1) (0, 0) _ yc111 Tryd.underlying23 rfl (infok8 _ l1) ?_) | (refine wpList_load_want rfl 23 _ rfl (g2) rfl 23 (irow .u8 P0) (0, 0) _ yc220 Tryd.underlying23 rfl (infok8 _ p0) ?_) | (refine wpList_load_want rfl 23 _ rfl (g2 + 1) rfl 23 (irow .u8 P1) (0, 0) _ yc221 Tryd.underlying23 rfl (infok8 _ p1) ?_) | (refine wpList_load_want rfl 23 _ rfl (g2 + 1 + 1) rfl 23 (irow .u8 P2) (0, 0) _ yc222 Tryd.underlying23 rfl (infok8 _ p2) ?_) | (refine wpList_load_want rfl 23 _ rfl (g3) rfl 23 (irow .u8 P0) (0, 0) _ yc320 Tryd.underlying23 rfl (infok8 _ p0) ?_) | (refine wpList_load_want rfl 23 _ rfl (g3 + 1) rfl 23 (irow .u8 P1) (0, 0) _ yc321 Tryd.underlying23 rfl (infok8 _ p1) ?_) | (refine wpList_load_want rfl 23 _ rfl (g3 + 1 + 1) rfl 23 (irow .u8 P2) (0, 0) _ yc322 Tryd.underlying23 rfl (infok8 _ p2) ?_) | fail)
  refine (cM w3b hw).mono ?_
  rintro e_ w4a ⟨rfl, hb⟩
  replace R0 := keep hb R0
  replace R1 := keep hb R1
  replace yc010 := keep hb yc010
  replace yc011 := keep hb yc011
  replace yc110 := keep hb yc110
  replace yc111 := keep hb yc111
  replace yc220 := keep hb yc220
  replace yc221 := keep hb yc221
  replace yc222 := keep hb yc222
  replace yc320 := keep hb yc320
  replace yc321 := keep hb yc321
  replace yc322 := keep hb yc322
  replace hw := Below.after hw hb
  clear hb
  have lt4_R0 := lt_of_row R0
  have zc40 := hp2_0 w4a (.cells (irow .u8 (zr 32)) 23) (.cells (irow .u8 (zr 16)) 29)
  have zc41 := hp2_1 w4a (.cells (irow .u8 (zr 32)) 23) (.cells (irow .u8 (zr 16)) 29)
  have yc400 := setRow_heap ((w4a.alloc (.cells (irow .u8 (zr 32)) 23)).alloc (.cells (irow .u8 (zr 16)) 29)) (w4a.heap.size) _ (irow .u8 M0) _ _ zc40
  have yc401 := (setRow_other ((w4a.alloc (.cells (irow .u8 (zr 32)) 23)).alloc (.cells (irow .u8 (zr 16)) 29)) (w4a.heap.size) (w4a.heap.size + 1) (irow .u8 M0) (by omega)).trans zc41
  have yc410 := (setRow_other (((w4a.alloc (.cells (irow .u8 (zr 32)) 23)).alloc (.cells (irow .u8 (zr 16)) 29)).setRow (w4a.heap.size) (irow .u8 M0)) (w4a.heap.size + 1) (w4a.heap.size) (irow .u8 M1) (by omega)).trans yc400
  have yc411 := setRow_heap (((w4a.alloc (.cells (irow .u8 (zr 32)) 23)).alloc (.cells (irow .u8 (zr 16)) 29)).setRow (w4a.heap.size) (irow .u8 M0)) (w4a.heap.size + 1) _ (irow .u8 M1) _ _ yc401
  have hbF : Below w4a.heap.size w4a ((((w4a.alloc (.cells (irow .u8 (zr 32)) 23)).alloc (.cells (irow .u8 (zr 16)) 29)).setRow (w4a.heap.size) (irow .u8 M0)).setRow (w4a.heap.size + 1) (irow .u8 M1)) := (below_setRow (below_setRow (((Below.refl _ _).alloc (Nat.le_refl _) _).alloc (by simp) _) (show w4a.heap.size ≤ w4a.heap.size by omega) (irow .u8 M0)) (show w4a.heap.size ≤ w4a.heap.size + 1 by omega) (irow .u8 M1))
  go_wp2_with (first | (refine wpList_alloc rfl 23 rfl (irow .u8 (zr 32)) zkey ?_) | (refine wpList_alloc rfl 29 rfl (irow .u8 (zr 16)) zno ?_) | (refine wpList_store_row rfl 23 _ _ rfl (w4a.heap.size) (irow .u8 M0) rfl rfl 23 _ zc40 (infok8 _ m0) (fit32 _ _ (zr_len 32) m0) (irow_one _ _) ?_; refine wpList_stay ?_) | fail)
  unfold WpStay
  go_wp2_with (first | (refine wpList_store_row rfl 29 _ _ rfl (w4a.heap.size + 1) (irow .u8 M1) rfl rfl 29 _ yc401 (infoN _ m1) (fit16 _ _ (zr_len 16) m1) (irow_one _ _) ?_; refine wpList_stay ?_) | fail)
  unfold WpStay
  replace R0 := keep hbF R0
  replace R1 := keep hbF R1
  replace yc010 := keep hbF yc010
  replace yc011 := keep hbF yc011
  replace yc110 := keep hbF yc110
  replace yc111 := keep hbF yc111
  replace yc220 := keep hbF yc220
  replace yc221 := keep hbF yc221
  replace yc222 := keep hbF yc222
  replace yc320 := keep hbF yc320
  replace yc321 := keep hbF yc321
  replace yc322 := keep hbF yc322
  replace hw := Below.after hw hbF
  clear hbF
  generalize ((((w4a.alloc (.cells (irow .u8 (zr 32)) 23)).alloc (.cells (irow .u8 (zr 16)) 29)).setRow (w4a.heap.size) (irow .u8 M0)).setRow (w4a.heap.size + 1) (irow .u8 M1)) = w4b at *
  clear zc40 zc41 yc400 yc401
  generalize hg4 : w4a.heap.size = g4 at *
  clear hg4
  go_wp2_with (first | (refine wpList_load_want rfl 23 _ rfl (w.heap.size) rfl 23 (irow .u8 a) (0, 0) _ R0 Tryd.underlying23 rfl (infok8 _ hal) ?_) | (refine wpList_load_want rfl 23 _ rfl (w.heap.size + 1) rfl 23 (irow .u8 b) (0, 0) _ R1 Tryd.underlying23 rfl (infok8 _ hbl) ?_) | (refine wpList_load_want rfl 23 _ rfl (g0) rfl 23 (irow .u8 A2) (0, 0) _ yc010 Tryd.underlying23 rfl (infok8 _ l2) ?_) | (refine wpList_load_want rfl 23 _ rfl (g0 + 1) rfl 23 (irow .u8 A1) (0, 0) _ yc011 Tryd.underlying23 rfl (infok8 _ l1) ?_) | (refine wpList_load_want rfl 23 _ rfl (g1) rfl 23 (irow .u8 A2) (0, 0) _ yc110 Tryd.underlying23 rfl (infok8 _ l2) ?_) | (refine wpList_load_want rfl 23 _ rfl (g1 + 1) rfl 23 (irow .u8 A1) (0, 0) _ yc111 Tryd.underlying23 rfl (infok8 _ l1) ?_) | (refine wpList_load_want rfl 23 _ rfl (g2) rfl 23 (irow .u8 P0) (0, 0) _ yc220 Tryd.underlying23 rfl (infok8 _ p0) ?_) | (refine wpList_load_want rfl 23 _ rfl (g2 + 1) rfl 23 (irow .u8 P1) (0, 0) _ yc221 Tryd.underlying23 rfl (infok8 _ p1) ?_) | (refine wpList_load_want rfl 23 _ rfl (g2 + 1 + 1) rfl 23 (irow .u8 P2) (0, 0) _ yc222 Tryd.underlying23 rfl (infok8 _ p2) ?_) | (refine wpList_load_want rfl 23 _ rfl (g3) rfl 23 (irow .u8 P0) (0, 0) _ yc320 Tryd.underlying23 rfl (infok8 _ p0) ?_) | (refine wpList_load_want rfl 23 _ rfl (g3 + 1) rfl 23 (irow .u8 P1) (0, 0) _ yc321 Tryd.underlying23 rfl (infok8 _ p1) ?_) | (refine wpList_load_want rfl 23 _ rfl (g3 + 1 + 1) rfl 23 (irow .u8 P2) (0, 0) _ yc322 Tryd.underlying23 rfl (infok8 _ p2) ?_) | (refine wpList_load_want rfl 23 _ rfl (g4) rfl 23 (irow .u8 M0) (0, 0) _ yc410 Tryd.underlying23 rfl (infok8 _ m0) ?_) | (refine wpList_load_want rfl 29 _ rfl (g4 + 1) rfl 29 (irow .u8 M1) (0, 0) _ yc411 Tryd.underlying29 rfl (infoN _ m1) ?_) | fail)
  refine (cN w4b).mono ?_
  rintro e_ w5a ⟨rfl, hb⟩
  replace R0 := keep hb R0
  replace R1 := keep hb R1
  replace yc010 := keep hb yc010
  replace yc011 := keep hb yc011
  replace yc110 := keep hb yc110
  replace yc111 := keep hb yc111
  replace yc220 := keep hb yc220
  replace yc221 := keep hb yc221
  replace yc222 := keep hb yc222
  replace yc320 := keep hb yc320
  replace yc321 := keep hb yc321
  replace yc322 := keep hb yc322
  replace yc410 := keep hb yc410
  replace yc411 := keep hb yc411
  replace hw := Below.after hw hb
  clear hb
  have lt5_R0 := lt_of_row R0
  have zc50 := hp2_0 w5a (.cells (irow .u8 (zr 32)) 23) (.cells (irow .u8 (zr 16)) 29)
  have zc51 := hp2_1 w5a (.cells (irow .u8 (zr 32)) 23) (.cells (irow .u8 (zr 16)) 29)
  have yc500 := setRow_heap ((w5a.alloc (.cells (irow .u8 (zr 32)) 23)).alloc (.cells (irow .u8 (zr 16)) 29)) (w5a.heap.size) _ (irow .u8 M0) _ _ zc50
  have yc501 := (setRow_other ((w5a.alloc (.cells (irow .u8 (zr 32)) 23)).alloc (.cells (irow .u8 (zr 16)) 29)) (w5a.heap.size) (w5a.heap.size + 1) (irow .u8 M0) (by omega)).trans zc51
  have yc510 := (setRow_other (((w5a.alloc (.cells (irow .u8 (zr 32)) 23)).alloc (.cells (irow .u8 (zr 16)) 29)).setRow (w5a.heap.size) (irow .u8 M0)) (w5a.heap.size + 1) (w5a.heap.size) (irow .u8 M1) (by omega)).trans yc500
  have yc511 := setRow_heap (((w5a.alloc (.cells (irow .u8 (zr 32)) 23)).alloc (.cells (irow .u8 (zr 16)) 29)).setRow (w5a.heap.size) (irow .u8 M0)) (w5a.heap.size + 1) _ (irow .u8 M1) _ _ yc501
  have hbF : Below w5a.heap.size w5a ((((w5a.alloc (.cells (irow .u8 (zr 32)) 23)).alloc (.cells (irow .u8 (zr 16)) 29)).setRow (w5a.heap.size) (irow .u8 M0)).setRow (w5a.heap.size + 1) (irow .u8 M1)) := (below_setRow (below_setRow (((Below.refl _ _).alloc (Nat.le_refl _) _).alloc (by simp) _) (show w5a.heap.size ≤ w5a.heap.size by omega) (irow .u8 M0)) (show w5a.heap.size ≤ w5a.heap.size + 1 by omega) (irow .u8 M1))
  go_wp2_with (first | (refine wpList_alloc rfl 23 rfl (irow .u8 (zr 32)) zkey ?_) | (refine wpList_alloc rfl 29 rfl (irow .u8 (zr 16)) zno ?_) | (refine wpList_store_row rfl 23 _ _ rfl (w5a.heap.size) (irow .u8 M0) rfl rfl 23 _ zc50 (infok8 _ m0) (fit32 _ _ (zr_len 32) m0) (irow_one _ _) ?_; refine wpList_stay ?_) | fail)
  unfold WpStay
  go_wp2_with (first | (refine wpList_store_row rfl 29 _ _ rfl (w5a.heap.size + 1) (irow .u8 M1) rfl rfl 29 _ yc501 (infoN _ m1) (fit16 _ _ (zr_len 16) m1) (irow_one _ _) ?_; refine wpList_stay ?_) | fail)
  unfold WpStay
  replace R0 := keep hbF R0
  replace R1 := keep hbF R1
  replace yc010 := keep hbF yc010
  replace yc011 := keep hbF yc011
  replace yc110 := keep hbF yc110
  replace yc111 := keep hbF yc111
  replace yc220 := keep hbF yc220
  replace yc221 := keep hbF yc221
  replace yc222 := keep hbF yc222
  replace yc320 := keep hbF yc320
  replace yc321 := keep hbF yc321
  replace yc322 := keep hbF yc322
  replace yc410 := keep hbF yc410
  replace yc411 := keep hbF yc411
  replace hw := Below.after hw hbF
  clear hbF
  generalize ((((w5a.alloc (.cells (irow .u8 (zr 32)) 23)).alloc (.cells (irow .u8 (zr 16)) 29)).setRow (w5a.heap.size) (irow .u8 M0)).setRow (w5a.heap.size + 1) (irow .u8 M1)) = w5b at *
  clear zc50 zc51 yc500 yc501
  generalize hg5 : w5a.heap.size = g5 at *
  clear hg5
  go_wp2_with (first | (refine wpList_load_want rfl 23 _ rfl (g0) rfl 23 (irow .u8 A2) (0, 0) _ yc010 Tryd.underlying23 rfl (infok8 _ l2) ?_) | (refine wpList_load_want rfl 23 _ rfl (g0 + 1) rfl 23 (irow .u8 A1) (0, 0) _ yc011 Tryd.underlying23 rfl (infok8 _ l1) ?_) | (refine wpList_load_want rfl 23 _ rfl (g1) rfl 23 (irow .u8 A2) (0, 0) _ yc110 Tryd.underlying23 rfl (infok8 _ l2) ?_) | (refine wpList_load_want rfl 23 _ rfl (g1 + 1) rfl 23 (irow .u8 A1) (0, 0) _ yc111 Tryd.underlying23 rfl (infok8 _ l1) ?_) | (refine wpList_load_want rfl 23 _ rfl (g2) rfl 23 (irow .u8 P0) (0, 0) _ yc220 Tryd.underlying23 rfl (infok8 _ p0) ?_) | (refine wpList_load_want rfl 23 _ rfl (g2 + 1) rfl 23 (irow .u8 P1) (0, 0) _ yc221 Tryd.underlying23 rfl (infok8 _ p1) ?_) | (refine wpList_load_want rfl 23 _ rfl (g2 + 1 + 1) rfl 23 (irow .u8 P2) (0, 0) _ yc222 Tryd.underlying23 rfl (infok8 _ p2) ?_) | (refine wpList_load_want rfl 23 _ rfl (g3) rfl 23 (irow .u8 P0) (0, 0) _ yc320 Tryd.underlying23 rfl (infok8 _ p0) ?_) | (refine wpList_load_want rfl 23 _ rfl (g3 + 1) rfl 23 (irow .u8 P1) (0, 0) _ yc321 Tryd.underlying23 rfl (infok8 _ p1) ?_) | (refine wpList_load_want rfl 23 _ rfl (g3 + 1 + 1) rfl 23 (irow .u8 P2) (0, 0) _ yc322 Tryd.underlying23 rfl (infok8 _ p2) ?_) | (refine wpList_load_want rfl 23 _ rfl (g4) rfl 23 (irow .u8 M0) (0, 0) _ yc410 Tryd.underlying23 rfl (infok8 _ m0) ?_) | (refine wpList_load_want rfl 29 _ rfl (g4 + 1) rfl 29 (irow .u8 M1) (0, 0) _ yc411 Tryd.underlying29 rfl (infoN _ m1) ?_) | (refine wpList_load_want rfl 23 _ rfl (g5) rfl 23 (irow .u8 M0) (0, 0) _ yc510 Tryd.underlying23 rfl (infok8 _ m0) ?_) | (refine wpList_load_want rfl 29 _ rfl (g5 + 1) rfl 29 (irow .u8 M1) (0, 0) _ yc511 Tryd.underlying29 rfl (infoN _ m1) ?_) | fail)
  go_ret
  exact ⟨rfl, hw⟩
theorem makings_any (a b : List Int) (hal : a.length = 32) (hbl : b.length = 32) (haz : ∀ z ∈ a, 0 ≤ z ∧ z < 256) (hbz : ∀ z ∈ b, 0 ≤ z ∧ z < 256) (w : World) (hS : Sta w) (hK : Kon w) : Calls Tryd.prog 3 #[.agg (irow .u8 a), .agg (irow .u8 b)] w fun e w' => e = .returned (.bool true) ∧ Below w.heap.size w w' :=
  makings_aux a b (hm a [2]) (hm a [1]) (pt (rts a b) 0 32) (pt (rts a b) 32 32) (pt (rts a b) 64 32) (pt (mss a) 0 32) (pt (mss a) 32 16) hal hbl (hm_len a [2]) (hm_len a [1]) (pt_len _ _ _ (by rw [rts_len]; decide)) (pt_len _ _ _ (by rw [rts_len]; decide)) (pt_len _ _ _ (by rw [rts_len]; decide)) (pt_len _ _ _ (by rw [mss_len]; decide)) (pt_len _ _ _ (by rw [mss_len]; decide)) w
    (fun V h => a_Step a hal haz V (hS.below h) (hK.below h)) (fun V => r_Step a hal haz V) (fun V h => a_Root a b hal hbl haz hbz V (hS.below h) (hK.below h)) (fun V => r_Root a b hal hbl haz hbz V) (fun V h => a_Message a hal haz V (hS.below h) (hK.below h)) (fun V => r_Message a hal haz V)

end Go.Proofs.YtmflfdedhbnfnaaDoor

namespace Go.Proofs.YtmflfdedhbnfnaaDoor
set_option maxRecDepth 100000
open Go Go.RowKit Go.Sort
attribute [local go_sem] setCell_drewN alloc_drewN

/-- All blocks but one have stayed. -/
structure But (g : Nat) (w w' : World) : Prop where
  os : w'.os = w.os
  tape : w'.tape = w.tape
  output : w'.output = w.output
  size : w.heap.size ≤ w'.heap.size
  block : ∀ k, k < w.heap.size → k ≠ g → w'.heap[k]? = w.heap[k]?
theorem But.refl (g : Nat) (w : World) : But g w w := ⟨rfl, rfl, rfl, Nat.le_refl _, fun _ _ _ => rfl⟩
theorem But.trans {g : Nat} {a b c : World} (h : But g a b) (k : But g b c) : But g a c :=
  ⟨k.os.trans h.os, k.tape.trans h.tape, k.output.trans h.output, Nat.le_trans h.size k.size, fun i hi hg => (k.block i (Nat.lt_of_lt_of_le hi h.size) hg).trans (h.block i hi hg)⟩
theorem But.of {g : Nat} {w w' : World} (h : Below w.heap.size w w') : But g w w' := ⟨h.os, h.tape, h.output, h.size, fun k hk _ => h.block k hk⟩
theorem But.below {g B : Nat} {w w' : World} (h : But g w w') (h1 : B ≤ g) (h2 : B ≤ w.heap.size) : Below B w w' := ⟨h.os, h.tape, h.output, h.size, fun k hk => h.block k (by omega) (by omega)⟩
theorem But.after {g : Nat} {W w w' : World} (h0 : Below W.heap.size W w) (h1 : W.heap.size ≤ g) (h : But g w w') : Below W.heap.size W w' := h0.trans (h.below h1 h0.size)
theorem But.row {g : Nat} {w w' : World} (h : But g w w') {k : Nat} {o : Obj} (hk : w.heap[k]? = some o) (hg : k ≠ g) : w'.heap[k]? = some o :=
  (h.block k (Array.getElem?_eq_some_iff.1 hk).1 hg).trans hk
theorem But.set {g : Nat} (w : World) (v : Value) : But g w (w.setCell ⟨g, 0, none⟩ v) :=
  ⟨rfl, rfl, rfl, Nat.le_of_eq (by simp), fun k _ hk => heap_setCell_other w _ k v hk⟩
theorem results_slot_cell {P : Program} {fn : Func} {p q : Tmp} {ty : TypeId} (h : fn.results = #[.tmp q, .cell p ty]) (tmps : Array Value) (w : World) (g : Nat) (t : TypeId) (cs : Array Value) (fr : Nat × Nat) (d : TypeDesc)
    (hp : tmps.getD p undef = .pointer (some ⟨g, 0, none⟩)) (hg : w.heap[g]? = some (.cells cs t fr))
    (hu : P.underlying ty = some d) (hd : (match d with | .struct _ | .array _ _ => true | _ => false) = true) (hi : (P.info? ty).map (·.size) = some cs.size) :
    (results fn tmps).run P w = .ok (.tuple #[tmps.getD q undef, .agg cs]) w := by
  have hp' : tmps[p]?.getD undef = .pointer (some ⟨g, 0, none⟩) := by simpa using hp
  simp [results, h, hp', asAddr, run_loadVar_row w g t ty cs fr d hg hu hd hi]
theorem results_cell_slot {P : Program} {fn : Func} {p q : Tmp} {ty : TypeId} (h : fn.results = #[.cell p ty, .tmp q]) (tmps : Array Value) (w : World) (g : Nat) (t : TypeId) (cs : Array Value) (fr : Nat × Nat) (d : TypeDesc)
    (hp : tmps.getD p undef = .pointer (some ⟨g, 0, none⟩)) (hg : w.heap[g]? = some (.cells cs t fr))
    (hu : P.underlying ty = some d) (hd : (match d with | .struct _ | .array _ _ => true | _ => false) = true) (hi : (P.info? ty).map (·.size) = some cs.size) :
    (results fn tmps).run P w = .ok (.tuple #[.agg cs, tmps.getD q undef]) w := by
  have hp' : tmps[p]?.getD undef = .pointer (some ⟨g, 0, none⟩) := by simpa using hp
  simp [results, h, hp', asAddr, run_loadVar_row w g t ty cs fr d hg hu hd hi]
/-- A chain's cells. -/
def chc (key : List Int) (n : Int) : Array Value := ((key.map (Value.int .u8)) ++ [Value.int .u32 n]).toArray
theorem chc_size (key : List Int) (hkl : key.length = 32) (n : Int) : (chc key n).size = 33 := by simp [chc, hkl]
theorem chc_one (key : List Int) (n : Int) : (chc key n).all (·.oneCell') = true := by
  simp [chc, Value.oneCell']
theorem chc_key (key : List Int) (hkl : key.length = 32) (n : Int) : (chc key n).extract 0 (0 + (irow .u8 key).size) = (irow .u8 key) := by
  apply Array.ext'
  simp [chc, irow, hkl]
theorem chc_n (key : List Int) (hkl : key.length = 32) (n : Int) : (chc key n)[32]? = some (.int .u32 n) := by
  simp [chc, hkl]
theorem infoC (key : List Int) (hkl : key.length = 32) (n : Int) : (Tryd.prog.info? 75).map (·.size) = some (chc key n).size := by
  rw [chc_size key hkl]; kernel_rfl
theorem infoR (key : List Int) (hkl : key.length = 32) (n : Int) : (Tryd.prog.info? 38).map (·.size) = some (chc key n).size := by
  rw [chc_size key hkl]; kernel_rfl
theorem ovw_mid : ∀ (c pre a b : List Value), a.length = c.length → ovw (pre ++ (a ++ b)).toArray pre.length c = (pre ++ (c ++ b)).toArray
  | [], pre, a, b, h => by
    obtain rfl : a = [] := List.length_eq_zero_iff.1 h
    rfl
  | v :: r, pre, [], b, h => by simp at h
  | v :: r, pre, x :: a, b, h => by
    have e : (pre ++ (x :: a ++ b)).toArray.setIfInBounds pre.length v = (pre ++ [v] ++ (a ++ b)).toArray := by simp
    have i := ovw_mid r (pre ++ [v]) a b (by simpa using h)
    rw [ovw, e]
    simp only [List.length_append, List.length_cons, List.length_nil, List.append_assoc] at i ⊢
    exact i
theorem chc_setk (key k2 : List Int) (hkl : key.length = 32) (h2 : k2.length = 32) (n : Int) : ovw (chc key n) 0 (irow .u8 k2).toList = chc k2 n := ovw_mid (k2.map (Value.int .u8)) [] (key.map (Value.int .u8)) [.int .u32 n] (by simp [hkl, h2])
theorem len32 (l : List Int) (h : l.length = 32) : ∃ x0 x1 x2 x3 x4 x5 x6 x7 x8 x9 x10 x11 x12 x13 x14 x15 x16 x17 x18 x19 x20 x21 x22 x23 x24 x25 x26 x27 x28 x29 x30 x31, l = [x0, x1, x2, x3, x4, x5, x6, x7, x8, x9, x10, x11, x12, x13, x14, x15, x16, x17, x18, x19, x20, x21, x22, x23, x24, x25, x26, x27, x28, x29, x30, x31] := by
  match l, h with
  | [x0, x1, x2, x3, x4, x5, x6, x7, x8, x9, x10, x11, x12, x13, x14, x15, x16, x17, x18, x19, x20, x21, x22, x23, x24, x25, x26, x27, x28, x29, x30, x31], _ => exact ⟨x0, x1, x2, x3, x4, x5, x6, x7, x8, x9, x10, x11, x12, x13, x14, x15, x16, x17, x18, x19, x20, x21, x22, x23, x24, x25, x26, x27, x28, x29, x30, x31, rfl⟩
theorem chc_setn (key : List Int) (hkl : key.length = 32) (n m : Int) : (chc key n).setIfInBounds 32 (.int .u32 m) = chc key m := by
  apply Array.ext'
  simp [chc, hkl]
theorem builtC (key : List Int) (hkl : key.length = 32) (n : Int) : Tryd.prog.built 75 [(0, .agg (irow .u8 key)), (1, .int .u32 n)] = some (chc key n) := by
  obtain ⟨x0, x1, x2, x3, x4, x5, x6, x7, x8, x9, x10, x11, x12, x13, x14, x15, x16, x17, x18, x19, x20, x21, x22, x23, x24, x25, x26, x27, x28, x29, x30, x31, rfl⟩ := len32 key hkl
  kernel_rfl
theorem builtR (key : List Int) (hkl : key.length = 32) (n : Int) : Tryd.prog.built 38 [(0, .agg (irow .u8 key)), (1, .int .u32 n)] = some (chc key n) := by
  obtain ⟨x0, x1, x2, x3, x4, x5, x6, x7, x8, x9, x10, x11, x12, x13, x14, x15, x16, x17, x18, x19, x20, x21, x22, x23, x24, x25, x26, x27, x28, x29, x30, x31, rfl⟩ := len32 key hkl
  kernel_rfl
theorem zchc (W : World) : (Instr.alloc 75 true (.tuple #[])).run Tryd.prog W = .ok (.pointer (some ⟨W.heap.size, 0, none⟩)) (W.alloc (.cells (chc (zr 32) 0) 75)) := by kernel_rfl
theorem zchr (W : World) : (Instr.alloc 38 true (.tuple #[])).run Tryd.prog W = .ok (.pointer (some ⟨W.heap.size, 0, none⟩)) (W.alloc (.cells (chc (zr 32) 0) 38)) := by kernel_rfl
theorem bC (cs : Array Value) (W : World) : (Instr.box 75 (.agg cs)).run Tryd.prog W = .ok (.pointer (some ⟨W.heap.size, 0, none⟩)) (W.alloc (.cells cs 75)) := by kernel_rfl
theorem bR (cs : Array Value) (W : World) : (Instr.box 38 (.agg cs)).run Tryd.prog W = .ok (.pointer (some ⟨W.heap.size, 0, none⟩)) (W.alloc (.cells cs 38)) := by kernel_rfl
theorem cell_n {W : World} {g : Nat} (key : List Int) (hkl : key.length = 32) {n : Int} {t : TypeId} (h : W.heap[g]? = some (.cells (chc key n) t (0, 0))) : W.cell? ⟨g, 32, none⟩ = some (.int .u32 n) := by
  rw [cell_of_row W g 32 _ _ _ h, chc_n key hkl]
set_option maxRecDepth 100000 in
set_option maxHeartbeats 4000000 in
theorem a_New (key : List Int) (hkl : key.length = 32) (n : Int) (w : World) : Calls Tryd.prog 14 #[.agg (irow .u8 key), .int .u32 n] w fun e w' => ∃ g, e = .returned (.pointer (some ⟨g, 0, none⟩)) ∧ w.heap.size ≤ g ∧ w'.heap[g]? = some (.cells (chc key n) 75 (0, 0)) ∧ Below w.heap.size w w' := by
  have R0 := hp1_0 w (.cells (irow .u8 key) 23)
  have hb := builtC key hkl n
  have RF := hp2_1 w (.cells (irow .u8 key) 23) (.cells (chc key n) 75)
  have hw : Below w.heap.size w ((w.alloc (.cells (irow .u8 key) 23)).alloc (.cells (chc key n) 75)) := ((Below.refl _ _).alloc (Nat.le_refl _) _).alloc (by simp) _
  go_enter Tryd.func14, Tryd.ntmps14
  go_wp2_with (first | (refine wpList_box rfl 23 _ rfl _ rfl (bK _) ?_) | (refine wpList_load_want rfl 23 _ rfl (w.heap.size) rfl 23 (irow .u8 key) (0, 0) _ R0 Tryd.underlying23 rfl (infok8 _ hkl) ?_) | (refine wpList_build_as rfl 75 _ rfl [(0, .agg (irow .u8 key)), (1, .int .u32 n)] rfl (chc key n) hb ?_) | (refine wpList_box rfl 75 _ rfl _ rfl (bC _) ?_) | fail)
  try simp only [size_alloc1, Act.put, List.setIfInBounds_toArray, List.set_cons_succ, List.set_cons_zero]
  go_ret
  exact ⟨_, rfl, Nat.le_succ _, RF, hw⟩
set_option maxRecDepth 100000 in
set_option maxHeartbeats 4000000 in
theorem a_Key (key : List Int) (hkl : key.length = 32) (n : Int) (w : World) (g : Nat) (rM : w.heap[g]? = some (.cells (chc key n) 75 (0, 0))) : Calls Tryd.prog 15 #[.pointer (some ⟨g, 0, none⟩)] w fun e w' => e = .returned (.agg (irow .u8 key)) ∧ Below w.heap.size w w' := by
  have Z := (.cells (irow .u8 (zr 32)) 23 : Obj)
  have R0 := hp1_0 w (.cells (irow .u8 (zr 32)) 23)
  have hba : Below w.heap.size w (w.alloc (.cells (irow .u8 (zr 32)) 23)) := (Below.refl _ _).alloc (Nat.le_refl _) _
  have r1 := keep hba rM
  go_enter Tryd.func15, Tryd.ntmps15
  go_wp2_with (first | (refine wpList_alloc rfl 23 rfl (irow .u8 (zr 32)) zkey ?_) | (refine wpList_load_part rfl 23 _ rfl (g) 0 rfl 75 (chc key n) (0, 0) (irow .u8 key) _ r1 (chc_key _ hkl _) Tryd.underlying23 rfl (infok8 _ hkl) ?_) | (refine wpList_store_row rfl 23 _ _ rfl (w.heap.size) (irow .u8 key) rfl rfl 23 _ R0 (infok8 _ hkl) (fit32 _ _ (zr_len 32) hkl) (irow_one _ _) ?_) | fail)
  exact bodyPost_ret (results_cell_row Tryd.results15 _ _ w.heap.size _ _ _ _ rfl (setRow_heap _ w.heap.size _ (irow .u8 key) _ _ R0) Tryd.underlying23 rfl (infok8 _ hkl)) rfl ⟨rfl, below_setRow hba (Nat.le_refl _) (irow .u8 key)⟩
set_option maxRecDepth 100000 in
set_option maxHeartbeats 4000000 in
theorem a_N (key : List Int) (hkl : key.length = 32) (n : Int) (w : World) (g : Nat) (rM : w.heap[g]? = some (.cells (chc key n) 75 (0, 0))) : Calls Tryd.prog 16 #[.pointer (some ⟨g, 0, none⟩)] w fun e w' => e = .returned (.int .u32 n) ∧ Below w.heap.size w w' := by
  have c0 := cell_n key hkl rM
  go_enter Tryd.func16, Tryd.ntmps16
  go_wp2_with (fail)
  go_ret
  exact ⟨rfl, Below.refl _ _⟩
set_option maxRecDepth 100000 in
set_option maxHeartbeats 4000000 in
theorem a_left (key : List Int) (hkl : key.length = 32) (n : Int) (hn0 : 0 ≤ n) (hn1 : n ≤ 4294967295) (w : World) (g : Nat) (rM : w.heap[g]? = some (.cells (chc key n) 75 (0, 0))) : Calls Tryd.prog 34 #[.pointer (some ⟨g, 0, none⟩)] w fun e w' => e = .returned (.int .i64 (4294967295 - n)) ∧ w' = w := by
  have c0 := cell_n key hkl rM
  go_enter Tryd.func34, Tryd.ntmps34
  go_wp2_with (fail)
  go_ret
  exact ⟨by go_num, rfl⟩
theorem but_row {g : Nat} {w w' : World} (h : But g w w') (k : Nat) (cs : Array Value) (hk : w.heap.size ≤ k ∨ k = g) : But g w (w'.setRow k cs) :=
  ⟨h.os, h.tape, h.output, by rw [setRow_size]; exact h.size, fun j hj hg => (setRow_other w' k j cs (by omega)).trans (h.block j hj hg)⟩
set_option maxRecDepth 100000 in
set_option maxHeartbeats 4000000 in
theorem a_step_aux (key A2 A1 : List Int) (hkl : key.length = 32) (l2 : A2.length = 32) (l1 : A1.length = 32) (n : Int) (hn0 : 0 ≤ n) (hn1 : n ≤ 4294967294) (w : World) (g : Nat) (rM : w.heap[g]? = some (.cells (chc key n) 75 (0, 0)))
    (cS : ∀ V, Below w.heap.size w V → Calls Tryd.prog 8 #[.agg (irow .u8 key)] V fun e w' => e = .returned (.tuple #[.agg (irow .u8 A2), .agg (irow .u8 A1)]) ∧ Below V.heap.size V w') :
    Calls Tryd.prog 35 #[.pointer (some ⟨g, 0, none⟩)] w fun e w' => e = .returned (.tuple #[.int .u32 n, .agg (irow .u8 A1)]) ∧ w'.heap[g]? = some (.cells (chc A2 (n + 1)) 75 (0, 0)) ∧ But g w w' := by
  have R0 := hp1_0 w (.cells (irow .u8 (zr 32)) 23)
  have hw : Below w.heap.size w (w.alloc (.cells (irow .u8 (zr 32)) 23)) := (Below.refl _ _).alloc (Nat.le_refl _) _
  have hgl := lt_of_row rM
  replace rM := keep hw rM
  have hl0 : w.heap.size < (w.alloc (.cells (irow .u8 (zr 32)) 23)).heap.size := lt_of_row R0
  go_enter Tryd.func35, Tryd.ntmps35
  go_wp2_with (first | (refine wpList_alloc rfl 23 rfl (irow .u8 (zr 32)) zkey ?_) | (refine wpList_load_part rfl 23 _ rfl (g) 0 rfl 75 (chc key n) (0, 0) (irow .u8 key) _ rM (chc_key _ hkl _) Tryd.underlying23 rfl (infok8 _ hkl) ?_) | fail)
  try simp only [size_alloc1, Act.put, List.setIfInBounds_toArray, List.set_cons_succ, List.set_cons_zero]
  generalize w.alloc (.cells (irow .u8 (zr 32)) 23) = w0 at *
  refine (cS w0 hw).mono ?_
  rintro e_ w1 ⟨rfl, hb⟩
  have hs1 := hb.size
  replace R0 := keep hb R0
  replace rM := keep hb rM
  replace hw := Below.after hw hb
  clear hb cS
  have zc0 := hp2_0 w1 (.cells (irow .u8 (zr 32)) 23) (.cells (irow .u8 (zr 32)) 23)
  have zc1 := hp2_1 w1 (.cells (irow .u8 (zr 32)) 23) (.cells (irow .u8 (zr 32)) 23)
  have yc00 := setRow_heap ((w1.alloc (.cells (irow .u8 (zr 32)) 23)).alloc (.cells (irow .u8 (zr 32)) 23)) (w1.heap.size) _ (irow .u8 A2) _ _ zc0
  have yc01 := (setRow_other ((w1.alloc (.cells (irow .u8 (zr 32)) 23)).alloc (.cells (irow .u8 (zr 32)) 23)) (w1.heap.size) (w1.heap.size + 1) (irow .u8 A2) (by omega)).trans zc1
  have yc10 := (setRow_other (((w1.alloc (.cells (irow .u8 (zr 32)) 23)).alloc (.cells (irow .u8 (zr 32)) 23)).setRow (w1.heap.size) (irow .u8 A2)) (w1.heap.size + 1) (w1.heap.size) (irow .u8 A1) (by omega)).trans yc00
  have yc11 := setRow_heap (((w1.alloc (.cells (irow .u8 (zr 32)) 23)).alloc (.cells (irow .u8 (zr 32)) 23)).setRow (w1.heap.size) (irow .u8 A2)) (w1.heap.size + 1) _ (irow .u8 A1) _ _ yc01
  have hbF : Below w1.heap.size w1 ((((w1.alloc (.cells (irow .u8 (zr 32)) 23)).alloc (.cells (irow .u8 (zr 32)) 23)).setRow (w1.heap.size) (irow .u8 A2)).setRow (w1.heap.size + 1) (irow .u8 A1)) := (below_setRow (below_setRow (((Below.refl _ _).alloc (Nat.le_refl _) _).alloc (by simp) _) (show w1.heap.size ≤ w1.heap.size by omega) (irow .u8 A2)) (show w1.heap.size ≤ w1.heap.size + 1 by omega) (irow .u8 A1))
  go_wp2_with (first | (refine wpList_alloc rfl 23 rfl (irow .u8 (zr 32)) zkey ?_) | (refine wpList_store_row rfl 23 _ _ rfl (w1.heap.size) (irow .u8 A2) rfl rfl 23 _ zc0 (infok8 _ l2) (fit32 _ _ (zr_len 32) l2) (irow_one _ _) ?_; refine wpList_stay ?_) | fail)
  unfold WpStay
  go_wp2_with (first | (refine wpList_store_row rfl 23 _ _ rfl (w1.heap.size + 1) (irow .u8 A1) rfl rfl 23 _ yc01 (infok8 _ l1) (fit32 _ _ (zr_len 32) l1) (irow_one _ _) ?_; refine wpList_stay ?_) | fail)
  unfold WpStay
  replace R0 := keep hbF R0
  replace rM := keep hbF rM
  replace hw := Below.after hw hbF
  clear hbF zc0 zc1 yc00 yc01
  generalize ((((w1.alloc (.cells (irow .u8 (zr 32)) 23)).alloc (.cells (irow .u8 (zr 32)) 23)).setRow (w1.heap.size) (irow .u8 A2)).setRow (w1.heap.size + 1) (irow .u8 A1)) = w2 at *
  generalize w1.heap.size = g1 at *
  have c0 := cell_n key hkl rM
  have k0 := setRow_heap w2 g _ (chc A2 n) _ _ rM
  have c3 := cell_n A2 l2 k0
  have f3 : (w2.setRow g (chc A2 n)).frozen? ⟨g, 32, none⟩ = false := by simp [World.frozen?, k0]
  go_wp2_with (first | (refine wpList_load_want rfl 23 _ rfl (g1) rfl 23 (irow .u8 A2) (0, 0) _ yc10 Tryd.underlying23 rfl (infok8 _ l2) ?_) | (refine wpList_store_part rfl 23 _ _ rfl g 0 (irow .u8 A2) rfl rfl 75 _ (chc A2 n) rM (by rw [irow_size, l2, chc_size key hkl]; decide) (chc_setk key A2 hkl l2 n) (infok8 _ l2) (irow_one _ _) ?_; refine wpList_stay ?_) | fail)
  unfold WpStay
  go_wp2_with (fail)
  have e4 := setCell_eq_setRow (w2.setRow g (chc A2 n)) g 32 _ _ _ (.int .u32 (n + 1)) k0
  rw [chc_setn A2 l2] at e4
  rw [e4]
  have b4 := but_row (but_row (But.of hw) g (chc A2 n) (.inr rfl)) g (chc A2 (n + 1)) (.inr rfl)
  have r4 := setRow_heap _ g _ (chc A2 (n + 1)) _ _ k0
  replace R0 := (setRow_other (w2.setRow g (chc A2 n)) g w.heap.size (chc A2 (n + 1)) (by omega)).trans ((setRow_other w2 g w.heap.size (chc A2 n) (by omega)).trans R0)
  replace yc11 := (setRow_other (w2.setRow g (chc A2 n)) g (g1 + 1) (chc A2 (n + 1)) (by omega)).trans ((setRow_other w2 g (g1 + 1) (chc A2 n) (by omega)).trans yc11)
  clear e4 c0 c3 f3 k0 rM yc10
  generalize (w2.setRow g (chc A2 n)).setRow g (chc A2 (n + 1)) = w4 at *
  clear hw
  have hw := b4
  clear b4
  have hbd : Below w4.heap.size w4 w4.drew := below_drN (Below.refl _ _) 1
  replace R0 := keep hbd R0
  replace yc11 := keep hbd yc11
  replace r4 := keep hbd r4
  replace hw := But.trans hw (But.of hbd)
  clear hbd
  refine wp_region_noPanic ?_
  refine wp_region_held (S := fun W => W.heap[g1 + 1]? = some (.cells (irow .u8 A1) 23 (0, 0))) (by kernel_rfl) ?_
  change wpAnyH _ _ _ _ _ _ _ _ (World.drew _)
  generalize w4.drew = w5 at *
  refine wpAnyH_take (i := 0) (v := ?v1) rfl (by kernel_rfl) (by kernel_rfl) (by kernel_rfl) (fun _ _ _ h => h) (Or.inl ⟨by rfl, ?y1⟩) (yc11) ?r1
  case y1 =>
    intro w_ hS_
    go_simp
    try with_reducible rfl
  simp only [Act.put, List.getElem_toArray, List.getElem_cons_zero, List.setIfInBounds_toArray, List.set_cons_succ, List.set_cons_zero]
  refine wpAnyH_take (i := 1) (v := .agg (irow .u8 A1)) rfl (by kernel_rfl) (by kernel_rfl) (by kernel_rfl) (fun _ _ _ h => h) (Or.inl ⟨by rfl, ?y2⟩) (yc11) ?r2
  case y2 =>
    intro w_ hS_
    simp only [List.getElem_toArray, List.getElem_cons_succ, List.getElem_cons_zero]
    exact run_load_part 23 _ (by rfl) (g1 + 1) 0 (by rfl) 23 (irow .u8 A1) (0, 0) (irow .u8 A1) _ (hS_) (all_row _) Tryd.underlying23 rfl (infok8 _ l1)
  simp only [Act.put, List.getElem_toArray, List.getElem_cons_succ, List.getElem_cons_zero, List.setIfInBounds_toArray, List.set_cons_succ, List.set_cons_zero]
  refine wpAnyH_take (i := 2) (v := ?v3) rfl (by kernel_rfl) (by kernel_rfl) (by kernel_rfl) (fun _ _ _ h => h) (Or.inl ⟨by rfl, ?y3⟩) (yc11) ?r3
  case y3 =>
    intro w_ hS_
    go_simp
    try with_reducible rfl
  simp only [Act.put, List.getElem_toArray, List.getElem_cons_succ, List.getElem_cons_zero, List.setIfInBounds_toArray, List.set_cons_succ, List.set_cons_zero]
  refine wpAnyH_one (k := 3) (fuel := 0) (by kernel_rfl) rfl (by kernel_rfl) (fun K_ hK_ => ?_)
  refine wp_store_row 23 _ _ rfl w.heap.size (irow .u8 A1) rfl rfl 23 _ R0 (infok8 _ l1) (fit32 _ _ (zr_len 32) l1) (irow_one _ _) ?_
  replace yc11 := (setRow_other w5 w.heap.size (g1 + 1) (irow .u8 A1) (by omega)).trans yc11
  replace r4 := (setRow_other w5 w.heap.size g (irow .u8 A1) (by omega)).trans r4
  replace R0 := setRow_heap w5 w.heap.size _ (irow .u8 A1) _ _ R0
  replace hw := but_row hw w.heap.size (irow .u8 A1) (.inl (Nat.le_refl _))
  refine hK_ _ _ (yc11) ?_
  simp only [Act.put]
  clear hK_
  generalize w5.setRow w.heap.size (irow .u8 A1) = w6 at *
  refine wpAnyH_done (by kernel_rfl) ?_ _
  refine NoPanic.normal ?_
  go_wp2
  exact bodyPost_ret (results_slot_cell Tryd.results35 _ _ w.heap.size _ _ _ _ rfl R0 Tryd.underlying23 rfl (infok8 _ l1)) rfl ⟨rfl, r4, hw⟩
theorem a_step (key : List Int) (hkl : key.length = 32) (hkz : ∀ z ∈ key, 0 ≤ z ∧ z < 256) (n : Int) (hn0 : 0 ≤ n) (hn1 : n ≤ 4294967294) (w : World) (hS : Sta w) (hK : Kon w) (g : Nat) (rM : w.heap[g]? = some (.cells (chc key n) 75 (0, 0))) :
    Calls Tryd.prog 35 #[.pointer (some ⟨g, 0, none⟩)] w fun e w' => e = .returned (.tuple #[.int .u32 n, .agg (irow .u8 (hm key [1]))]) ∧ w'.heap[g]? = some (.cells (chc (hm key [2]) (n + 1)) 75 (0, 0)) ∧ But g w w' :=
  a_step_aux key (hm key [2]) (hm key [1]) hkl (hm_len _ _) (hm_len _ _) n hn0 hn1 w g rM (fun V h => a_Step key hkl hkz V (hS.below h) (hK.below h))
theorem zbt11 : Tryd.prog.built 23 [] = some (irow .u8 (zr 32)) := by kernel_rfl
set_option maxRecDepth 100000 in
set_option maxHeartbeats 4000000 in
theorem a_Next_end (key : List Int) (hkl : key.length = 32) (w : World) (g : Nat) (rM : w.heap[g]? = some (.cells (chc key 4294967295) 75 (0, 0))) :
    Calls Tryd.prog 19 #[.pointer (some ⟨g, 0, none⟩)] w fun e w' => e = .returned (.tuple #[.agg (irow .u8 (zr 32)), .int .i64 110]) ∧ Below w.heap.size w w' := by
  have R0 := hp1_0 w (.cells (irow .u8 (zr 32)) 23)
  have hw : Below w.heap.size w (w.alloc (.cells (irow .u8 (zr 32)) 23)) := (Below.refl _ _).alloc (Nat.le_refl _) _
  replace rM := keep hw rM
  go_enter Tryd.func19, Tryd.ntmps19
  go_wp2_with (first | (refine wpList_alloc rfl 23 rfl (irow .u8 (zr 32)) zkey ?_) | fail)
  try simp only [size_alloc1, Act.put, List.setIfInBounds_toArray, List.set_cons_succ, List.set_cons_zero]
  generalize w.alloc (.cells (irow .u8 (zr 32)) 23) = w0 at *
  refine (a_left key hkl 4294967295 (by decide) (by decide) w0 g rM).mono ?_
  rintro e_ wL ⟨rfl, hwl⟩
  rw [hwl]
  clear hwl wL
  go_wp2_with (first | (refine wpList_build_as rfl 23 _ rfl [] rfl (irow .u8 (zr 32)) zbt11 ?_) | (refine wpList_store_row rfl 23 _ _ rfl (w.heap.size) (irow .u8 (zr 32)) rfl rfl 23 _ R0 (infok8 _ (zr_len 32)) rfl (irow_one _ _) ?_) | fail)
  exact bodyPost_ret (results_cell_slot Tryd.results19 _ _ w.heap.size _ _ _ _ rfl (setRow_heap _ w.heap.size _ (irow .u8 (zr 32)) _ _ R0) Tryd.underlying23 rfl (infok8 _ (zr_len 32))) rfl ⟨rfl, below_setRow hw (Nat.le_refl _) _⟩
set_option maxRecDepth 100000 in
set_option maxHeartbeats 4000000 in
theorem a_Next_aux (key A2 A1 : List Int) (hkl : key.length = 32) (l1 : A1.length = 32) (n : Int) (hn0 : 0 ≤ n) (hn1 : n ≤ 4294967294) (w : World) (g : Nat) (rM : w.heap[g]? = some (.cells (chc key n) 75 (0, 0)))
    (cS : ∀ V, Below w.heap.size w V → Calls Tryd.prog 35 #[.pointer (some ⟨g, 0, none⟩)] V fun e w' => e = .returned (.tuple #[.int .u32 n, .agg (irow .u8 A1)]) ∧ w'.heap[g]? = some (.cells (chc A2 (n + 1)) 75 (0, 0)) ∧ But g V w') :
    Calls Tryd.prog 19 #[.pointer (some ⟨g, 0, none⟩)] w fun e w' => e = .returned (.tuple #[.agg (irow .u8 A1), .int .i64 0]) ∧ w'.heap[g]? = some (.cells (chc A2 (n + 1)) 75 (0, 0)) ∧ But g w w' := by
  have R0 := hp1_0 w (.cells (irow .u8 (zr 32)) 23)
  have hw : Below w.heap.size w (w.alloc (.cells (irow .u8 (zr 32)) 23)) := (Below.refl _ _).alloc (Nat.le_refl _) _
  have hgl := lt_of_row rM
  replace rM := keep hw rM
  have hd : ((4294967295 - n) == 0) = false := by simp; omega
  have hd2 : decide (4294967295 - n = 0) = false := by simp; omega
  go_enter Tryd.func19, Tryd.ntmps19
  go_wp2_with (first | (refine wpList_alloc rfl 23 rfl (irow .u8 (zr 32)) zkey ?_) | fail)
  try simp only [size_alloc1, Act.put, List.setIfInBounds_toArray, List.set_cons_succ, List.set_cons_zero]
  generalize w.alloc (.cells (irow .u8 (zr 32)) 23) = w0 at *
  refine (a_left key hkl n hn0 (by omega) w0 g rM).mono ?_
  rintro e_ wL ⟨rfl, hwl⟩
  rw [hwl]
  clear hwl wL
  go_wp2_with (fail)
  refine (cS w0 hw).mono ?_
  rintro e_ w1 ⟨rfl, r1, hb⟩
  have lR := lt_of_row R0
  replace R0 := hb.row R0 (by omega)
  have hB := (But.of (g := g) hw).trans hb
  have hs0 := hw.size
  have hs1 := hb.size
  clear hb hd hd2 rM
  have zd0 := hp1_0 w1 (.cells (irow .u8 (zr 32)) 23)
  have yd00 := setRow_heap (w1.alloc (.cells (irow .u8 (zr 32)) 23)) (w1.heap.size) _ (irow .u8 A1) _ _ zd0
  have hbF : Below w1.heap.size w1 ((w1.alloc (.cells (irow .u8 (zr 32)) 23)).setRow (w1.heap.size) (irow .u8 A1)) := (below_setRow ((Below.refl _ _).alloc (Nat.le_refl _) _) (show w1.heap.size ≤ w1.heap.size by omega) (irow .u8 A1))
  have R0k := keep hbF R0
  have r1k := keep hbF r1
  have RF := setRow_heap ((w1.alloc (.cells (irow .u8 (zr 32)) 23)).setRow (w1.heap.size) (irow .u8 A1)) w.heap.size _ (irow .u8 A1) _ _ R0k
  have rF := (setRow_other ((w1.alloc (.cells (irow .u8 (zr 32)) 23)).setRow (w1.heap.size) (irow .u8 A1)) w.heap.size g (irow .u8 A1) (by omega)).trans r1k
  have BF := but_row (hB.trans (But.of hbF)) w.heap.size (irow .u8 A1) (.inl (Nat.le_refl _))
  go_wp2_with (first | (refine wpList_alloc rfl 23 rfl (irow .u8 (zr 32)) zkey ?_) | (refine wpList_store_row rfl 23 _ _ rfl (w1.heap.size) (irow .u8 A1) rfl rfl 23 _ zd0 (infok8 _ l1) (fit32 _ _ (zr_len 32) l1) (irow_one _ _) ?_; refine wpList_stay ?_) | fail)
  unfold WpStay
  generalize ((w1.alloc (.cells (irow .u8 (zr 32)) 23)).setRow (w1.heap.size) (irow .u8 A1)) = w3 at *
  go_wp2_with (first | (refine wpList_load_want rfl 23 _ rfl (w1.heap.size) rfl 23 (irow .u8 A1) (0, 0) _ yd00 Tryd.underlying23 rfl (infok8 _ l1) ?_) | (refine wpList_store_row rfl 23 _ _ rfl (w.heap.size) (irow .u8 A1) rfl rfl 23 _ R0k (infok8 _ l1) (fit32 _ _ (zr_len 32) l1) (irow_one _ _) ?_) | fail)
  exact bodyPost_ret (results_cell_slot Tryd.results19 _ _ w.heap.size _ _ _ _ rfl RF Tryd.underlying23 rfl (infok8 _ l1)) rfl ⟨rfl, rF, BF⟩
theorem a_Next (key : List Int) (hkl : key.length = 32) (hkz : ∀ z ∈ key, 0 ≤ z ∧ z < 256) (n : Int) (hn0 : 0 ≤ n) (hn1 : n ≤ 4294967294) (w : World) (hS : Sta w) (hK : Kon w) (g : Nat) (rM : w.heap[g]? = some (.cells (chc key n) 75 (0, 0))) :
    Calls Tryd.prog 19 #[.pointer (some ⟨g, 0, none⟩)] w fun e w' => e = .returned (.tuple #[.agg (irow .u8 (hm key [1])), .int .i64 0]) ∧ w'.heap[g]? = some (.cells (chc (hm key [2]) (n + 1)) 75 (0, 0)) ∧ But g w w' :=
  a_Next_aux key (hm key [2]) (hm key [1]) hkl (hm_len _ _) n hn0 hn1 w g rM (fun V h => a_step key hkl hkz n hn0 hn1 V (hS.below h) (hK.below h) g (keep h rM))

end Go.Proofs.YtmflfdedhbnfnaaDoor

namespace Go.Proofs.YtmflfdedhbnfnaaDoor
set_option maxRecDepth 100000
open Go Go.RowKit Go.Sort
attribute [local go_sem] setCell_drewN alloc_drewN

/-- The chain's key behind so many steps; the messages' keys. -/
def kat (key : List Int) : Nat → List Int
  | 0 => key
  | (i + 1) => hm (kat key i) [2]
def mat (key : List Int) (i : Nat) : List Int := hm (kat key i) [1]
theorem kat_len {key : List Int} (h : key.length = 32) : ∀ i, (kat key i).length = 32
  | 0 => h
  | (_ + 1) => hm_len _ _
theorem kat_bd {key : List Int} (h : ∀ z ∈ key, 0 ≤ z ∧ z < 256) : ∀ i, ∀ z ∈ kat key i, 0 ≤ z ∧ z < 256
  | 0 => h
  | (_ + 1) => hm_bd _ _
theorem mat_len (key : List Int) (i : Nat) : (mat key i).length = 32 := hm_len _ _
theorem mat_bd (key : List Int) (i : Nat) : ∀ z ∈ mat key i, 0 ≤ z ∧ z < 256 := hm_bd _ _
theorem kat_kat (key : List Int) (i : Nat) : ∀ j, kat (kat key i) j = kat key (i + j)
  | 0 => rfl
  | (j + 1) => by rw [kat, kat_kat key i j]; rfl
theorem mat_kat (key : List Int) (i j : Nat) : mat (kat key i) j = mat key (i + j) := by unfold mat; rw [kat_kat]
set_option maxRecDepth 100000 in
set_option maxHeartbeats 4000000 in
theorem a_steps1 (key : List Int) (hkl : key.length = 32) (hkz : ∀ z ∈ key, 0 ≤ z ∧ z < 256) (n : Int) (hn0 : 0 ≤ n) (cnt : Int) (m : Nat) (hc : cnt.toNat = m) (hm : n + (m : Int) ≤ 4294967295) (c cb sb l : Nat) (J Jx : Nat → World → Prop)
    (hJr : ∀ i A, J i A → Sta A ∧ Kon A ∧ A.heap[cb]? = some (.cells #[.int .i64 cnt] 2 (0, 0)) ∧ A.heap[sb]? = some (.cells #[.func (.func 35) #[.pointer (some ⟨c, 0, none⟩)] #[]] 78 (0, 0)) ∧ A.heap[c]? = some (.cells (chc (kat key i) (n + (i : Int))) 75 (0, 0)))
    (hY : ∀ (i : Nat) A C, i < m → J i A → But c A C → C.heap[c]? = some (.cells (chc (kat key (i + 1)) (n + (i : Int) + 1)) 75 (0, 0)) → YieldAt Fence.wide 2 Tryd.prog l #[.int .u32 (n + (i : Int)), .agg (irow .u8 (mat key i))] C fun e C' => (e = .returned (.bool true) ∧ J (i + 1) C') ∨ (e = .returned (.bool false) ∧ Jx (i + 1) C'))
    (w : World) (h0 : J 0 w) :
    Calls Tryd.prog 48 #[.func (.yield l) #[] #[], .pointer (some ⟨cb, 0, none⟩), .pointer (some ⟨sb, 0, none⟩)] w fun e w' => (∃ r, e = .returned r) ∧ (J m w' ∨ ∃ i, i < m ∧ Jx (i + 1) w') := by
  obtain ⟨_, _, r1, _, _⟩ := hJr _ _ h0
  have c1 : w.cell? ⟨cb, 0, none⟩ = some (.int .i64 cnt) := by rw [cell_of_row _ cb 0 _ _ _ r1]; rfl
  clear r1
  have eS := enters_of (P := Tryd.prog) Tryd.func35 (by kernel_rfl) rfl
  go_enter Tryd.func48, Tryd.ntmps48
  go_wp2_with (fail)
  go_loopw [5] (fun a0 wr => ∃ i : Nat, i ≤ m ∧ a0 = .int .i64 (i : Int) ∧ J i wr) (fun a0 _ => m - (intOf a0).toNat)
  case atStart => exact ⟨0, by omega, rfl, h0⟩
  case round =>
    obtain ⟨i, hi, rfl, hJ⟩ := hrel
    clear h0 c1
    obtain ⟨f0, f4, r1, r2, r3⟩ := hJr _ _ hJ
    have c2 : wr.cell? ⟨sb, 0, none⟩ = some (.func (.func 35) #[.pointer (some ⟨c, 0, none⟩)] #[]) := by rw [cell_of_row _ sb 0 _ _ _ r2]; rfl
    by_cases hlt : i < m
    · have hd : decide ((i : Int) < cnt) = true := by simp; omega
      have cS := a_step (kat key i) (kat_len hkl i) (kat_bd hkz i) (n + (i : Int)) (by omega) (by omega) wr f0 f4 c r3
      refine (wpIn_wide (n := 3)).1 ?_
      gi_wp2_with (fail)
      refine ⟨trivial, callsIn_wide.2 (cS.mono ?_)⟩
      rintro e_ w1 ⟨rfl, q1, q2⟩
      obtain ⟨fn, tmps, assign, body, hy, hRd⟩ := hY i wr w1 hlt hJ q2 q1
      rw [mat] at hy
      gi_wp2_with (fail)
      refine hRd.mono ?_
      clear hRd hy cS
      rintro e_ w7 (⟨rfl, hJ7⟩ | ⟨rfl, hJx7⟩)
      · gi_wp2_with (fail)
        refine ⟨⟨i + 1, by omega, by go_num, hJ7⟩, ?_⟩
        simp [intOf]; omega
      · gi_wp2_with (fail)
        refine bodyPost_ret (results_none rfl _ _ _) rfl ?_
        exact ⟨⟨_, rfl⟩, .inr ⟨i, hlt, hJx7⟩⟩
    · obtain rfl : i = m := by omega
      have hd : decide ((i : Int) < cnt) = false := by simp; omega
      go_wp2_with (fail)
      refine bodyPost_end (results_none rfl _ _ _) rfl ?_
      exact ⟨⟨_, rfl⟩, .inl hJ⟩
theorem bF (v : Value) (W : World) : (Instr.box 78 v).run Tryd.prog W = .ok (.pointer (some ⟨W.heap.size, 0, none⟩)) (W.alloc (.cells v.cells 78)) := by kernel_rfl
set_option maxRecDepth 100000 in
set_option maxHeartbeats 4000000 in
theorem a_steps (g : Nat) (k : Int) (w : World) : Calls Tryd.prog 38 #[.func (.func 35) #[.pointer (some ⟨g, 0, none⟩)] #[], .int .i64 k] w fun e w' => e = .returned (.func (.func 48) #[] #[.pointer (some ⟨w.heap.size + 1, 0, none⟩), .pointer (some ⟨w.heap.size, 0, none⟩)]) ∧ w' = (w.alloc (.cells #[.func (.func 35) #[.pointer (some ⟨g, 0, none⟩)] #[]] 78)).alloc (.cells #[.int .i64 k] 2) := by
  go_enter Tryd.func38, Tryd.ntmps38
  go_wp2_with (fail)
  try simp only [size_alloc1, Act.put, List.setIfInBounds_toArray, List.set_cons_succ, List.set_cons_zero]
  go_ret
  exact ⟨rfl, rfl⟩
set_option maxRecDepth 100000 in
set_option maxHeartbeats 4000000 in
theorem a_Ahead (g : Nat) (k : Int) (w : World) : Calls Tryd.prog 23 #[.pointer (some ⟨g, 0, none⟩), .int .i64 k] w fun e w' => e = .returned (.func (.func 37) #[] #[.pointer (some ⟨w.heap.size, 0, none⟩), .pointer (some ⟨w.heap.size + 1, 0, none⟩)]) ∧ w' = (w.alloc (.cells #[.pointer (some ⟨g, 0, none⟩)] 34)).alloc (.cells #[.int .i64 k] 3) := by
  go_enter Tryd.func23, Tryd.ntmps23
  go_wp2_with (fail)
  try simp only [size_alloc1, Act.put, List.setIfInBounds_toArray, List.set_cons_succ, List.set_cons_zero]
  go_ret
  exact ⟨rfl, rfl⟩
theorem run_min (a b : Int) (ts : Array TypeId) (ty : TypeId) (W : World) : (Builtin.min_ ts ty #[.int .i64 a, .int .i64 b]).run Tryd.prog W = .ok (.int .i64 (min a b)) W := by
  by_cases h : b < a
  · simp [Builtin.min_, Builtin.min2, h, Int.min_eq_right (Int.le_of_lt h)]
  · have h2 : a ≤ b := by omega
    have h' : ¬ b < a := by omega
    simp [Builtin.min_, Builtin.min2, h', Int.min_eq_left h2]
/-- How many messages are ahead. -/
def ahm (n k : Int) : Nat := (min k (4294967295 - n)).toNat
set_option maxRecDepth 100000 in
set_option maxHeartbeats 4000000 in
theorem a_ahead1 (key : List Int) (hkl : key.length = 32) (hkz : ∀ z ∈ key, 0 ≤ z ∧ z < 256) (n : Int) (hn0 : 0 ≤ n) (hn1 : n ≤ 4294967295) (k : Int) (c cbx nbx l : Nat) (J Jx : Nat → World → Prop) (w : World)
    (rcb : w.heap[cbx]? = some (.cells #[.pointer (some ⟨c, 0, none⟩)] 34 (0, 0))) (rnb : w.heap[nbx]? = some (.cells #[.int .i64 k] 3 (0, 0))) (rc : w.heap[c]? = some (.cells (chc key n) 75 (0, 0)))
    (hJS : ∀ i A, J i A → Sta A ∧ Kon A)
    (hJb : ∀ i A C, J i A → But w.heap.size A C → w.heap.size + 3 ≤ A.heap.size → J i C)
    (h0 : ∀ C, Below w.heap.size w C → w.heap.size + 3 ≤ C.heap.size → J 0 C)
    (hY : ∀ (i : Nat) A, i < ahm n k → J i A → w.heap.size + 3 ≤ A.heap.size → YieldAt Fence.wide 2 Tryd.prog l #[.int .u32 (n + (i : Int)), .agg (irow .u8 (mat key i))] A fun e A' => (e = .returned (.bool true) ∧ J (i + 1) A' ∧ A.heap.size ≤ A'.heap.size ∧ ∀ g, w.heap.size ≤ g → g < w.heap.size + 3 → A'.heap[g]? = A.heap[g]?) ∨ (e = .returned (.bool false) ∧ Jx (i + 1) A')) :
    Calls Tryd.prog 37 #[.func (.yield l) #[] #[], .pointer (some ⟨cbx, 0, none⟩), .pointer (some ⟨nbx, 0, none⟩)] w fun e w' => (∃ r, e = .returned r) ∧ (J (ahm n k) w' ∨ ∃ i, i < ahm n k ∧ Jx (i + 1) w') := by
  have hm : n + (ahm n k : Int) ≤ 4294967295 := by unfold ahm; omega
  have hcnt : (min k (4294967295 - n)).toNat = ahm n k := rfl
  generalize ahm n k = m at *
  have c1 : w.cell? ⟨cbx, 0, none⟩ = some (.pointer (some ⟨c, 0, none⟩)) := by rw [cell_of_row _ cbx 0 _ _ _ rcb]; rfl
  have R0 := hp1_0 w (.cells (chc (zr 32) 0) 75)
  have hba : Below w.heap.size w (w.alloc (.cells (chc (zr 32) 0) 75)) := (Below.refl _ _).alloc (Nat.le_refl _) _
  have R1 := setRow_heap _ w.heap.size _ (chc key n) _ _ R0
  have hw : Below w.heap.size w ((w.alloc (.cells (chc (zr 32) 0) 75)).setRow w.heap.size (chc key n)) := below_setRow hba (Nat.le_refl _) (chc key n)
  have hsz : ((w.alloc (.cells (chc (zr 32) 0) 75)).setRow w.heap.size (chc key n)).drew.heap.size = w.heap.size + 1 := by show ((w.alloc (.cells (chc (zr 32) 0) 75)).setRow w.heap.size (chc key n)).heap.size = _; rw [setRow_size, size_alloc1]
  have rn := keep hw rnb
  have hlw : cbx < w.heap.size := lt_of_row rcb
  go_enter Tryd.func37, Tryd.ntmps37
  go_wp2_with (first | (refine wpList_load_want rfl 75 _ rfl (c) rfl 75 (chc key n) (0, 0) _ rc Tryd.underlying75 rfl (infoC _ hkl _) ?_) | (refine wpList_alloc rfl 75 rfl (chc (zr 32) 0) zchc ?_) | (refine wpList_store_row rfl 75 _ _ rfl (w.heap.size) (chc key n) rfl rfl 75 _ R0 (infoC _ hkl _) (by rw [chc_size _ (zr_len 32), chc_size _ hkl]) (chc_one _ _) ?_) | fail)
  simp only [Act.put, List.setIfInBounds_toArray, List.set_cons_succ, List.set_cons_zero]
  clear c1 R0 hba
  generalize ((w.alloc (.cells (chc (zr 32) 0) 75)).setRow w.heap.size (chc key n)) = w1 at *
  have hbd : Below w1.heap.size w1 w1.drew := below_drN (Below.refl _ _) 1
  replace R1 := keep hbd R1
  replace rn := keep hbd rn
  replace hw := Below.after hw hbd
  clear hbd
  refine wp_region_noPanic ?_
  refine wp_region_held (S := fun _ => True) (by kernel_rfl) ?_
  change wpAnyH _ _ _ _ _ _ _ _ (World.drew _)
  generalize w1.drew = w2 at *
  refine wpAnyH_take (i := 0) (v := ?v1) rfl (by kernel_rfl) (by kernel_rfl) (by kernel_rfl) (fun _ _ _ h => h) (Or.inl ⟨by rfl, ?y1⟩) (trivial) ?r1
  case y1 =>
    intro w_ hS_
    go_simp
    try with_reducible rfl
  simp only [Act.put, List.getElem_toArray, List.getElem_cons_zero, List.setIfInBounds_toArray, List.set_cons_succ, List.set_cons_zero]
  refine wpAnyH_take (i := 5) (v := ?v2) rfl (by kernel_rfl) (by kernel_rfl) (by kernel_rfl) (fun _ _ _ h => h) (Or.inl ⟨by rfl, ?y2⟩) (trivial) ?r2
  case y2 =>
    intro w_ hS_
    go_simp
    try with_reducible rfl
  simp only [Act.put, List.getElem_toArray, List.getElem_cons_succ, List.getElem_cons_zero, List.setIfInBounds_toArray, List.set_cons_succ, List.set_cons_zero]
  refine wpAnyH_two (j := 1) (k := 2) (fuel := 4) (by kernel_rfl) rfl rfl (by kernel_rfl) (by kernel_rfl) (fun K_ hK_ => ?_) (fun K_ hK_ => ?_)
  · have c_ : w2.cell? ⟨nbx, 0, none⟩ = some (.int .i64 k) := by rw [cell_of_row _ nbx 0 _ _ _ rn]; rfl
    refine wp_pure_op (.int .i64 k) (by go_simp; try with_reducible rfl) ?_
    clear c_
    refine hK_ _ _ (trivial) ?_
    simp only [Act.put, List.getElem_toArray, List.getElem_cons_succ, List.getElem_cons_zero, List.setIfInBounds_toArray, List.set_cons_succ, List.set_cons_zero]
    clear hK_
    refine wpAnyH_one (k := 2) (fuel := 3) (by kernel_rfl) rfl (by kernel_rfl) (fun K_ hK_ => ?_)
    refine wp_call_ex (f := 34) (R := fun v w' => v = .int .i64 (4294967295 - n) ∧ w' = w2) (by kernel_rfl) ((a_left key hkl n hn0 hn1 w2 _ R1).mono fun e_ w_ ⟨h1_, h2_⟩ => ⟨_, h1_, rfl, h2_⟩) (fun v_ qL hX_ => ?_)
    obtain ⟨hv_, hq_⟩ := hX_
    rw [hv_, hq_]
    clear hv_ hq_
    refine hK_ _ _ (trivial) ?_
    simp only [Act.put, List.getElem_toArray, List.getElem_cons_succ, List.getElem_cons_zero, List.setIfInBounds_toArray, List.set_cons_succ, List.set_cons_zero]
    clear hK_
    refine wpAnyH_one (k := 3) (fuel := 2) (by kernel_rfl) rfl (by kernel_rfl) (fun K_ hK_ => ?_)
    have hmn := run_min k (4294967295 - n)
    refine wp_pure_op (.int .i64 (min k (4294967295 - n))) (by simp [execOp, resolve, invoke, builtin, hmn, Act.eval, Result.andThen]) ?_
    clear hmn
    refine hK_ _ _ (trivial) ?_
    simp only [Act.put, List.getElem_toArray, List.getElem_cons_succ, List.getElem_cons_zero, List.setIfInBounds_toArray, List.set_cons_succ, List.set_cons_zero]
    clear hK_
    refine wpAnyH_one (k := 4) (fuel := 1) (by kernel_rfl) rfl (by kernel_rfl) (fun K_ hK_ => ?_)
    refine wp_call_ex (f := 38) (R := fun v w' => v = .func (.func 48) #[] #[.pointer (some ⟨w2.heap.size + 1, 0, none⟩), .pointer (some ⟨w2.heap.size, 0, none⟩)] ∧ w' = ((w2.alloc (.cells #[(.func (.func 35) #[.pointer (some ⟨w.heap.size, 0, none⟩)] #[])] 78)).alloc (.cells #[.int .i64 (min k (4294967295 - n))] 2))) (by kernel_rfl) ((a_steps w.heap.size (min k (4294967295 - n)) w2).mono fun e_ w_ ⟨h1_, h2_⟩ => ⟨_, h1_, rfl, h2_⟩) (fun v_ qL hX_ => ?_)
    obtain ⟨hv_, hq_⟩ := hX_
    rw [hv_, hq_]
    clear hv_ hq_
    have r1 := hp2_0 w2 (.cells #[(.func (.func 35) #[.pointer (some ⟨w.heap.size, 0, none⟩)] #[])] 78) (.cells #[.int .i64 (min k (4294967295 - n))] 2)
    have r2 := hp2_1 w2 (.cells #[(.func (.func 35) #[.pointer (some ⟨w.heap.size, 0, none⟩)] #[])] 78) (.cells #[.int .i64 (min k (4294967295 - n))] 2)
    have hb_ : Below w2.heap.size w2 ((w2.alloc (.cells #[(.func (.func 35) #[.pointer (some ⟨w.heap.size, 0, none⟩)] #[])] 78)).alloc (.cells #[.int .i64 (min k (4294967295 - n))] 2)) := ((Below.refl _ _).alloc (Nat.le_refl _) _).alloc (by simp) _
    have hz3 : ((w2.alloc (.cells #[(.func (.func 35) #[.pointer (some ⟨w.heap.size, 0, none⟩)] #[])] 78)).alloc (.cells #[.int .i64 (min k (4294967295 - n))] 2)).heap.size = w.heap.size + 3 := by rw [size_alloc1, size_alloc1, hsz]
    replace R1 := keep hb_ R1
    replace rn := keep hb_ rn
    replace hw := Below.after hw hb_
    clear hb_
    refine hK_ _ _ (trivial) ?_
    simp only [Act.put, List.getElem_toArray, List.getElem_cons_succ, List.getElem_cons_zero, List.setIfInBounds_toArray, List.set_cons_succ, List.set_cons_zero]
    clear hK_
    generalize ((w2.alloc (.cells #[(.func (.func 35) #[.pointer (some ⟨w.heap.size, 0, none⟩)] #[])] 78)).alloc (.cells #[.int .i64 (min k (4294967295 - n))] 2)) = w3 at *
    rw [hsz] at r1 r2 ⊢
    refine wpAnyH_one (k := 6) (fuel := 0) (by kernel_rfl) rfl (by kernel_rfl) (fun K_ hK_ => ?_)
    have cT : Calls Tryd.prog 48 #[.func (.yield l) #[] #[], .pointer (some ⟨w.heap.size + 1 + 1, 0, none⟩), .pointer (some ⟨w.heap.size + 1, 0, none⟩)] w3 fun e w' => (∃ r, e = .returned r) ∧ (J m w' ∨ ∃ i, i < m ∧ Jx (i + 1) w') := by
      refine (a_steps1 key hkl hkz n hn0 _ m hcnt hm w.heap.size (w.heap.size + 1 + 1) (w.heap.size + 1) l (fun i A => J i A ∧ w.heap.size + 3 ≤ A.heap.size ∧ A.heap[w.heap.size + 1 + 1]? = some (.cells #[.int .i64 (min k (4294967295 - n))] 2 (0, 0)) ∧ A.heap[w.heap.size + 1]? = some (.cells #[(.func (.func 35) #[.pointer (some ⟨w.heap.size, 0, none⟩)] #[])] 78 (0, 0)) ∧ A.heap[w.heap.size]? = some (.cells (chc (kat key i) (n + (i : Int))) 75 (0, 0))) Jx ?_ ?_ w3 ?_).mono ?_
      · rintro i A ⟨hJ, _, a1, a2, a3⟩
        exact ⟨(hJS i A hJ).1, (hJS i A hJ).2, a1, a2, a3⟩
      · rintro i A C hi ⟨hJ, hs, a1, a2, a3⟩ hB rC
        have hsC := hB.size
        have b1 := hB.row a1 (by omega)
        have b2 := hB.row a2 (by omega)
        refine (hY i C hi (hJb i A C hJ hB hs) (by omega)).mono ?_
        rintro e A' (⟨rfl, h1, h2, h3⟩ | ⟨rfl, h1⟩)
        · refine .inl ⟨rfl, h1, by omega, (h3 _ (by omega) (by omega)).trans b1, (h3 _ (by omega) (by omega)).trans b2, ?_⟩
          rw [h3 _ (by omega) (by omega), rC]
          simp [Int.add_assoc]
        · exact .inr ⟨rfl, h1⟩
      · refine ⟨h0 w3 hw (by omega), by omega, r2, r1, ?_⟩
        rw [R1]; simp [kat]
      · rintro e w' ⟨h1, h2⟩
        refine ⟨h1, ?_⟩
        rcases h2 with ⟨h2, _⟩ | h2
        · exact .inl h2
        · exact .inr h2
    refine wp_call_ex (f := 48) (R := fun v w' => J m w' ∨ ∃ i, i < m ∧ Jx (i + 1) w') (by kernel_rfl) (cT.mono fun e_ w_ ⟨⟨r_, h1_⟩, h2_⟩ => ⟨r_, h1_, h2_⟩) (fun v_ w4 hX_ => ?_)
    clear cT
    refine hK_ _ _ (trivial) ?_
    simp only [Act.put]
    clear hK_
    refine wpAnyH_done (by kernel_rfl) ?_ _
    refine NoPanic.normal ?_
    go_wp2
    refine bodyPost_end (results_none rfl _ _ _) rfl ?_
    exact ⟨⟨_, rfl⟩, hX_⟩
  · refine wp_call_ex (f := 34) (R := fun v w' => v = .int .i64 (4294967295 - n) ∧ w' = w2) (by kernel_rfl) ((a_left key hkl n hn0 hn1 w2 _ R1).mono fun e_ w_ ⟨h1_, h2_⟩ => ⟨_, h1_, rfl, h2_⟩) (fun v_ qL hX_ => ?_)
    obtain ⟨hv_, hq_⟩ := hX_
    rw [hv_, hq_]
    clear hv_ hq_
    refine hK_ _ _ (trivial) ?_
    simp only [Act.put, List.getElem_toArray, List.getElem_cons_succ, List.getElem_cons_zero, List.setIfInBounds_toArray, List.set_cons_succ, List.set_cons_zero]
    clear hK_
    refine wpAnyH_one (k := 1) (fuel := 3) (by kernel_rfl) rfl (by kernel_rfl) (fun K_ hK_ => ?_)
    have c_ : w2.cell? ⟨nbx, 0, none⟩ = some (.int .i64 k) := by rw [cell_of_row _ nbx 0 _ _ _ rn]; rfl
    refine wp_pure_op (.int .i64 k) (by go_simp; try with_reducible rfl) ?_
    clear c_
    refine hK_ _ _ (trivial) ?_
    simp only [Act.put, List.getElem_toArray, List.getElem_cons_succ, List.getElem_cons_zero, List.setIfInBounds_toArray, List.set_cons_succ, List.set_cons_zero]
    clear hK_
    refine wpAnyH_one (k := 3) (fuel := 2) (by kernel_rfl) rfl (by kernel_rfl) (fun K_ hK_ => ?_)
    have hmn := run_min k (4294967295 - n)
    refine wp_pure_op (.int .i64 (min k (4294967295 - n))) (by simp [execOp, resolve, invoke, builtin, hmn, Act.eval, Result.andThen]) ?_
    clear hmn
    refine hK_ _ _ (trivial) ?_
    simp only [Act.put, List.getElem_toArray, List.getElem_cons_succ, List.getElem_cons_zero, List.setIfInBounds_toArray, List.set_cons_succ, List.set_cons_zero]
    clear hK_
    refine wpAnyH_one (k := 4) (fuel := 1) (by kernel_rfl) rfl (by kernel_rfl) (fun K_ hK_ => ?_)
    refine wp_call_ex (f := 38) (R := fun v w' => v = .func (.func 48) #[] #[.pointer (some ⟨w2.heap.size + 1, 0, none⟩), .pointer (some ⟨w2.heap.size, 0, none⟩)] ∧ w' = ((w2.alloc (.cells #[(.func (.func 35) #[.pointer (some ⟨w.heap.size, 0, none⟩)] #[])] 78)).alloc (.cells #[.int .i64 (min k (4294967295 - n))] 2))) (by kernel_rfl) ((a_steps w.heap.size (min k (4294967295 - n)) w2).mono fun e_ w_ ⟨h1_, h2_⟩ => ⟨_, h1_, rfl, h2_⟩) (fun v_ qL hX_ => ?_)
    obtain ⟨hv_, hq_⟩ := hX_
    rw [hv_, hq_]
    clear hv_ hq_
    have r1 := hp2_0 w2 (.cells #[(.func (.func 35) #[.pointer (some ⟨w.heap.size, 0, none⟩)] #[])] 78) (.cells #[.int .i64 (min k (4294967295 - n))] 2)
    have r2 := hp2_1 w2 (.cells #[(.func (.func 35) #[.pointer (some ⟨w.heap.size, 0, none⟩)] #[])] 78) (.cells #[.int .i64 (min k (4294967295 - n))] 2)
    have hb_ : Below w2.heap.size w2 ((w2.alloc (.cells #[(.func (.func 35) #[.pointer (some ⟨w.heap.size, 0, none⟩)] #[])] 78)).alloc (.cells #[.int .i64 (min k (4294967295 - n))] 2)) := ((Below.refl _ _).alloc (Nat.le_refl _) _).alloc (by simp) _
    have hz3 : ((w2.alloc (.cells #[(.func (.func 35) #[.pointer (some ⟨w.heap.size, 0, none⟩)] #[])] 78)).alloc (.cells #[.int .i64 (min k (4294967295 - n))] 2)).heap.size = w.heap.size + 3 := by rw [size_alloc1, size_alloc1, hsz]
    replace R1 := keep hb_ R1
    replace rn := keep hb_ rn
    replace hw := Below.after hw hb_
    clear hb_
    refine hK_ _ _ (trivial) ?_
    simp only [Act.put, List.getElem_toArray, List.getElem_cons_succ, List.getElem_cons_zero, List.setIfInBounds_toArray, List.set_cons_succ, List.set_cons_zero]
    clear hK_
    generalize ((w2.alloc (.cells #[(.func (.func 35) #[.pointer (some ⟨w.heap.size, 0, none⟩)] #[])] 78)).alloc (.cells #[.int .i64 (min k (4294967295 - n))] 2)) = w3 at *
    rw [hsz] at r1 r2 ⊢
    refine wpAnyH_one (k := 6) (fuel := 0) (by kernel_rfl) rfl (by kernel_rfl) (fun K_ hK_ => ?_)
    have cT : Calls Tryd.prog 48 #[.func (.yield l) #[] #[], .pointer (some ⟨w.heap.size + 1 + 1, 0, none⟩), .pointer (some ⟨w.heap.size + 1, 0, none⟩)] w3 fun e w' => (∃ r, e = .returned r) ∧ (J m w' ∨ ∃ i, i < m ∧ Jx (i + 1) w') := by
      refine (a_steps1 key hkl hkz n hn0 _ m hcnt hm w.heap.size (w.heap.size + 1 + 1) (w.heap.size + 1) l (fun i A => J i A ∧ w.heap.size + 3 ≤ A.heap.size ∧ A.heap[w.heap.size + 1 + 1]? = some (.cells #[.int .i64 (min k (4294967295 - n))] 2 (0, 0)) ∧ A.heap[w.heap.size + 1]? = some (.cells #[(.func (.func 35) #[.pointer (some ⟨w.heap.size, 0, none⟩)] #[])] 78 (0, 0)) ∧ A.heap[w.heap.size]? = some (.cells (chc (kat key i) (n + (i : Int))) 75 (0, 0))) Jx ?_ ?_ w3 ?_).mono ?_
      · rintro i A ⟨hJ, _, a1, a2, a3⟩
        exact ⟨(hJS i A hJ).1, (hJS i A hJ).2, a1, a2, a3⟩
      · rintro i A C hi ⟨hJ, hs, a1, a2, a3⟩ hB rC
        have hsC := hB.size
        have b1 := hB.row a1 (by omega)
        have b2 := hB.row a2 (by omega)
        refine (hY i C hi (hJb i A C hJ hB hs) (by omega)).mono ?_
        rintro e A' (⟨rfl, h1, h2, h3⟩ | ⟨rfl, h1⟩)
        · refine .inl ⟨rfl, h1, by omega, (h3 _ (by omega) (by omega)).trans b1, (h3 _ (by omega) (by omega)).trans b2, ?_⟩
          rw [h3 _ (by omega) (by omega), rC]
          simp [Int.add_assoc]
        · exact .inr ⟨rfl, h1⟩
      · refine ⟨h0 w3 hw (by omega), by omega, r2, r1, ?_⟩
        rw [R1]; simp [kat]
      · rintro e w' ⟨h1, h2⟩
        refine ⟨h1, ?_⟩
        rcases h2 with ⟨h2, _⟩ | h2
        · exact .inl h2
        · exact .inr h2
    refine wp_call_ex (f := 48) (R := fun v w' => J m w' ∨ ∃ i, i < m ∧ Jx (i + 1) w') (by kernel_rfl) (cT.mono fun e_ w_ ⟨⟨r_, h1_⟩, h2_⟩ => ⟨r_, h1_, h2_⟩) (fun v_ w4 hX_ => ?_)
    clear cT
    refine hK_ _ _ (trivial) ?_
    simp only [Act.put]
    clear hK_
    refine wpAnyH_done (by kernel_rfl) ?_ _
    refine NoPanic.normal ?_
    go_wp2
    refine bodyPost_end (results_none rfl _ _ _) rfl ?_
    exact ⟨⟨_, rfl⟩, hX_⟩

end Go.Proofs.YtmflfdedhbnfnaaDoor
