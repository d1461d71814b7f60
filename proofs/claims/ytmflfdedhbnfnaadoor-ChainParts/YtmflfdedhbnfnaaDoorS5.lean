import Derived.Test.YtmflfdedhbnfnaaDoorProg
import Derived.WalkKit
import Derived.WalkSpells
import Derived.WalkLawsBesides
import Derived.Lib.QuietBelow
import Derived.BigQuiet
import Derived.OwnWalk
import Derived.Lib.SlBytesConst
import Derived.OrdersHeld
import Derived.Deep.RegionHeld3
import Derived.Test.YtmflfdedhbnfnaaDoorS0
import Derived.Test.YtmflfdedhbnfnaaDoorS4
namespace Go.Proofs.YtmflfdedhbnfnaaDoor
set_option maxRecDepth 100000
open Go Go.RowKit Go.Sort
attribute [local go_sem] setCell_drewN alloc_drewN


/-- A slice's room. -/
def vcap : Value → Nat
  | .slice _ _ c => c
  | _ => 0
set_option maxRecDepth 100000 in
set_option maxHeartbeats 4000000 in
theorem r_part (l : List Int) (o : Nat) (ho : o + 32 ≤ l.length) (hl : l.length ≤ 4096) (w : World) (v : Value) (hB : Bys w v l) : Calls Tryd.prog 32 #[v, .int .i64 (o : Int)] w fun e w' => e = .returned (.agg (irow .u8 (pt l o 32))) ∧ Below w.heap.size w w' := by
  have hz0 := zr_len 32
  have hpl := pt_len l o 32 ho
  have hc : ∀ i, i < 32 → ∃ b off, v = .slice (some ⟨b, off, none⟩) l.length (vcap v) ∧ b < w.heap.size ∧ w.cell? ⟨b, off + (o + i), none⟩ = some (.int .u8 ((pt l o 32).getD i 0)) := fun i hi => by
    obtain ⟨ao, cap, rfl, _, hc, _⟩ := hB
    obtain ⟨b, off, rfl, hb, h1⟩ := hc (o + i) (by omega)
    exact ⟨b, off, rfl, hb, by rw [h1, pt_get l o 32 i hi]⟩
  obtain ⟨b, off, hv, hbl, _⟩ := hc 0 (by decide)
  replace hc : ∀ i, i < 32 → w.cell? ⟨b, off + (o + i), none⟩ = some (.int .u8 ((pt l o 32).getD i 0)) := fun i hi => by
    obtain ⟨b', off', e, _, h1⟩ := hc i hi
    rw [hv] at e
    cases e
    exact h1
  rw [hv]
  generalize vcap v = cap
  clear hB hv
  generalize eP : pt l o 32 = P at *
  replace eP := hide eP
  have R0 := hp2_0 w (.cells (irow .u8 (zr 32)) 23) (.cells (irow .u8 (zr 32)) 23)
  have R1 := hp2_1 w (.cells (irow .u8 (zr 32)) 23) (.cells (irow .u8 (zr 32)) 23)
  have hw2 : Below w.heap.size w ((w.alloc (.cells (irow .u8 (zr 32)) 23)).alloc (.cells (irow .u8 (zr 32)) 23)) := ((Below.refl _ _).alloc (Nat.le_refl _) _).alloc (by simp) _
  rw [← mix_zero P (zr 32)] at R1
  go_enter Tryd.func32, Tryd.ntmps32
  go_wp2_with (first | (refine wpList_alloc rfl 23 rfl (irow .u8 (zr 32)) zkey ?_) | fail)
  try simp only [size_alloc1, Act.put, List.setIfInBounds_toArray, List.set_cons_succ, List.set_cons_zero]
  rw [mix_zero] at R1
  generalize (w.alloc (.cells (irow .u8 (zr 32)) 23)).alloc (.cells (irow .u8 (zr 32)) 23) = w1 at *
  rw [← mix_zero P (zr 32)] at R1
  go_loopw [6] (fun i wr => ∃ k : Nat, k ≤ 32 ∧ i = .int .i64 k ∧ wr.heap[w.heap.size + 1]? = some (.cells (irow .u8 (mix P (zr 32) k)) 23 (0, 0)) ∧ wr.heap[w.heap.size]? = some (.cells (irow .u8 (zr 32)) 23 (0, 0)) ∧ Below w.heap.size w wr) (fun i _ => 32 - (intOf i).toNat)
  case atStart => exact ⟨0, by omega, rfl, R1, R0, hw2⟩
  case round =>
    clear R0 R1 hw2
    obtain ⟨k, hk2, rfl, R1, R0, hw⟩ := hrel
    by_cases hlt : k < 32
    · have hd : decide ((k : Int) < 32) = true := by simp; omega
      have hd2 : decide ((o : Int) + (k : Int) < (l.length : Int)) = true := by simp; omega
      have h1 := hc k hlt
      have m1 := mix_set P (zr 32) k (by omega) (by omega)
      have n1 := mix_length P (zr 32) k (by omega) (by omega)
      generalize P.getD k 0 = x at *
      have c1 := (hw.cell (p := ⟨b, off + (o + k), none⟩) hbl).trans h1
      have f3 := row_frozen R1 k
      have d3 := irow_cell R1 (j := k) (by omega)
      have R1' := irow_set R1 k x
      rw [m1] at R1'
      have R0' : (wr.setCell ⟨w.heap.size + 1, k, none⟩ (.int .u8 x)).heap[w.heap.size]? = _ := heap_other R0 (by omega)
      have hw' := hw.setCell (show w.heap.size ≤ (⟨w.heap.size + 1, k, none⟩ : Addr).block from Nat.le_succ _) (.int .u8 x)
      clear h1 m1 R1 R0 hw hc n1
      generalize (mix P (zr 32) k).getD k 0 = x0 at *
      go_wp2_with (fail)
      refine ⟨⟨k + 1, by omega, by go_num, R1', R0', hw'⟩, ?_⟩
      simp [intOf]; omega
    · obtain rfl : k = 32 := by omega
      have hd : decide ((32 : Int) < 32) = false := by decide
      have ac := mix_all P (zr 32) (by omega)
      rw [hz0] at ac
      rw [ac] at R1
      clear ac hc
      have W2 := setRow_heap wr w.heap.size _ (irow .u8 P) _ _ R0
      have hw' := below_setRow hw (Nat.le_refl _) (irow .u8 P)
      go_wp2_with (first | (refine wpList_load_want rfl 23 _ rfl (w.heap.size + 1) rfl 23 (irow .u8 P) (0, 0) _ R1 Tryd.underlying23 rfl (infok8 _ hpl) ?_) | (refine wpList_store_row rfl 23 _ _ rfl (w.heap.size) (irow .u8 P) rfl rfl 23 _ R0 (infok8 _ hpl) (fit32 _ _ hz0 hpl) (irow_one _ _) ?_) | fail)
      exact bodyPost_ret (results_cell_row Tryd.results32 _ _ w.heap.size _ _ _ _ rfl W2 Tryd.underlying23 rfl (infok8 _ hpl)) rfl ⟨rfl, hw'⟩
set_option maxRecDepth 100000 in
set_option maxHeartbeats 4000000 in
theorem r_Root (root secret : List Int) (hrl : root.length = 32) (hsl : secret.length = 32) (hrz : ∀ z ∈ root, 0 ≤ z ∧ z < 256) (hsz : ∀ z ∈ secret, 0 ≤ z ∧ z < 256) (w : World) : Calls Tryd.prog 11 #[.agg (irow .u8 root), .agg (irow .u8 secret)] w fun e w' => e = .returned (.tuple #[.agg (irow .u8 (pt (rts root secret) 0 32)), .agg (irow .u8 (pt (rts root secret) 32 32)), .agg (irow .u8 (pt (rts root secret) 64 32))]) ∧ Below w.heap.size w w' := by
  have hxl := rts_len root secret
  have l0 : (pt (rts root secret) 0 32).length = 32 := pt_len _ _ _ (by omega)
  have l32 : (pt (rts root secret) 32 32).length = 32 := pt_len _ _ _ (by omega)
  have l64 : (pt (rts root secret) 64 32).length = 32 := pt_len _ _ _ (by omega)
  have hR : Hid (rts root secret = xpd (hm root secret) rtn 96) := hide rfl
  have R0 := hp5_0 w (.cells (irow .u8 root) 23) (.cells (irow .u8 secret) 23) (.cells (irow .u8 (zr 32)) 23) (.cells (irow .u8 (zr 32)) 23) (.cells (irow .u8 (zr 32)) 23)
  have R1 := hp5_1 w (.cells (irow .u8 root) 23) (.cells (irow .u8 secret) 23) (.cells (irow .u8 (zr 32)) 23) (.cells (irow .u8 (zr 32)) 23) (.cells (irow .u8 (zr 32)) 23)
  have R2 := hp5_2 w (.cells (irow .u8 root) 23) (.cells (irow .u8 secret) 23) (.cells (irow .u8 (zr 32)) 23) (.cells (irow .u8 (zr 32)) 23) (.cells (irow .u8 (zr 32)) 23)
  have R3 := hp5_3 w (.cells (irow .u8 root) 23) (.cells (irow .u8 secret) 23) (.cells (irow .u8 (zr 32)) 23) (.cells (irow .u8 (zr 32)) 23) (.cells (irow .u8 (zr 32)) 23)
  have R4 := hp5_4 w (.cells (irow .u8 root) 23) (.cells (irow .u8 secret) 23) (.cells (irow .u8 (zr 32)) 23) (.cells (irow .u8 (zr 32)) 23) (.cells (irow .u8 (zr 32)) 23)
  have hw : Below w.heap.size w (((((w.alloc (.cells (irow .u8 root) 23)).alloc (.cells (irow .u8 secret) 23)).alloc (.cells (irow .u8 (zr 32)) 23)).alloc (.cells (irow .u8 (zr 32)) 23)).alloc (.cells (irow .u8 (zr 32)) 23)) := ((((((Below.refl _ _).alloc (Nat.le_refl _) _).alloc (by simp) _).alloc (by simp; omega) _).alloc (by simp; omega) _).alloc (by simp; omega) _)
  have sk := slice_k w.heap.size
  have sk1 := slice_k (w.heap.size + 1)
  go_enter Tryd.func11, Tryd.ntmps11
  go_wp2_with (first | (refine wpList_box rfl 23 _ rfl _ rfl (bK _) ?_) | (refine wpList_alloc rfl 23 rfl (irow .u8 (zr 32)) zkey ?_) | fail)
  try simp only [size_alloc1, Act.put, List.setIfInBounds_toArray, List.set_cons_succ, List.set_cons_zero]
  generalize (((((w.alloc (.cells (irow .u8 root) 23)).alloc (.cells (irow .u8 secret) 23)).alloc (.cells (irow .u8 (zr 32)) 23)).alloc (.cells (irow .u8 (zr 32)) 23)).alloc (.cells (irow .u8 (zr 32)) 23)) = w0 at *
  have hbd : Below w0.heap.size w0 w0.drew := below_drN (Below.refl _ _) 1
  replace R0 := keep hbd R0
  replace R1 := keep hbd R1
  replace R2 := keep hbd R2
  replace R3 := keep hbd R3
  replace R4 := keep hbd R4
  replace hw := Below.after hw hbd
  clear hbd
  refine wp_region_noPanic ?_
  refine wp_region_held (S := fun _ => True) (by kernel_rfl) ?_
  change wpAnyH _ _ _ _ _ _ _ _ (World.drew _)
  generalize w0.drew = w1 at *
  refine wpAnyH_take (i := 0) (v := ?v1) rfl (by kernel_rfl) (by kernel_rfl) (by kernel_rfl) (fun _ _ _ h => h) (Or.inl ⟨by rfl, ?y1⟩) (trivial) ?r1
  case y1 =>
    intro w_ hS_
    go_simp
    try with_reducible rfl
  simp only [Act.put, List.getElem_toArray, List.getElem_cons_zero, List.setIfInBounds_toArray, List.set_cons_succ, List.set_cons_zero]
  refine wpAnyH_take (i := 1) (v := ?v2) rfl (by kernel_rfl) (by kernel_rfl) (by kernel_rfl) (fun _ _ _ h => h) (Or.inl ⟨by rfl, ?y2⟩) (trivial) ?r2
  case y2 =>
    intro w_ hS_
    go_simp
    try with_reducible rfl
  simp only [Act.put, List.getElem_toArray, List.getElem_cons_succ, List.getElem_cons_zero, List.setIfInBounds_toArray, List.set_cons_succ, List.set_cons_zero]
  refine wpAnyH_one (k := 2) (fuel := 7) (by kernel_rfl) rfl (by kernel_rfl) (fun K_ hK_ => ?_)
  refine wp_world_op (.slice (some ⟨w1.heap.size, 0, none⟩) 9 9) (w1.alloc (.cells #[.int .u8 112, .int .u8 97, .int .u8 119, .int .u8 108, .int .u8 32, .int .u8 114, .int .u8 111, .int .u8 111, .int .u8 116] 5)) (by kernel_rfl) ?_
  refine hK_ _ _ (trivial) ?_
  simp only [Act.put, List.getElem_toArray, List.getElem_cons_succ, List.getElem_cons_zero, List.setIfInBounds_toArray, List.set_cons_succ, List.set_cons_zero]
  clear hK_
  refine wpAnyH_one (k := 3) (fuel := 6) (by kernel_rfl) rfl (by kernel_rfl) (fun K_ hK_ => ?_)
  refine wp_convert 66 66 _ rfl _ (.slice (some ⟨w1.heap.size, 0, none⟩) 9 9) (w1.alloc (.cells #[.int .u8 112, .int .u8 97, .int .u8 119, .int .u8 108, .int .u8 32, .int .u8 114, .int .u8 111, .int .u8 111, .int .u8 116] 5 (9, 10))) rfl (Go.Lib.run_convert_bytes_const (P := Tryd.prog) w1 66 5 #[.int .u8 112, .int .u8 97, .int .u8 119, .int .u8 108, .int .u8 32, .int .u8 114, .int .u8 111, .int .u8 111, .int .u8 116] 9 9 Tryd.underlying66 Tryd.underlying5) ?_
  have hb_ : Below w1.heap.size w1 (w1.alloc (.cells #[.int .u8 112, .int .u8 97, .int .u8 119, .int .u8 108, .int .u8 32, .int .u8 114, .int .u8 111, .int .u8 111, .int .u8 116] 5 (9, 10))) := (Below.refl _ _).alloc (Nat.le_refl _) _
  have hN := rtn_bys w1
  have sz_g2 : w.heap.size ≤ w1.heap.size := hw.size
  replace R0 := keep hb_ R0
  replace R1 := keep hb_ R1
  replace R2 := keep hb_ R2
  replace R3 := keep hb_ R3
  replace R4 := keep hb_ R4
  replace hw := Below.after hw hb_
  clear hb_
  refine hK_ _ _ (trivial) ?_
  simp only [Act.put, List.getElem_toArray, List.getElem_cons_succ, List.getElem_cons_zero, List.setIfInBounds_toArray, List.set_cons_succ, List.set_cons_zero]
  clear hK_
  generalize w1.alloc (.cells #[.int .u8 112, .int .u8 97, .int .u8 119, .int .u8 108, .int .u8 32, .int .u8 114, .int .u8 111, .int .u8 111, .int .u8 116] 5 (9, 10)) = q1 at *
  generalize w1.heap.size = g2 at *
  refine wpAnyH_one (k := 4) (fuel := 5) (by kernel_rfl) rfl (by kernel_rfl) (fun K_ hK_ => ?_)
  have hB1_ : Bys q1 (.slice (some ⟨w.heap.size, 0, none⟩) 32 32) root := by
    have h := Bys.of_row R0 (by omega) hrz 32
    rw [hrl] at h
    exact h
  have hB2_ : Bys q1 (.slice (some ⟨w.heap.size + 1, 0, none⟩) 32 32) secret := by
    have h := Bys.of_row R1 (by omega) hsz 32
    rw [hsl] at h
    exact h
  refine wp_call_ex (f := 31) (by kernel_rfl) (r_derive4 root secret rtn 96 q1 _ _ _ ⟨hB1_, by omega, fun a l c h h2 => by cases h; cases h2⟩ ⟨hB2_, by omega, fun a l c h h2 => by cases h; cases h2⟩ (by omega) ⟨hN, by decide, fun a l c h h2 => by cases h; cases h2⟩ (by decide)) (fun v_ q3 hX_ => ?_)
  obtain ⟨hX2_, hb_⟩ := hX_
  replace R0 := keep hb_ R0
  replace R1 := keep hb_ R1
  replace R2 := keep hb_ R2
  replace R3 := keep hb_ R3
  replace R4 := keep hb_ R4
  replace hw := Below.after hw hb_
  clear hb_
  clear hB1_ hB2_ hN
  obtain ⟨m_, u_, hm_, _, rfl, hU⟩ | ⟨hm_, _⟩ := hX2_
  rotate_left
  · exact absurd hm_ (by decide)
  obtain rfl : m_ = 96 := by omega
  clear hm_
  rw [← hR.out] at hU
  replace hU := hU.1
  refine hK_ _ _ (trivial) ?_
  simp only [Act.put, List.getElem_toArray, List.getElem_cons_succ, List.getElem_cons_zero, List.setIfInBounds_toArray, List.set_cons_succ, List.set_cons_zero]
  clear hK_
  refine wpAnyH_take (i := 5) (v := ?v3) rfl (by kernel_rfl) (by kernel_rfl) (by kernel_rfl) (fun _ _ _ h => h) (Or.inl ⟨by rfl, ?y3⟩) (trivial) ?r3
  case y3 =>
    intro w_ hS_
    go_simp
    try with_reducible rfl
  simp only [Act.put, List.getElem_toArray, List.getElem_cons_succ, List.getElem_cons_zero, List.setIfInBounds_toArray, List.set_cons_succ, List.set_cons_zero]
  refine wpAnyH_take (i := 6) (v := ?v4) rfl (by kernel_rfl) (by kernel_rfl) (by kernel_rfl) (fun _ _ _ h => h) (Or.inl ⟨by rfl, ?y4⟩) (trivial) ?r4
  case y4 =>
    intro w_ hS_
    go_simp
    try with_reducible rfl
  simp only [Act.put, List.getElem_toArray, List.getElem_cons_succ, List.getElem_cons_zero, List.setIfInBounds_toArray, List.set_cons_succ, List.set_cons_zero]
  refine wpAnyH_take (i := 7) (v := ?v5) rfl (by kernel_rfl) (by kernel_rfl) (by kernel_rfl) (fun _ _ _ h => h) (Or.inl ⟨by rfl, ?y5⟩) (trivial) ?r5
  case y5 =>
    intro w_ hS_
    go_simp
    try with_reducible rfl
  simp only [Act.put, List.getElem_toArray, List.getElem_cons_succ, List.getElem_cons_zero, List.setIfInBounds_toArray, List.set_cons_succ, List.set_cons_zero]
  refine wpAnyH_take (i := 8) (v := ?v6) rfl (by kernel_rfl) (by kernel_rfl) (by kernel_rfl) (fun _ _ _ h => h) (Or.inl ⟨by rfl, ?y6⟩) (trivial) ?r6
  case y6 =>
    intro w_ hS_
    go_simp
    try with_reducible rfl
  simp only [Act.put, List.getElem_toArray, List.getElem_cons_succ, List.getElem_cons_zero, List.setIfInBounds_toArray, List.set_cons_succ, List.set_cons_zero]
  refine wpAnyH_take (i := 9) (v := ?v7) rfl (by kernel_rfl) (by kernel_rfl) (by kernel_rfl) (fun _ _ _ h => h) (Or.inl ⟨by rfl, ?y7⟩) (trivial) ?r7
  case y7 =>
    intro w_ hS_
    go_simp
    try with_reducible rfl
  simp only [Act.put, List.getElem_toArray, List.getElem_cons_succ, List.getElem_cons_zero, List.setIfInBounds_toArray, List.set_cons_succ, List.set_cons_zero]
  refine wpAnyH_done (by kernel_rfl) ?_ _
  refine NoPanic.normal ?_
  clear R0 R1
  go_wp2_with (fail)
  refine (r_part (rts root secret) 0 (by omega) (by omega) q3 u_ hU).mono ?_
  rintro e_ wp0 ⟨rfl, hb⟩
  replace R2 := keep hb R2
  replace R3 := keep hb R3
  replace R4 := keep hb R4
  replace hU := hU.keep hb
  replace hw := Below.after hw hb
  clear hb
  go_wp2_with (fail)
  refine (r_part (rts root secret) 32 (by omega) (by omega) wp0 u_ hU).mono ?_
  rintro e_ wp1 ⟨rfl, hb⟩
  replace R2 := keep hb R2
  replace R3 := keep hb R3
  replace R4 := keep hb R4
  replace hU := hU.keep hb
  replace hw := Below.after hw hb
  clear hb
  go_wp2_with (fail)
  refine (r_part (rts root secret) 64 (by omega) (by omega) wp1 u_ hU).mono ?_
  rintro e_ wp2 ⟨rfl, hb⟩
  replace R2 := keep hb R2
  replace R3 := keep hb R3
  replace R4 := keep hb R4
  replace hU := hU.keep hb
  replace hw := Below.after hw hb
  clear hb
  have a3 := (setRow_other wp2 (w.heap.size + 1 + 1) (w.heap.size + 1 + 1 + 1) (irow .u8 (pt (rts root secret) 0 32)) (by omega)).trans R3
  have a4 := (setRow_other (wp2.setRow (w.heap.size + 1 + 1) (irow .u8 (pt (rts root secret) 0 32))) (w.heap.size + 1 + 1 + 1) (w.heap.size + 1 + 1 + 1 + 1) (irow .u8 (pt (rts root secret) 32 32)) (by omega)).trans ((setRow_other wp2 (w.heap.size + 1 + 1) (w.heap.size + 1 + 1 + 1 + 1) (irow .u8 (pt (rts root secret) 0 32)) (by omega)).trans R4)
  have b2 := (setRow_other ((wp2.setRow (w.heap.size + 1 + 1) (irow .u8 (pt (rts root secret) 0 32))).setRow (w.heap.size + 1 + 1 + 1) (irow .u8 (pt (rts root secret) 32 32))) (w.heap.size + 1 + 1 + 1 + 1) (w.heap.size + 1 + 1) (irow .u8 (pt (rts root secret) 64 32)) (by omega)).trans ((setRow_other (wp2.setRow (w.heap.size + 1 + 1) (irow .u8 (pt (rts root secret) 0 32))) (w.heap.size + 1 + 1 + 1) (w.heap.size + 1 + 1) (irow .u8 (pt (rts root secret) 32 32)) (by omega)).trans (setRow_heap wp2 (w.heap.size + 1 + 1) _ (irow .u8 (pt (rts root secret) 0 32)) _ _ R2))
  have b3 := (setRow_other ((wp2.setRow (w.heap.size + 1 + 1) (irow .u8 (pt (rts root secret) 0 32))).setRow (w.heap.size + 1 + 1 + 1) (irow .u8 (pt (rts root secret) 32 32))) (w.heap.size + 1 + 1 + 1 + 1) (w.heap.size + 1 + 1 + 1) (irow .u8 (pt (rts root secret) 64 32)) (by omega)).trans (setRow_heap (wp2.setRow (w.heap.size + 1 + 1) (irow .u8 (pt (rts root secret) 0 32))) (w.heap.size + 1 + 1 + 1) _ (irow .u8 (pt (rts root secret) 32 32)) _ _ a3)
  have b4 := setRow_heap ((wp2.setRow (w.heap.size + 1 + 1) (irow .u8 (pt (rts root secret) 0 32))).setRow (w.heap.size + 1 + 1 + 1) (irow .u8 (pt (rts root secret) 32 32))) (w.heap.size + 1 + 1 + 1 + 1) _ (irow .u8 (pt (rts root secret) 64 32)) _ _ a4
  have hw9 := below_setRow (below_setRow (below_setRow hw (show w.heap.size ≤ w.heap.size + 1 + 1 by omega) (irow .u8 (pt (rts root secret) 0 32))) (show w.heap.size ≤ w.heap.size + 1 + 1 + 1 by omega) (irow .u8 (pt (rts root secret) 32 32))) (show w.heap.size ≤ w.heap.size + 1 + 1 + 1 + 1 by omega) (irow .u8 (pt (rts root secret) 64 32))
  go_wp2_with (first | (refine wpList_store_row rfl 23 _ _ rfl (w.heap.size + 1 + 1) (irow .u8 (pt (rts root secret) 0 32)) rfl rfl 23 _ R2 (infok8 _ l0) (fit32 _ _ (zr_len 32) l0) (irow_one _ _) ?_) | (refine wpList_store_row rfl 23 _ _ rfl (w.heap.size + 1 + 1 + 1) (irow .u8 (pt (rts root secret) 32 32)) rfl rfl 23 _ a3 (infok8 _ l32) (fit32 _ _ (zr_len 32) l32) (irow_one _ _) ?_) | (refine wpList_store_row rfl 23 _ _ rfl (w.heap.size + 1 + 1 + 1 + 1) (irow .u8 (pt (rts root secret) 64 32)) rfl rfl 23 _ a4 (infok8 _ l64) (fit32 _ _ (zr_len 32) l64) (irow_one _ _) ?_) | fail)
  exact bodyPost_ret (results_cell3_row Tryd.results11 _ _ (w.heap.size + 1 + 1) (w.heap.size + 1 + 1 + 1) (w.heap.size + 1 + 1 + 1 + 1) _ _ _ _ _ _ _ _ _ _ rfl rfl rfl b2 b3 b4 Tryd.underlying23 rfl (infok8 _ l0) (infok8 _ l32) (infok8 _ l64)) rfl ⟨rfl, hw9⟩
set_option maxRecDepth 100000 in
set_option maxHeartbeats 4000000 in
theorem r_Message (key : List Int) (hkl : key.length = 32) (hkz : ∀ z ∈ key, 0 ≤ z ∧ z < 256) (w : World) : Calls Tryd.prog 13 #[.agg (irow .u8 key)] w fun e w' => e = .returned (.tuple #[.agg (irow .u8 (pt (mss key) 0 32)), .agg (irow .u8 (pt (mss key) 32 16))]) ∧ Below w.heap.size w w' := by
  have hxl := mss_len key
  have hzl := zr_len 16
  have l0 : (pt (mss key) 0 32).length = 32 := pt_len _ _ _ (by omega)
  have l1 : (pt (mss key) 32 16).length = 16 := pt_len _ _ _ (by omega)
  have hR : Hid (mss key = xpd key msn 48) := hide rfl
  have R0 := hp3_0 w (.cells (irow .u8 key) 23) (.cells (irow .u8 (zr 32)) 23) (.cells (irow .u8 (zr 16)) 29)
  have R1 := hp3_1 w (.cells (irow .u8 key) 23) (.cells (irow .u8 (zr 32)) 23) (.cells (irow .u8 (zr 16)) 29)
  have R2 := hp3_2 w (.cells (irow .u8 key) 23) (.cells (irow .u8 (zr 32)) 23) (.cells (irow .u8 (zr 16)) 29)
  have hw : Below w.heap.size w (((w.alloc (.cells (irow .u8 key) 23)).alloc (.cells (irow .u8 (zr 32)) 23)).alloc (.cells (irow .u8 (zr 16)) 29)) := ((((Below.refl _ _).alloc (Nat.le_refl _) _).alloc (by simp) _).alloc (by simp; omega) _)
  have hz0 : (((w.alloc (.cells (irow .u8 key) 23)).alloc (.cells (irow .u8 (zr 32)) 23)).alloc (.cells (irow .u8 (zr 16)) 29)).heap.size = w.heap.size + 1 + 1 + 1 := by rw [size_alloc1, size_alloc1, size_alloc1]
  have cvs : (convert 66 66 (.slice (some ⟨w.heap.size + 1 + 1 + 1, 0, none⟩) 12 12)).run Tryd.prog ((((w.alloc (.cells (irow .u8 key) 23)).alloc (.cells (irow .u8 (zr 32)) 23)).alloc (.cells (irow .u8 (zr 16)) 29)).alloc (.cells #[.int .u8 112, .int .u8 97, .int .u8 119, .int .u8 108, .int .u8 32, .int .u8 109, .int .u8 101, .int .u8 115, .int .u8 115, .int .u8 97, .int .u8 103, .int .u8 101] 5)) = .ok (.slice (some ⟨w.heap.size + 1 + 1 + 1, 0, none⟩) 12 12) ((((w.alloc (.cells (irow .u8 key) 23)).alloc (.cells (irow .u8 (zr 32)) 23)).alloc (.cells (irow .u8 (zr 16)) 29)).alloc (.cells #[.int .u8 112, .int .u8 97, .int .u8 119, .int .u8 108, .int .u8 32, .int .u8 109, .int .u8 101, .int .u8 115, .int .u8 115, .int .u8 97, .int .u8 103, .int .u8 101] 5 (12, 13))) := by
    have h := Go.Lib.run_convert_bytes_const (P := Tryd.prog) (((w.alloc (.cells (irow .u8 key) 23)).alloc (.cells (irow .u8 (zr 32)) 23)).alloc (.cells (irow .u8 (zr 16)) 29)) 66 5 #[.int .u8 112, .int .u8 97, .int .u8 119, .int .u8 108, .int .u8 32, .int .u8 109, .int .u8 101, .int .u8 115, .int .u8 115, .int .u8 97, .int .u8 103, .int .u8 101] 12 12 Tryd.underlying66 Tryd.underlying5
    rw [hz0] at h
    exact h
  go_enter Tryd.func13, Tryd.ntmps13
  go_wp2_with (first | (refine wpList_box rfl 23 _ rfl _ rfl (bK _) ?_) | (refine wpList_alloc rfl 23 rfl (irow .u8 (zr 32)) zkey ?_) | (refine wpList_alloc rfl 29 rfl (irow .u8 (zr 16)) zno ?_) | (refine wpList_load_want rfl 23 _ rfl (w.heap.size) rfl 23 (irow .u8 key) (0, 0) _ R0 Tryd.underlying23 rfl (infok8 _ hkl) ?_) | fail)
  try simp only [size_alloc1, Act.put, List.setIfInBounds_toArray, List.set_cons_succ, List.set_cons_zero]
  clear cvs
  generalize (((w.alloc (.cells (irow .u8 key) 23)).alloc (.cells (irow .u8 (zr 32)) 23)).alloc (.cells (irow .u8 (zr 16)) 29)) = w0 at *
  have hba : Below w0.heap.size w0 (w0.alloc (.cells #[.int .u8 112, .int .u8 97, .int .u8 119, .int .u8 108, .int .u8 32, .int .u8 109, .int .u8 101, .int .u8 115, .int .u8 115, .int .u8 97, .int .u8 103, .int .u8 101] 5 (12, 13))) := (Below.refl _ _).alloc (Nat.le_refl _) _
  have hI := msn_bys w0
  rw [hz0] at hI
  replace R1 := keep hba R1
  replace R2 := keep hba R2
  replace hw := Below.after hw hba
  generalize w0.alloc (.cells #[.int .u8 112, .int .u8 97, .int .u8 119, .int .u8 108, .int .u8 32, .int .u8 109, .int .u8 101, .int .u8 115, .int .u8 115, .int .u8 97, .int .u8 103, .int .u8 101] 5 (12, 13)) = w1 at *
  have cX := r_expand4 key msn 48 w1 _ hkl hkz ⟨hI, by decide, fun a l c h h2 => by cases h; cases h2⟩ (by decide) (by decide)
  clear hba hI R0 hz0
  refine cX.mono ?_
  rintro e_ w2 ⟨v, rfl, hx, hb⟩
  rw [← hR.out] at hx
  replace hx := hx.1
  have l1w := lt_of_row R1
  have l2w := lt_of_row R2
  have hbs := hb.size
  replace R1 := keep hb R1
  replace R2 := keep hb R2
  replace hw := Below.after hw hb
  clear hb cX
  have hc : ∀ i, i < 16 → ∃ b off, v = .slice (some ⟨b, off, none⟩) 48 (vcap v) ∧ b < w2.heap.size ∧ w2.cell? ⟨b, off + (32 + i), none⟩ = some (.int .u8 ((pt (mss key) 32 16).getD i 0)) := fun i hi => by
    obtain ⟨ao, cap, rfl, _, hc, _⟩ := hx
    obtain ⟨b, off, rfl, hb, h1⟩ := hc (32 + i) (by omega)
    rw [hxl]
    exact ⟨b, off, rfl, hb, by rw [h1, pt_get _ 32 16 i hi]⟩
  obtain ⟨b, off, hv, hbl, _⟩ := hc 0 (by decide)
  replace hc : ∀ i, i < 16 → w2.cell? ⟨b, off + (32 + i), none⟩ = some (.int .u8 ((pt (mss key) 32 16).getD i 0)) := fun i hi => by
    obtain ⟨b', off', e, _, h1⟩ := hc i hi
    rw [hv] at e
    cases e
    exact h1
  generalize vcap v = cap at *
  subst hv
  replace hx : Hid (∀ V, Below w2.heap.size w2 V → Bys V (.slice (some ⟨b, off, none⟩) 48 cap) (mss key)) := hide (fun V h => hx.keep h)
  generalize eP : (pt (mss key) 32 16) = P at *
  replace eP := hide eP
  have hw2 : Below w.heap.size w (w2.alloc (.cells (irow .u8 (zr 16)) 29)) := hw.alloc hw.size _
  have hcw : Below w2.heap.size w2 (w2.alloc (.cells (irow .u8 (zr 16)) 29)) := (Below.refl _ _).alloc (Nat.le_refl _) _
  have R3 := hp1_0 w2 (.cells (irow .u8 (zr 16)) 29)
  replace R1 := keep hcw R1
  replace R2 := keep hcw R2
  have hs2 := hw.size
  go_wp2_with (first | (refine wpList_alloc rfl 29 rfl (irow .u8 (zr 16)) zno ?_) | fail)
  clear hw
  generalize w2.alloc (.cells (irow .u8 (zr 16)) 29) = w3 at *
  rw [← mix_zero P (zr 16)] at R3
  go_loopw [7] (fun i wr => ∃ k : Nat, k ≤ 16 ∧ i = .int .i64 k ∧ wr.heap[w2.heap.size]? = some (.cells (irow .u8 (mix P (zr 16) k)) 29 (0, 0)) ∧ wr.heap[w.heap.size + 1]? = some (.cells (irow .u8 (zr 32)) 23 (0, 0)) ∧ wr.heap[w.heap.size + 1 + 1]? = some (.cells (irow .u8 (zr 16)) 29 (0, 0)) ∧ Below w2.heap.size w2 wr ∧ Below w.heap.size w wr) (fun i _ => 16 - (intOf i).toNat)
  case atStart => exact ⟨0, by omega, rfl, R3, R1, R2, hcw, hw2⟩
  case round =>
    clear R1 R2 R3 hw2 hcw
    obtain ⟨k, hk2, rfl, R3, R1, R2, hcw, hw⟩ := hrel
    by_cases hlt : k < 16
    · have hd : decide ((k : Int) < 16) = true := by simp; omega
      have hd2 : decide ((32 : Int) + (k : Int) < 48) = true := by simp; omega
      have h1 := hc k hlt
      have m1 := mix_set P (zr 16) k (by omega) (by omega)
      have n1 := mix_length P (zr 16) k (by omega) (by omega)
      generalize P.getD k 0 = x at *
      have c1 := (hcw.cell (p := ⟨b, off + (32 + k), none⟩) hbl).trans h1
      have f3 := row_frozen R3 k
      have d3 := irow_cell R3 (j := k) (by omega)
      have R3' := irow_set R3 k x
      rw [m1] at R3'
      have R1a : (wr.setCell ⟨w2.heap.size, k, none⟩ (.int .u8 x)).heap[w.heap.size + 1]? = _ := heap_other R1 (by omega)
      have R2a : (wr.setCell ⟨w2.heap.size, k, none⟩ (.int .u8 x)).heap[w.heap.size + 1 + 1]? = _ := heap_other R2 (by omega)
      have hcwa := hcw.setCell (show w2.heap.size ≤ (⟨w2.heap.size, k, none⟩ : Addr).block from Nat.le_refl _) (.int .u8 x)
      have hwa := hw.setCell (show w.heap.size ≤ (⟨w2.heap.size, k, none⟩ : Addr).block from hs2) (.int .u8 x)
      clear h1 m1 R3 R1 R2 hcw hw hc n1
      generalize (mix P (zr 16) k).getD k 0 = x0 at *
      go_wp2_with (fail)
      refine ⟨⟨k + 1, by omega, by go_num, R3', R1a, R2a, hcwa, hwa⟩, ?_⟩
      simp [intOf]; omega
    · obtain rfl : k = 16 := by omega
      have hd : decide ((16 : Int) < 16) = false := by decide
      have ac := mix_all P (zr 16) (by omega)
      rw [hzl] at ac
      rw [ac] at R3
      clear ac hc
      have lw2 := lt_of_row R3
      go_wp2_with (fail)
      have hbd : Below wr.heap.size wr wr.drew := below_drN (Below.refl _ _) 1
      replace hcw := Below.after hcw hbd
      replace R1 := keep hbd R1
      replace R2 := keep hbd R2
      replace R3 := keep hbd R3
      replace hw := Below.after hw hbd
      clear hbd
      refine wp_region_noPanic ?_
      refine wp_region_held (S := fun W => W.heap[w2.heap.size]? = some (.cells (irow .u8 P) 29 (0, 0))) (by kernel_rfl) ?_
      change wpAnyH _ _ _ _ _ _ _ _ (World.drew _)
      generalize wr.drew = wz at *
      refine wpAnyH_take (i := 0) (v := ?v8) rfl (by kernel_rfl) (by kernel_rfl) (by kernel_rfl) (fun _ _ _ h => h) (Or.inl ⟨by rfl, ?y8⟩) (R3) ?r8
      case y8 =>
        intro w_ hS_
        go_simp
        try with_reducible rfl
      simp only [Act.put, List.getElem_toArray, List.getElem_cons_zero, List.setIfInBounds_toArray, List.set_cons_succ, List.set_cons_zero]
      refine wpAnyH_take (i := 2) (v := .agg (irow .u8 P)) rfl (by kernel_rfl) (by kernel_rfl) (by kernel_rfl) (fun _ _ _ h => h) (Or.inl ⟨by rfl, ?y9⟩) (R3) ?r9
      case y9 =>
        intro w_ hS_
        simp only [List.getElem_toArray, List.getElem_cons_succ, List.getElem_cons_zero]
        exact run_load_part 29 _ (by rfl) (w2.heap.size) 0 (by rfl) 29 (irow .u8 P) (0, 0) (irow .u8 P) _ (hS_) (all_row _) Tryd.underlying29 rfl (infoN _ l1)
      simp only [Act.put, List.getElem_toArray, List.getElem_cons_succ, List.getElem_cons_zero, List.setIfInBounds_toArray, List.set_cons_succ, List.set_cons_zero]
      refine wpAnyH_one (k := 1) (fuel := 2) (by kernel_rfl) rfl (by kernel_rfl) (fun K_ hK_ => ?_)
      have hX9 := hx.out _ hcw
      refine wp_call_ex (f := 32) (by kernel_rfl) (ex1 (r_part (mss key) 0 (by omega) (by omega) wz _ hX9)) (fun v_ q4 hX_ => ?_)
      obtain ⟨rfl, hb_⟩ := hX_
      replace hcw := Below.after hcw hb_
      replace R1 := keep hb_ R1
      replace R2 := keep hb_ R2
      replace R3 := keep hb_ R3
      replace hw := Below.after hw hb_
      clear hb_
      clear hX9
      refine hK_ _ _ (R3) ?_
      simp only [Act.put, List.getElem_toArray, List.getElem_cons_succ, List.getElem_cons_zero, List.setIfInBounds_toArray, List.set_cons_succ, List.set_cons_zero]
      clear hK_
      refine wpAnyH_one (k := 3) (fuel := 1) (by kernel_rfl) rfl (by kernel_rfl) (fun K_ hK_ => ?_)
      refine wp_store_row 23 _ _ rfl (w.heap.size + 1) (irow .u8 (pt (mss key) 0 32)) rfl rfl 23 _ R1 (infok8 _ l0) (fit32 _ _ (zr_len 32) l0) (irow_one _ _) ?_
      replace R2 := (setRow_other q4 (w.heap.size + 1) (w.heap.size + 1 + 1) (irow .u8 (pt (mss key) 0 32)) (by omega)).trans R2
      replace R3 := (setRow_other q4 (w.heap.size + 1) (w2.heap.size) (irow .u8 (pt (mss key) 0 32)) (by omega)).trans R3
      replace R1 := setRow_heap q4 (w.heap.size + 1) _ (irow .u8 (pt (mss key) 0 32)) _ _ R1
      replace hw := below_setRow hw (show w.heap.size ≤ w.heap.size + 1 by omega) (irow .u8 (pt (mss key) 0 32))
      refine hK_ _ _ (R3) ?_
      simp only [Act.put]
      clear hK_
      generalize q4.setRow (w.heap.size + 1) (irow .u8 (pt (mss key) 0 32)) = q5 at *
      refine wpAnyH_one (k := 4) (fuel := 0) (by kernel_rfl) rfl (by kernel_rfl) (fun K_ hK_ => ?_)
      refine wp_store_row 29 _ _ rfl (w.heap.size + 1 + 1) (irow .u8 P) rfl rfl 29 _ R2 (infoN _ l1) (fit16 _ _ (zr_len 16) l1) (irow_one _ _) ?_
      replace R1 := (setRow_other q5 (w.heap.size + 1 + 1) (w.heap.size + 1) (irow .u8 P) (by omega)).trans R1
      replace R3 := (setRow_other q5 (w.heap.size + 1 + 1) (w2.heap.size) (irow .u8 P) (by omega)).trans R3
      replace R2 := setRow_heap q5 (w.heap.size + 1 + 1) _ (irow .u8 P) _ _ R2
      replace hw := below_setRow hw (show w.heap.size ≤ w.heap.size + 1 + 1 by omega) (irow .u8 P)
      refine hK_ _ _ (R3) ?_
      simp only [Act.put]
      clear hK_
      generalize q5.setRow (w.heap.size + 1 + 1) (irow .u8 P) = q6 at *
      refine wpAnyH_done (by kernel_rfl) ?_ _
      refine NoPanic.normal ?_
      go_wp2
      exact bodyPost_ret (results_cell_cell Tryd.results13 _ _ (w.heap.size + 1) (w.heap.size + 1 + 1) _ _ _ _ _ _ _ _ rfl rfl R1 R2 Tryd.underlying23 rfl Tryd.underlying29 rfl (infok8 _ l0) (infoN _ l1)) rfl ⟨by rw [eP.out], hw⟩

end Go.Proofs.YtmflfdedhbnfnaaDoor

namespace Go.Proofs.YtmflfdedhbnfnaaDoor
set_option maxRecDepth 100000
open Go Go.RowKit Go.Sort
attribute [local go_sem] setCell_drewN alloc_drewN

/-- Where a walk shall stop. -/
def WpStay (p : Prop) : Prop := p
theorem wpList_stay {P : Program} {ops : Array Oper} {rest : List Oper} {a : Act} {w : World} {Q : Exit → Act → World → Prop} (h : WpStay (wpList P ops Q rest a w)) : wpList P ops Q rest a w := h
theorem eqKs (l : List Int) (hl : l.length = 32) (W : World) : (Op.equalIn 10000 23 (.agg (irow .u8 l)) (.agg (irow .u8 l))).run Tryd.prog W = .ok true W := by
  rw [eqK _ _ hl hl]; simp
theorem eqNs (l : List Int) (hl : l.length = 16) (w : World) : (Op.equalIn 10000 29 (.agg (irow .u8 l)) (.agg (irow .u8 l))).run Tryd.prog w = .ok true w := by
  obtain ⟨i0, hi, _⟩ := info8
  have h := run_equal_ints w Tryd.underlying29 Tryd.underlying5 hi (by kernel_rfl) l l hl hl
  simp only [decide_true] at h
  exact h
set_option maxRecDepth 100000 in
set_option maxHeartbeats 4000000 in
theorem makings_aux (a b A2 A1 P0 P1 P2 M0 M1 : List Int) (hal : a.length = 32) (hbl : b.length = 32) (l2 : A2.length = 32) (l1 : A1.length = 32) (p0 : P0.length = 32) (p1 : P1.length = 32) (p2 : P2.length = 32) (m0 : M0.length = 32) (m1 : M1.length = 16) (w : World)
    (cS : ∀ V, Below w.heap.size w V → Calls Tryd.prog 8 #[.agg (irow .u8 a)] V fun e w' => e = .returned (.tuple #[.agg (irow .u8 A2), .agg (irow .u8 A1)]) ∧ Below V.heap.size V w')
    (cT : ∀ V, Calls Tryd.prog 9 #[.agg (irow .u8 a)] V fun e w' => e = .returned (.tuple #[.agg (irow .u8 A2), .agg (irow .u8 A1)]) ∧ Below V.heap.size V w')
    (cR : ∀ V, Below w.heap.size w V → Calls Tryd.prog 10 #[.agg (irow .u8 a), .agg (irow .u8 b)] V fun e w' => e = .returned (.tuple #[.agg (irow .u8 P0), .agg (irow .u8 P1), .agg (irow .u8 P2)]) ∧ Below V.heap.size V w')
    (cU : ∀ V, Calls Tryd.prog 11 #[.agg (irow .u8 a), .agg (irow .u8 b)] V fun e w' => e = .returned (.tuple #[.agg (irow .u8 P0), .agg (irow .u8 P1), .agg (irow .u8 P2)]) ∧ Below V.heap.size V w')
    (cM : ∀ V, Below w.heap.size w V → Calls Tryd.prog 12 #[.agg (irow .u8 a)] V fun e w' => e = .returned (.tuple #[.agg (irow .u8 M0), .agg (irow .u8 M1)]) ∧ Below V.heap.size V w')
    (cN : ∀ V, Calls Tryd.prog 13 #[.agg (irow .u8 a)] V fun e w' => e = .returned (.tuple #[.agg (irow .u8 M0), .agg (irow .u8 M1)]) ∧ Below V.heap.size V w') : Calls Tryd.prog 3 #[.agg (irow .u8 a), .agg (irow .u8 b)] w fun e w' => e = .returned (.bool true) ∧ Below w.heap.size w w' := by
  have R0 := hp2_0 w (.cells (irow .u8 a) 23) (.cells (irow .u8 b) 23)
  have R1 := hp2_1 w (.cells (irow .u8 a) 23) (.cells (irow .u8 b) 23)
  have hw : Below w.heap.size w ((w.alloc (.cells (irow .u8 a) 23)).alloc (.cells (irow .u8 b) 23)) := (((Below.refl _ _).alloc (Nat.le_refl _) _).alloc (by simp) _)
  have e2 := eqKs A2 l2
  have e1 := eqKs A1 l1
  have q0 := eqKs P0 p0
  have q1 := eqKs P1 p1
  have q2 := eqKs P2 p2
  have n0 := eqKs M0 m0
  have n1 := eqNs M1 m1
  go_enter Tryd.func3, Tryd.ntmps3
  go_wp2_with (first | (refine wpList_box rfl 23 _ rfl _ rfl (bK _) ?_) | (refine wpList_load_want rfl 23 _ rfl (w.heap.size) rfl 23 (irow .u8 a) (0, 0) _ R0 Tryd.underlying23 rfl (infok8 _ hal) ?_) | fail)
  try simp only [size_alloc1, Act.put, List.setIfInBounds_toArray, List.set_cons_succ, List.set_cons_zero]
  generalize ((w.alloc (.cells (irow .u8 a) 23)).alloc (.cells (irow .u8 b) 23)) = w0 at *
  refine (cS w0 hw).mono ?_
  rintro e_ w0a ⟨rfl, hb⟩
  replace R0 := keep hb R0
  replace R1 := keep hb R1
  replace hw := Below.after hw hb
  clear hb
  have lt0_R0 := lt_of_row R0
  have zc00 := hp2_0 w0a (.cells (irow .u8 (zr 32)) 23) (.cells (irow .u8 (zr 32)) 23)
  have zc01 := hp2_1 w0a (.cells (irow .u8 (zr 32)) 23) (.cells (irow .u8 (zr 32)) 23)
  have yc000 := setRow_heap ((w0a.alloc (.cells (irow .u8 (zr 32)) 23)).alloc (.cells (irow .u8 (zr 32)) 23)) (w0a.heap.size) _ (irow .u8 A2) _ _ zc00
  have yc001 := (setRow_other ((w0a.alloc (.cells (irow .u8 (zr 32)) 23)).alloc (.cells (irow .u8 (zr 32)) 23)) (w0a.heap.size) (w0a.heap.size + 1) (irow .u8 A2) (by omega)).trans zc01
  have yc010 := (setRow_other (((w0a.alloc (.cells (irow .u8 (zr 32)) 23)).alloc (.cells (irow .u8 (zr 32)) 23)).setRow (w0a.heap.size) (irow .u8 A2)) (w0a.heap.size + 1) (w0a.heap.size) (irow .u8 A1) (by omega)).trans yc000
  have yc011 := setRow_heap (((w0a.alloc (.cells (irow .u8 (zr 32)) 23)).alloc (.cells (irow .u8 (zr 32)) 23)).setRow (w0a.heap.size) (irow .u8 A2)) (w0a.heap.size + 1) _ (irow .u8 A1) _ _ yc001
  have hbF : Below w0a.heap.size w0a ((((w0a.alloc (.cells (irow .u8 (zr 32)) 23)).alloc (.cells (irow .u8 (zr 32)) 23)).setRow (w0a.heap.size) (irow .u8 A2)).setRow (w0a.heap.size + 1) (irow .u8 A1)) := (below_setRow (below_setRow (((Below.refl _ _).alloc (Nat.le_refl _) _).alloc (by simp) _) (show w0a.heap.size ≤ w0a.heap.size by omega) (irow .u8 A2)) (show w0a.heap.size ≤ w0a.heap.size + 1 by omega) (irow .u8 A1))
  go_wp2_with (first | (refine wpList_alloc rfl 23 rfl (irow .u8 (zr 32)) zkey ?_) | (refine wpList_store_row rfl 23 _ _ rfl (w0a.heap.size) (irow .u8 A2) rfl rfl 23 _ zc00 (infok8 _ l2) (fit32 _ _ (zr_len 32) l2) (irow_one _ _) ?_; refine wpList_stay ?_) | fail)
  unfold WpStay
  go_wp2_with (first | (refine wpList_store_row rfl 23 _ _ rfl (w0a.heap.size + 1) (irow .u8 A1) rfl rfl 23 _ yc001 (infok8 _ l1) (fit32 _ _ (zr_len 32) l1) (irow_one _ _) ?_; refine wpList_stay ?_) | fail)
  unfold WpStay
  replace R0 := keep hbF R0
  replace R1 := keep hbF R1
  replace hw := Below.after hw hbF
  clear hbF
  generalize ((((w0a.alloc (.cells (irow .u8 (zr 32)) 23)).alloc (.cells (irow .u8 (zr 32)) 23)).setRow (w0a.heap.size) (irow .u8 A2)).setRow (w0a.heap.size + 1) (irow .u8 A1)) = w0b at *
  clear zc00 zc01 yc000 yc001
  generalize hg0 : w0a.heap.size = g0 at *
  clear hg0
  go_wp2_with (first | (refine wpList_load_want rfl 23 _ rfl (w.heap.size) rfl 23 (irow .u8 a) (0, 0) _ R0 Tryd.underlying23 rfl (infok8 _ hal) ?_) | (refine wpList_load_want rfl 23 _ rfl (w.heap.size + 1) rfl 23 (irow .u8 b) (0, 0) _ R1 Tryd.underlying23 rfl (infok8 _ hbl) ?_) | (refine wpList_load_want rfl 23 _ rfl (g0) rfl 23 (irow .u8 A2) (0, 0) _ yc010 Tryd.underlying23 rfl (infok8 _ l2) ?_) | (refine wpList_load_want rfl 23 _ rfl (g0 + 1) rfl 23 (irow .u8 A1) (0, 0) _ yc011 Tryd.underlying23 rfl (infok8 _ l1) ?_) | fail)
  refine (cT w0b).mono ?_
  rintro e_ w1a ⟨rfl, hb⟩
  replace R0 := keep hb R0
  replace R1 := keep hb R1
  replace yc010 := keep hb yc010
  replace yc011 := keep hb yc011
  replace hw := Below.after hw hb
  clear hb
  have lt1_R0 := lt_of_row R0
  have zc10 := hp2_0 w1a (.cells (irow .u8 (zr 32)) 23) (.cells (irow .u8 (zr 32)) 23)
  have zc11 := hp2_1 w1a (.cells (irow .u8 (zr 32)) 23) (.cells (irow .u8 (zr 32)) 23)
  have yc100 := setRow_heap ((w1a.alloc (.cells (irow .u8 (zr 32)) 23)).alloc (.cells (irow .u8 (zr 32)) 23)) (w1a.heap.size) _ (irow .u8 A2) _ _ zc10
  have yc101 := (setRow_other ((w1a.alloc (.cells (irow .u8 (zr 32)) 23)).alloc (.cells (irow .u8 (zr 32)) 23)) (w1a.heap.size) (w1a.heap.size + 1) (irow .u8 A2) (by omega)).trans zc11
  have yc110 := (setRow_other (((w1a.alloc (.cells (irow .u8 (zr 32)) 23)).alloc (.cells (irow .u8 (zr 32)) 23)).setRow (w1a.heap.size) (irow .u8 A2)) (w1a.heap.size + 1) (w1a.heap.size) (irow .u8 A1) (by omega)).trans yc100
  have yc111 := setRow_heap (((w1a.alloc (.cells (irow .u8 (zr 32)) 23)).alloc (.cells (irow .u8 (zr 32)) 23)).setRow (w1a.heap.size) (irow .u8 A2)) (w1a.heap.size + 1) _ (irow .u8 A1) _ _ yc101
  have hbF : Below w1a.heap.size w1a ((((w1a.alloc (.cells (irow .u8 (zr 32)) 23)).alloc (.cells (irow .u8 (zr 32)) 23)).setRow (w1a.heap.size) (irow .u8 A2)).setRow (w1a.heap.size + 1) (irow .u8 A1)) := (below_setRow (below_setRow (((Below.refl _ _).alloc (Nat.le_refl _) _).alloc (by simp) _) (show w1a.heap.size ≤ w1a.heap.size by omega) (irow .u8 A2)) (show w1a.heap.size ≤ w1a.heap.size + 1 by omega) (irow .u8 A1))
  go_wp2_with (first | (refine wpList_alloc rfl 23 rfl (irow .u8 (zr 32)) zkey ?_) | (refine wpList_store_row rfl 23 _ _ rfl (w1a.heap.size) (irow .u8 A2) rfl rfl 23 _ zc10 (infok8 _ l2) (fit32 _ _ (zr_len 32) l2) (irow_one _ _) ?_; refine wpList_stay ?_) | fail)
  unfold WpStay
  go_wp2_with (first | (refine wpList_store_row rfl 23 _ _ rfl (w1a.heap.size + 1) (irow .u8 A1) rfl rfl 23 _ yc101 (infok8 _ l1) (fit32 _ _ (zr_len 32) l1) (irow_one _ _) ?_; refine wpList_stay ?_) | fail)
  unfold WpStay
  replace R0 := keep hbF R0
  replace R1 := keep hbF R1
  replace yc010 := keep hbF yc010
  replace yc011 := keep hbF yc011
  replace hw := Below.after hw hbF
  clear hbF
  generalize ((((w1a.alloc (.cells (irow .u8 (zr 32)) 23)).alloc (.cells (irow .u8 (zr 32)) 23)).setRow (w1a.heap.size) (irow .u8 A2)).setRow (w1a.heap.size + 1) (irow .u8 A1)) = w1b at *
  clear zc10 zc11 yc100 yc101
  generalize hg1 : w1a.heap.size = g1 at *
  clear hg1
  go_wp2_with (first | (refine wpList_load_want rfl 23 _ rfl (w.heap.size) rfl 23 (irow .u8 a) (0, 0) _ R0 Tryd.underlying23 rfl (infok8 _ hal) ?_) | (refine wpList_load_want rfl 23 _ rfl (w.heap.size + 1) rfl 23 (irow .u8 b) (0, 0) _ R1 Tryd.underlying23 rfl (infok8 _ hbl) ?_) | (refine wpList_load_want rfl 23 _ rfl (g0) rfl 23 (irow .u8 A2) (0, 0) _ yc010 Tryd.underlying23 rfl (infok8 _ l2) ?_) | (refine wpList_load_want rfl 23 _ rfl (g0 + 1) rfl 23 (irow .u8 A1) (0, 0) _ yc011 Tryd.underlying23 rfl (infok8 _ l1) ?_) | (refine wpList_load_want rfl 23 _ rfl (g1) rfl 23 (irow .u8 A2) (0, 0) _ yc110 Tryd.underlying23 rfl (infok8 _ l2) ?_) | (refine wpList_load_want rfl 23 _ rfl (g1 + 1) rfl 23 (irow .u8 A1) (0, 0) _ yc111 Tryd.underlying23 rfl (infok8 _ l1) ?_) | fail)
  refine (cR w1b hw).mono ?_
  rintro e_ w2a ⟨rfl, hb⟩
  replace R0 := keep hb R0
  replace R1 := keep hb R1
  replace yc010 := keep hb yc010
  replace yc011 := keep hb yc011
  replace yc110 := keep hb yc110
  replace yc111 := keep hb yc111
  replace hw := Below.after hw hb
  clear hb
  have lt2_R0 := lt_of_row R0
  have zc20 := hp3_0 w2a (.cells (irow .u8 (zr 32)) 23) (.cells (irow .u8 (zr 32)) 23) (.cells (irow .u8 (zr 32)) 23)
  have zc21 := hp3_1 w2a (.cells (irow .u8 (zr 32)) 23) (.cells (irow .u8 (zr 32)) 23) (.cells (irow .u8 (zr 32)) 23)
  have zc22 := hp3_2 w2a (.cells (irow .u8 (zr 32)) 23) (.cells (irow .u8 (zr 32)) 23) (.cells (irow .u8 (zr 32)) 23)
  have yc200 := setRow_heap (((w2a.alloc (.cells (irow .u8 (zr 32)) 23)).alloc (.cells (irow .u8 (zr 32)) 23)).alloc (.cells (irow .u8 (zr 32)) 23)) (w2a.heap.size) _ (irow .u8 P0) _ _ zc20
  have yc201 := (setRow_other (((w2a.alloc (.cells (irow .u8 (zr 32)) 23)).alloc (.cells (irow .u8 (zr 32)) 23)).alloc (.cells (irow .u8 (zr 32)) 23)) (w2a.heap.size) (w2a.heap.size + 1) (irow .u8 P0) (by omega)).trans zc21
  have yc202 := (setRow_other (((w2a.alloc (.cells (irow .u8 (zr 32)) 23)).alloc (.cells (irow .u8 (zr 32)) 23)).alloc (.cells (irow .u8 (zr 32)) 23)) (w2a.heap.size) (w2a.heap.size + 1 + 1) (irow .u8 P0) (by omega)).trans zc22
  have yc210 := (setRow_other ((((w2a.alloc (.cells (irow .u8 (zr 32)) 23)).alloc (.cells (irow .u8 (zr 32)) 23)).alloc (.cells (irow .u8 (zr 32)) 23)).setRow (w2a.heap.size) (irow .u8 P0)) (w2a.heap.size + 1) (w2a.heap.size) (irow .u8 P1) (by omega)).trans yc200
  have yc211 := setRow_heap ((((w2a.alloc (.cells (irow .u8 (zr 32)) 23)).alloc (.cells (irow .u8 (zr 32)) 23)).alloc (.cells (irow .u8 (zr 32)) 23)).setRow (w2a.heap.size) (irow .u8 P0)) (w2a.heap.size + 1) _ (irow .u8 P1) _ _ yc201
  have yc212 := (setRow_other ((((w2a.alloc (.cells (irow .u8 (zr 32)) 23)).alloc (.cells (irow .u8 (zr 32)) 23)).alloc (.cells (irow .u8 (zr 32)) 23)).setRow (w2a.heap.size) (irow .u8 P0)) (w2a.heap.size + 1) (w2a.heap.size + 1 + 1) (irow .u8 P1) (by omega)).trans yc202
  have yc220 := (setRow_other (((((w2a.alloc (.cells (irow .u8 (zr 32)) 23)).alloc (.cells (irow .u8 (zr 32)) 23)).alloc (.cells (irow .u8 (zr 32)) 23)).setRow (w2a.heap.size) (irow .u8 P0)).setRow (w2a.heap.size + 1) (irow .u8 P1)) (w2a.heap.size + 1 + 1) (w2a.heap.size) (irow .u8 P2) (by omega)).trans yc210
  have yc221 := (setRow_other (((((w2a.alloc (.cells (irow .u8 (zr 32)) 23)).alloc (.cells (irow .u8 (zr 32)) 23)).alloc (.cells (irow .u8 (zr 32)) 23)).setRow (w2a.heap.size) (irow .u8 P0)).setRow (w2a.heap.size + 1) (irow .u8 P1)) (w2a.heap.size + 1 + 1) (w2a.heap.size + 1) (irow .u8 P2) (by omega)).trans yc211
  have yc222 := setRow_heap (((((w2a.alloc (.cells (irow .u8 (zr 32)) 23)).alloc (.cells (irow .u8 (zr 32)) 23)).alloc (.cells (irow .u8 (zr 32)) 23)).setRow (w2a.heap.size) (irow .u8 P0)).setRow (w2a.heap.size + 1) (irow .u8 P1)) (w2a.heap.size + 1 + 1) _ (irow .u8 P2) _ _ yc212
  have hbF : Below w2a.heap.size w2a ((((((w2a.alloc (.cells (irow .u8 (zr 32)) 23)).alloc (.cells (irow .u8 (zr 32)) 23)).alloc (.cells (irow .u8 (zr 32)) 23)).setRow (w2a.heap.size) (irow .u8 P0)).setRow (w2a.heap.size + 1) (irow .u8 P1)).setRow (w2a.heap.size + 1 + 1) (irow .u8 P2)) := (below_setRow (below_setRow (below_setRow ((((Below.refl _ _).alloc (Nat.le_refl _) _).alloc (by simp) _).alloc (by simp; omega) _) (show w2a.heap.size ≤ w2a.heap.size by omega) (irow .u8 P0)) (show w2a.heap.size ≤ w2a.heap.size + 1 by omega) (irow .u8 P1)) (show w2a.heap.size ≤ w2a.heap.size + 1 + 1 by omega) (irow .u8 P2))
  go_wp2_with (first | (refine wpList_alloc rfl 23 rfl (irow .u8 (zr 32)) zkey ?_) | (refine wpList_store_row rfl 23 _ _ rfl (w2a.heap.size) (irow .u8 P0) rfl rfl 23 _ zc20 (infok8 _ p0) (fit32 _ _ (zr_len 32) p0) (irow_one _ _) ?_; refine wpList_stay ?_) | fail)
  unfold WpStay
  go_wp2_with (first | (refine wpList_store_row rfl 23 _ _ rfl (w2a.heap.size + 1) (irow .u8 P1) rfl rfl 23 _ yc201 (infok8 _ p1) (fit32 _ _ (zr_len 32) p1) (irow_one _ _) ?_; refine wpList_stay ?_) | fail)
  unfold WpStay
  go_wp2_with (first | (refine wpList_store_row rfl 23 _ _ rfl (w2a.heap.size + 1 + 1) (irow .u8 P2) rfl rfl 23 _ yc212 (infok8 _ p2) (fit32 _ _ (zr_len 32) p2) (irow_one _ _) ?_; refine wpList_stay ?_) | fail)
  unfold WpStay
  replace R0 := keep hbF R0
  replace R1 := keep hbF R1
  replace yc010 := keep hbF yc010
  replace yc011 := keep hbF yc011
  replace yc110 := keep hbF yc110
  replace yc111 := keep hbF yc111
  replace hw := Below.after hw hbF
  clear hbF
  generalize ((((((w2a.alloc (.cells (irow .u8 (zr 32)) 23)).alloc (.cells (irow .u8 (zr 32)) 23)).alloc (.cells (irow .u8 (zr 32)) 23)).setRow (w2a.heap.size) (irow .u8 P0)).setRow (w2a.heap.size + 1) (irow .u8 P1)).setRow (w2a.heap.size + 1 + 1) (irow .u8 P2)) = w2b at *
  clear zc20 zc21 zc22 yc200 yc201 yc202 yc210 yc211 yc212
  generalize hg2 : w2a.heap.size = g2 at *
  clear hg2
  go_wp2_with (first | (refine wpList_load_want rfl 23 _ rfl (w.heap.size) rfl 23 (irow .u8 a) (0, 0) _ R0 Tryd.underlying23 rfl (infok8 _ hal) ?_) | (refine wpList_load_want rfl 23 _ rfl (w.heap.size + 1) rfl 23 (irow .u8 b) (0, 0) _ R1 Tryd.underlying23 rfl (infok8 _ hbl) ?_) | (refine wpList_load_want rfl 23 _ rfl (g0) rfl 23 (irow .u8 A2) (0, 0) _ yc010 Tryd.underlying23 rfl (infok8 _ l2) ?_) | (refine wpList_load_want rfl 23 _ rfl (g0 + 1) rfl 23 (irow .u8 A1) (0, 0) _ yc011 Tryd.underlying23 rfl (infok8 _ l1) ?_) | (refine wpList_load_want rfl 23 _ rfl (g1) rfl 23 (irow .u8 A2) (0, 0) _ yc110 Tryd.underlying23 rfl (infok8 _ l2) ?_) | (refine wpList_load_want rfl 23 _ rfl (g1 + 1) rfl 23 (irow .u8 A1) (0, 0) _ yc111 Tryd.underlying23 rfl (infok8 _ l1) ?_) | (refine wpList_load_want rfl 23 _ rfl (g2) rfl 23 (irow .u8 P0) (0, 0) _ yc220 Tryd.underlying23 rfl (infok8 _ p0) ?_) | (refine wpList_load_want rfl 23 _ rfl (g2 + 1) rfl 23 (irow .u8 P1) (0, 0) _ yc221 Tryd.underlying23 rfl (infok8 _ p1) ?_) | (refine wpList_load_want rfl 23 _ rfl (g2 + 1 + 1) rfl 23 (irow .u8 P2) (0, 0) _ yc222 Tryd.underlying23 rfl (infok8 _ p2) ?_) | fail)
  refine (cU w2b).mono ?_
  rintro e_ w3a ⟨rfl, hb⟩
  replace R0 := keep hb R0
  replace R1 := keep hb R1
  replace yc010 := keep hb yc010
  replace yc011 := keep hb yc011
  replace yc110 := keep hb yc110
  replace yc111 := keep hb yc111
  replace yc220 := keep hb yc220
  replace yc221 := keep hb yc221
  replace yc222 := keep hb yc222
  replace hw := Below.after hw hb
  clear hb
  have lt3_R0 := lt_of_row R0
  have zc30 := hp3_0 w3a (.cells (irow .u8 (zr 32)) 23) (.cells (irow .u8 (zr 32)) 23) (.cells (irow .u8 (zr 32)) 23)
  have zc31 := hp3_1 w3a (.cells (irow .u8 (zr 32)) 23) (.cells (irow .u8 (zr 32)) 23) (.cells (irow .u8 (zr 32)) 23)
  have zc32 := hp3_2 w3a (.cells (irow .u8 (zr 32)) 23) (.cells (irow .u8 (zr 32)) 23) (.cells (irow .u8 (zr 32)) 23)
  have yc300 := setRow_heap (((w3a.alloc (.cells (irow .u8 (zr 32)) 23)).alloc (.cells (irow .u8 (zr 32)) 23)).alloc (.cells (irow .u8 (zr 32)) 23)) (w3a.heap.size) _ (irow .u8 P0) _ _ zc30
  have yc301 := (setRow_other (((w3a.alloc (.cells (irow .u8 (zr 32)) 23)).alloc (.cells (irow .u8 (zr 32)) 23)).alloc (.cells (irow .u8 (zr 32)) 23)) (w3a.heap.size) (w3a.heap.size + 1) (irow .u8 P0) (by omega)).trans zc31
  have yc302 := (setRow_other (((w3a.alloc (.cells (irow .u8 (zr 32)) 23)).alloc (.cells (irow .u8 (zr 32)) 23)).alloc (.cells (irow .u8 (zr 32)) 23)) (w3a.heap.size) (w3a.heap.size + 1 + 1) (irow .u8 P0) (by omega)).trans zc32
  have yc310 := (setRow_other ((((w3a.alloc (.cells (irow .u8 (zr 32)) 23)).alloc (.cells (irow .u8 (zr 32)) 23)).alloc (.cells (irow .u8 (zr 32)) 23)).setRow (w3a.heap.size) (irow .u8 P0)) (w3a.heap.size + 1) (w3a.heap.size) (irow .u8 P1) (by omega)).trans yc300
  have yc311 := setRow_heap ((((w3a.alloc (.cells (irow .u8 (zr 32)) 23)).alloc (.cells (irow .u8 (zr 32)) 23)).alloc (.cells (irow .u8 (zr 32)) 23)).setRow (w3a.heap.size) (irow .u8 P0)) (w3a.heap.size + 1) _ (irow .u8 P1) _ _ yc301
  have yc312 := (setRow_other ((((w3a.alloc (.cells (irow .u8 (zr 32)) 23)).alloc (.cells (irow .u8 (zr 32)) 23)).alloc (.cells (irow .u8 (zr 32)) 23)).setRow (w3a.heap.size) (irow .u8 P0)) (w3a.heap.size + 1) (w3a.heap.size + 1 + 1) (irow .u8 P1) (by omega)).trans yc302
  have yc320 := (setRow_other (((((w3a.alloc (.cells (irow .u8 (zr 32)) 23)).alloc (.cells (irow .u8 (zr 32)) 23)).alloc (.cells (irow .u8 (zr 32)) 23)).setRow (w3a.heap.size) (irow .u8 P0)).setRow (w3a.heap.size + 1) (irow .u8 P1)) (w3a.heap.size + 1 + 1) (w3a.heap.size) (irow .u8 P2) (by omega)).trans yc310
  have yc321 := (setRow_other (((((w3a.alloc (.cells (irow .u8 (zr 32)) 23)).alloc (.cells (irow .u8 (zr 32)) 23)).alloc (.cells (irow .u8 (zr 32)) 23)).setRow (w3a.heap.size) (irow .u8 P0)).setRow (w3a.heap.size + 1) (irow .u8 P1)) (w3a.heap.size + 1 + 1) (w3a.heap.size + 1) (irow .u8 P2) (by omega)).trans yc311
  have yc322 := setRow_heap (((((w3a.alloc (.cells (irow .u8 (zr 32)) 23)).alloc (.cells (irow .u8 (zr 32)) 23)).alloc (.cells (irow .u8 (zr 32)) 23)).setRow (w3a.heap.size) (irow .u8 P0)).setRow (w3a.heap.size + 1) (irow .u8 P1)) (w3a.heap.size + 1 + 1) _ (irow .u8 P2) _ _ yc312
  have hbF : Below w3a.heap.size w3a ((((((w3a.alloc (.cells (irow .u8 (zr 32)) 23)).alloc (.cells (irow .u8 (zr 32)) 23)).alloc (.cells (irow .u8 (zr 32)) 23)).setRow (w3a.heap.size) (irow .u8 P0)).setRow (w3a.heap.size + 1) (irow .u8 P1)).setRow (w3a.heap.size + 1 + 1) (irow .u8 P2)) := (below_setRow (below_setRow (below_setRow ((((Below.refl _ _).alloc (Nat.le_refl _) _).alloc (by simp) _).alloc (by simp; omega) _) (show w3a.heap.size ≤ w3a.heap.size by omega) (irow .u8 P0)) (show w3a.heap.size ≤ w3a.heap.size + 1 by omega) (irow .u8 P1)) (show w3a.heap.size ≤ w3a.heap.size + 1 + 1 by omega) (irow .u8 P2))
  go_wp2_with (first | (refine wpList_alloc rfl 23 rfl (irow .u8 (zr 32)) zkey ?_) | (refine wpList_store_row rfl 23 _ _ rfl (w3a.heap.size) (irow .u8 P0) rfl rfl 23 _ zc30 (infok8 _ p0) (fit32 _ _ (zr_len 32) p0) (irow_one _ _) ?_; refine wpList_stay ?_) | fail)
  unfold WpStay
  go_wp2_with (first | (refine wpList_store_row rfl 23 _ _ rfl (w3a.heap.size + 1) (irow .u8 P1) rfl rfl 23 _ yc301 (infok8 _ p1) (fit32 _ _ (zr_len 32) p1) (irow_one _ _) ?_; refine wpList_stay ?_) | fail)
  unfold WpStay
  go_wp2_with (first | (refine wpList_store_row rfl 23 _ _ rfl (w3a.heap.size + 1 + 1) (irow .u8 P2) rfl rfl 23 _ yc312 (infok8 _ p2) (fit32 _ _ (zr_len 32) p2) (irow_one _ _) ?_; refine wpList_stay ?_) | fail)
  unfold WpStay
  replace R0 := keep hbF R0
  replace R1 := keep hbF R1
  replace yc010 := keep hbF yc010
  replace yc011 := keep hbF yc011
  replace yc110 := keep hbF yc110
  replace yc111 := keep hbF yc111
  replace yc220 := keep hbF yc220
  replace yc221 := keep hbF yc221
  replace yc222 := keep hbF yc222
  replace hw := Below.after hw hbF
  clear hbF
  generalize ((((((w3a.alloc (.cells (irow .u8 (zr 32)) 23)).alloc (.cells (irow .u8 (zr 32)) 23)).alloc (.cells (irow .u8 (zr 32)) 23)).setRow (w3a.heap.size) (irow .u8 P0)).setRow (w3a.heap.size + 1) (irow .u8 P1)).setRow (w3a.heap.size + 1 + 1) (irow .u8 P2)) = w3b at *
  clear zc30 zc31 zc32 yc300 yc301 yc302 yc310 yc311 yc312
  generalize hg3 : w3a.heap.size = g3 at *
  clear hg3
  go_wp2_with (first | (refine wpList_load_want rfl 23 _ rfl (w.heap.size) rfl 23 (irow .u8 a) (0, 0) _ R0 Tryd.underlying23 rfl (infok8 _ hal) ?_) | (refine wpList_load_want rfl 23 _ rfl (w.heap.size + 1) rfl 23 (irow .u8 b) (0, 0) _ R1 Tryd.underlying23 rfl (infok8 _ hbl) ?_) | (refine wpList_load_want rfl 23 _ rfl (g0) rfl 23 (irow .u8 A2) (0, 0) _ yc010 Tryd.underlying23 rfl (infok8 _ l2) ?_) | (refine wpList_load_want rfl 23 _ rfl (g0 + 1) rfl 23 (irow .u8 A1) (0, 0) _ yc011 Tryd.underlying23 rfl (infok8 _ l1) ?_) | (refine wpList_load_want rfl 23 _ rfl (g1) rfl 23 (irow .u8 A2) (0, 0) _ yc110 Tryd.underlying23 rfl (infok8 _ l2) ?_) | (refine wpList_load_want rfl 23 _ rfl (g1 + 1) rfl 23 (irow .u8 A1) (0, 0) _ yc111 Tryd.underlying23 rfl (infok8 _ l1) ?_) | (refine wpList_load_want rfl 23 _ rfl (g2) rfl 23 (irow .u8 P0) (0, 0) _ yc220 Tryd.underlying23 rfl (infok8 _ p0) ?_) | (refine wpList_load_want rfl 23 _ rfl (g2 + 1) rfl 23 (irow .u8 P1) (0, 0) _ yc221 Tryd.underlying23 rfl (infok8 _ p1) ?_) | (refine wpList_load_want rfl 23 _ rfl (g2 + 1 + 1) rfl 23 (irow .u8 P2) (0, 0) _ yc222 Tryd.underlying23 rfl (infok8 _ p2) ?_) | (refine wpList_load_want rfl 23 _ rfl (g3) rfl 23 (irow .u8 P0) (0, 0) _ yc320 Tryd.underlying23 rfl (infok8 _ p0) ?_) | (refine wpList_load_want rfl 23 _ rfl (g3 + 1) rfl 23 (irow .u8 P1) (0, 0) _ yc321 Tryd.underlying23 rfl (infok8 _ p1) ?_) | (refine wpList_load_want rfl 23 _ rfl (g3 + 1 + 1) rfl 23 (irow .u8 P2) (0, 0) _ yc322 Tryd.underlying23 rfl (infok8 _ p2) ?_) | fail)
  refine (cM w3b hw).mono ?_
  rintro e_ w4a ⟨rfl, hb⟩
  replace R0 := keep hb R0
  replace R1 := keep hb R1
  replace yc010 := keep hb yc010
  replace yc011 := keep hb yc011
  replace yc110 := keep hb yc110
  replace yc111 := keep hb yc111
  replace yc220 := keep hb yc220
  replace yc221 := keep hb yc221
  replace yc222 := keep hb yc222
  replace yc320 := keep hb yc320
  replace yc321 := keep hb yc321
  replace yc322 := keep hb yc322
  replace hw := Below.after hw hb
  clear hb
  have lt4_R0 := lt_of_row R0
  have zc40 := hp2_0 w4a (.cells (irow .u8 (zr 32)) 23) (.cells (irow .u8 (zr 16)) 29)
  have zc41 := hp2_1 w4a (.cells (irow .u8 (zr 32)) 23) (.cells (irow .u8 (zr 16)) 29)
  have yc400 := setRow_heap ((w4a.alloc (.cells (irow .u8 (zr 32)) 23)).alloc (.cells (irow .u8 (zr 16)) 29)) (w4a.heap.size) _ (irow .u8 M0) _ _ zc40
  have yc401 := (setRow_other ((w4a.alloc (.cells (irow .u8 (zr 32)) 23)).alloc (.cells (irow .u8 (zr 16)) 29)) (w4a.heap.size) (w4a.heap.size + 1) (irow .u8 M0) (by omega)).trans zc41
  have yc410 := (setRow_other (((w4a.alloc (.cells (irow .u8 (zr 32)) 23)).alloc (.cells (irow .u8 (zr 16)) 29)).setRow (w4a.heap.size) (irow .u8 M0)) (w4a.heap.size + 1) (w4a.heap.size) (irow .u8 M1) (by omega)).trans yc400
  have yc411 := setRow_heap (((w4a.alloc (.cells (irow .u8 (zr 32)) 23)).alloc (.cells (irow .u8 (zr 16)) 29)).setRow (w4a.heap.size) (irow .u8 M0)) (w4a.heap.size + 1) _ (irow .u8 M1) _ _ yc401
  have hbF : Below w4a.heap.size w4a ((((w4a.alloc (.cells (irow .u8 (zr 32)) 23)).alloc (.cells (irow .u8 (zr 16)) 29)).setRow (w4a.heap.size) (irow .u8 M0)).setRow (w4a.heap.size + 1) (irow .u8 M1)) := (below_setRow (below_setRow (((Below.refl _ _).alloc (Nat.le_refl _) _).alloc (by simp) _) (show w4a.heap.size ≤ w4a.heap.size by omega) (irow .u8 M0)) (show w4a.heap.size ≤ w4a.heap.size + 1 by omega) (irow .u8 M1))
  go_wp2_with (first | (refine wpList_alloc rfl 23 rfl (irow .u8 (zr 32)) zkey ?_) | (refine wpList_alloc rfl 29 rfl (irow .u8 (zr 16)) zno ?_) | (refine wpList_store_row rfl 23 _ _ rfl (w4a.heap.size) (irow .u8 M0) rfl rfl 23 _ zc40 (infok8 _ m0) (fit32 _ _ (zr_len 32) m0) (irow_one _ _) ?_; refine wpList_stay ?_) | fail)
  unfold WpStay
  go_wp2_with (first | (refine wpList_store_row rfl 29 _ _ rfl (w4a.heap.size + 1) (irow .u8 M1) rfl rfl 29 _ yc401 (infoN _ m1) (fit16 _ _ (zr_len 16) m1) (irow_one _ _) ?_; refine wpList_stay ?_) | fail)
  unfold WpStay
  replace R0 := keep hbF R0
  replace R1 := keep hbF R1
  replace yc010 := keep hbF yc010
  replace yc011 := keep hbF yc011
  replace yc110 := keep hbF yc110
  replace yc111 := keep hbF yc111
  replace yc220 := keep hbF yc220
  replace yc221 := keep hbF yc221
  replace yc222 := keep hbF yc222
  replace yc320 := keep hbF yc320
  replace yc321 := keep hbF yc321
  replace yc322 := keep hbF yc322
  replace hw := Below.after hw hbF
  clear hbF
  generalize ((((w4a.alloc (.cells (irow .u8 (zr 32)) 23)).alloc (.cells (irow .u8 (zr 16)) 29)).setRow (w4a.heap.size) (irow .u8 M0)).setRow (w4a.heap.size + 1) (irow .u8 M1)) = w4b at *
  clear zc40 zc41 yc400 yc401
  generalize hg4 : w4a.heap.size = g4 at *
  clear hg4
  go_wp2_with (first | (refine wpList_load_want rfl 23 _ rfl (w.heap.size) rfl 23 (irow .u8 a) (0, 0) _ R0 Tryd.underlying23 rfl (infok8 _ hal) ?_) | (refine wpList_load_want rfl 23 _ rfl (w.heap.size + 1) rfl 23 (irow .u8 b) (0, 0) _ R1 Tryd.underlying23 rfl (infok8 _ hbl) ?_) | (refine wpList_load_want rfl 23 _ rfl (g0) rfl 23 (irow .u8 A2) (0, 0) _ yc010 Tryd.underlying23 rfl (infok8 _ l2) ?_) | (refine wpList_load_want rfl 23 _ rfl (g0 + 1) rfl 23 (irow .u8 A1) (0, 0) _ yc011 Tryd.underlying23 rfl (infok8 _ l1) ?_) | (refine wpList_load_want rfl 23 _ rfl (g1) rfl 23 (irow .u8 A2) (0, 0) _ yc110 Tryd.underlying23 rfl (infok8 _ l2) ?_) | (refine wpList_load_want rfl 23 _ rfl (g1 + 1) rfl 23 (irow .u8 A1) (0, 0) _ yc111 Tryd.underlying23 rfl (infok8 _ l1) ?_) | (refine wpList_load_want rfl 23 _ rfl (g2) rfl 23 (irow .u8 P0) (0, 0) _ yc220 Tryd.underlying23 rfl (infok8 _ p0) ?_) | (refine wpList_load_want rfl 23 _ rfl (g2 + 1) rfl 23 (irow .u8 P1) (0, 0) _ yc221 Tryd.underlying23 rfl (infok8 _ p1) ?_) | (refine wpList_load_want rfl 23 _ rfl (g2 + 1 + 1) rfl 23 (irow .u8 P2) (0, 0) _ yc222 Tryd.underlying23 rfl (infok8 _ p2) ?_) | (refine wpList_load_want rfl 23 _ rfl (g3) rfl 23 (irow .u8 P0) (0, 0) _ yc320 Tryd.underlying23 rfl (infok8 _ p0) ?_) | (refine wpList_load_want rfl 23 _ rfl (g3 + 1) rfl 23 (irow .u8 P1) (0, 0) _ yc321 Tryd.underlying23 rfl (infok8 _ p1) ?_) | (refine wpList_load_want rfl 23 _ rfl (g3 + 1 + 1) rfl 23 (irow .u8 P2) (0, 0) _ yc322 Tryd.underlying23 rfl (infok8 _ p2) ?_) | (refine wpList_load_want rfl 23 _ rfl (g4) rfl 23 (irow .u8 M0) (0, 0) _ yc410 Tryd.underlying23 rfl (infok8 _ m0) ?_) | (refine wpList_load_want rfl 29 _ rfl (g4 + 1) rfl 29 (irow .u8 M1) (0, 0) _ yc411 Tryd.underlying29 rfl (infoN _ m1) ?_) | fail)
  refine (cN w4b).mono ?_
  rintro e_ w5a ⟨rfl, hb⟩
  replace R0 := keep hb R0
  replace R1 := keep hb R1
  replace yc010 := keep hb yc010
  replace yc011 := keep hb yc011
  replace yc110 := keep hb yc110
  replace yc111 := keep hb yc111
  replace yc220 := keep hb yc220
  replace yc221 := keep hb yc221
  replace yc222 := keep hb yc222
  replace yc320 := keep hb yc320
  replace yc321 := keep hb yc321
  replace yc322 := keep hb yc322
  replace yc410 := keep hb yc410
  replace yc411 := keep hb yc411
  replace hw := Below.after hw hb
  clear hb
  have lt5_R0 := lt_of_row R0
  have zc50 := hp2_0 w5a (.cells (irow .u8 (zr 32)) 23) (.cells (irow .u8 (zr 16)) 29)
  have zc51 := hp2_1 w5a (.cells (irow .u8 (zr 32)) 23) (.cells (irow .u8 (zr 16)) 29)
  have yc500 := setRow_heap ((w5a.alloc (.cells (irow .u8 (zr 32)) 23)).alloc (.cells (irow .u8 (zr 16)) 29)) (w5a.heap.size) _ (irow .u8 M0) _ _ zc50
  have yc501 := (setRow_other ((w5a.alloc (.cells (irow .u8 (zr 32)) 23)).alloc (.cells (irow .u8 (zr 16)) 29)) (w5a.heap.size) (w5a.heap.size + 1) (irow .u8 M0) (by omega)).trans zc51
  have yc510 := (setRow_other (((w5a.alloc (.cells (irow .u8 (zr 32)) 23)).alloc (.cells (irow .u8 (zr 16)) 29)).setRow (w5a.heap.size) (irow .u8 M0)) (w5a.heap.size + 1) (w5a.heap.size) (irow .u8 M1) (by omega)).trans yc500
  have yc511 := setRow_heap (((w5a.alloc (.cells (irow .u8 (zr 32)) 23)).alloc (.cells (irow .u8 (zr 16)) 29)).setRow (w5a.heap.size) (irow .u8 M0)) (w5a.heap.size + 1) _ (irow .u8 M1) _ _ yc501
  have hbF : Below w5a.heap.size w5a ((((w5a.alloc (.cells (irow .u8 (zr 32)) 23)).alloc (.cells (irow .u8 (zr 16)) 29)).setRow (w5a.heap.size) (irow .u8 M0)).setRow (w5a.heap.size + 1) (irow .u8 M1)) := (below_setRow (below_setRow (((Below.refl _ _).alloc (Nat.le_refl _) _).alloc (by simp) _) (show w5a.heap.size ≤ w5a.heap.size by omega) (irow .u8 M0)) (show w5a.heap.size ≤ w5a.heap.size + 1 by omega) (irow .u8 M1))
  go_wp2_with (first | (refine wpList_alloc rfl 23 rfl (irow .u8 (zr 32)) zkey ?_) | (refine wpList_alloc rfl 29 rfl (irow .u8 (zr 16)) zno ?_) | (refine wpList_store_row rfl 23 _ _ rfl (w5a.heap.size) (irow .u8 M0) rfl rfl 23 _ zc50 (infok8 _ m0) (fit32 _ _ (zr_len 32) m0) (irow_one _ _) ?_; refine wpList_stay ?_) | fail)
  unfold WpStay
  go_wp2_with (first | (refine wpList_store_row rfl 29 _ _ rfl (w5a.heap.size + 1) (irow .u8 M1) rfl rfl 29 _ yc501 (infoN _ m1) (fit16 _ _ (zr_len 16) m1) (irow_one _ _) ?_; refine wpList_stay ?_) | fail)
  unfold WpStay
  replace R0 := keep hbF R0
  replace R1 := keep hbF R1
  replace yc010 := keep hbF yc010
  replace yc011 := keep hbF yc011
  replace yc110 := keep hbF yc110
  replace yc111 := keep hbF yc111
  replace yc220 := keep hbF yc220
  replace yc221 := keep hbF yc221
  replace yc222 := keep hbF yc222
  replace yc320 := keep hbF yc320
  replace yc321 := keep hbF yc321
  replace yc322 := keep hbF yc322
  replace yc410 := keep hbF yc410
  replace yc411 := keep hbF yc411
  replace hw := Below.after hw hbF
  clear hbF
  generalize ((((w5a.alloc (.cells (irow .u8 (zr 32)) 23)).alloc (.cells (irow .u8 (zr 16)) 29)).setRow (w5a.heap.size) (irow .u8 M0)).setRow (w5a.heap.size + 1) (irow .u8 M1)) = w5b at *
  clear zc50 zc51 yc500 yc501
  generalize hg5 : w5a.heap.size = g5 at *
  clear hg5
  go_wp2_with (first | (refine wpList_load_want rfl 23 _ rfl (g0) rfl 23 (irow .u8 A2) (0, 0) _ yc010 Tryd.underlying23 rfl (infok8 _ l2) ?_) | (refine wpList_load_want rfl 23 _ rfl (g0 + 1) rfl 23 (irow .u8 A1) (0, 0) _ yc011 Tryd.underlying23 rfl (infok8 _ l1) ?_) | (refine wpList_load_want rfl 23 _ rfl (g1) rfl 23 (irow .u8 A2) (0, 0) _ yc110 Tryd.underlying23 rfl (infok8 _ l2) ?_) | (refine wpList_load_want rfl 23 _ rfl (g1 + 1) rfl 23 (irow .u8 A1) (0, 0) _ yc111 Tryd.underlying23 rfl (infok8 _ l1) ?_) | (refine wpList_load_want rfl 23 _ rfl (g2) rfl 23 (irow .u8 P0) (0, 0) _ yc220 Tryd.underlying23 rfl (infok8 _ p0) ?_) | (refine wpList_load_want rfl 23 _ rfl (g2 + 1) rfl 23 (irow .u8 P1) (0, 0) _ yc221 Tryd.underlying23 rfl (infok8 _ p1) ?_) | (refine wpList_load_want rfl 23 _ rfl (g2 + 1 + 1) rfl 23 (irow .u8 P2) (0, 0) _ yc222 Tryd.underlying23 rfl (infok8 _ p2) ?_) | (refine wpList_load_want rfl 23 _ rfl (g3) rfl 23 (irow .u8 P0) (0, 0) _ yc320 Tryd.underlying23 rfl (infok8 _ p0) ?_) | (refine wpList_load_want rfl 23 _ rfl (g3 + 1) rfl 23 (irow .u8 P1) (0, 0) _ yc321 Tryd.underlying23 rfl (infok8 _ p1) ?_) | (refine wpList_load_want rfl 23 _ rfl (g3 + 1 + 1) rfl 23 (irow .u8 P2) (0, 0) _ yc322 Tryd.underlying23 rfl (infok8 _ p2) ?_) | (refine wpList_load_want rfl 23 _ rfl (g4) rfl 23 (irow .u8 M0) (0, 0) _ yc410 Tryd.underlying23 rfl (infok8 _ m0) ?_) | (refine wpList_load_want rfl 29 _ rfl (g4 + 1) rfl 29 (irow .u8 M1) (0, 0) _ yc411 Tryd.underlying29 rfl (infoN _ m1) ?_) | (refine wpList_load_want rfl 23 _ rfl (g5) rfl 23 (irow .u8 M0) (0, 0) _ yc510 Tryd.underlying23 rfl (infok8 _ m0) ?_) | (refine wpList_load_want rfl 29 _ rfl (g5 + 1) rfl 29 (irow .u8 M1) (0, 0) _ yc511 Tryd.underlying29 rfl (infoN _ m1) ?_) | fail)
  go_ret
  exact ⟨rfl, hw⟩
theorem makings_any (a b : List Int) (hal : a.length = 32) (hbl : b.length = 32) (haz : ∀ z ∈ a, 0 ≤ z ∧ z < 256) (hbz : ∀ z ∈ b, 0 ≤ z ∧ z < 256) (w : World) (hS : Sta w) (hK : Kon w) : Calls Tryd.prog 3 #[.agg (irow .u8 a), .agg (irow .u8 b)] w fun e w' => e = .returned (.bool true) ∧ Below w.heap.size w w' :=
  makings_aux a b (hm a [2]) (hm a [1]) (pt (rts a b) 0 32) (pt (rts a b) 32 32) (pt (rts a b) 64 32) (pt (mss a) 0 32) (pt (mss a) 32 16) hal hbl (hm_len a [2]) (hm_len a [1]) (pt_len _ _ _ (by rw [rts_len]; decide)) (pt_len _ _ _ (by rw [rts_len]; decide)) (pt_len _ _ _ (by rw [rts_len]; decide)) (pt_len _ _ _ (by rw [mss_len]; decide)) (pt_len _ _ _ (by rw [mss_len]; decide)) w
    (fun V h => a_Step a hal haz V (hS.below h) (hK.below h)) (fun V => r_Step a hal haz V) (fun V h => a_Root a b hal hbl haz hbz V (hS.below h) (hK.below h)) (fun V => r_Root a b hal hbl haz hbz V) (fun V h => a_Message a hal haz V (hS.below h) (hK.below h)) (fun V => r_Message a hal haz V)

end Go.Proofs.YtmflfdedhbnfnaaDoor

namespace Go.Proofs.YtmflfdedhbnfnaaDoor
set_option maxRecDepth 100000
open Go Go.RowKit Go.Sort
attribute [local go_sem] setCell_drewN alloc_drewN

/-- A list of sixty-four words is a block's. -/
def ckW (b L : List Int) : Bool := (List.range 64).all fun t => decide (L.getD t 0 = if t < 16 then wrd b t else (lo1 (L.getD (t - 2) 0) + L.getD (t - 7) 0 + lo0 (L.getD (t - 15) 0) + L.getD (t - 16) 0) % 4294967296)
theorem wds_of {b L : List Int} (h : ckW b L = true) : ∀ t, t < 64 → wds b t = L.getD t 0 := by
  have hc : ∀ t, t < 64 → L.getD t 0 = if t < 16 then wrd b t else (lo1 (L.getD (t - 2) 0) + L.getD (t - 7) 0 + lo0 (L.getD (t - 15) 0) + L.getD (t - 16) 0) % 4294967296 := fun t ht => of_decide_eq_true (List.all_eq_true.1 h t (List.mem_range.2 ht))
  intro t
  induction t using Nat.strongRecOn with
  | ind t ih =>
    intro ht
    rw [hc t ht]
    by_cases h16 : t < 16
    · rw [wds_lo b h16, if_pos h16]
    · rw [wds_hi b h16, if_neg h16, ih (t - 2) (by omega) (by omega), ih (t - 7) (by omega) (by omega), ih (t - 15) (by omega) (by omega), ih (t - 16) (by omega) (by omega)]
theorem rs_congr {h : List Int} {W V : Nat → Int} : ∀ t, (∀ j, j < t → W j = V j) → rs h W t = rs h V t
  | 0, _ => rfl
  | t + 1, e => by rw [rs, rs, rs_congr t (fun j hj => e j (by omega)), e t (by omega)]
theorem blk_of {h b L v : List Int} (hw : ckW b L = true) (hs : sums h (rs h (fun t => L.getD t 0) 64).list 8 = v) : blk h b = v := by
  rw [blk, rs_congr 64 (fun j hj => wds_of hw j hj), hs]
theorem sum_cert (m L0 L1 h1 h2 out : List Int) (q : (m ++ padL m.length).length / 64 = 2) (w0 : ckW (chunk (m ++ padL m.length) 0) L0 = true) (s0 : sums sl (rs sl (fun t => L0.getD t 0) 64).list 8 = h1) (w1 : ckW (chunk (m ++ padL m.length) 1) L1 = true) (s1 : sums h1 (rs h1 (fun t => L1.getD t 0) 64).list 8 = h2) (o : byts h2 = out) : sumL m = out := by
  rw [sumL, sumW, q, fol, fol, fol, blk_of w0 s0, blk_of w1 s1, o]
theorem hm_cert {key bs D out : List Int} (h1 : sumL (kin key ++ bs) = D) (h2 : sumL (kout key ++ D) = out) : hm key bs = out := by
  rw [hm, h1, h2]
set_option maxRecDepth 100000 in
theorem v_nil : hm [] [] = [182, 19, 103, 154, 8, 20, 217, 236, 119, 47, 149, 215, 120, 195, 95, 197, 255, 22, 151, 196, 147, 113, 86, 83, 198, 199, 18, 20, 66, 146, 197, 173] := hm_cert (sum_cert (kin [] ++ []) [909522486, 909522486, 909522486, 909522486, 909522486, 909522486, 909522486, 909522486, 909522486, 909522486, 909522486, 909522486, 909522486, 909522486, 909522486, 909522486, 828629987, 828629987, 3776264696, 3776264696, 2408496505, 2408496505, 3703810348, 3622917849, 4031120979, 2146747560, 3260165887, 2815092747, 4286359742, 592337967, 3066442673, 1154308805, 3381820581, 2642411924, 2658340976, 790776156, 3936322321, 1548620120, 1346974071, 2760948351, 3128084265, 3576817954, 3867676740, 2754198265, 855811989, 1459331653, 925716054, 1917319745, 3902710584, 3177888799, 4165673166, 1242241643, 1967333460, 718933646, 2081681304, 3384580195, 658678898, 1033513033, 3234119599, 4034058430, 2396173866, 61000443, 2165945604, 2579069648] [2147483648, 0, 0, 0, 0, 0, 0, 0, 0, 0, 0, 0, 0, 0, 0, 512, 2147483648, 20971520, 2117632, 20616, 570427392, 575995924, 84449090, 2684354592, 1518862336, 6067200, 1496221, 4202700544, 3543279056, 291985753, 4142317530, 3003913545, 145928272, 2642168871, 216179603, 2296832490, 2771075893, 1738633033, 3610378607, 1324035729, 1572820453, 2397971253, 3803995842, 2822718356, 1168996599, 921948365, 3650881000, 2958106055, 1773959876, 3172022107, 3820646885, 991993842, 419360279, 3797604839, 322392134, 85264541, 1326255876, 640108622, 822159570, 3328750644, 1107837388, 1657999800, 3852183409, 2242356356] [4099202733, 2535792975, 2430268064, 3742509290, 1692759311, 2744271233, 2185925419, 4175449650] [3878403405, 1117440276, 2829501885, 1231237110, 2953662447, 1118811203, 4038591613, 4033643986] [231, 43, 189, 77, 66, 154, 201, 20, 168, 166, 197, 189, 73, 99, 47, 246, 176, 13, 79, 239, 66, 175, 180, 67, 240, 184, 4, 125, 240, 108, 133, 210] (by decide +kernel) (by decide +kernel) (by decide +kernel) (by decide +kernel) (by decide +kernel) (by decide +kernel)) (sum_cert (kout [] ++ [231, 43, 189, 77, 66, 154, 201, 20, 168, 166, 197, 189, 73, 99, 47, 246, 176, 13, 79, 239, 66, 175, 180, 67, 240, 184, 4, 125, 240, 108, 133, 210]) [1549556828, 1549556828, 1549556828, 1549556828, 1549556828, 1549556828, 1549556828, 1549556828, 1549556828, 1549556828, 1549556828, 1549556828, 1549556828, 1549556828, 1549556828, 1549556828, 42962830, 42962830, 2467512273, 2467512273, 1427315712, 1427315712, 1249001928, 4037375226, 1809826037, 2826030956, 2886905781, 872774085, 1469776800, 1590296612, 3537354104, 133472730, 3554710565, 4062847664, 2657847936, 216629829, 891106106, 586986791, 1227446114, 2824269971, 2665413624, 3263572534, 775620046, 3292793133, 542824600, 840372110, 1326296352, 2178981808, 4036745216, 1824838472, 3842077899, 1596028657, 1666037942, 2687211640, 3302866841, 3022413000, 1930114701, 3862987069, 3425946126, 4202727519, 918644712, 1850158742, 4178356858, 1365291507] [3878403405, 1117440276, 2829501885, 1231237110, 2953662447, 1118811203, 4038591613, 4033643986, 2147483648, 0, 0, 0, 0, 0, 0, 768, 2042575203, 598067241, 1382921180, 1092021291, 2202992977, 3541650942, 3958644533, 178279665, 804027820, 1934737389, 4068431167, 1801897214, 320726691, 2800631971, 1524728299, 536142871, 36254232, 3805423660, 1657676815, 412830594, 3046563981, 1813400218, 2933921196, 999842265, 3598641367, 3353225525, 4108631770, 813209095, 192433196, 1831918571, 3671060795, 3922647203, 2686999280, 718692840, 2400707038, 3604077068, 3686502092, 1732471487, 4239030454, 3274252720, 1845550752, 2425922155, 1849983951, 2617490701, 835200059, 2742970757, 2706529429, 899933550] [3548727311, 2059101303, 935970104, 1574446183, 2382641778, 1966355632, 3736610840, 907888038] [3054725018, 135584236, 1999607255, 2026069957, 4279670724, 2473678419, 3334935060, 1116915117] [182, 19, 103, 154, 8, 20, 217, 236, 119, 47, 149, 215, 120, 195, 95, 197, 255, 22, 151, 196, 147, 113, 86, 83, 198, 199, 18, 20, 66, 146, 197, 173] (by decide +kernel) (by decide +kernel) (by decide +kernel) (by decide +kernel) (by decide +kernel) (by decide +kernel))
set_option maxRecDepth 100000 in
theorem v_one : hm [] [1] = [61, 122, 251, 102, 49, 36, 236, 191, 44, 149, 63, 134, 61, 79, 200, 121, 110, 235, 45, 55, 43, 100, 170, 213, 134, 151, 236, 82, 100, 100, 156, 219] := hm_cert (sum_cert (kin [] ++ [1]) [909522486, 909522486, 909522486, 909522486, 909522486, 909522486, 909522486, 909522486, 909522486, 909522486, 909522486, 909522486, 909522486, 909522486, 909522486, 909522486, 828629987, 828629987, 3776264696, 3776264696, 2408496505, 2408496505, 3703810348, 3622917849, 4031120979, 2146747560, 3260165887, 2815092747, 4286359742, 592337967, 3066442673, 1154308805, 3381820581, 2642411924, 2658340976, 790776156, 3936322321, 1548620120, 1346974071, 2760948351, 3128084265, 3576817954, 3867676740, 2754198265, 855811989, 1459331653, 925716054, 1917319745, 3902710584, 3177888799, 4165673166, 1242241643, 1967333460, 718933646, 2081681304, 3384580195, 658678898, 1033513033, 3234119599, 4034058430, 2396173866, 61000443, 2165945604, 2579069648] [25165824, 0, 0, 0, 0, 0, 0, 0, 0, 0, 0, 0, 0, 0, 0, 520, 25165824, 21299200, 24816, 536891850, 1013317656, 584340500, 3221226055, 2717917221, 44046336, 339691064, 788593356, 2286159713, 2231936626, 1132390002, 4200099958, 2998587601, 2348066052, 1524648297, 3531019416, 2324314516, 569049049, 270084976, 3924299347, 3843560710, 125560951, 2447267942, 377511163, 1837275452, 276745542, 1001115924, 2676399636, 2114291891, 2255870469, 3581751339, 1283395129, 3803682997, 1834906782, 2827933211, 1893584747, 846118126, 2218773875, 1275558394, 3952279696, 1815157860, 1958040390, 4151988599, 3772553760, 3526452053] [4099202733, 2535792975, 2430268064, 3742509290, 1692759311, 2744271233, 2185925419, 4175449650] [1331928308, 225064165, 3791748530, 962275942, 3073197788, 589170767, 1604891090, 2136186741] [79, 99, 156, 244, 13, 106, 52, 229, 226, 1, 125, 178, 57, 91, 42, 102, 183, 45, 70, 220, 35, 30, 8, 79, 95, 168, 177, 210, 127, 83, 159, 117] (by decide +kernel) (by decide +kernel) (by decide +kernel) (by decide +kernel) (by decide +kernel) (by decide +kernel)) (sum_cert (kout [] ++ [79, 99, 156, 244, 13, 106, 52, 229, 226, 1, 125, 178, 57, 91, 42, 102, 183, 45, 70, 220, 35, 30, 8, 79, 95, 168, 177, 210, 127, 83, 159, 117]) [1549556828, 1549556828, 1549556828, 1549556828, 1549556828, 1549556828, 1549556828, 1549556828, 1549556828, 1549556828, 1549556828, 1549556828, 1549556828, 1549556828, 1549556828, 1549556828, 42962830, 42962830, 2467512273, 2467512273, 1427315712, 1427315712, 1249001928, 4037375226, 1809826037, 2826030956, 2886905781, 872774085, 1469776800, 1590296612, 3537354104, 133472730, 3554710565, 4062847664, 2657847936, 216629829, 891106106, 586986791, 1227446114, 2824269971, 2665413624, 3263572534, 775620046, 3292793133, 542824600, 840372110, 1326296352, 2178981808, 4036745216, 1824838472, 3842077899, 1596028657, 1666037942, 2687211640, 3302866841, 3022413000, 1930114701, 3862987069, 3425946126, 4202727519, 918644712, 1850158742, 4178356858, 1365291507] [1331928308, 225064165, 3791748530, 962275942, 3073197788, 589170767, 1604891090, 2136186741, 2147483648, 0, 0, 0, 0, 0, 0, 768, 2515693219, 909298354, 1583521756, 1939528560, 3949312276, 3710364170, 3456397702, 1186573045, 1827867280, 1050166717, 1469833877, 365713314, 1781895632, 1864674512, 3259130003, 4279913826, 553414560, 293148064, 2258867510, 3778021535, 4148342432, 2903212203, 1488948335, 134584532, 584712309, 497515976, 3431138834, 676343438, 2168977557, 2187933355, 386260428, 1061877279, 2607024702, 2622773959, 1429578990, 4249032515, 2206015222, 3829762301, 2478148430, 2261106578, 2165733429, 3632634745, 3489366564, 4022490218, 567645846, 1684034120, 2607629328, 1353417862] [3548727311, 2059101303, 935970104, 1574446183, 2382641778, 1966355632, 3736610840, 907888038] [1031469926, 824503487, 747978630, 1028638841, 1860906295, 728017621, 2258103378, 1684315355] [61, 122, 251, 102, 49, 36, 236, 191, 44, 149, 63, 134, 61, 79, 200, 121, 110, 235, 45, 55, 43, 100, 170, 213, 134, 151, 236, 82, 100, 100, 156, 219] (by decide +kernel) (by decide +kernel) (by decide +kernel) (by decide +kernel) (by decide +kernel) (by decide +kernel))
theorem eqV (W : World) : (Op.equalIn 10000 23 (.agg (irow .u8 (hm [] []))) (.agg (irow .u8 (hm [] [1])))).run Tryd.prog W = .ok false W := by
  rw [eqK _ _ (hm_len _ _) (hm_len _ _), v_nil, v_one]
  rfl
theorem irow_at {W : World} {g : Nat} {l : List Int} {t : TypeId} (h : W.heap[g]? = some (.cells (irow .u8 l) t (0, 0))) (i : Nat) (hi : i < l.length) : W.cell? ⟨g, i, none⟩ = some (.int .u8 (l.getD i 0)) := irow_cell h hi
set_option maxRecDepth 100000 in
set_option maxHeartbeats 4000000 in
theorem parts_aux (a b A2 A1 R M N0 N1 : List Int) (hal : a.length = 32) (hbl : b.length = 32) (haz : ∀ z ∈ a, 0 ≤ z ∧ z < 256) (hbz : ∀ z ∈ b, 0 ≤ z ∧ z < 256) (l2 : A2.length = 32) (l1 : A1.length = 32) (hRl : R.length = 96) (hMl : M.length = 48) (w : World) (hS : Sta w) (hK : Kon w)
    (cS : ∀ V, Below w.heap.size w V → Calls Tryd.prog 8 #[.agg (irow .u8 a)] V fun e w' => e = .returned (.tuple #[.agg (irow .u8 A2), .agg (irow .u8 A1)]) ∧ Below V.heap.size V w')
    (cR : ∀ V, Below w.heap.size w V → Calls Tryd.prog 10 #[.agg (irow .u8 a), .agg (irow .u8 b)] V fun e w' => e = .returned (.tuple #[.agg (irow .u8 (pt R 0 32)), .agg (irow .u8 (pt R 32 32)), .agg (irow .u8 (pt R 64 32))]) ∧ Below V.heap.size V w')
    (cM : ∀ V, Below w.heap.size w V → Calls Tryd.prog 12 #[.agg (irow .u8 a)] V fun e w' => e = .returned (.tuple #[.agg (irow .u8 (pt M 0 32)), .agg (irow .u8 (pt M 32 16))]) ∧ Below V.heap.size V w')
    (cA2 : ∀ V v vb, Sta V → Kon V → Bys V v a → (∀ a l c, v = .slice a l c → l ≤ c) → Bys V vb [2] → (∀ a l c, vb = .slice a l c → l ≤ c) → Calls Tryd.prog 26 #[v, vb] V fun e w' => e = .returned (.agg (irow .u8 A2)) ∧ Below V.heap.size V w')
    (cA1 : ∀ V v vb, Sta V → Kon V → Bys V v a → (∀ a l c, v = .slice a l c → l ≤ c) → Bys V vb [1] → (∀ a l c, vb = .slice a l c → l ≤ c) → Calls Tryd.prog 26 #[v, vb] V fun e w' => e = .returned (.agg (irow .u8 A1)) ∧ Below V.heap.size V w')
    (cD : ∀ V vs vc vi, Sta V → Kon V → Bys V vs a → (∀ a l c, vs = .slice a l c → l ≤ c) → Bys V vc b → (∀ a l c, vc = .slice a l c → l ≤ c) → Bys V vi rtn → (∀ a l c, vi = .slice a l c → l ≤ c) → Calls Tryd.prog 27 #[vs, vc, vi, .int .i64 96] V fun e w' => ∃ v, e = .returned v ∧ ((∃ g, v = .tuple #[.slice (some ⟨g, 0, none⟩) 96 96, .int .i64 0] ∧ V.heap.size ≤ g ∧ w'.heap[g]? = some (.cells (irow .u8 R) 5 (0, 0))) ∧ Below V.heap.size V w'))
    (cE : ∀ V vi, Sta V → Kon V → Bys V vi msn → (∀ a l c, vi = .slice a l c → l ≤ c) → Calls Tryd.prog 28 #[.agg (irow .u8 a), vi, .int .i64 48] V fun e w' => ∃ g, e = .returned (.tuple #[.slice (some ⟨g, 0, none⟩) 48 48, .int .i64 0]) ∧ V.heap.size ≤ g ∧ w'.heap[g]? = some (.cells (irow .u8 M) 5 (0, 0)) ∧ Below V.heap.size V w')
    (cN0 : ∀ V, Sta V → Kon V → Calls Tryd.prog 26 #[.slice none 0 0, .slice none 0 0] V fun e w' => e = .returned (.agg (irow .u8 N0)) ∧ Below V.heap.size V w')
    (cN1 : ∀ V vb, Sta V → Kon V → Bys V vb [1] → (∀ a l c, vb = .slice a l c → l ≤ c) → Calls Tryd.prog 26 #[.slice none 0 0, vb] V fun e w' => e = .returned (.agg (irow .u8 N1)) ∧ Below V.heap.size V w')
    (eN : ∀ W : World, (Op.equalIn 10000 23 (.agg (irow .u8 N0)) (.agg (irow .u8 N1))).run Tryd.prog W = .ok false W) :
    Calls Tryd.prog 6 #[.agg (irow .u8 a), .agg (irow .u8 b)] w fun e w' => e = .returned (.bool true) ∧ Below w.heap.size w w' := by
  have R0 := hp2_0 w (.cells (irow .u8 a) 23) (.cells (irow .u8 b) 23)
  have R1 := hp2_1 w (.cells (irow .u8 a) 23) (.cells (irow .u8 b) 23)
  have hw : Below w.heap.size w ((w.alloc (.cells (irow .u8 a) 23)).alloc (.cells (irow .u8 b) 23)) := (((Below.refl _ _).alloc (Nat.le_refl _) _).alloc (by simp) _)
  have p0 : (pt R 0 32).length = 32 := pt_len _ _ _ (by omega)
  have p1 : (pt R 32 32).length = 32 := pt_len _ _ _ (by omega)
  have p2 : (pt R 64 32).length = 32 := pt_len _ _ _ (by omega)
  have m0 : (pt M 0 32).length = 32 := pt_len _ _ _ (by omega)
  have m1 : (pt M 32 16).length = 16 := pt_len _ _ _ (by omega)
  have e2 := eqKs A2 l2
  have e1 := eqKs A1 l1
  have sk := slice_k w.heap.size
  have sk1 := slice_k (w.heap.size + 1)
  go_enter Tryd.func6, Tryd.ntmps6
  go_wp2_with (first | (refine wpList_box rfl 23 _ rfl _ rfl (bK _) ?_) | (refine wpList_load_want rfl 23 _ rfl (w.heap.size) rfl 23 (irow .u8 a) (0, 0) _ R0 Tryd.underlying23 rfl (infok8 _ hal) ?_) | fail)
  try simp only [size_alloc1, Act.put, List.setIfInBounds_toArray, List.set_cons_succ, List.set_cons_zero]
  generalize ((w.alloc (.cells (irow .u8 a) 23)).alloc (.cells (irow .u8 b) 23)) = w0 at *
  refine (cS w0 hw).mono ?_
  rintro e_ w0a ⟨rfl, hb⟩
  replace R0 := keep hb R0
  replace R1 := keep hb R1
  replace hw := Below.after hw hb
  clear hb
  have zc00 := hp2_0 w0a (.cells (irow .u8 (zr 32)) 23) (.cells (irow .u8 (zr 32)) 23)
  have zc01 := hp2_1 w0a (.cells (irow .u8 (zr 32)) 23) (.cells (irow .u8 (zr 32)) 23)
  have yc000 := setRow_heap ((w0a.alloc (.cells (irow .u8 (zr 32)) 23)).alloc (.cells (irow .u8 (zr 32)) 23)) (w0a.heap.size) _ (irow .u8 A2) _ _ zc00
  have yc001 := (setRow_other ((w0a.alloc (.cells (irow .u8 (zr 32)) 23)).alloc (.cells (irow .u8 (zr 32)) 23)) (w0a.heap.size) (w0a.heap.size + 1) (irow .u8 A2) (by omega)).trans zc01
  have yc010 := (setRow_other (((w0a.alloc (.cells (irow .u8 (zr 32)) 23)).alloc (.cells (irow .u8 (zr 32)) 23)).setRow (w0a.heap.size) (irow .u8 A2)) (w0a.heap.size + 1) (w0a.heap.size) (irow .u8 A1) (by omega)).trans yc000
  have yc011 := setRow_heap (((w0a.alloc (.cells (irow .u8 (zr 32)) 23)).alloc (.cells (irow .u8 (zr 32)) 23)).setRow (w0a.heap.size) (irow .u8 A2)) (w0a.heap.size + 1) _ (irow .u8 A1) _ _ yc001
  have hbF : Below w0a.heap.size w0a ((((w0a.alloc (.cells (irow .u8 (zr 32)) 23)).alloc (.cells (irow .u8 (zr 32)) 23)).setRow (w0a.heap.size) (irow .u8 A2)).setRow (w0a.heap.size + 1) (irow .u8 A1)) := (below_setRow (below_setRow (((Below.refl _ _).alloc (Nat.le_refl _) _).alloc (by simp) _) (show w0a.heap.size ≤ w0a.heap.size by omega) (irow .u8 A2)) (show w0a.heap.size ≤ w0a.heap.size + 1 by omega) (irow .u8 A1))
  go_wp2_with (first | (refine wpList_alloc rfl 23 rfl (irow .u8 (zr 32)) zkey ?_) | (refine wpList_store_row rfl 23 _ _ rfl (w0a.heap.size) (irow .u8 A2) rfl rfl 23 _ zc00 (infok8 _ l2) (fit32 _ _ (zr_len 32) l2) (irow_one _ _) ?_; refine wpList_stay ?_) | fail)
  unfold WpStay
  go_wp2_with (first | (refine wpList_store_row rfl 23 _ _ rfl (w0a.heap.size + 1) (irow .u8 A1) rfl rfl 23 _ yc001 (infok8 _ l1) (fit32 _ _ (zr_len 32) l1) (irow_one _ _) ?_; refine wpList_stay ?_) | fail)
  unfold WpStay
  replace R0 := keep hbF R0
  replace R1 := keep hbF R1
  replace hw := Below.after hw hbF
  clear hbF
  generalize ((((w0a.alloc (.cells (irow .u8 (zr 32)) 23)).alloc (.cells (irow .u8 (zr 32)) 23)).setRow (w0a.heap.size) (irow .u8 A2)).setRow (w0a.heap.size + 1) (irow .u8 A1)) = w0b at *
  clear zc00 zc01 yc000 yc001
  generalize hg0 : w0a.heap.size = g0 at *
  clear hg0
  go_wp2_with (fail)
  have hbd : Below w0b.heap.size w0b w0b.drew := below_drN (Below.refl _ _) 1
  replace R0 := keep hbd R0
  replace R1 := keep hbd R1
  replace yc010 := keep hbd yc010
  replace yc011 := keep hbd yc011
  replace hw := Below.after hw hbd
  clear hbd
  refine wp_region_noPanic ?_
  refine wp_region_held (S := fun W => W.heap[g0]? = some (.cells (irow .u8 A2) 23 (0, 0)) ∧ W.heap[g0 + 1]? = some (.cells (irow .u8 A1) 23 (0, 0))) (by kernel_rfl) ?_
  change wpAnyH _ _ _ _ _ _ _ _ (World.drew _)
  generalize w0b.drew = w3 at *
  refine wpAnyH_take (i := 0) (v := .agg (irow .u8 A2)) rfl (by kernel_rfl) (by kernel_rfl) (by kernel_rfl) (fun _ _ _ h => h) (Or.inl ⟨by rfl, ?y1⟩) (⟨yc010, yc011⟩) ?r1
  case y1 =>
    intro w_ hS_
    simp only [List.getElem_toArray, List.getElem_cons_zero]
    exact run_load_part 23 _ (by rfl) (g0) 0 (by rfl) 23 (irow .u8 A2) (0, 0) (irow .u8 A2) _ (hS_.1) (all_row _) Tryd.underlying23 rfl (infok8 _ l2)
  simp only [Act.put, List.getElem_toArray, List.getElem_cons_zero, List.setIfInBounds_toArray, List.set_cons_succ, List.set_cons_zero]
  refine wpAnyH_take (i := 1) (v := ?v2) rfl (by kernel_rfl) (by kernel_rfl) (by kernel_rfl) (fun _ _ _ h => h) (Or.inl ⟨by rfl, ?y2⟩) (⟨yc010, yc011⟩) ?r2
  case y2 =>
    intro w_ hS_
    go_simp
    try with_reducible rfl
  simp only [Act.put, List.getElem_toArray, List.getElem_cons_succ, List.getElem_cons_zero, List.setIfInBounds_toArray, List.set_cons_succ, List.set_cons_zero]
  refine wpAnyH_one (k := 2) (fuel := 9) (by kernel_rfl) rfl (by kernel_rfl) (fun K_ hK_ => ?_)
  refine wp_world_op (.slice (some ⟨w3.heap.size, 0, none⟩) 1 1) (w3.alloc (.cells #[.int .u8 2] 5)) (by kernel_rfl) ?_
  have hb_ : Below w3.heap.size w3 (w3.alloc (.cells #[.int .u8 2] 5)) := (Below.refl _ _).alloc (Nat.le_refl _) _
  have sz_g2 : w.heap.size ≤ w3.heap.size := hw.size
  have lt_R0_g2 := lt_of_row R0
  have lt_R1_g2 := lt_of_row R1
  have lt_yc010_g2 := lt_of_row yc010
  have lt_yc011_g2 := lt_of_row yc011
  have rB2 := hp1_0 w3 (.cells #[.int .u8 2] 5)
  replace R0 := keep hb_ R0
  replace R1 := keep hb_ R1
  replace yc010 := keep hb_ yc010
  replace yc011 := keep hb_ yc011
  replace hw := Below.after hw hb_
  clear hb_
  refine hK_ _ _ (⟨yc010, yc011⟩) ?_
  simp only [Act.put, List.getElem_toArray, List.getElem_cons_succ, List.getElem_cons_zero, List.setIfInBounds_toArray, List.set_cons_succ, List.set_cons_zero]
  clear hK_
  generalize w3.alloc (.cells #[.int .u8 2] 5) = q1 at *
  generalize w3.heap.size = g2 at *
  refine wpAnyH_one (k := 3) (fuel := 8) (by kernel_rfl) rfl (by kernel_rfl) (fun K_ hK_ => ?_)
  have hB1_ : Bys q1 (.slice (some ⟨w.heap.size, 0, none⟩) 32 32) a := by
    have h := Bys.of_row R0 (by omega) haz 32
    rw [hal] at h
    exact h
  have hB2_ : Bys q1 (.slice (some ⟨g2, 0, none⟩) 1 1) [2] := Bys.of_row (l := [2]) rB2 (by decide) (by decide) 1
  refine wp_call_ex (f := 26) (by kernel_rfl) (ex1 (cA2 q1 _ _ (hS.below hw) (hK.below hw) hB1_ (fun a l c h => by cases h; exact Nat.le_refl _) hB2_ (fun a l c h => by cases h; exact Nat.le_refl _))) (fun v_ q3 hX_ => ?_)
  obtain ⟨rfl, hb_⟩ := hX_
  replace R0 := keep hb_ R0
  replace R1 := keep hb_ R1
  replace yc010 := keep hb_ yc010
  replace yc011 := keep hb_ yc011
  replace hw := Below.after hw hb_
  clear hb_
  clear hB1_ hB2_ rB2
  refine hK_ _ _ (⟨yc010, yc011⟩) ?_
  simp only [Act.put, List.getElem_toArray, List.getElem_cons_succ, List.getElem_cons_zero, List.setIfInBounds_toArray, List.set_cons_succ, List.set_cons_zero]
  clear hK_
  refine wpAnyH_take (i := 4) (v := ?v3) rfl (by kernel_rfl) (by kernel_rfl) (by kernel_rfl) (fun _ _ _ h => h) (Or.inl ⟨by rfl, ?y3⟩) (⟨yc010, yc011⟩) ?r3
  case y3 =>
    intro w_ hS_
    go_simp
    try with_reducible rfl
  simp only [Act.put, List.getElem_toArray, List.getElem_cons_succ, List.getElem_cons_zero, List.setIfInBounds_toArray, List.set_cons_succ, List.set_cons_zero]
  refine wpAnyH_take (i := 5) (v := ?v4) rfl (by kernel_rfl) (by kernel_rfl) (by kernel_rfl) (fun _ _ _ h => h) (Or.inl ⟨by rfl, ?y4⟩) (⟨yc010, yc011⟩) ?r4
  case y4 =>
    intro w_ hS_
    go_simp
    try with_reducible rfl
  simp only [Act.put, List.getElem_toArray, List.getElem_cons_succ, List.getElem_cons_zero, List.setIfInBounds_toArray, List.set_cons_succ, List.set_cons_zero]
  refine wpAnyH_take (i := 6) (v := .agg (irow .u8 A1)) rfl (by kernel_rfl) (by kernel_rfl) (by kernel_rfl) (fun _ _ _ h => h) (Or.inl ⟨by rfl, ?y5⟩) (⟨yc010, yc011⟩) ?r5
  case y5 =>
    intro w_ hS_
    simp only [List.getElem_toArray, List.getElem_cons_succ, List.getElem_cons_zero]
    exact run_load_part 23 _ (by rfl) (g0 + 1) 0 (by rfl) 23 (irow .u8 A1) (0, 0) (irow .u8 A1) _ (hS_.2) (all_row _) Tryd.underlying23 rfl (infok8 _ l1)
  simp only [Act.put, List.getElem_toArray, List.getElem_cons_succ, List.getElem_cons_zero, List.setIfInBounds_toArray, List.set_cons_succ, List.set_cons_zero]
  refine wpAnyH_take (i := 7) (v := ?v6) rfl (by kernel_rfl) (by kernel_rfl) (by kernel_rfl) (fun _ _ _ h => h) (Or.inl ⟨by rfl, ?y6⟩) (⟨yc010, yc011⟩) ?r6
  case y6 =>
    intro w_ hS_
    go_simp
    try with_reducible rfl
  simp only [Act.put, List.getElem_toArray, List.getElem_cons_succ, List.getElem_cons_zero, List.setIfInBounds_toArray, List.set_cons_succ, List.set_cons_zero]
  refine wpAnyH_one (k := 8) (fuel := 3) (by kernel_rfl) rfl (by kernel_rfl) (fun K_ hK_ => ?_)
  refine wp_world_op (.slice (some ⟨q3.heap.size, 0, none⟩) 1 1) (q3.alloc (.cells #[.int .u8 1] 5)) (by kernel_rfl) ?_
  have hb_ : Below q3.heap.size q3 (q3.alloc (.cells #[.int .u8 1] 5)) := (Below.refl _ _).alloc (Nat.le_refl _) _
  have sz_g5 : w.heap.size ≤ q3.heap.size := hw.size
  have lt_R0_g5 := lt_of_row R0
  have lt_R1_g5 := lt_of_row R1
  have lt_yc010_g5 := lt_of_row yc010
  have lt_yc011_g5 := lt_of_row yc011
  have rB1 := hp1_0 q3 (.cells #[.int .u8 1] 5)
  replace R0 := keep hb_ R0
  replace R1 := keep hb_ R1
  replace yc010 := keep hb_ yc010
  replace yc011 := keep hb_ yc011
  replace hw := Below.after hw hb_
  clear hb_
  refine hK_ _ _ (⟨yc010, yc011⟩) ?_
  simp only [Act.put, List.getElem_toArray, List.getElem_cons_succ, List.getElem_cons_zero, List.setIfInBounds_toArray, List.set_cons_succ, List.set_cons_zero]
  clear hK_
  generalize q3.alloc (.cells #[.int .u8 1] 5) = q4 at *
  generalize q3.heap.size = g5 at *
  refine wpAnyH_one (k := 9) (fuel := 2) (by kernel_rfl) rfl (by kernel_rfl) (fun K_ hK_ => ?_)
  have hB1_ : Bys q4 (.slice (some ⟨w.heap.size, 0, none⟩) 32 32) a := by
    have h := Bys.of_row R0 (by omega) haz 32
    rw [hal] at h
    exact h
  have hB2_ : Bys q4 (.slice (some ⟨g5, 0, none⟩) 1 1) [1] := Bys.of_row (l := [1]) rB1 (by decide) (by decide) 1
  refine wp_call_ex (f := 26) (by kernel_rfl) (ex1 (cA1 q4 _ _ (hS.below hw) (hK.below hw) hB1_ (fun a l c h => by cases h; exact Nat.le_refl _) hB2_ (fun a l c h => by cases h; exact Nat.le_refl _))) (fun v_ q6 hX_ => ?_)
  obtain ⟨rfl, hb_⟩ := hX_
  replace R0 := keep hb_ R0
  replace R1 := keep hb_ R1
  replace yc010 := keep hb_ yc010
  replace yc011 := keep hb_ yc011
  replace hw := Below.after hw hb_
  clear hb_
  clear hB1_ hB2_ rB1
  refine hK_ _ _ (⟨yc010, yc011⟩) ?_
  simp only [Act.put, List.getElem_toArray, List.getElem_cons_succ, List.getElem_cons_zero, List.setIfInBounds_toArray, List.set_cons_succ, List.set_cons_zero]
  clear hK_
  refine wpAnyH_take (i := 10) (v := ?v7) rfl (by kernel_rfl) (by kernel_rfl) (by kernel_rfl) (fun _ _ _ h => h) (Or.inl ⟨by rfl, ?y7⟩) (⟨yc010, yc011⟩) ?r7
  case y7 =>
    intro w_ hS_
    go_simp
    try with_reducible rfl
  simp only [Act.put, List.getElem_toArray, List.getElem_cons_succ, List.getElem_cons_zero, List.setIfInBounds_toArray, List.set_cons_succ, List.set_cons_zero]
  refine wpAnyH_take (i := 11) (v := ?v8) rfl (by kernel_rfl) (by kernel_rfl) (by kernel_rfl) (fun _ _ _ h => h) (Or.inl ⟨by rfl, ?y8⟩) (⟨yc010, yc011⟩) ?r8
  case y8 =>
    intro w_ hS_
    go_simp
    try with_reducible rfl
  simp only [Act.put, List.getElem_toArray, List.getElem_cons_succ, List.getElem_cons_zero, List.setIfInBounds_toArray, List.set_cons_succ, List.set_cons_zero]
  refine wpAnyH_done (by kernel_rfl) ?_ _
  refine NoPanic.normal ?_
  clear yc010 yc011 sk sk1 cS cA1 cA2 e1 e2
  have sk := slice_k w.heap.size
  have sk1 := slice_k (w.heap.size + 1)
  go_wp2_with (first | (refine wpList_load_want rfl 23 _ rfl (w.heap.size) rfl 23 (irow .u8 a) (0, 0) _ R0 Tryd.underlying23 rfl (infok8 _ hal) ?_) | (refine wpList_load_want rfl 23 _ rfl (w.heap.size + 1) rfl 23 (irow .u8 b) (0, 0) _ R1 Tryd.underlying23 rfl (infok8 _ hbl) ?_) | fail)
  refine (cR q6 hw).mono ?_
  rintro e_ w4a ⟨rfl, hb⟩
  replace R0 := keep hb R0
  replace R1 := keep hb R1
  replace hw := Below.after hw hb
  clear hb
  have zc40 := hp3_0 w4a (.cells (irow .u8 (zr 32)) 23) (.cells (irow .u8 (zr 32)) 23) (.cells (irow .u8 (zr 32)) 23)
  have zc41 := hp3_1 w4a (.cells (irow .u8 (zr 32)) 23) (.cells (irow .u8 (zr 32)) 23) (.cells (irow .u8 (zr 32)) 23)
  have zc42 := hp3_2 w4a (.cells (irow .u8 (zr 32)) 23) (.cells (irow .u8 (zr 32)) 23) (.cells (irow .u8 (zr 32)) 23)
  have yc400 := setRow_heap (((w4a.alloc (.cells (irow .u8 (zr 32)) 23)).alloc (.cells (irow .u8 (zr 32)) 23)).alloc (.cells (irow .u8 (zr 32)) 23)) (w4a.heap.size) _ (irow .u8 (pt R 0 32)) _ _ zc40
  have yc401 := (setRow_other (((w4a.alloc (.cells (irow .u8 (zr 32)) 23)).alloc (.cells (irow .u8 (zr 32)) 23)).alloc (.cells (irow .u8 (zr 32)) 23)) (w4a.heap.size) (w4a.heap.size + 1) (irow .u8 (pt R 0 32)) (by omega)).trans zc41
  have yc402 := (setRow_other (((w4a.alloc (.cells (irow .u8 (zr 32)) 23)).alloc (.cells (irow .u8 (zr 32)) 23)).alloc (.cells (irow .u8 (zr 32)) 23)) (w4a.heap.size) (w4a.heap.size + 1 + 1) (irow .u8 (pt R 0 32)) (by omega)).trans zc42
  have yc410 := (setRow_other ((((w4a.alloc (.cells (irow .u8 (zr 32)) 23)).alloc (.cells (irow .u8 (zr 32)) 23)).alloc (.cells (irow .u8 (zr 32)) 23)).setRow (w4a.heap.size) (irow .u8 (pt R 0 32))) (w4a.heap.size + 1) (w4a.heap.size) (irow .u8 (pt R 32 32)) (by omega)).trans yc400
  have yc411 := setRow_heap ((((w4a.alloc (.cells (irow .u8 (zr 32)) 23)).alloc (.cells (irow .u8 (zr 32)) 23)).alloc (.cells (irow .u8 (zr 32)) 23)).setRow (w4a.heap.size) (irow .u8 (pt R 0 32))) (w4a.heap.size + 1) _ (irow .u8 (pt R 32 32)) _ _ yc401
  have yc412 := (setRow_other ((((w4a.alloc (.cells (irow .u8 (zr 32)) 23)).alloc (.cells (irow .u8 (zr 32)) 23)).alloc (.cells (irow .u8 (zr 32)) 23)).setRow (w4a.heap.size) (irow .u8 (pt R 0 32))) (w4a.heap.size + 1) (w4a.heap.size + 1 + 1) (irow .u8 (pt R 32 32)) (by omega)).trans yc402
  have yc420 := (setRow_other (((((w4a.alloc (.cells (irow .u8 (zr 32)) 23)).alloc (.cells (irow .u8 (zr 32)) 23)).alloc (.cells (irow .u8 (zr 32)) 23)).setRow (w4a.heap.size) (irow .u8 (pt R 0 32))).setRow (w4a.heap.size + 1) (irow .u8 (pt R 32 32))) (w4a.heap.size + 1 + 1) (w4a.heap.size) (irow .u8 (pt R 64 32)) (by omega)).trans yc410
  have yc421 := (setRow_other (((((w4a.alloc (.cells (irow .u8 (zr 32)) 23)).alloc (.cells (irow .u8 (zr 32)) 23)).alloc (.cells (irow .u8 (zr 32)) 23)).setRow (w4a.heap.size) (irow .u8 (pt R 0 32))).setRow (w4a.heap.size + 1) (irow .u8 (pt R 32 32))) (w4a.heap.size + 1 + 1) (w4a.heap.size + 1) (irow .u8 (pt R 64 32)) (by omega)).trans yc411
  have yc422 := setRow_heap (((((w4a.alloc (.cells (irow .u8 (zr 32)) 23)).alloc (.cells (irow .u8 (zr 32)) 23)).alloc (.cells (irow .u8 (zr 32)) 23)).setRow (w4a.heap.size) (irow .u8 (pt R 0 32))).setRow (w4a.heap.size + 1) (irow .u8 (pt R 32 32))) (w4a.heap.size + 1 + 1) _ (irow .u8 (pt R 64 32)) _ _ yc412
  have hbF : Below w4a.heap.size w4a ((((((w4a.alloc (.cells (irow .u8 (zr 32)) 23)).alloc (.cells (irow .u8 (zr 32)) 23)).alloc (.cells (irow .u8 (zr 32)) 23)).setRow (w4a.heap.size) (irow .u8 (pt R 0 32))).setRow (w4a.heap.size + 1) (irow .u8 (pt R 32 32))).setRow (w4a.heap.size + 1 + 1) (irow .u8 (pt R 64 32))) := (below_setRow (below_setRow (below_setRow ((((Below.refl _ _).alloc (Nat.le_refl _) _).alloc (by simp) _).alloc (by simp; omega) _) (show w4a.heap.size ≤ w4a.heap.size by omega) (irow .u8 (pt R 0 32))) (show w4a.heap.size ≤ w4a.heap.size + 1 by omega) (irow .u8 (pt R 32 32))) (show w4a.heap.size ≤ w4a.heap.size + 1 + 1 by omega) (irow .u8 (pt R 64 32)))
  go_wp2_with (first | (refine wpList_alloc rfl 23 rfl (irow .u8 (zr 32)) zkey ?_) | (refine wpList_store_row rfl 23 _ _ rfl (w4a.heap.size) (irow .u8 (pt R 0 32)) rfl rfl 23 _ zc40 (infok8 _ p0) (fit32 _ _ (zr_len 32) p0) (irow_one _ _) ?_; refine wpList_stay ?_) | fail)
  unfold WpStay
  go_wp2_with (first | (refine wpList_store_row rfl 23 _ _ rfl (w4a.heap.size + 1) (irow .u8 (pt R 32 32)) rfl rfl 23 _ yc401 (infok8 _ p1) (fit32 _ _ (zr_len 32) p1) (irow_one _ _) ?_; refine wpList_stay ?_) | fail)
  unfold WpStay
  go_wp2_with (first | (refine wpList_store_row rfl 23 _ _ rfl (w4a.heap.size + 1 + 1) (irow .u8 (pt R 64 32)) rfl rfl 23 _ yc412 (infok8 _ p2) (fit32 _ _ (zr_len 32) p2) (irow_one _ _) ?_; refine wpList_stay ?_) | fail)
  unfold WpStay
  replace R0 := keep hbF R0
  replace R1 := keep hbF R1
  replace hw := Below.after hw hbF
  clear hbF
  generalize ((((((w4a.alloc (.cells (irow .u8 (zr 32)) 23)).alloc (.cells (irow .u8 (zr 32)) 23)).alloc (.cells (irow .u8 (zr 32)) 23)).setRow (w4a.heap.size) (irow .u8 (pt R 0 32))).setRow (w4a.heap.size + 1) (irow .u8 (pt R 32 32))).setRow (w4a.heap.size + 1 + 1) (irow .u8 (pt R 64 32))) = w4b at *
  clear zc40 zc41 zc42 yc400 yc401 yc402 yc410 yc411 yc412
  generalize hg4 : w4a.heap.size = g4 at *
  clear hg4
  go_wp2_with (fail)
  have hbd : Below w4b.heap.size w4b w4b.drew := below_drN (Below.refl _ _) 1
  replace R0 := keep hbd R0
  replace R1 := keep hbd R1
  replace yc420 := keep hbd yc420
  replace yc421 := keep hbd yc421
  replace yc422 := keep hbd yc422
  replace hw := Below.after hw hbd
  clear hbd
  refine wp_region_noPanic ?_
  refine wp_region_held (S := fun _ => True) (by kernel_rfl) ?_
  change wpAnyH _ _ _ _ _ _ _ _ (World.drew _)
  generalize w4b.drew = w5 at *
  refine wpAnyH_take (i := 0) (v := ?v9) rfl (by kernel_rfl) (by kernel_rfl) (by kernel_rfl) (fun _ _ _ h => h) (Or.inl ⟨by rfl, ?y9⟩) (trivial) ?r9
  case y9 =>
    intro w_ hS_
    go_simp
    try with_reducible rfl
  simp only [Act.put, List.getElem_toArray, List.getElem_cons_zero, List.setIfInBounds_toArray, List.set_cons_succ, List.set_cons_zero]
  refine wpAnyH_take (i := 1) (v := ?v10) rfl (by kernel_rfl) (by kernel_rfl) (by kernel_rfl) (fun _ _ _ h => h) (Or.inl ⟨by rfl, ?y10⟩) (trivial) ?r10
  case y10 =>
    intro w_ hS_
    go_simp
    try with_reducible rfl
  simp only [Act.put, List.getElem_toArray, List.getElem_cons_succ, List.getElem_cons_zero, List.setIfInBounds_toArray, List.set_cons_succ, List.set_cons_zero]
  refine wpAnyH_one (k := 2) (fuel := 7) (by kernel_rfl) rfl (by kernel_rfl) (fun K_ hK_ => ?_)
  refine wp_world_op (.slice (some ⟨w5.heap.size, 0, none⟩) 9 9) (w5.alloc (.cells #[.int .u8 112, .int .u8 97, .int .u8 119, .int .u8 108, .int .u8 32, .int .u8 114, .int .u8 111, .int .u8 111, .int .u8 116] 5)) (by kernel_rfl) ?_
  refine hK_ _ _ (trivial) ?_
  simp only [Act.put, List.getElem_toArray, List.getElem_cons_succ, List.getElem_cons_zero, List.setIfInBounds_toArray, List.set_cons_succ, List.set_cons_zero]
  clear hK_
  refine wpAnyH_one (k := 3) (fuel := 6) (by kernel_rfl) rfl (by kernel_rfl) (fun K_ hK_ => ?_)
  refine wp_convert 66 66 _ rfl _ (.slice (some ⟨w5.heap.size, 0, none⟩) 9 9) (w5.alloc (.cells #[.int .u8 112, .int .u8 97, .int .u8 119, .int .u8 108, .int .u8 32, .int .u8 114, .int .u8 111, .int .u8 111, .int .u8 116] 5 (9, 10))) rfl (Go.Lib.run_convert_bytes_const (P := Tryd.prog) w5 66 5 #[.int .u8 112, .int .u8 97, .int .u8 119, .int .u8 108, .int .u8 32, .int .u8 114, .int .u8 111, .int .u8 111, .int .u8 116] 9 9 Tryd.underlying66 Tryd.underlying5) ?_
  have hb_ : Below w5.heap.size w5 (w5.alloc (.cells #[.int .u8 112, .int .u8 97, .int .u8 119, .int .u8 108, .int .u8 32, .int .u8 114, .int .u8 111, .int .u8 111, .int .u8 116] 5 (9, 10))) := (Below.refl _ _).alloc (Nat.le_refl _) _
  have hN := rtn_bys w5
  have sz_g8 : w.heap.size ≤ w5.heap.size := hw.size
  replace R0 := keep hb_ R0
  replace R1 := keep hb_ R1
  replace yc420 := keep hb_ yc420
  replace yc421 := keep hb_ yc421
  replace yc422 := keep hb_ yc422
  replace hw := Below.after hw hb_
  clear hb_
  refine hK_ _ _ (trivial) ?_
  simp only [Act.put, List.getElem_toArray, List.getElem_cons_succ, List.getElem_cons_zero, List.setIfInBounds_toArray, List.set_cons_succ, List.set_cons_zero]
  clear hK_
  generalize w5.alloc (.cells #[.int .u8 112, .int .u8 97, .int .u8 119, .int .u8 108, .int .u8 32, .int .u8 114, .int .u8 111, .int .u8 111, .int .u8 116] 5 (9, 10)) = q7 at *
  generalize w5.heap.size = g8 at *
  refine wpAnyH_one (k := 4) (fuel := 5) (by kernel_rfl) rfl (by kernel_rfl) (fun K_ hK_ => ?_)
  have hB1_ : Bys q7 (.slice (some ⟨w.heap.size, 0, none⟩) 32 32) a := by
    have h := Bys.of_row R0 (by omega) haz 32
    rw [hal] at h
    exact h
  have hB2_ : Bys q7 (.slice (some ⟨w.heap.size + 1, 0, none⟩) 32 32) b := by
    have h := Bys.of_row R1 (by omega) hbz 32
    rw [hbl] at h
    exact h
  have szD := lt_of_row yc422
  refine wp_call_ex (f := 27) (by kernel_rfl) (cD q7 _ _ _ (hS.below hw) (hK.below hw) hB1_ (fun a l c h => by cases h; exact Nat.le_refl _) hB2_ (fun a l c h => by cases h; exact Nat.le_refl _) hN (fun a l c h => by cases h; exact Nat.le_refl _)) (fun v_ q9 hX_ => ?_)
  obtain ⟨⟨gD, rfl, lgD, rD⟩, hb_⟩ := hX_
  replace R0 := keep hb_ R0
  replace R1 := keep hb_ R1
  replace yc420 := keep hb_ yc420
  replace yc421 := keep hb_ yc421
  replace yc422 := keep hb_ yc422
  replace hw := Below.after hw hb_
  clear hb_
  clear hB1_ hB2_ hN
  refine hK_ _ _ (trivial) ?_
  simp only [Act.put, List.getElem_toArray, List.getElem_cons_succ, List.getElem_cons_zero, List.setIfInBounds_toArray, List.set_cons_succ, List.set_cons_zero]
  clear hK_
  refine wpAnyH_take (i := 5) (v := ?v11) rfl (by kernel_rfl) (by kernel_rfl) (by kernel_rfl) (fun _ _ _ h => h) (Or.inl ⟨by rfl, ?y11⟩) (trivial) ?r11
  case y11 =>
    intro w_ hS_
    go_simp
    try with_reducible rfl
  simp only [Act.put, List.getElem_toArray, List.getElem_cons_succ, List.getElem_cons_zero, List.setIfInBounds_toArray, List.set_cons_succ, List.set_cons_zero]
  refine wpAnyH_take (i := 6) (v := ?v12) rfl (by kernel_rfl) (by kernel_rfl) (by kernel_rfl) (fun _ _ _ h => h) (Or.inl ⟨by rfl, ?y12⟩) (trivial) ?r12
  case y12 =>
    intro w_ hS_
    go_simp
    try with_reducible rfl
  simp only [Act.put, List.getElem_toArray, List.getElem_cons_succ, List.getElem_cons_zero, List.setIfInBounds_toArray, List.set_cons_succ, List.set_cons_zero]
  refine wpAnyH_take (i := 7) (v := ?v13) rfl (by kernel_rfl) (by kernel_rfl) (by kernel_rfl) (fun _ _ _ h => h) (Or.inl ⟨by rfl, ?y13⟩) (trivial) ?r13
  case y13 =>
    intro w_ hS_
    go_simp
    try with_reducible rfl
  simp only [Act.put, List.getElem_toArray, List.getElem_cons_succ, List.getElem_cons_zero, List.setIfInBounds_toArray, List.set_cons_succ, List.set_cons_zero]
  refine wpAnyH_take (i := 8) (v := ?v14) rfl (by kernel_rfl) (by kernel_rfl) (by kernel_rfl) (fun _ _ _ h => h) (Or.inl ⟨by rfl, ?y14⟩) (trivial) ?r14
  case y14 =>
    intro w_ hS_
    go_simp
    try with_reducible rfl
  simp only [Act.put, List.getElem_toArray, List.getElem_cons_succ, List.getElem_cons_zero, List.setIfInBounds_toArray, List.set_cons_succ, List.set_cons_zero]
  refine wpAnyH_take (i := 9) (v := ?v15) rfl (by kernel_rfl) (by kernel_rfl) (by kernel_rfl) (fun _ _ _ h => h) (Or.inl ⟨by rfl, ?y15⟩) (trivial) ?r15
  case y15 =>
    intro w_ hS_
    go_simp
    try with_reducible rfl
  simp only [Act.put, List.getElem_toArray, List.getElem_cons_succ, List.getElem_cons_zero, List.setIfInBounds_toArray, List.set_cons_succ, List.set_cons_zero]
  refine wpAnyH_done (by kernel_rfl) ?_ _
  refine NoPanic.normal ?_
  go_wp2_with (fail)
  go_loopw [12] (fun i wr => ∃ k : Nat, k ≤ 32 ∧ i = .int .i64 k ∧ wr.heap[w.heap.size]? = some (.cells (irow .u8 a) 23 (0, 0)) ∧ wr.heap[w.heap.size + 1]? = some (.cells (irow .u8 b) 23 (0, 0)) ∧ wr.heap[g4]? = some (.cells (irow .u8 (pt R 0 32)) 23 (0, 0)) ∧ wr.heap[g4 + 1]? = some (.cells (irow .u8 (pt R 32 32)) 23 (0, 0)) ∧ wr.heap[g4 + 1 + 1]? = some (.cells (irow .u8 (pt R 64 32)) 23 (0, 0)) ∧ wr.heap[gD]? = some (.cells (irow .u8 R) 5 (0, 0)) ∧ Below w.heap.size w wr) (fun i _ => 32 - (intOf i).toNat)
  case atStart => exact ⟨0, by omega, rfl, R0, R1, yc420, yc421, yc422, rD, hw⟩
  case round =>
    clear R0 R1 yc420 yc421 yc422 rD hw
    obtain ⟨k, hk, rfl, R0, R1, yc420, yc421, yc422, rD, hw⟩ := hrel
    by_cases hlt : k < 32
    · have hd : decide ((k : Int) < 32) = true := by simp; omega
      have d0 := irow_at rD k (by omega)
      have d1 := irow_at rD (32 + k) (by omega)
      have d2 := irow_at rD (64 + k) (by omega)
      have h0 := irow_at yc420 k (by omega)
      have h1 := irow_at yc421 k (by omega)
      have h2 := irow_at yc422 k (by omega)
      rw [pt_get _ _ _ _ hlt] at h0 h1 h2
      rw [Nat.zero_add] at h0
      generalize R.getD k 0 = x0 at *
      generalize R.getD (32 + k) 0 = x1 at *
      generalize R.getD (64 + k) 0 = x2 at *
      go_wp2_with (fail)
      have qd0 : ∀ p : Regrown, (grow (redrawn wr p.d) p.os).cell? ⟨gD, k, none⟩ = some (.int .u8 x0) := fun p => cell_regrown (d0) p.d p.os
      have qr0 : ∀ p : Regrown, (grow (redrawn wr p.d) p.os).cell? ⟨g4, k, none⟩ = some (.int .u8 x0) := fun p => cell_regrown (h0) p.d p.os
      have qd1 : ∀ p : Regrown, (grow (redrawn wr p.d) p.os).cell? ⟨gD, 32 + k, none⟩ = some (.int .u8 x1) := fun p => cell_regrown (d1) p.d p.os
      have qr1 : ∀ p : Regrown, (grow (redrawn wr p.d) p.os).cell? ⟨g4 + 1, k, none⟩ = some (.int .u8 x1) := fun p => cell_regrown (h1) p.d p.os
      have qd2 : ∀ p : Regrown, (grow (redrawn wr p.d) p.os).cell? ⟨gD, 64 + k, none⟩ = some (.int .u8 x2) := fun p => cell_regrown (d2) p.d p.os
      have qr2 : ∀ p : Regrown, (grow (redrawn wr p.d) p.os).cell? ⟨g4 + 1 + 1, k, none⟩ = some (.int .u8 x2) := fun p => cell_regrown (h2) p.d p.os
      refine wp_region_quiet_below (by kernel_rfl) (by kernel_rfl) ?_
      go_big_quiet_step (fail)
      go_big_quiet_step (fail)
      go_big_quiet_step (fail)
      go_big_quiet_step (fail)
      go_big_quiet_step (fail)
      go_big_quiet_step (fail)
      go_big_quiet_step (fail)
      go_big_quiet_step (fail)
      go_big_quiet_step (fail)
      go_big_quiet_step (fail)
      go_big_quiet_step (fail)
      go_big_quiet_step (fail)
      go_big_quiet_step (fail)
      go_big_quiet_step (fail)
      go_big_quiet_step (fail)
      go_big_quiet_step (fail)
      go_big_quiet_step (fail)
      go_big_quiet_step (fail)
      go_big_quiet_step (fail)
      go_big_quiet_step (fail)
      go_big_quiet_step (fail)
      go_big_quiet_step (fail)
      go_big_quiet_step (fail)
      go_big_quiet_step (fail)
      go_big_quiet_step (fail)
      go_big_quiet_step (fail)
      go_big_quiet_step (fail)
      go_big_quiet_step (fail)
      go_big_quiet_step (fail)
      go_big_quiet_step (fail)
      refine wpQuiet_nil ?_
      rintro _ ⟨p, rfl⟩
      have hb := below_regrown wr p.d p.os
      generalize grow (redrawn wr p.d) p.os = w6 at *
      clear qd0 qr0 qd1 qr1 qd2 qr2
      replace R0 := keep hb R0
      replace R1 := keep hb R1
      replace yc420 := keep hb yc420
      replace yc421 := keep hb yc421
      replace yc422 := keep hb yc422
      replace rD := keep hb rD
      replace hw := Below.after hw hb
      clear hb
      go_wp2_with (fail)
      refine ⟨⟨k + 1, by omega, by go_num, R0, R1, yc420, yc421, yc422, rD, hw⟩, ?_⟩
      simp [intOf]; omega
    · obtain rfl : k = 32 := by omega
      have hd : decide ((32 : Int) < 32) = false := by decide
      clear yc420 yc421 yc422 rD
      go_wp2_with (first | (refine wpList_load_want rfl 23 _ rfl (w.heap.size) rfl 23 (irow .u8 a) (0, 0) _ R0 Tryd.underlying23 rfl (infok8 _ hal) ?_) | fail)
      refine (cM wr hw).mono ?_
      rintro e_ w13a ⟨rfl, hb⟩
      replace R0 := keep hb R0
      replace hw := Below.after hw hb
      clear hb
      have zc130 := hp2_0 w13a (.cells (irow .u8 (zr 32)) 23) (.cells (irow .u8 (zr 16)) 29)
      have zc131 := hp2_1 w13a (.cells (irow .u8 (zr 32)) 23) (.cells (irow .u8 (zr 16)) 29)
      have yc1300 := setRow_heap ((w13a.alloc (.cells (irow .u8 (zr 32)) 23)).alloc (.cells (irow .u8 (zr 16)) 29)) (w13a.heap.size) _ (irow .u8 (pt M 0 32)) _ _ zc130
      have yc1301 := (setRow_other ((w13a.alloc (.cells (irow .u8 (zr 32)) 23)).alloc (.cells (irow .u8 (zr 16)) 29)) (w13a.heap.size) (w13a.heap.size + 1) (irow .u8 (pt M 0 32)) (by omega)).trans zc131
      have yc1310 := (setRow_other (((w13a.alloc (.cells (irow .u8 (zr 32)) 23)).alloc (.cells (irow .u8 (zr 16)) 29)).setRow (w13a.heap.size) (irow .u8 (pt M 0 32))) (w13a.heap.size + 1) (w13a.heap.size) (irow .u8 (pt M 32 16)) (by omega)).trans yc1300
      have yc1311 := setRow_heap (((w13a.alloc (.cells (irow .u8 (zr 32)) 23)).alloc (.cells (irow .u8 (zr 16)) 29)).setRow (w13a.heap.size) (irow .u8 (pt M 0 32))) (w13a.heap.size + 1) _ (irow .u8 (pt M 32 16)) _ _ yc1301
      have hbF : Below w13a.heap.size w13a ((((w13a.alloc (.cells (irow .u8 (zr 32)) 23)).alloc (.cells (irow .u8 (zr 16)) 29)).setRow (w13a.heap.size) (irow .u8 (pt M 0 32))).setRow (w13a.heap.size + 1) (irow .u8 (pt M 32 16))) := (below_setRow (below_setRow (((Below.refl _ _).alloc (Nat.le_refl _) _).alloc (by simp) _) (show w13a.heap.size ≤ w13a.heap.size by omega) (irow .u8 (pt M 0 32))) (show w13a.heap.size ≤ w13a.heap.size + 1 by omega) (irow .u8 (pt M 32 16)))
      go_wp2_with (first | (refine wpList_alloc rfl 23 rfl (irow .u8 (zr 32)) zkey ?_) | (refine wpList_alloc rfl 29 rfl (irow .u8 (zr 16)) zno ?_) | (refine wpList_store_row rfl 23 _ _ rfl (w13a.heap.size) (irow .u8 (pt M 0 32)) rfl rfl 23 _ zc130 (infok8 _ m0) (fit32 _ _ (zr_len 32) m0) (irow_one _ _) ?_; refine wpList_stay ?_) | fail)
      unfold WpStay
      go_wp2_with (first | (refine wpList_store_row rfl 29 _ _ rfl (w13a.heap.size + 1) (irow .u8 (pt M 32 16)) rfl rfl 29 _ yc1301 (infoN _ m1) (fit16 _ _ (zr_len 16) m1) (irow_one _ _) ?_; refine wpList_stay ?_) | fail)
      unfold WpStay
      replace R0 := keep hbF R0
      replace hw := Below.after hw hbF
      clear hbF
      generalize ((((w13a.alloc (.cells (irow .u8 (zr 32)) 23)).alloc (.cells (irow .u8 (zr 16)) 29)).setRow (w13a.heap.size) (irow .u8 (pt M 0 32))).setRow (w13a.heap.size + 1) (irow .u8 (pt M 32 16))) = w13b at *
      clear zc130 zc131 yc1300 yc1301
      generalize hg13 : w13a.heap.size = g13 at *
      clear hg13
      have hz0 : w13b.heap.size = w13b.heap.size := rfl
      have cvs := Go.Lib.run_convert_bytes_const (P := Tryd.prog) w13b 66 5 #[.int .u8 112, .int .u8 97, .int .u8 119, .int .u8 108, .int .u8 32, .int .u8 109, .int .u8 101, .int .u8 115, .int .u8 115, .int .u8 97, .int .u8 103, .int .u8 101] 12 12 Tryd.underlying66 Tryd.underlying5
      go_wp2_with (first | (refine wpList_load_want rfl 23 _ rfl (w.heap.size) rfl 23 (irow .u8 a) (0, 0) _ R0 Tryd.underlying23 rfl (infok8 _ hal) ?_) | fail)
      clear cvs hz0
      have hba : Below w13b.heap.size w13b (w13b.alloc (.cells #[.int .u8 112, .int .u8 97, .int .u8 119, .int .u8 108, .int .u8 32, .int .u8 109, .int .u8 101, .int .u8 115, .int .u8 115, .int .u8 97, .int .u8 103, .int .u8 101] 5 (12, 13))) := (Below.refl _ _).alloc (Nat.le_refl _) _
      have hI := msn_bys w13b
      replace yc1310 := keep hba yc1310
      replace yc1311 := keep hba yc1311
      replace hw := Below.after hw hba
      clear hba
      generalize w13b.alloc (.cells #[.int .u8 112, .int .u8 97, .int .u8 119, .int .u8 108, .int .u8 32, .int .u8 109, .int .u8 101, .int .u8 115, .int .u8 115, .int .u8 97, .int .u8 103, .int .u8 101] 5 (12, 13)) = w14 at *
      generalize w13b.heap.size = g14 at *
      have cX := cE w14 _ (hS.below hw) (hK.below hw) hI (fun a l c h => by cases h; exact Nat.le_refl _)
      refine cX.mono ?_
      clear cX hI
      rintro e_ w15 ⟨gM, rfl, lgM, rM, hb⟩
      have l13 := lt_of_row yc1311
      replace yc1310 := keep hb yc1310
      replace yc1311 := keep hb yc1311
      replace hw := Below.after hw hb
      clear hb
      go_wp2_with (fail)
      go_loopw [16] (fun i wr => ∃ k : Nat, k ≤ 48 ∧ i = .int .i64 k ∧ wr.heap[g13]? = some (.cells (irow .u8 (pt M 0 32)) 23 (0, 0)) ∧ wr.heap[g13 + 1]? = some (.cells (irow .u8 (pt M 32 16)) 29 (0, 0)) ∧ wr.heap[gM]? = some (.cells (irow .u8 M) 5 (0, 0)) ∧ Below w.heap.size w wr) (fun i _ => 48 - (intOf i).toNat)
      case atStart => exact ⟨0, by omega, rfl, yc1310, yc1311, rM, hw⟩
      case round =>
        clear yc1310 yc1311 rM hw
        obtain ⟨k, hk, rfl, yc1310, yc1311, rM, hw⟩ := hrel
        by_cases hlt : k < 48
        · have hd : decide ((k : Int) < 48) = true := by simp; omega
          have d0 := irow_at rM k (by omega)
          by_cases hl3 : k < 32
          · have hd3 : decide ((k : Int) < 32) = true := by simp; omega
            have hd4 : decide ((k : Int) ≥ 32) = false := by simp; omega
            have hd5 : decide ((32 : Int) ≤ (k : Int)) = false := by simp; omega
            have h0 := irow_at yc1310 k (by omega)
            rw [pt_get _ _ _ _ hl3, Nat.zero_add] at h0
            generalize M.getD k 0 = x0 at *
            go_wp2_with (fail)
            have qd : ∀ p : Regrown, (grow (redrawn wr p.d) p.os).cell? ⟨gM, k, none⟩ = some (.int .u8 x0) := fun p => cell_regrown (d0) p.d p.os
            have qr : ∀ p : Regrown, (grow (redrawn wr p.d) p.os).cell? ⟨g13, k, none⟩ = some (.int .u8 x0) := fun p => cell_regrown (h0) p.d p.os
            refine wp_region_quiet_below (by kernel_rfl) (by kernel_rfl) ?_
            go_big_quiet_step (fail)
            go_big_quiet_step (fail)
            go_big_quiet_step (fail)
            go_big_quiet_step (fail)
            go_big_quiet_step (fail)
            go_big_quiet_step (fail)
            go_big_quiet_step (fail)
            go_big_quiet_step (fail)
            go_big_quiet_step (fail)
            go_big_quiet_step (fail)
            go_big_quiet_step (fail)
            go_big_quiet_step (fail)
            go_big_quiet_step (fail)
            go_big_quiet_step (fail)
            go_big_quiet_step (fail)
            go_big_quiet_step (fail)
            go_big_quiet_step (fail)
            go_big_quiet_step (fail)
            go_big_quiet_step (fail)
            go_big_quiet_step (fail)
            go_big_quiet_step (fail)
            go_big_quiet_step (fail)
            go_big_quiet_step (fail)
            go_big_quiet_step (fail)
            go_big_quiet_step (fail)
            go_big_quiet_step (fail)
            go_big_quiet_step (fail)
            refine wpQuiet_nil ?_
            rintro _ ⟨p, rfl⟩
            have hb := below_regrown wr p.d p.os
            generalize grow (redrawn wr p.d) p.os = w16 at *
            clear qd qr
            replace yc1310 := keep hb yc1310
            replace yc1311 := keep hb yc1311
            replace rM := keep hb rM
            replace hw := Below.after hw hb
            clear hb
            go_wp2_with (fail)
            refine ⟨⟨k + 1, by omega, by go_num, yc1310, yc1311, rM, hw⟩, ?_⟩
            simp [intOf]; omega
          · have hd3 : decide ((k : Int) < 32) = false := by simp; omega
            have hd4 : decide ((k : Int) ≥ 32) = true := by simp; omega
            have hd5 : decide ((32 : Int) ≤ (k : Int)) = true := by simp; omega
            obtain ⟨j, rfl⟩ : ∃ j, k = j + 32 := ⟨k - 32, by omega⟩
            have hq0 : decide ((j : Int) + 32 < 48) = true := decide_eq_true (by omega)
            have hq1 : decide ((j : Int) + 32 < 32) = false := decide_eq_false (by omega)
            have hq2 : decide ((j : Int) + 32 ≥ 32) = true := decide_eq_true (by omega)
            have hq3 : decide ((32 : Int) ≤ (j : Int) + 32) = true := decide_eq_true (by omega)
            have h0 := irow_at yc1311 j (by omega)
            rw [pt_get _ _ _ _ (by omega), Nat.add_comm 32 j] at h0
            generalize M.getD (j + 32) 0 = x0 at *
            go_wp2_with (fail)
            have qd : ∀ p : Regrown, (grow (redrawn wr p.d) p.os).cell? ⟨gM, j + 32, none⟩ = some (.int .u8 x0) := fun p => cell_regrown (d0) p.d p.os
            have qr : ∀ p : Regrown, (grow (redrawn wr p.d) p.os).cell? ⟨g13 + 1, j, none⟩ = some (.int .u8 x0) := fun p => cell_regrown (h0) p.d p.os
            refine wp_region_quiet_below (by kernel_rfl) (by kernel_rfl) ?_
            go_big_quiet_step (fail)
            go_big_quiet_step (fail)
            go_big_quiet_step (fail)
            go_big_quiet_step (fail)
            go_big_quiet_step (fail)
            go_big_quiet_step (fail)
            go_big_quiet_step (fail)
            go_big_quiet_step (fail)
            go_big_quiet_step (fail)
            go_big_quiet_step (fail)
            go_big_quiet_step (fail)
            go_big_quiet_step (fail)
            go_big_quiet_step (fail)
            go_big_quiet_step (fail)
            go_big_quiet_step (fail)
            go_big_quiet_step (fail)
            go_big_quiet_step (fail)
            go_big_quiet_step (fail)
            go_big_quiet_step (fail)
            go_big_quiet_step (fail)
            go_big_quiet_step (fail)
            go_big_quiet_step (fail)
            go_big_quiet_step (fail)
            go_big_quiet_step (fail)
            go_big_quiet_step (fail)
            go_big_quiet_step (fail)
            go_big_quiet_step (fail)
            refine wpQuiet_nil ?_
            rintro _ ⟨p, rfl⟩
            have hb := below_regrown wr p.d p.os
            generalize grow (redrawn wr p.d) p.os = w16 at *
            clear qd qr
            replace yc1310 := keep hb yc1310
            replace yc1311 := keep hb yc1311
            replace rM := keep hb rM
            replace hw := Below.after hw hb
            clear hb
            go_wp2_with (fail)
            refine ⟨⟨j + 32 + 1, by omega, by go_num, yc1310, yc1311, rM, hw⟩, ?_⟩
            simp [intOf]; omega
        · obtain rfl : k = 48 := by omega
          have hd : decide ((48 : Int) < 48) = false := by decide
          clear yc1310 yc1311 rM
          go_wp2_with (fail)
          refine (cN0 wr (hS.below hw) (hK.below hw)).mono ?_
          rintro e_ w17 ⟨rfl, hb⟩
          replace hw := Below.after hw hb
          clear hb
          have rB := hp1_0 w17 (.cells #[.int .u8 1] 5)
          have hba : Below w17.heap.size w17 (w17.alloc (.cells #[.int .u8 1] 5)) := (Below.refl _ _).alloc (Nat.le_refl _) _
          replace hw := Below.after hw hba
          clear hba
          go_wp2_with (fail)
          generalize w17.alloc (.cells #[.int .u8 1] 5) = w18 at *
          have hB2_ : Bys w18 (.slice (some ⟨w17.heap.size, 0, none⟩) 1 1) [1] := Bys.of_row (l := [1]) rB (by decide) (by decide) 1
          refine (cN1 w18 _ (hS.below hw) (hK.below hw) hB2_ (fun a l c h => by cases h; exact Nat.le_refl _)).mono ?_
          rintro e_ w19 ⟨rfl, hb⟩
          replace hw := Below.after hw hb
          clear hb
          go_wp2_with (fail)
          go_ret
          exact ⟨rfl, hw⟩
theorem parts_any (a b : List Int) (hal : a.length = 32) (hbl : b.length = 32) (haz : ∀ z ∈ a, 0 ≤ z ∧ z < 256) (hbz : ∀ z ∈ b, 0 ≤ z ∧ z < 256) (w : World) (hS : Sta w) (hK : Kon w) : Calls Tryd.prog 6 #[.agg (irow .u8 a), .agg (irow .u8 b)] w fun e w' => e = .returned (.bool true) ∧ Below w.heap.size w w' := by
  have hc : ∀ a l c, Value.slice none 0 0 = .slice a l c → l ≤ c := fun a l c h => by cases h; exact Nat.le_refl _
  refine parts_aux a b (hm a [2]) (hm a [1]) (rts a b) (mss a) (hm [] []) (hm [] [1]) hal hbl haz hbz (hm_len _ _) (hm_len _ _) (rts_len _ _) (mss_len _) w hS hK (fun V h => a_Step a hal haz V (hS.below h) (hK.below h)) (fun V h => a_Root a b hal hbl haz hbz V (hS.below h) (hK.below h)) (fun V h => a_Message a hal haz V (hS.below h) (hK.below h)) (fun V v vb h1 h2 h3 h4 h5 h6 => a_macSum a [2] V v vb h1 h2 h3 h4 (by omega) h5 h6 (by decide)) (fun V v vb h1 h2 h3 h4 h5 h6 => a_macSum a [1] V v vb h1 h2 h3 h4 (by omega) h5 h6 (by decide)) ?_ ?_ (fun V h1 h2 => a_macSum [] [] V _ _ h1 h2 (bys_nil V) hc (by decide) (bys_nil V) hc (by decide)) (fun V vb h1 h2 h5 h6 => a_macSum [] [1] V _ vb h1 h2 (bys_nil V) hc (by decide) h5 h6 (by decide)) eqV
  · intro V vs vc vi h1 h2 h3 h4 h5 h6 h7 h8
    refine (a_derive a b rtn 96 V vs vc vi h1 h2 h3 h4 (by omega) h5 h6 (by omega) h7 h8 (by decide)).mono ?_
    rintro e w' ⟨v, rfl, hx, hb⟩
    refine ⟨v, rfl, ?_, hb⟩
    rcases hx with ⟨m, g, hm_, _, rfl, lg, rg⟩ | ⟨hm_, _⟩
    · obtain rfl : m = 96 := by omega
      exact ⟨g, rfl, lg, rg⟩
    · exact absurd hm_ (by decide)
  · intro V vi h1 h2 h7 h8
    refine (a_expand a msn 48 V vi h1 h2 hal haz h7 h8 (by decide) (by decide)).mono ?_
    rintro e w' ⟨v, g, rfl, rfl, lg, rg, hb⟩
    exact ⟨g, rfl, lg, rg, hb⟩

end Go.Proofs.YtmflfdedhbnfnaaDoor
