import Derived.Test.YtamieopjigjfiaaDoorProg
import Derived.WalkKit
import Derived.WalkSpells
import Derived.WalkLawsBesides
import Derived.Lib.QuietBelow
import Derived.BigQuiet
import Derived.OrdersHeld
import Derived.Deep.RegionHeld3
import Derived.Test.YtamieopjigjfiaaDoorS0
import Derived.Test.YtamieopjigjfiaaDoorS7
import Derived.Lib.AppendZeros
import Derived.OwnWalk
import Derived.Lib.SlBytesConst
namespace Go.Proofs.YtamieopjigjfiaaDoor
set_option maxRecDepth 100000
open Go Go.RowKit Go.Sort
attribute [local go_sem] setCell_drewN alloc_drewN

theorem all_row (cs : Array Value) : cs.extract 0 (0 + cs.size) = cs := by simp
theorem sm_write (key bs b : List Int) (g : Nat) (w : World) (v : Value) (rM : w.heap[g]? = some (.cells (mst key bs) 76 (0, 0))) (hB : Bys w v b) (hne : ∀ a l c, v = .slice (some a) l c → 0 < l → a.block ≠ g) (hcap : ∀ a l c, v = .slice a l c → l ≤ c) (hg1 : 1 < g) (hK : Kon w) (hz : ∀ z ∈ bs, 0 ≤ z ∧ z < 256) (hlim : bs.length + b.length ≤ 4611686018427380000) :
    Calls Tryd.prog 52 #[.pointer (some ⟨g, 0, none⟩), v] w fun e w' => e = .returned (.tuple #[]) ∧ w'.heap[g]? = some (.cells (mst key (bs ++ b)) 76 (0, 0)) ∧ w.grownBy w' (some g) := by
  have h := a_writeR (mrest key) 76 (kin key ++ bs) b g w v rM hB hne hcap hg1 hK (both_bd (kin_bd key) hz) (by rw [List.length_append, kin_len]; omega)
  rw [List.append_assoc] at h
  exact h
theorem flat_bd {ps : List (List Int)} (h : ∀ i, i < ps.length → ∀ z ∈ ps.getD i [], 0 ≤ z ∧ z < 256) (k : Nat) (hk : k ≤ ps.length) : ∀ z ∈ flat ps k, 0 ≤ z ∧ z < 256 := by
  induction k with
  | zero => intro z hz; simp [flat] at hz
  | succ k ih =>
    rw [flat_next ps k (by omega)]
    exact both_bd (ih (by omega)) (h k (by omega))
/-- Parts: slices in a row. -/
def Prt (W : World) (gp : Nat) (vs : List Value) (ps : List (List Int)) : Prop := W.heap[gp]? = some (.cells vs.toArray 29 (0, 0)) ∧ vs.length = ps.length ∧ ∀ i, i < ps.length → ∃ u uc, vs[i]? = some (.slice u (ps.getD i []).length uc) ∧ Bys W (.slice u (ps.getD i []).length uc) (ps.getD i []) ∧ (ps.getD i []).length ≤ uc
set_option maxRecDepth 100000 in
set_option maxHeartbeats 4000000 in
theorem a_sumOf (key : List B) (hk : key.length = 32) (ps : List (List Int)) (vs : List Value) (gp : Nat) (w : World) (hS : Sta w) (hK : Kon w) (hP : Prt w gp vs ps) (hsz : ps.flatten.length ≤ 4611686018427380000) (hpl : ps.length ≤ 1000) : Calls Tryd.prog 42 #[.agg (irow .u8 (bl key)), .slice (some ⟨gp, 0, none⟩) ps.length ps.length] w fun e w' => e = .returned (.agg (irow .u8 (hm (bl key) ps.flatten))) ∧ Below w.heap.size w w' := by
  obtain ⟨hP, hvl, hv⟩ := hP
  have hkl : (bl key).length = 32 := by rw [bl_len, hk]
  have hk1 := hK.sz
  have lgp := lt_of_row hP
  have hfl := flat_len ps
  have hfn := flat_next ps
  have hfa := flat_all ps
  have hfz := flat_bd (ps := ps) (fun i hi => by obtain ⟨u, uc, _, h, _⟩ := hv i hi; exact bys_bd h)
  have R0 := hp2_0 w (.cells (irow .u8 (bl key)) 23) (.cells (irow .u8 (zr 32)) 23)
  have R1 := hp2_1 w (.cells (irow .u8 (bl key)) 23) (.cells (irow .u8 (zr 32)) 23)
  have hw : Below w.heap.size w ((w.alloc (.cells (irow .u8 (bl key)) 23)).alloc (.cells (irow .u8 (zr 32)) 23)) := (((Below.refl _ _).alloc (Nat.le_refl _) _).alloc (by simp) _)
  have sk := slice_k w.heap.size
  generalize enp : ps.length = np at *
  go_enter Tryd.func42, Tryd.ntmps42
  go_wp2_with (first | (refine wpList_box rfl 23 _ rfl _ rfl (bK _) ?_) | (refine wpList_alloc rfl 23 rfl (irow .u8 (zr 32)) zkey ?_) | fail)
  try simp only [size_alloc1, Act.put, List.setIfInBounds_toArray, List.set_cons_succ, List.set_cons_zero]
  generalize ((w.alloc (.cells (irow .u8 (bl key)) 23)).alloc (.cells (irow .u8 (zr 32)) 23)) = w0 at *
  have hBk := Bys.of_row R0 (by omega) (bl_bnd _) 32
  rw [hkl] at hBk
  have cN := a_mnew (bl key) w0 _ (hS.below hw) (hK.below hw) hBk (fun a l c h => by cases h; exact Nat.le_refl _) (by omega)
  refine cN.mono ?_
  rintro e_ w1 ⟨gM, rfl, hgM, rM, hb⟩
  have l1 := lt_of_row R1
  have hs0 := hw.size
  replace R1 := keep hb R1
  replace hw := Below.after hw hb
  clear hb cN hBk R0 sk
  have e0 : flat ps 0 = [] := rfl
  rw [← e0] at rM
  replace e0 := hide e0
  go_wp2_with (fail)
  go_loopw [12] (fun i wr => ∃ k : Nat, k ≤ np ∧ i = .int .i64 k ∧ wr.heap[gM]? = some (.cells (mst (bl key) (flat ps k)) 76 (0, 0)) ∧ wr.heap[w.heap.size + 1]? = some (.cells (irow .u8 (zr 32)) 23 (0, 0)) ∧ Below w.heap.size w wr) (fun i _ => np - (intOf i).toNat)
  case atStart => exact ⟨0, by omega, rfl, rM, R1, hw⟩
  case round =>
    clear rM R1 hw
    obtain ⟨k, hk2, rfl, rM, R1, hw⟩ := hrel
    have hfk := hfl k
    have hgl := lt_of_row rM
    by_cases hlt : k < np
    · have hd : decide ((k : Int) < (np : Int)) = true := by simp; omega
      obtain ⟨u, uc, hvk, hBk, hcap⟩ := hv k hlt
      have hF1 := hfn k hlt
      have hf1 := hfl (k + 1)
      rw [hF1, List.length_append] at hf1
      have hfzk := hfz k hk2
      have hneP : ∀ a l c, Value.slice u (ps.getD k []).length uc = .slice (some a) l c → 0 < l → a.block ≠ gM := fun a l c h hl => by
        have := bys_ne hBk a l c h hl
        omega
      replace hF1 := hide hF1
      have hc1 : wr.cell? ⟨gp, k, none⟩ = some (.slice u (ps.getD k []).length uc) := by
        rw [cell_of_row _ _ _ _ _ _ (keep hw hP)]
        simpa using hvk
      clear hv hfn hfl hfa hfz hvk
      generalize ps.getD k [] = P at *
      generalize flat ps k = Fk at *
      have cW := sm_write (bl key) Fk P gM wr (.slice u P.length uc) rM (hBk.keep hw) hneP (fun a l c h => by cases h; exact hcap) (by omega) (hK.below hw) hfzk (by omega)
      go_wp2_with (fail)
      refine cW.mono ?_
      rintro e_ w2 ⟨rfl, rM2, hgr⟩
      have lR := lt_of_row R1
      replace R1 : w2.heap[w.heap.size + 1]? = _ := (hgr.block _ lR (by intro e; injection e with e; omega)).trans R1
      replace hw := hw.grown hgr hw.size (fun k h => by injection h with h; omega)
      rw [← hF1.out] at rM2
      clear hgr cW rM hc1
      go_wp2_with (fail)
      refine ⟨⟨k + 1, by omega, by go_num, rM2, R1, hw⟩, ?_⟩
      simp [intOf]; omega
    · obtain rfl : k = np := by omega
      have hd : decide ((k : Int) < (k : Int)) = false := by simp
      have hfzk := hfz k (Nat.le_refl _)
      rw [hfa] at rM hfzk hfk
      have cA := a_msum (bl key) ps.flatten gM wr (hK.below hw) rM hfzk hsz
      have hHl := hm_len (bl key) ps.flatten
      generalize eH : hm (bl key) ps.flatten = H at *
      replace eH := hide eH
      clear hv hfn hfl hfa hfz
      go_wp2_with (fail)
      refine cA.mono ?_
      rintro e_ w3 ⟨rfl, hb⟩
      replace R1 := keep hb R1
      replace hw := Below.after hw hb
      clear hb cA
      go_wp2_with (first | (refine wpList_store_row rfl 23 _ _ rfl (w.heap.size + 1) (irow .u8 H) rfl rfl 23 _ R1 (infok8 _ hHl) (fit32 _ _ (zr_len 32) hHl) (irow_one _ _) ?_) | fail)
      replace R1 := setRow_heap w3 (w.heap.size + 1) _ (irow .u8 H) _ _ R1
      replace hw := below_setRow hw (show w.heap.size ≤ w.heap.size + 1 by omega) (irow .u8 H)
      exact bodyPost_ret (results_cell_row Tryd.results42 _ _ (w.heap.size + 1) _ _ _ _ rfl R1 Tryd.underlying23 rfl (infok8 _ hHl)) rfl ⟨by rw [eH.out], hw⟩
theorem slice_n (g : Nat) (W : World) : (Instr.sliceAt 28 (.pointer (some ⟨g, 0, none⟩)) none none none).run Tryd.prog W = .ok (.slice (some ⟨g, 0, none⟩) 16 16) W := by kernel_rfl
theorem slice_16 (g : Nat) (W : World) : (Instr.sliceAt 23 (.pointer (some ⟨g, 0, none⟩)) none (some (.int .i64 16)) none).run Tryd.prog W = .ok (.slice (some ⟨g, 0, none⟩) 16 32) W := by kernel_rfl
theorem ex1s {f : FuncId} {args : Array Value} {w : World} {v : Value} {Bp : World → Prop} (h : Calls Tryd.prog f args w fun e w' => e = .returned v ∧ Bp w') : Calls Tryd.prog f args w fun e w' => ∃ v', e = .returned v' ∧ v' = v ∧ Bp w' := h.mono fun _ _ ⟨h1, h2⟩ => ⟨v, h1, rfl, h2⟩
theorem prt4 {W : World} {gp : Nat} {u0 u1 u2 u3 : Option Addr} {c0 c1 c2 c3 : Nat} {p0 p1 p2 p3 : List Int} (hg : W.heap[gp]? = some (.cells #[.slice u0 p0.length c0, .slice u1 p1.length c1, .slice u2 p2.length c2, .slice u3 p3.length c3] 29 (0, 0))) (h0 : Bys W (.slice u0 p0.length c0) p0) (h1 : Bys W (.slice u1 p1.length c1) p1) (h2 : Bys W (.slice u2 p2.length c2) p2) (h3 : Bys W (.slice u3 p3.length c3) p3) (q0 : p0.length ≤ c0) (q1 : p1.length ≤ c1) (q2 : p2.length ≤ c2) (q3 : p3.length ≤ c3) :
    Prt W gp [.slice u0 p0.length c0, .slice u1 p1.length c1, .slice u2 p2.length c2, .slice u3 p3.length c3] [p0, p1, p2, p3] := by
  refine ⟨hg, rfl, fun i hi => ?_⟩
  rcases (show i = 0 ∨ i = 1 ∨ i = 2 ∨ i = 3 by simp at hi; omega) with rfl | rfl | rfl | rfl
  · exact ⟨u0, c0, rfl, h0, q0⟩
  · exact ⟨u1, c1, rfl, h1, q1⟩
  · exact ⟨u2, c2, rfl, h2, q2⟩
  · exact ⟨u3, c3, rfl, h3, q3⟩
set_option maxRecDepth 100000 in
set_option maxHeartbeats 4000000 in
theorem a_tagOf (key nonce extra text : List B) (hk : key.length = 32) (hno : nonce.length = 16) (w : World) (ve vt : Value) (hS : Sta w) (hK : Kon w) (hE : BysB w ve extra) (hT : BysB w vt text) (qE : ∀ a l c, ve = .slice a l c → l ≤ c) (qT : ∀ a l c, vt = .slice a l c → l ≤ c) : Calls Tryd.prog 27 #[.agg (irow .u8 (bl key)), .agg (irow .u8 (bl nonce)), ve, vt] w fun e w' => ∃ v, e = .returned v ∧ ∃ g, v = .slice (some ⟨g, 0, none⟩) 16 32 ∧ w.heap.size ≤ g ∧ w'.heap[g]? = some (.cells (irow .u8 (hm (bl key) (und nonce extra text))) 23 (0, 0)) ∧ Below w.heap.size w w' := by
  have hkl : (bl key).length = 32 := by rw [bl_len, hk]
  have hnl : (bl nonce).length = 16 := by rw [bl_len, hno]
  have hel : extra.length ≤ 140737488351232 := hE.2.1
  have htl : text.length ≤ 140737488351232 := hT.2.1
  have hE := hE.1
  have hT := hT.1
  obtain ⟨ue, uec, rfl, _⟩ := id hE
  obtain ⟨ut, utc, rfl, _⟩ := id hT
  replace qE := qE _ _ _ rfl
  replace qT := qT _ _ _ rfl
  rw [bl_len] at hE qE
  rw [bl_len] at hT qT
  rw [bl_len, bl_len]
  have R0 := hp2_0 w (.cells (irow .u8 (bl key)) 23) (.cells (irow .u8 (bl nonce)) 28)
  have R1 := hp2_1 w (.cells (irow .u8 (bl key)) 23) (.cells (irow .u8 (bl nonce)) 28)
  have hw : Below w.heap.size w ((w.alloc (.cells (irow .u8 (bl key)) 23)).alloc (.cells (irow .u8 (bl nonce)) 28)) := (((Below.refl _ _).alloc (Nat.le_refl _) _).alloc (by simp) _)
  have sn := slice_n (w.heap.size + 1)
  have hmod : ((extra.length : Nat) : Int) % 18446744073709551616 = (extra.length : Int) := by omega
  have hwr : IntKind.u64.wrap ((extra.length : Nat) : Int) = (extra.length : Int) := by rw [IntKind.wrap_u64]; omega
  have hHl := hm_len (bl key) (und nonce extra text)
  have hul := und_len nonce extra text
  have hfl := und_flat nonce extra text
  go_enter Tryd.func27, Tryd.ntmps27
  go_wp2_with (first | (refine wpList_box rfl 23 _ rfl _ rfl (bK _) ?_) | (refine wpList_box rfl 28 _ rfl _ rfl (bNo _) ?_) | fail)
  try simp only [size_alloc1, Act.put, List.setIfInBounds_toArray, List.set_cons_succ, List.set_cons_zero]
  generalize ((w.alloc (.cells (irow .u8 (bl key)) 23)).alloc (.cells (irow .u8 (bl nonce)) 28)) = w0 at *
  have l0 := lt_of_row R0
  have l1 := lt_of_row R1
  have hsw := hw.size
  have cE := fun (W : World) => a_eight extra.length (by omega) W
  have hbd : Below w0.heap.size w0 w0.drew := below_drN (Below.refl _ _) 1
  replace R0 := keep hbd R0
  replace R1 := keep hbd R1
  replace hw := Below.after hw hbd
  clear hbd
  refine wp_region_noPanic ?_
  refine wp_region_held (S := fun W => W.heap[w.heap.size]? = some (.cells (irow .u8 (bl key)) 23 (0, 0))) (by kernel_rfl) ?_
  change wpAnyH _ _ _ _ _ _ _ _ (World.drew _)
  generalize w0.drew = w1 at *
  refine wpAnyH_take (i := 0) (v := .agg (irow .u8 (bl key))) rfl (by kernel_rfl) (by kernel_rfl) (by kernel_rfl) (fun _ _ _ h => h) (Or.inl ⟨by rfl, ?y1⟩) (R0) ?r1
  case y1 =>
    intro w_ hS_
    simp only [List.getElem_toArray, List.getElem_cons_zero]
    exact run_load_part 23 _ (by rfl) (w.heap.size) 0 (by rfl) 23 (irow .u8 (bl key)) (0, 0) (irow .u8 (bl key)) _ (hS_) (all_row _) Tryd.underlying23 rfl (infok8 _ hkl)
  simp only [Act.put, List.getElem_toArray, List.getElem_cons_zero, List.setIfInBounds_toArray, List.set_cons_succ, List.set_cons_zero]
  refine wpAnyH_take (i := 1) (v := ?v2) rfl (by kernel_rfl) (by kernel_rfl) (by kernel_rfl) (fun _ _ _ h => h) (Or.inl ⟨by rfl, ?y2⟩) (R0) ?r2
  case y2 =>
    intro w_ hS_
    go_simp
    try with_reducible rfl
  simp only [Act.put, List.getElem_toArray, List.getElem_cons_succ, List.getElem_cons_zero, List.setIfInBounds_toArray, List.set_cons_succ, List.set_cons_zero]
  refine wpAnyH_take (i := 2) (v := ?v3) rfl (by kernel_rfl) (by kernel_rfl) (by kernel_rfl) (fun _ _ _ h => h) (Or.inl ⟨by rfl, ?y3⟩) (R0) ?r3
  case y3 =>
    intro w_ hS_
    go_simp
    try with_reducible rfl
  simp only [Act.put, List.getElem_toArray, List.getElem_cons_succ, List.getElem_cons_zero, List.setIfInBounds_toArray, List.set_cons_succ, List.set_cons_zero]
  refine wpAnyH_take (i := 3) (v := ?v4) rfl (by kernel_rfl) (by kernel_rfl) (by kernel_rfl) (fun _ _ _ h => h) (Or.inl ⟨by rfl, ?y4⟩) (R0) ?r4
  case y4 =>
    intro w_ hS_
    go_simp
    try with_reducible rfl
  simp only [Act.put, List.getElem_toArray, List.getElem_cons_succ, List.getElem_cons_zero, List.setIfInBounds_toArray, List.set_cons_succ, List.set_cons_zero]
  refine wpAnyH_take (i := 5) (v := ?v5) rfl (by kernel_rfl) (by kernel_rfl) (by kernel_rfl) (fun _ _ _ h => h) (Or.inl ⟨by rfl, ?y5⟩) (R0) ?r5
  case y5 =>
    intro w_ hS_
    go_simp
    try with_reducible rfl
  simp only [Act.put, List.getElem_toArray, List.getElem_cons_succ, List.getElem_cons_zero, List.setIfInBounds_toArray, List.set_cons_succ, List.set_cons_zero]
  refine wpAnyH_take (i := 6) (v := ?v6) rfl (by kernel_rfl) (by kernel_rfl) (by kernel_rfl) (fun _ _ _ h => h) (Or.inl ⟨by rfl, ?y6⟩) (R0) ?r6
  case y6 =>
    intro w_ hS_
    go_simp
    try with_reducible rfl
  simp only [Act.put, List.getElem_toArray, List.getElem_cons_succ, List.getElem_cons_zero, List.setIfInBounds_toArray, List.set_cons_succ, List.set_cons_zero]
  refine wpAnyH_take (i := 7) (v := ?v7) rfl (by kernel_rfl) (by kernel_rfl) (by kernel_rfl) (fun _ _ _ h => h) (Or.inl ⟨by rfl, ?y7⟩) (R0) ?r7
  case y7 =>
    intro w_ hS_
    go_simp
    try with_reducible rfl
  simp only [Act.put, List.getElem_toArray, List.getElem_cons_succ, List.getElem_cons_zero, List.setIfInBounds_toArray, List.set_cons_succ, List.set_cons_zero]
  refine wpAnyH_two (j := 4) (k := 10) (fuel := 4) (by kernel_rfl) rfl rfl (by kernel_rfl) (by kernel_rfl) (fun K_ hK_ => ?_) (fun K_ hK_ => ?_)
  · have sz_e : w.heap.size ≤ w1.heap.size := hw.size
    refine wp_call_ex (f := 43) (by kernel_rfl) (cE w1) (fun v_ q1 hX_ => ?_)
    obtain ⟨ge, rfl, lge, re, hb_⟩ := hX_
    replace R0 := keep hb_ R0
    replace R1 := keep hb_ R1
    replace hw := Below.after hw hb_
    clear hb_
    replace lge : w.heap.size ≤ ge := Nat.le_trans (sz_e) lge
    clear sz_e
    refine hK_ _ _ (R0) ?_
    simp only [Act.put, List.getElem_toArray, List.getElem_cons_succ, List.getElem_cons_zero, List.setIfInBounds_toArray, List.set_cons_succ, List.set_cons_zero]
    clear hK_
    refine wpAnyH_two (j := 8) (k := 10) (fuel := 3) (by kernel_rfl) rfl rfl (by kernel_rfl) (by kernel_rfl) (fun K_ hK_ => ?_) (fun K_ hK_ => ?_)
    · refine wp_world_op (.slice (some ⟨q1.heap.size, 0, none⟩) 4 4) (q1.alloc (.cells #[.slice (some ⟨ge, 0, none⟩) 8 8, .slice ue extra.length uec, .slice (some ⟨w.heap.size + 1, 0, none⟩) 16 16, .slice ut text.length utc] 29)) (by kernel_rfl) ?_
      have hb_ : Below q1.heap.size q1 (q1.alloc (.cells #[.slice (some ⟨ge, 0, none⟩) 8 8, .slice ue extra.length uec, .slice (some ⟨w.heap.size + 1, 0, none⟩) 16 16, .slice ut text.length utc] 29)) := (Below.refl _ _).alloc (Nat.le_refl _) _
      have sz_g3 : w.heap.size ≤ q1.heap.size := hw.size
      have lt_R0_g3 := lt_of_row R0
      have lt_R1_g3 := lt_of_row R1
      have lt_re_g3 := lt_of_row re
      have rp := hp1_0 q1 (.cells #[.slice (some ⟨ge, 0, none⟩) 8 8, .slice ue extra.length uec, .slice (some ⟨w.heap.size + 1, 0, none⟩) 16 16, .slice ut text.length utc] 29)
      replace R0 := keep hb_ R0
      replace R1 := keep hb_ R1
      replace re := keep hb_ re
      replace hw := Below.after hw hb_
      clear hb_
      refine hK_ _ _ (R0) ?_
      simp only [Act.put, List.getElem_toArray, List.getElem_cons_succ, List.getElem_cons_zero, List.setIfInBounds_toArray, List.set_cons_succ, List.set_cons_zero]
      clear hK_
      generalize q1.alloc (.cells #[.slice (some ⟨ge, 0, none⟩) 8 8, .slice ue extra.length uec, .slice (some ⟨w.heap.size + 1, 0, none⟩) 16 16, .slice ut text.length utc] 29) = q2 at *
      generalize q1.heap.size = g3 at *
      refine wpAnyH_two (j := 9) (k := 10) (fuel := 2) (by kernel_rfl) rfl rfl (by kernel_rfl) (by kernel_rfl) (fun K_ hK_ => ?_) (fun K_ hK_ => ?_)
      · have hPr : Prt q2 g3 [.slice (some ⟨ge, 0, none⟩) 8 8, .slice ue extra.length uec, .slice (some ⟨w.heap.size + 1, 0, none⟩) 16 16, .slice ut text.length utc] [n8 extra.length, bl extra, bl nonce, bl text] := by
          have hB0 : Bys q2 (.slice (some ⟨ge, 0, none⟩) 8 8) (n8 extra.length) := Bys.of_row re (by rw [n8_len]; decide) (n8_bd _) 8
          have hB2 : Bys q2 (.slice (some ⟨w.heap.size + 1, 0, none⟩) (bl nonce).length 16) (bl nonce) := Bys.of_row R1 (by omega) (bl_bnd _) 16
          have hB1 := hE.keep hw
          have hB3 := hT.keep hw
          have h := prt4 (p0 := n8 extra.length) (p1 := bl extra) (p2 := bl nonce) (p3 := bl text) (W := q2) (gp := g3) (u0 := some ⟨ge, 0, none⟩) (c0 := 8) (u1 := ue) (c1 := uec) (u2 := some ⟨w.heap.size + 1, 0, none⟩) (c2 := 16) (u3 := ut) (c3 := utc)
          rw [bl_len extra, bl_len text, hnl, n8_len] at h
          rw [hnl] at hB2
          exact h rp hB0 hB1 hB2 hB3 (by omega) qE (by omega) qT
        have cU := a_sumOf key hk [n8 extra.length, bl extra, bl nonce, bl text] [.slice (some ⟨ge, 0, none⟩) 8 8, .slice ue extra.length uec, .slice (some ⟨w.heap.size + 1, 0, none⟩) 16 16, .slice ut text.length utc] g3 q2 (hS.below hw) (hK.below hw) hPr (by rw [hfl, hul, hno]; omega) (by simp)
        rw [hfl] at cU
        clear hPr
        refine wp_call_ex (f := 42) (by kernel_rfl) (ex1s cU) (fun v_ q4 hX_ => ?_)
        obtain ⟨rfl, hb_⟩ := hX_
        replace R0 := keep hb_ R0
        replace R1 := keep hb_ R1
        replace re := keep hb_ re
        replace rp := keep hb_ rp
        replace hw := Below.after hw hb_
        clear hb_
        clear cU
        refine hK_ _ _ (R0) ?_
        simp only [Act.put, List.getElem_toArray, List.getElem_cons_succ, List.getElem_cons_zero, List.setIfInBounds_toArray, List.set_cons_succ, List.set_cons_zero]
        clear hK_
        refine wpAnyH_one (k := 10) (fuel := 1) (by kernel_rfl) rfl (by kernel_rfl) (fun K_ hK_ => ?_)
        refine wp_world_op (.pointer (some ⟨q4.heap.size, 0, none⟩)) (q4.alloc (.cells (irow .u8 (zr 32)) 23)) (by kernel_rfl) ?_
        have hb_ : Below q4.heap.size q4 (q4.alloc (.cells (irow .u8 (zr 32)) 23)) := (Below.refl _ _).alloc (Nat.le_refl _) _
        have sz_g6 : w.heap.size ≤ q4.heap.size := hw.size
        have lt_R0_g6 := lt_of_row R0
        have lt_R1_g6 := lt_of_row R1
        have lt_re_g6 := lt_of_row re
        have lt_rp_g6 := lt_of_row rp
        have rA := hp1_0 q4 (.cells (irow .u8 (zr 32)) 23)
        replace R0 := keep hb_ R0
        replace R1 := keep hb_ R1
        replace re := keep hb_ re
        replace rp := keep hb_ rp
        replace hw := Below.after hw hb_
        clear hb_
        refine hK_ _ _ (R0) ?_
        simp only [Act.put, List.getElem_toArray, List.getElem_cons_succ, List.getElem_cons_zero, List.setIfInBounds_toArray, List.set_cons_succ, List.set_cons_zero]
        clear hK_
        generalize q4.alloc (.cells (irow .u8 (zr 32)) 23) = q5 at *
        generalize q4.heap.size = g6 at *
        refine wpAnyH_one (k := 11) (fuel := 0) (by kernel_rfl) rfl (by kernel_rfl) (fun K_ hK_ => ?_)
        refine wp_store_row 23 _ _ rfl (g6) (irow .u8 (hm (bl key) (und nonce extra text))) rfl rfl 23 _ rA (infok8 _ hHl) (fit32 _ _ (zr_len 32) hHl) (irow_one _ _) ?_
        replace R0 := (setRow_other q5 (g6) (w.heap.size) (irow .u8 (hm (bl key) (und nonce extra text))) (by omega)).trans R0
        replace rA := setRow_heap q5 (g6) _ (irow .u8 (hm (bl key) (und nonce extra text))) _ _ rA
        replace hw := below_setRow hw (show w.heap.size ≤ g6 by omega) (irow .u8 (hm (bl key) (und nonce extra text)))
        refine hK_ _ _ (R0) ?_
        simp only [Act.put]
        clear hK_
        generalize q5.setRow (g6) (irow .u8 (hm (bl key) (und nonce extra text))) = q7 at *
        refine wpAnyH_done (by kernel_rfl) ?_ _
        refine NoPanic.normal ?_
        have s16 := slice_16 g6
        go_wp2
        go_ret
        exact ⟨_, rfl, g6, rfl, by omega, rA, hw⟩
      · refine wp_world_op (.pointer (some ⟨q2.heap.size, 0, none⟩)) (q2.alloc (.cells (irow .u8 (zr 32)) 23)) (by kernel_rfl) ?_
        have hb_ : Below q2.heap.size q2 (q2.alloc (.cells (irow .u8 (zr 32)) 23)) := (Below.refl _ _).alloc (Nat.le_refl _) _
        have sz_g9 : w.heap.size ≤ q2.heap.size := hw.size
        have lt_R0_g9 := lt_of_row R0
        have lt_R1_g9 := lt_of_row R1
        have lt_re_g9 := lt_of_row re
        have lt_rp_g9 := lt_of_row rp
        have rA := hp1_0 q2 (.cells (irow .u8 (zr 32)) 23)
        replace R0 := keep hb_ R0
        replace R1 := keep hb_ R1
        replace re := keep hb_ re
        replace rp := keep hb_ rp
        replace hw := Below.after hw hb_
        clear hb_
        refine hK_ _ _ (R0) ?_
        simp only [Act.put, List.getElem_toArray, List.getElem_cons_succ, List.getElem_cons_zero, List.setIfInBounds_toArray, List.set_cons_succ, List.set_cons_zero]
        clear hK_
        generalize q2.alloc (.cells (irow .u8 (zr 32)) 23) = q8 at *
        generalize q2.heap.size = g9 at *
        refine wpAnyH_one (k := 9) (fuel := 1) (by kernel_rfl) rfl (by kernel_rfl) (fun K_ hK_ => ?_)
        have hPr : Prt q8 g3 [.slice (some ⟨ge, 0, none⟩) 8 8, .slice ue extra.length uec, .slice (some ⟨w.heap.size + 1, 0, none⟩) 16 16, .slice ut text.length utc] [n8 extra.length, bl extra, bl nonce, bl text] := by
          have hB0 : Bys q8 (.slice (some ⟨ge, 0, none⟩) 8 8) (n8 extra.length) := Bys.of_row re (by rw [n8_len]; decide) (n8_bd _) 8
          have hB2 : Bys q8 (.slice (some ⟨w.heap.size + 1, 0, none⟩) (bl nonce).length 16) (bl nonce) := Bys.of_row R1 (by omega) (bl_bnd _) 16
          have hB1 := hE.keep hw
          have hB3 := hT.keep hw
          have h := prt4 (p0 := n8 extra.length) (p1 := bl extra) (p2 := bl nonce) (p3 := bl text) (W := q8) (gp := g3) (u0 := some ⟨ge, 0, none⟩) (c0 := 8) (u1 := ue) (c1 := uec) (u2 := some ⟨w.heap.size + 1, 0, none⟩) (c2 := 16) (u3 := ut) (c3 := utc)
          rw [bl_len extra, bl_len text, hnl, n8_len] at h
          rw [hnl] at hB2
          exact h rp hB0 hB1 hB2 hB3 (by omega) qE (by omega) qT
        have cU := a_sumOf key hk [n8 extra.length, bl extra, bl nonce, bl text] [.slice (some ⟨ge, 0, none⟩) 8 8, .slice ue extra.length uec, .slice (some ⟨w.heap.size + 1, 0, none⟩) 16 16, .slice ut text.length utc] g3 q8 (hS.below hw) (hK.below hw) hPr (by rw [hfl, hul, hno]; omega) (by simp)
        rw [hfl] at cU
        clear hPr
        refine wp_call_ex (f := 42) (by kernel_rfl) (ex1s cU) (fun v_ q10 hX_ => ?_)
        obtain ⟨rfl, hb_⟩ := hX_
        replace R0 := keep hb_ R0
        replace R1 := keep hb_ R1
        replace re := keep hb_ re
        replace rp := keep hb_ rp
        replace rA := keep hb_ rA
        replace hw := Below.after hw hb_
        clear hb_
        clear cU
        refine hK_ _ _ (R0) ?_
        simp only [Act.put, List.getElem_toArray, List.getElem_cons_succ, List.getElem_cons_zero, List.setIfInBounds_toArray, List.set_cons_succ, List.set_cons_zero]
        clear hK_
        refine wpAnyH_one (k := 11) (fuel := 0) (by kernel_rfl) rfl (by kernel_rfl) (fun K_ hK_ => ?_)
        refine wp_store_row 23 _ _ rfl (g9) (irow .u8 (hm (bl key) (und nonce extra text))) rfl rfl 23 _ rA (infok8 _ hHl) (fit32 _ _ (zr_len 32) hHl) (irow_one _ _) ?_
        replace R0 := (setRow_other q10 (g9) (w.heap.size) (irow .u8 (hm (bl key) (und nonce extra text))) (by omega)).trans R0
        replace rA := setRow_heap q10 (g9) _ (irow .u8 (hm (bl key) (und nonce extra text))) _ _ rA
        replace hw := below_setRow hw (show w.heap.size ≤ g9 by omega) (irow .u8 (hm (bl key) (und nonce extra text)))
        refine hK_ _ _ (R0) ?_
        simp only [Act.put]
        clear hK_
        generalize q10.setRow (g9) (irow .u8 (hm (bl key) (und nonce extra text))) = q11 at *
        refine wpAnyH_done (by kernel_rfl) ?_ _
        refine NoPanic.normal ?_
        have s16 := slice_16 g9
        go_wp2
        go_ret
        exact ⟨_, rfl, g9, rfl, by omega, rA, hw⟩
    · refine wp_world_op (.pointer (some ⟨q1.heap.size, 0, none⟩)) (q1.alloc (.cells (irow .u8 (zr 32)) 23)) (by kernel_rfl) ?_
      have hb_ : Below q1.heap.size q1 (q1.alloc (.cells (irow .u8 (zr 32)) 23)) := (Below.refl _ _).alloc (Nat.le_refl _) _
      have sz_g13 : w.heap.size ≤ q1.heap.size := hw.size
      have lt_R0_g13 := lt_of_row R0
      have lt_R1_g13 := lt_of_row R1
      have lt_re_g13 := lt_of_row re
      have rA := hp1_0 q1 (.cells (irow .u8 (zr 32)) 23)
      replace R0 := keep hb_ R0
      replace R1 := keep hb_ R1
      replace re := keep hb_ re
      replace hw := Below.after hw hb_
      clear hb_
      refine hK_ _ _ (R0) ?_
      simp only [Act.put, List.getElem_toArray, List.getElem_cons_succ, List.getElem_cons_zero, List.setIfInBounds_toArray, List.set_cons_succ, List.set_cons_zero]
      clear hK_
      generalize q1.alloc (.cells (irow .u8 (zr 32)) 23) = q12 at *
      generalize q1.heap.size = g13 at *
      refine wpAnyH_one (k := 8) (fuel := 2) (by kernel_rfl) rfl (by kernel_rfl) (fun K_ hK_ => ?_)
      refine wp_world_op (.slice (some ⟨q12.heap.size, 0, none⟩) 4 4) (q12.alloc (.cells #[.slice (some ⟨ge, 0, none⟩) 8 8, .slice ue extra.length uec, .slice (some ⟨w.heap.size + 1, 0, none⟩) 16 16, .slice ut text.length utc] 29)) (by kernel_rfl) ?_
      have hb_ : Below q12.heap.size q12 (q12.alloc (.cells #[.slice (some ⟨ge, 0, none⟩) 8 8, .slice ue extra.length uec, .slice (some ⟨w.heap.size + 1, 0, none⟩) 16 16, .slice ut text.length utc] 29)) := (Below.refl _ _).alloc (Nat.le_refl _) _
      have sz_g15 : w.heap.size ≤ q12.heap.size := hw.size
      have lt_R0_g15 := lt_of_row R0
      have lt_R1_g15 := lt_of_row R1
      have lt_re_g15 := lt_of_row re
      have lt_rA_g15 := lt_of_row rA
      have rp := hp1_0 q12 (.cells #[.slice (some ⟨ge, 0, none⟩) 8 8, .slice ue extra.length uec, .slice (some ⟨w.heap.size + 1, 0, none⟩) 16 16, .slice ut text.length utc] 29)
      replace R0 := keep hb_ R0
      replace R1 := keep hb_ R1
      replace re := keep hb_ re
      replace rA := keep hb_ rA
      replace hw := Below.after hw hb_
      clear hb_
      refine hK_ _ _ (R0) ?_
      simp only [Act.put, List.getElem_toArray, List.getElem_cons_succ, List.getElem_cons_zero, List.setIfInBounds_toArray, List.set_cons_succ, List.set_cons_zero]
      clear hK_
      generalize q12.alloc (.cells #[.slice (some ⟨ge, 0, none⟩) 8 8, .slice ue extra.length uec, .slice (some ⟨w.heap.size + 1, 0, none⟩) 16 16, .slice ut text.length utc] 29) = q14 at *
      generalize q12.heap.size = g15 at *
      refine wpAnyH_one (k := 9) (fuel := 1) (by kernel_rfl) rfl (by kernel_rfl) (fun K_ hK_ => ?_)
      have hPr : Prt q14 g15 [.slice (some ⟨ge, 0, none⟩) 8 8, .slice ue extra.length uec, .slice (some ⟨w.heap.size + 1, 0, none⟩) 16 16, .slice ut text.length utc] [n8 extra.length, bl extra, bl nonce, bl text] := by
        have hB0 : Bys q14 (.slice (some ⟨ge, 0, none⟩) 8 8) (n8 extra.length) := Bys.of_row re (by rw [n8_len]; decide) (n8_bd _) 8
        have hB2 : Bys q14 (.slice (some ⟨w.heap.size + 1, 0, none⟩) (bl nonce).length 16) (bl nonce) := Bys.of_row R1 (by omega) (bl_bnd _) 16
        have hB1 := hE.keep hw
        have hB3 := hT.keep hw
        have h := prt4 (p0 := n8 extra.length) (p1 := bl extra) (p2 := bl nonce) (p3 := bl text) (W := q14) (gp := g15) (u0 := some ⟨ge, 0, none⟩) (c0 := 8) (u1 := ue) (c1 := uec) (u2 := some ⟨w.heap.size + 1, 0, none⟩) (c2 := 16) (u3 := ut) (c3 := utc)
        rw [bl_len extra, bl_len text, hnl, n8_len] at h
        rw [hnl] at hB2
        exact h rp hB0 hB1 hB2 hB3 (by omega) qE (by omega) qT
      have cU := a_sumOf key hk [n8 extra.length, bl extra, bl nonce, bl text] [.slice (some ⟨ge, 0, none⟩) 8 8, .slice ue extra.length uec, .slice (some ⟨w.heap.size + 1, 0, none⟩) 16 16, .slice ut text.length utc] g15 q14 (hS.below hw) (hK.below hw) hPr (by rw [hfl, hul, hno]; omega) (by simp)
      rw [hfl] at cU
      clear hPr
      refine wp_call_ex (f := 42) (by kernel_rfl) (ex1s cU) (fun v_ q16 hX_ => ?_)
      obtain ⟨rfl, hb_⟩ := hX_
      replace R0 := keep hb_ R0
      replace R1 := keep hb_ R1
      replace re := keep hb_ re
      replace rA := keep hb_ rA
      replace rp := keep hb_ rp
      replace hw := Below.after hw hb_
      clear hb_
      clear cU
      refine hK_ _ _ (R0) ?_
      simp only [Act.put, List.getElem_toArray, List.getElem_cons_succ, List.getElem_cons_zero, List.setIfInBounds_toArray, List.set_cons_succ, List.set_cons_zero]
      clear hK_
      refine wpAnyH_one (k := 11) (fuel := 0) (by kernel_rfl) rfl (by kernel_rfl) (fun K_ hK_ => ?_)
      refine wp_store_row 23 _ _ rfl (g13) (irow .u8 (hm (bl key) (und nonce extra text))) rfl rfl 23 _ rA (infok8 _ hHl) (fit32 _ _ (zr_len 32) hHl) (irow_one _ _) ?_
      replace R0 := (setRow_other q16 (g13) (w.heap.size) (irow .u8 (hm (bl key) (und nonce extra text))) (by omega)).trans R0
      replace rA := setRow_heap q16 (g13) _ (irow .u8 (hm (bl key) (und nonce extra text))) _ _ rA
      replace hw := below_setRow hw (show w.heap.size ≤ g13 by omega) (irow .u8 (hm (bl key) (und nonce extra text)))
      refine hK_ _ _ (R0) ?_
      simp only [Act.put]
      clear hK_
      generalize q16.setRow (g13) (irow .u8 (hm (bl key) (und nonce extra text))) = q17 at *
      refine wpAnyH_done (by kernel_rfl) ?_ _
      refine NoPanic.normal ?_
      have s16 := slice_16 g13
      go_wp2
      go_ret
      exact ⟨_, rfl, g13, rfl, by omega, rA, hw⟩
  · refine wp_world_op (.pointer (some ⟨w1.heap.size, 0, none⟩)) (w1.alloc (.cells (irow .u8 (zr 32)) 23)) (by kernel_rfl) ?_
    have hb_ : Below w1.heap.size w1 (w1.alloc (.cells (irow .u8 (zr 32)) 23)) := (Below.refl _ _).alloc (Nat.le_refl _) _
    have sz_g19 : w.heap.size ≤ w1.heap.size := hw.size
    have lt_R0_g19 := lt_of_row R0
    have lt_R1_g19 := lt_of_row R1
    have rA := hp1_0 w1 (.cells (irow .u8 (zr 32)) 23)
    replace R0 := keep hb_ R0
    replace R1 := keep hb_ R1
    replace hw := Below.after hw hb_
    clear hb_
    refine hK_ _ _ (R0) ?_
    simp only [Act.put, List.getElem_toArray, List.getElem_cons_succ, List.getElem_cons_zero, List.setIfInBounds_toArray, List.set_cons_succ, List.set_cons_zero]
    clear hK_
    generalize w1.alloc (.cells (irow .u8 (zr 32)) 23) = q18 at *
    generalize w1.heap.size = g19 at *
    refine wpAnyH_one (k := 4) (fuel := 3) (by kernel_rfl) rfl (by kernel_rfl) (fun K_ hK_ => ?_)
    have sz_e : w.heap.size ≤ q18.heap.size := hw.size
    refine wp_call_ex (f := 43) (by kernel_rfl) (cE q18) (fun v_ q20 hX_ => ?_)
    obtain ⟨ge, rfl, lge, re, hb_⟩ := hX_
    replace R0 := keep hb_ R0
    replace R1 := keep hb_ R1
    replace rA := keep hb_ rA
    replace hw := Below.after hw hb_
    clear hb_
    replace lge : w.heap.size ≤ ge := Nat.le_trans (sz_e) lge
    clear sz_e
    refine hK_ _ _ (R0) ?_
    simp only [Act.put, List.getElem_toArray, List.getElem_cons_succ, List.getElem_cons_zero, List.setIfInBounds_toArray, List.set_cons_succ, List.set_cons_zero]
    clear hK_
    refine wpAnyH_one (k := 8) (fuel := 2) (by kernel_rfl) rfl (by kernel_rfl) (fun K_ hK_ => ?_)
    refine wp_world_op (.slice (some ⟨q20.heap.size, 0, none⟩) 4 4) (q20.alloc (.cells #[.slice (some ⟨ge, 0, none⟩) 8 8, .slice ue extra.length uec, .slice (some ⟨w.heap.size + 1, 0, none⟩) 16 16, .slice ut text.length utc] 29)) (by kernel_rfl) ?_
    have hb_ : Below q20.heap.size q20 (q20.alloc (.cells #[.slice (some ⟨ge, 0, none⟩) 8 8, .slice ue extra.length uec, .slice (some ⟨w.heap.size + 1, 0, none⟩) 16 16, .slice ut text.length utc] 29)) := (Below.refl _ _).alloc (Nat.le_refl _) _
    have sz_g22 : w.heap.size ≤ q20.heap.size := hw.size
    have lt_R0_g22 := lt_of_row R0
    have lt_R1_g22 := lt_of_row R1
    have lt_rA_g22 := lt_of_row rA
    have lt_re_g22 := lt_of_row re
    have rp := hp1_0 q20 (.cells #[.slice (some ⟨ge, 0, none⟩) 8 8, .slice ue extra.length uec, .slice (some ⟨w.heap.size + 1, 0, none⟩) 16 16, .slice ut text.length utc] 29)
    replace R0 := keep hb_ R0
    replace R1 := keep hb_ R1
    replace rA := keep hb_ rA
    replace re := keep hb_ re
    replace hw := Below.after hw hb_
    clear hb_
    refine hK_ _ _ (R0) ?_
    simp only [Act.put, List.getElem_toArray, List.getElem_cons_succ, List.getElem_cons_zero, List.setIfInBounds_toArray, List.set_cons_succ, List.set_cons_zero]
    clear hK_
    generalize q20.alloc (.cells #[.slice (some ⟨ge, 0, none⟩) 8 8, .slice ue extra.length uec, .slice (some ⟨w.heap.size + 1, 0, none⟩) 16 16, .slice ut text.length utc] 29) = q21 at *
    generalize q20.heap.size = g22 at *
    refine wpAnyH_one (k := 9) (fuel := 1) (by kernel_rfl) rfl (by kernel_rfl) (fun K_ hK_ => ?_)
    have hPr : Prt q21 g22 [.slice (some ⟨ge, 0, none⟩) 8 8, .slice ue extra.length uec, .slice (some ⟨w.heap.size + 1, 0, none⟩) 16 16, .slice ut text.length utc] [n8 extra.length, bl extra, bl nonce, bl text] := by
      have hB0 : Bys q21 (.slice (some ⟨ge, 0, none⟩) 8 8) (n8 extra.length) := Bys.of_row re (by rw [n8_len]; decide) (n8_bd _) 8
      have hB2 : Bys q21 (.slice (some ⟨w.heap.size + 1, 0, none⟩) (bl nonce).length 16) (bl nonce) := Bys.of_row R1 (by omega) (bl_bnd _) 16
      have hB1 := hE.keep hw
      have hB3 := hT.keep hw
      have h := prt4 (p0 := n8 extra.length) (p1 := bl extra) (p2 := bl nonce) (p3 := bl text) (W := q21) (gp := g22) (u0 := some ⟨ge, 0, none⟩) (c0 := 8) (u1 := ue) (c1 := uec) (u2 := some ⟨w.heap.size + 1, 0, none⟩) (c2 := 16) (u3 := ut) (c3 := utc)
      rw [bl_len extra, bl_len text, hnl, n8_len] at h
      rw [hnl] at hB2
      exact h rp hB0 hB1 hB2 hB3 (by omega) qE (by omega) qT
    have cU := a_sumOf key hk [n8 extra.length, bl extra, bl nonce, bl text] [.slice (some ⟨ge, 0, none⟩) 8 8, .slice ue extra.length uec, .slice (some ⟨w.heap.size + 1, 0, none⟩) 16 16, .slice ut text.length utc] g22 q21 (hS.below hw) (hK.below hw) hPr (by rw [hfl, hul, hno]; omega) (by simp)
    rw [hfl] at cU
    clear hPr
    refine wp_call_ex (f := 42) (by kernel_rfl) (ex1s cU) (fun v_ q23 hX_ => ?_)
    obtain ⟨rfl, hb_⟩ := hX_
    replace R0 := keep hb_ R0
    replace R1 := keep hb_ R1
    replace rA := keep hb_ rA
    replace re := keep hb_ re
    replace rp := keep hb_ rp
    replace hw := Below.after hw hb_
    clear hb_
    clear cU
    refine hK_ _ _ (R0) ?_
    simp only [Act.put, List.getElem_toArray, List.getElem_cons_succ, List.getElem_cons_zero, List.setIfInBounds_toArray, List.set_cons_succ, List.set_cons_zero]
    clear hK_
    refine wpAnyH_one (k := 11) (fuel := 0) (by kernel_rfl) rfl (by kernel_rfl) (fun K_ hK_ => ?_)
    refine wp_store_row 23 _ _ rfl (g19) (irow .u8 (hm (bl key) (und nonce extra text))) rfl rfl 23 _ rA (infok8 _ hHl) (fit32 _ _ (zr_len 32) hHl) (irow_one _ _) ?_
    replace R0 := (setRow_other q23 (g19) (w.heap.size) (irow .u8 (hm (bl key) (und nonce extra text))) (by omega)).trans R0
    replace rA := setRow_heap q23 (g19) _ (irow .u8 (hm (bl key) (und nonce extra text))) _ _ rA
    replace hw := below_setRow hw (show w.heap.size ≤ g19 by omega) (irow .u8 (hm (bl key) (und nonce extra text)))
    refine hK_ _ _ (R0) ?_
    simp only [Act.put]
    clear hK_
    generalize q23.setRow (g19) (irow .u8 (hm (bl key) (und nonce extra text))) = q24 at *
    refine wpAnyH_done (by kernel_rfl) ?_ _
    refine NoPanic.normal ?_
    have s16 := slice_16 g19
    go_wp2
    go_ret
    exact ⟨_, rfl, g19, rfl, by omega, rA, hw⟩

end Go.Proofs.YtamieopjigjfiaaDoor

namespace Go.Proofs.YtamieopjigjfiaaDoor
set_option maxRecDepth 100000
open Go Go.RowKit Go.Sort
attribute [local go_sem] setCell_drewN alloc_drewN

/-- Bytes laid behind a list of one's own, in a row of operations. -/
theorem wpList_append_B {ops : Array Oper} {rest : List Oper} {o : Oper} {a : Act} {w : World} {Q : Exit → Act → World → Prop} (hgd : o.guard = none) (s x : Operand) (ho : o.op = .call { callee := .builtin .append, args := #[s, x], argTypes := #[29, 29] }) (base : Nat) (v : Value) (d : List B) (hs : a.eval s = v) (hO : Own w base v d) (y : Value) (e : List B) (hx : a.eval x = y) (hE : BysB w y e) (hlen : d.length + e.length ≤ 140737488351232) (hbase : base ≤ w.heap.size)
    (h : ∀ v' w', Own w' base v' (d ++ e) → w.grownBy w' v.ownBlock → wpList Tryd.prog ops Q rest (a.put o.dst v') w') : wpList Tryd.prog ops Q (o :: rest) a w :=
  wpList_plain hgd fun _ hK => wp_append_bytes s x ho base v d hs hO y e hx hE hlen hbase (fun v' w' h1 h2 => hK _ _ (h v' w' h1 h2))
set_option maxRecDepth 100000 in
set_option maxHeartbeats 4000000 in
theorem a_grow (n : Nat) (h0 : 0 < n) (hn : n ≤ 140737488351232) (w : World) : Calls Tryd.prog 41 #[.slice none 0 0, .int .i64 (n : Int)] w fun e w' => ∃ v, e = .returned v ∧ Own w' w.heap.size v [] ∧ Below w.heap.size w w' := by
  obtain ⟨i0, hi, hz0, hz1, hz2⟩ := info8
  have hd1 : decide ((n : Int) < 0) = false := by simp
  have hd2 : decide ((0 : Int) < (n : Int)) = true := by simp; omega
  have hap := fun ty => Go.Lib.run_append_nil_zeros (P := Tryd.prog) w 29 3 ty 5 i0 (.int .u8 0) .i64 .i64 Tryd.underlying29 Tryd.underlying3 hi hz0 n h0 (by omega) (by omega) (by rw [hz2]; omega)
  have hge := grownCap_ge w n 0 5
  have hle := grownCap_le_maxLen w n 0 5 (by unfold maxLen; omega)
  have sl0 := slice_to (some ⟨w.heap.size, 0, none⟩) n (grownCap w n 0 5) 0 (by omega)
  have hcs : (Builtin.zeroCells #[Value.int .u8 0] n ++ Builtin.zeroCells #[Value.int .u8 0] (grownCap w n 0 5 - n)).size = grownCap w n 0 5 := by
    simp [Builtin.zeroCells]
    omega
  go_enter Tryd.func41, Tryd.ntmps41
  go_wp2_with (at_builtin; refine Go.Lib.wpList_append_run _ rfl _ _ _ _ rfl _ _ rfl rfl _ _ (hap _) ?_)
  clear hap
  generalize grownCap w n 0 5 = cap at *
  go_wp2
  generalize (Builtin.zeroCells #[Value.int .u8 0] n ++ Builtin.zeroCells #[Value.int .u8 0] (cap - n)) = Z at *
  go_ret
  refine ⟨_, rfl, ⟨rfl, .inr ⟨w.heap.size, cap, Z, rfl, Nat.le_refl _, ?_, Nat.zero_le _, hle, by omega, rfl⟩⟩, ?_⟩
  · exact hp1_0 w _
  · exact below_drN ((Below.refl _ _).alloc (Nat.le_refl _) _) 1
set_option maxRecDepth 100000 in
set_option maxHeartbeats 4000000 in
theorem a_concat2 (a b : List B) (w : World) (gp : Nat) (ao bo : Option Addr) (ac bc : Nat) (hP : w.heap[gp]? = some (.cells #[.slice ao a.length ac, .slice bo b.length bc] 29 (0, 0))) (hA : BysB w (.slice ao a.length ac) a) (hB : BysB w (.slice bo b.length bc) b) (h0 : 0 < a.length + b.length) (hl : a.length + b.length ≤ 140737488351232) : Calls Tryd.prog 26 #[.slice (some ⟨gp, 0, none⟩) 2 2] w fun e w' => ∃ v, e = .returned v ∧ Own w' w.heap.size v (a ++ b) ∧ Below w.heap.size w w' := by
  have c0 : w.cell? ⟨gp, 0, none⟩ = some (.slice ao a.length ac) := cell_of hP rfl
  have c1 : w.cell? ⟨gp, 1, none⟩ = some (.slice bo b.length bc) := cell_of hP rfl
  have lgp := lt_of_row hP
  have q1 : decide ((a.length : Int) < 0) = false := by simp
  have q2 : decide ((a.length : Int) + (b.length : Int) < 0) = false := by simp; omega
  have q3 : IntKind.i64.wrap ((a.length : Int) + (b.length : Int)) = (a.length : Int) + (b.length : Int) := by rw [IntKind.wrap_i64]; omega
  have cG := a_grow (a.length + b.length) h0 hl w
  rw [Int.natCast_add] at cG
  go_enter Tryd.func26, Tryd.ntmps26
  go_wp2
  refine wp_loop_rounds 3 ?_
  rw [rounds_succ]; go_wp2
  rw [rounds_succ]; go_wp2
  rw [rounds_succ]; go_wp2_with (fail)
  refine cG.mono ?_
  rintro e_ w1 ⟨v1, rfl, hO, hw⟩
  obtain ⟨ao1, ac1, rfl⟩ := slen_own hO
  clear cG q1 q2 q3
  replace c0 : w1.cell? ⟨gp, 0, none⟩ = some (.slice ao a.length ac) := (hw.cell (p := ⟨gp, 0, none⟩) lgp).trans c0
  go_wp2_with (fail)
  refine wp_loop_rounds 3 ?_
  rw [rounds_succ]
  go_wp2_with (at_builtin; refine wpList_append_B rfl (.tmp 31) (.tmp 32) rfl w.heap.size _ [] rfl hO _ a rfl (hA.keep hw) (by simp only [List.length_nil]; omega) hw.size ?_)
  intro v2 w2 hO2 hgr
  replace hw := hw.grown hgr hw.size (own_low hO)
  obtain ⟨ao2, ac2, rfl⟩ := slen_own hO2
  clear hgr hO c0
  replace c1 : w2.cell? ⟨gp, 1, none⟩ = some (.slice bo b.length bc) := (hw.cell (p := ⟨gp, 1, none⟩) lgp).trans c1
  go_wp2_with (fail)
  rw [rounds_succ]
  go_wp2_with (at_builtin; refine wpList_append_B rfl (.tmp 31) (.tmp 32) rfl w.heap.size _ a rfl hO2 _ b rfl (hB.keep hw) hl hw.size ?_)
  intro v3 w3 hO3 hgr
  replace hw := hw.grown hgr hw.size (own_low hO2)
  obtain ⟨ao3, ac3, rfl⟩ := slen_own hO3
  clear hgr hO2 c1
  go_wp2_with (fail)
  rw [rounds_succ]; go_wp2_with (fail)
  go_ret
  exact ⟨_, rfl, hO3, hw⟩

end Go.Proofs.YtamieopjigjfiaaDoor

namespace Go.Proofs.YtamieopjigjfiaaDoor
set_option maxRecDepth 100000
open Go Go.RowKit Go.Sort
attribute [local go_sem] setCell_drewN alloc_drewN


set_option maxRecDepth 100000 in
set_option maxHeartbeats 4000000 in
theorem q_keys (key : List B) (hk : key.length = 32) (w : World) : Calls Tryd.prog 10 #[.agg (irow .u8 (bl key))] w fun e w' => e = .returned (.tuple #[.agg (irow .u8 (bl (ck key))), .agg (irow .u8 (bl (tk key)))]) ∧ Below w.heap.size w w' := by
  have hkl : (bl key).length = 32 := by rw [bl_len, hk]
  have hcl : (bl (ck key)).length = 32 := by rw [bl_len, ck_len]
  have hdl : (bl (tk key)).length = 32 := by rw [bl_len, tk_len]
  have hzl := zr_len 32
  have R0 := hp3_0 w (.cells (irow .u8 (bl key)) 23) (.cells (irow .u8 (zr 32)) 23) (.cells (irow .u8 (zr 32)) 23)
  have R1 := hp3_1 w (.cells (irow .u8 (bl key)) 23) (.cells (irow .u8 (zr 32)) 23) (.cells (irow .u8 (zr 32)) 23)
  have R2 := hp3_2 w (.cells (irow .u8 (bl key)) 23) (.cells (irow .u8 (zr 32)) 23) (.cells (irow .u8 (zr 32)) 23)
  have hw : Below w.heap.size w (((w.alloc (.cells (irow .u8 (bl key)) 23)).alloc (.cells (irow .u8 (zr 32)) 23)).alloc (.cells (irow .u8 (zr 32)) 23)) := ((((Below.refl _ _).alloc (Nat.le_refl _) _).alloc (by simp) _).alloc (by simp; omega) _)
  have hz0 : (((w.alloc (.cells (irow .u8 (bl key)) 23)).alloc (.cells (irow .u8 (zr 32)) 23)).alloc (.cells (irow .u8 (zr 32)) 23)).heap.size = w.heap.size + 1 + 1 + 1 := by rw [size_alloc1, size_alloc1, size_alloc1]
  have cvs : (convert 29 29 (.slice (some ⟨w.heap.size + 1 + 1 + 1, 0, none⟩) 9 9)).run Tryd.prog ((((w.alloc (.cells (irow .u8 (bl key)) 23)).alloc (.cells (irow .u8 (zr 32)) 23)).alloc (.cells (irow .u8 (zr 32)) 23)).alloc (.cells #[.int .u8 112, .int .u8 97, .int .u8 119, .int .u8 108, .int .u8 32, .int .u8 115, .int .u8 101, .int .u8 97, .int .u8 108] 5)) = .ok (.slice (some ⟨w.heap.size + 1 + 1 + 1, 0, none⟩) 9 9) ((((w.alloc (.cells (irow .u8 (bl key)) 23)).alloc (.cells (irow .u8 (zr 32)) 23)).alloc (.cells (irow .u8 (zr 32)) 23)).alloc (.cells #[.int .u8 112, .int .u8 97, .int .u8 119, .int .u8 108, .int .u8 32, .int .u8 115, .int .u8 101, .int .u8 97, .int .u8 108] 5 (9, 10))) := by
    have h := Go.Lib.run_convert_bytes_const (P := Tryd.prog) (((w.alloc (.cells (irow .u8 (bl key)) 23)).alloc (.cells (irow .u8 (zr 32)) 23)).alloc (.cells (irow .u8 (zr 32)) 23)) 29 5 #[.int .u8 112, .int .u8 97, .int .u8 119, .int .u8 108, .int .u8 32, .int .u8 115, .int .u8 101, .int .u8 97, .int .u8 108] 9 9 Tryd.underlying29 Tryd.underlying5
    rw [hz0] at h
    exact h
  go_enter Tryd.func10, Tryd.ntmps10
  go_wp2_with (first | (refine wpList_box rfl 23 _ rfl _ rfl (bK _) ?_) | (refine wpList_alloc rfl 23 rfl (irow .u8 (zr 32)) zkey ?_) | (refine wpList_load_want rfl 23 _ rfl (w.heap.size) rfl 23 (irow .u8 (bl key)) (0, 0) _ R0 Tryd.underlying23 rfl (infok8 _ hkl) ?_) | fail)
  try simp only [size_alloc1, Act.put, List.setIfInBounds_toArray, List.set_cons_succ, List.set_cons_zero]
  clear cvs
  generalize (((w.alloc (.cells (irow .u8 (bl key)) 23)).alloc (.cells (irow .u8 (zr 32)) 23)).alloc (.cells (irow .u8 (zr 32)) 23)) = w0 at *
  have hba : Below w0.heap.size w0 (w0.alloc (.cells #[.int .u8 112, .int .u8 97, .int .u8 119, .int .u8 108, .int .u8 32, .int .u8 115, .int .u8 101, .int .u8 97, .int .u8 108] 5 (9, 10))) := (Below.refl _ _).alloc (Nat.le_refl _) _
  have hI := ps9_bys w0
  rw [hz0] at hI
  replace R1 := keep hba R1
  replace R2 := keep hba R2
  replace hw := Below.after hw hba
  generalize w0.alloc (.cells #[.int .u8 112, .int .u8 97, .int .u8 119, .int .u8 108, .int .u8 32, .int .u8 115, .int .u8 101, .int .u8 97, .int .u8 108] 5 (9, 10)) = w1 at *
  have cX := r_expand4 (bl key) ps9 64 w1 _ hkl (bl_bnd _) ⟨hI, by decide, fun a l c h h2 => by cases h; cases h2⟩ (by decide) (by decide)
  clear hba hI R0 hz0
  refine cX.mono ?_
  rintro e_ w2 ⟨v, rfl, hx, hb⟩
  have l1w := lt_of_row R1
  have l2w := lt_of_row R2
  have hbs := hb.size
  replace R1 := keep hb R1
  replace R2 := keep hb R2
  replace hw := Below.after hw hb
  clear hb cX
  have hxl := xpd_len (bl key) ps9 64
  have ext : ∀ i, i < 32 → (xpd (bl key) ps9 64).getD i 0 = (bl (ck key)).getD i 0 ∧ (xpd (bl key) ps9 64).getD (32 + i) 0 = (bl (tk key)).getD i 0 := fun i hi => by
    rw [bl_ck, bl_tk, List.getD_eq_getElem?_getD, List.getD_eq_getElem?_getD, List.getD_eq_getElem?_getD, List.getD_eq_getElem?_getD, List.getElem?_take_of_lt hi, List.getElem?_drop]
    exact ⟨rfl, rfl⟩
  obtain ⟨⟨ao, cap, rfl, _, hc, _⟩, _⟩ := hx
  rw [hxl] at hc ⊢
  replace hc : ∀ i, i < 32 → ∃ b off, ao = some ⟨b, off, none⟩ ∧ b < w2.heap.size ∧ w2.cell? ⟨b, off + i, none⟩ = some (.int .u8 ((bl (ck key)).getD i 0)) ∧ w2.cell? ⟨b, off + (32 + i), none⟩ = some (.int .u8 ((bl (tk key)).getD i 0)) := fun i hi => by
    obtain ⟨b, off, rfl, hb, h1⟩ := hc i (by omega)
    obtain ⟨b2, off2, e2, _, h2⟩ := hc (32 + i) (by omega)
    cases e2
    exact ⟨b, off, rfl, hb, by rw [h1, (ext i hi).1], by rw [h2, (ext i hi).2]⟩
  obtain ⟨b, off, rfl, hbl, _⟩ := hc 0 (by decide)
  replace hc : ∀ i, i < 32 → w2.cell? ⟨b, off + i, none⟩ = some (.int .u8 ((bl (ck key)).getD i 0)) ∧ w2.cell? ⟨b, off + (32 + i), none⟩ = some (.int .u8 ((bl (tk key)).getD i 0)) := fun i hi => by
    obtain ⟨b', off', e, _, h1, h2⟩ := hc i hi
    cases e
    exact ⟨h1, h2⟩
  clear ext hxl
  generalize eCK : bl (ck key) = CK at *
  generalize eTG : bl (tk key) = TG at *
  replace eCK := hide eCK
  replace eTG := hide eTG
  have zc := mix_zero CK (zr 32)
  have zt := mix_zero TG (zr 32)
  have hw2 : Below w.heap.size w ((w2.alloc (.cells (irow .u8 (zr 32)) 23)).alloc (.cells (irow .u8 (zr 32)) 23)) := (hw.alloc hw.size _).alloc (by rw [size_alloc1]; have := hw.size; omega) _
  have hcw : Below w2.heap.size w2 ((w2.alloc (.cells (irow .u8 (zr 32)) 23)).alloc (.cells (irow .u8 (zr 32)) 23)) := ((Below.refl _ _).alloc (Nat.le_refl _) _).alloc (by simp) _
  have R3 := hp2_0 w2 (.cells (irow .u8 (zr 32)) 23) (.cells (irow .u8 (zr 32)) 23)
  have R4 := hp2_1 w2 (.cells (irow .u8 (zr 32)) 23) (.cells (irow .u8 (zr 32)) 23)
  replace R1 := keep hcw R1
  replace R2 := keep hcw R2
  have hs2 := hw.size
  go_wp2_with (first | (refine wpList_alloc rfl 23 rfl (irow .u8 (zr 32)) zkey ?_) | fail)
  clear hw
  generalize (w2.alloc (.cells (irow .u8 (zr 32)) 23)).alloc (.cells (irow .u8 (zr 32)) 23) = w3 at *
  rw [← zc] at R3
  rw [← zt] at R4
  go_wp2_with (fail)
  go_loopw [8] (fun i wr => ∃ k : Nat, k ≤ 32 ∧ i = .int .i64 k ∧ wr.heap[w2.heap.size]? = some (.cells (irow .u8 (mix CK (zr 32) k)) 23 (0, 0)) ∧ wr.heap[w2.heap.size + 1]? = some (.cells (irow .u8 (mix TG (zr 32) k)) 23 (0, 0)) ∧ wr.heap[w.heap.size + 1]? = some (.cells (irow .u8 (zr 32)) 23 (0, 0)) ∧ wr.heap[w.heap.size + 1 + 1]? = some (.cells (irow .u8 (zr 32)) 23 (0, 0)) ∧ Below w2.heap.size w2 wr ∧ Below w.heap.size w wr) (fun i _ => 32 - (intOf i).toNat)
  case atStart => exact ⟨0, by omega, rfl, R3, R4, R1, R2, hcw, hw2⟩
  case round =>
    clear R1 R2 R3 R4 hw2 hcw zc zt
    obtain ⟨k, hk2, rfl, R3, R4, R1, R2, hcw, hw⟩ := hrel
    by_cases hlt : k < 32
    · have hd : decide ((k : Int) < 32) = true := by simp; omega
      obtain ⟨h1, h2⟩ := hc k hlt
      have m1 := mix_set CK (zr 32) k (by omega) (by omega)
      have m2 := mix_set TG (zr 32) k (by omega) (by omega)
      have n1 := mix_length CK (zr 32) k (by omega) (by omega)
      have n2 := mix_length TG (zr 32) k (by omega) (by omega)
      generalize CK.getD k 0 = x at *
      generalize TG.getD k 0 = y at *
      have c1 := (hcw.cell (p := ⟨b, off + k, none⟩) hbl).trans h1
      have f3 := row_frozen R3 k
      have d3 := irow_cell R3 (j := k) (by omega)
      have R3' := irow_set R3 k x
      rw [m1] at R3'
      have R4a : (wr.setCell ⟨w2.heap.size, k, none⟩ (.int .u8 x)).heap[w2.heap.size + 1]? = _ := heap_other R4 (by omega)
      have R1a : (wr.setCell ⟨w2.heap.size, k, none⟩ (.int .u8 x)).heap[w.heap.size + 1]? = _ := heap_other R1 (by omega)
      have R2a : (wr.setCell ⟨w2.heap.size, k, none⟩ (.int .u8 x)).heap[w.heap.size + 1 + 1]? = _ := heap_other R2 (by omega)
      have hcwa := hcw.setCell (show w2.heap.size ≤ (⟨w2.heap.size, k, none⟩ : Addr).block from Nat.le_refl _) (.int .u8 x)
      have hwa := hw.setCell (show w.heap.size ≤ (⟨w2.heap.size, k, none⟩ : Addr).block from hs2) (.int .u8 x)
      have c2 := (hcwa.cell (p := ⟨b, off + (32 + k), none⟩) hbl).trans h2
      have f4 := row_frozen R4a k
      have d4 := irow_cell R4a (j := k) (by omega)
      clear h1 h2 m1 R3 R4 R1 R2 hcw hw hc n1 n2
      generalize (mix CK (zr 32) k).getD k 0 = x0 at *
      generalize (mix TG (zr 32) k).getD k 0 = y0 at *
      go_wp2_with (fail)
      have R4' := irow_set R4a k y
      rw [m2] at R4'
      refine ⟨⟨k + 1, by omega, by go_num, heap_other R3' (by omega), R4', heap_other R1a (by omega), heap_other R2a (by omega), hcwa.setCell (show w2.heap.size ≤ (⟨w2.heap.size + 1, k, none⟩ : Addr).block from Nat.le_succ _) (.int .u8 y), hwa.setCell (show w.heap.size ≤ (⟨w2.heap.size + 1, k, none⟩ : Addr).block from Nat.le_succ_of_le hs2) (.int .u8 y)⟩, ?_⟩
      simp [intOf]; omega
    · obtain rfl : k = 32 := by omega
      have hd : decide ((32 : Int) < 32) = false := by decide
      have ac := mix_all CK (zr 32) (by omega)
      have at_ := mix_all TG (zr 32) (by omega)
      rw [hzl] at ac at_
      rw [ac] at R3
      rw [at_] at R4
      clear ac at_ hc
      go_wp2_with (fail)
      have hbd : Below wr.heap.size wr wr.drew := below_drN (Below.refl _ _) 1
      replace R1 := keep hbd R1
      replace R2 := keep hbd R2
      replace R3 := keep hbd R3
      replace R4 := keep hbd R4
      replace hw := Below.after hw hbd
      clear hbd
      refine wp_region_noPanic ?_
      refine wp_region_held (S := fun W => W.heap[w2.heap.size]? = some (.cells (irow .u8 CK) 23 (0, 0)) ∧ W.heap[w2.heap.size + 1]? = some (.cells (irow .u8 TG) 23 (0, 0))) (by kernel_rfl) ?_
      change wpAnyH _ _ _ _ _ _ _ _ (World.drew _)
      generalize wr.drew = wz at *
      refine wpAnyH_take (i := 0) (v := .agg (irow .u8 CK)) rfl (by kernel_rfl) (by kernel_rfl) (by kernel_rfl) (fun _ _ _ h => h) (Or.inl ⟨by rfl, ?y1⟩) (⟨R3, R4⟩) ?r1
      case y1 =>
        intro w_ hS_
        simp only [List.getElem_toArray, List.getElem_cons_zero]
        exact run_load_part 23 _ (by rfl) (w2.heap.size) 0 (by rfl) 23 (irow .u8 CK) (0, 0) (irow .u8 CK) _ (hS_.1) (all_row _) Tryd.underlying23 rfl (infok8 _ hcl)
      simp only [Act.put, List.getElem_toArray, List.getElem_cons_zero, List.setIfInBounds_toArray, List.set_cons_succ, List.set_cons_zero]
      refine wpAnyH_take (i := 1) (v := .agg (irow .u8 TG)) rfl (by kernel_rfl) (by kernel_rfl) (by kernel_rfl) (fun _ _ _ h => h) (Or.inl ⟨by rfl, ?y2⟩) (⟨R3, R4⟩) ?r2
      case y2 =>
        intro w_ hS_
        simp only [List.getElem_toArray, List.getElem_cons_succ, List.getElem_cons_zero]
        exact run_load_part 23 _ (by rfl) (w2.heap.size + 1) 0 (by rfl) 23 (irow .u8 TG) (0, 0) (irow .u8 TG) _ (hS_.2) (all_row _) Tryd.underlying23 rfl (infok8 _ hdl)
      simp only [Act.put, List.getElem_toArray, List.getElem_cons_succ, List.getElem_cons_zero, List.setIfInBounds_toArray, List.set_cons_succ, List.set_cons_zero]
      refine wpAnyH_one (k := 2) (fuel := 1) (by kernel_rfl) rfl (by kernel_rfl) (fun K_ hK_ => ?_)
      refine wp_store_row 23 _ _ rfl (w.heap.size + 1) (irow .u8 CK) rfl rfl 23 _ R1 (infok8 _ hcl) (fit32 _ _ (zr_len 32) hcl) (irow_one _ _) ?_
      replace R2 := (setRow_other wz (w.heap.size + 1) (w.heap.size + 1 + 1) (irow .u8 CK) (by omega)).trans R2
      replace R3 := (setRow_other wz (w.heap.size + 1) (w2.heap.size) (irow .u8 CK) (by omega)).trans R3
      replace R4 := (setRow_other wz (w.heap.size + 1) (w2.heap.size + 1) (irow .u8 CK) (by omega)).trans R4
      replace R1 := setRow_heap wz (w.heap.size + 1) _ (irow .u8 CK) _ _ R1
      replace hw := below_setRow hw (show w.heap.size ≤ w.heap.size + 1 by omega) (irow .u8 CK)
      refine hK_ _ _ (⟨R3, R4⟩) ?_
      simp only [Act.put]
      clear hK_
      generalize wz.setRow (w.heap.size + 1) (irow .u8 CK) = q1 at *
      refine wpAnyH_one (k := 3) (fuel := 0) (by kernel_rfl) rfl (by kernel_rfl) (fun K_ hK_ => ?_)
      refine wp_store_row 23 _ _ rfl (w.heap.size + 1 + 1) (irow .u8 TG) rfl rfl 23 _ R2 (infok8 _ hdl) (fit32 _ _ (zr_len 32) hdl) (irow_one _ _) ?_
      replace R1 := (setRow_other q1 (w.heap.size + 1 + 1) (w.heap.size + 1) (irow .u8 TG) (by omega)).trans R1
      replace R3 := (setRow_other q1 (w.heap.size + 1 + 1) (w2.heap.size) (irow .u8 TG) (by omega)).trans R3
      replace R4 := (setRow_other q1 (w.heap.size + 1 + 1) (w2.heap.size + 1) (irow .u8 TG) (by omega)).trans R4
      replace R2 := setRow_heap q1 (w.heap.size + 1 + 1) _ (irow .u8 TG) _ _ R2
      replace hw := below_setRow hw (show w.heap.size ≤ w.heap.size + 1 + 1 by omega) (irow .u8 TG)
      refine hK_ _ _ (⟨R3, R4⟩) ?_
      simp only [Act.put]
      clear hK_
      generalize q1.setRow (w.heap.size + 1 + 1) (irow .u8 TG) = q2 at *
      refine wpAnyH_done (by kernel_rfl) ?_ _
      refine NoPanic.normal ?_
      go_wp2
      exact bodyPost_ret (results_cell2_row Tryd.results10 _ _ (w.heap.size + 1) (w.heap.size + 1 + 1) _ _ _ _ _ _ _ rfl rfl R1 R2 Tryd.underlying23 rfl (infok8 _ hcl) (infok8 _ hdl)) rfl ⟨by rw [eCK.out, eTG.out], hw⟩

end Go.Proofs.YtamieopjigjfiaaDoor

namespace Go.Proofs.YtamieopjigjfiaaDoor
set_option maxRecDepth 100000
open Go Go.RowKit Go.Sort
attribute [local go_sem] setCell_drewN alloc_drewN

theorem eqKey (l : List B) (hl : l.length = 32) (W : World) : (Op.equalIn 10000 23 (.agg (irow .u8 (bl l))) (.agg (irow .u8 (bl l)))).run Tryd.prog W = .ok true W := by
  rw [eqK _ _ (by rw [bl_len, hl]) (by rw [bl_len, hl])]; simp
set_option maxRecDepth 100000 in
set_option maxHeartbeats 4000000 in
theorem skeys_any (key : List B) (hk : key.length = 32) (w : World) (hS : Sta w) (hK : Kon w) : Calls Tryd.prog 3 #[.agg (irow .u8 (bl key))] w fun e w' => e = .returned (.bool true) ∧ Below w.heap.size w w' := by
  have hkl : (bl key).length = 32 := by rw [bl_len, hk]
  have hcl : (bl (ck key)).length = 32 := by rw [bl_len, ck_len]
  have hdl : (bl (tk key)).length = 32 := by rw [bl_len, tk_len]
  have eC := eqKey (ck key) (ck_len _)
  have eD := eqKey (tk key) (tk_len _)
  have R0 := hp1_0 w (.cells (irow .u8 (bl key)) 23)
  have hw : Below w.heap.size w (w.alloc (.cells (irow .u8 (bl key)) 23)) := (Below.refl _ _).alloc (Nat.le_refl _) _
  go_enter Tryd.func3, Tryd.ntmps3
  go_wp2_with (first | (refine wpList_box rfl 23 _ rfl _ rfl (bK _) ?_) | (refine wpList_load_want rfl 23 _ rfl (w.heap.size) rfl 23 (irow .u8 (bl key)) (0, 0) _ R0 Tryd.underlying23 rfl (infok8 _ hkl) ?_) | fail)
  generalize w.alloc (.cells (irow .u8 (bl key)) 23) = w0 at *
  refine (a_keys key hk w0 (hS.below hw) (hK.below hw)).mono ?_
  rintro e_ w1 ⟨rfl, hb⟩
  replace R0 := keep hb R0
  replace hw := Below.after hw hb
  clear hb
  have z1 := hp2_0 w1 (.cells (irow .u8 (zr 32)) 23) (.cells (irow .u8 (zr 32)) 23)
  have z2 := hp2_1 w1 (.cells (irow .u8 (zr 32)) 23) (.cells (irow .u8 (zr 32)) 23)
  have z3 := (setRow_other ((w1.alloc (.cells (irow .u8 (zr 32)) 23)).alloc (.cells (irow .u8 (zr 32)) 23)) (w1.heap.size) (w1.heap.size + 1) (irow .u8 (bl (ck key))) (by omega)).trans z2
  have rC := (setRow_other (((w1.alloc (.cells (irow .u8 (zr 32)) 23)).alloc (.cells (irow .u8 (zr 32)) 23)).setRow (w1.heap.size) (irow .u8 (bl (ck key)))) (w1.heap.size + 1) (w1.heap.size) (irow .u8 (bl (tk key))) (by omega)).trans (setRow_heap ((w1.alloc (.cells (irow .u8 (zr 32)) 23)).alloc (.cells (irow .u8 (zr 32)) 23)) (w1.heap.size) _ (irow .u8 (bl (ck key))) _ _ z1)
  have rD := setRow_heap (((w1.alloc (.cells (irow .u8 (zr 32)) 23)).alloc (.cells (irow .u8 (zr 32)) 23)).setRow (w1.heap.size) (irow .u8 (bl (ck key)))) (w1.heap.size + 1) _ (irow .u8 (bl (tk key))) _ _ z3
  have hbF : Below w1.heap.size w1 ((((w1.alloc (.cells (irow .u8 (zr 32)) 23)).alloc (.cells (irow .u8 (zr 32)) 23)).setRow (w1.heap.size) (irow .u8 (bl (ck key)))).setRow (w1.heap.size + 1) (irow .u8 (bl (tk key)))) := below_setRow (below_setRow (((Below.refl _ _).alloc (Nat.le_refl _) _).alloc (by simp) _) (Nat.le_refl _) (irow .u8 (bl (ck key)))) (Nat.le_succ _) (irow .u8 (bl (tk key)))
  go_wp2_with (first | (refine wpList_alloc rfl 23 rfl (irow .u8 (zr 32)) zkey ?_) | (refine wpList_store_row rfl 23 _ _ rfl (w1.heap.size) (irow .u8 (bl (ck key))) rfl rfl 23 _ z1 (infok8 _ hcl) (fit32 _ _ (zr_len 32) hcl) (irow_one _ _) ?_; refine wpList_stay ?_) | fail)
  unfold WpStay
  go_wp2_with (first | (refine wpList_store_row rfl 23 _ _ rfl (w1.heap.size + 1) (irow .u8 (bl (tk key))) rfl rfl 23 _ z3 (infok8 _ hdl) (fit32 _ _ (zr_len 32) hdl) (irow_one _ _) ?_; refine wpList_stay ?_) | fail)
  unfold WpStay
  replace R0 := keep hbF R0
  clear z1 z2 z3
  generalize ((((w1.alloc (.cells (irow .u8 (zr 32)) 23)).alloc (.cells (irow .u8 (zr 32)) 23)).setRow (w1.heap.size) (irow .u8 (bl (ck key)))).setRow (w1.heap.size + 1) (irow .u8 (bl (tk key)))) = w2 at *
  replace hw := Below.after hw hbF
  clear hbF
  generalize w1.heap.size = g1 at *
  go_wp2_with (first | (refine wpList_load_want rfl 23 _ rfl (w.heap.size) rfl 23 (irow .u8 (bl key)) (0, 0) _ R0 Tryd.underlying23 rfl (infok8 _ hkl) ?_) | fail)
  refine (q_keys key hk w2).mono ?_
  rintro e_ w3 ⟨rfl, hb⟩
  replace rC := keep hb rC
  replace rD := keep hb rD
  replace hw := Below.after hw hb
  clear hb R0
  have z1 := hp2_0 w3 (.cells (irow .u8 (zr 32)) 23) (.cells (irow .u8 (zr 32)) 23)
  have z2 := hp2_1 w3 (.cells (irow .u8 (zr 32)) 23) (.cells (irow .u8 (zr 32)) 23)
  have z3 := (setRow_other ((w3.alloc (.cells (irow .u8 (zr 32)) 23)).alloc (.cells (irow .u8 (zr 32)) 23)) (w3.heap.size) (w3.heap.size + 1) (irow .u8 (bl (ck key))) (by omega)).trans z2
  have rC2 := (setRow_other (((w3.alloc (.cells (irow .u8 (zr 32)) 23)).alloc (.cells (irow .u8 (zr 32)) 23)).setRow (w3.heap.size) (irow .u8 (bl (ck key)))) (w3.heap.size + 1) (w3.heap.size) (irow .u8 (bl (tk key))) (by omega)).trans (setRow_heap ((w3.alloc (.cells (irow .u8 (zr 32)) 23)).alloc (.cells (irow .u8 (zr 32)) 23)) (w3.heap.size) _ (irow .u8 (bl (ck key))) _ _ z1)
  have rD2 := setRow_heap (((w3.alloc (.cells (irow .u8 (zr 32)) 23)).alloc (.cells (irow .u8 (zr 32)) 23)).setRow (w3.heap.size) (irow .u8 (bl (ck key)))) (w3.heap.size + 1) _ (irow .u8 (bl (tk key))) _ _ z3
  have hbF : Below w3.heap.size w3 ((((w3.alloc (.cells (irow .u8 (zr 32)) 23)).alloc (.cells (irow .u8 (zr 32)) 23)).setRow (w3.heap.size) (irow .u8 (bl (ck key)))).setRow (w3.heap.size + 1) (irow .u8 (bl (tk key)))) := below_setRow (below_setRow (((Below.refl _ _).alloc (Nat.le_refl _) _).alloc (by simp) _) (Nat.le_refl _) (irow .u8 (bl (ck key)))) (Nat.le_succ _) (irow .u8 (bl (tk key)))
  go_wp2_with (first | (refine wpList_alloc rfl 23 rfl (irow .u8 (zr 32)) zkey ?_) | (refine wpList_store_row rfl 23 _ _ rfl (w3.heap.size) (irow .u8 (bl (ck key))) rfl rfl 23 _ z1 (infok8 _ hcl) (fit32 _ _ (zr_len 32) hcl) (irow_one _ _) ?_; refine wpList_stay ?_) | fail)
  unfold WpStay
  go_wp2_with (first | (refine wpList_store_row rfl 23 _ _ rfl (w3.heap.size + 1) (irow .u8 (bl (tk key))) rfl rfl 23 _ z3 (infok8 _ hdl) (fit32 _ _ (zr_len 32) hdl) (irow_one _ _) ?_; refine wpList_stay ?_) | fail)
  unfold WpStay
  replace rC := keep hbF rC
  replace rD := keep hbF rD
  clear z1 z2 z3
  generalize ((((w3.alloc (.cells (irow .u8 (zr 32)) 23)).alloc (.cells (irow .u8 (zr 32)) 23)).setRow (w3.heap.size) (irow .u8 (bl (ck key)))).setRow (w3.heap.size + 1) (irow .u8 (bl (tk key)))) = w4 at *
  replace hw := Below.after hw hbF
  clear hbF
  generalize w3.heap.size = g3 at *
  go_wp2_with (first | (refine wpList_load_want rfl 23 _ rfl (g1) rfl 23 (irow .u8 (bl (ck key))) (0, 0) _ rC Tryd.underlying23 rfl (infok8 _ hcl) ?_) | (refine wpList_load_want rfl 23 _ rfl (g3) rfl 23 (irow .u8 (bl (ck key))) (0, 0) _ rC2 Tryd.underlying23 rfl (infok8 _ hcl) ?_) | (refine wpList_load_want rfl 23 _ rfl (g1 + 1) rfl 23 (irow .u8 (bl (tk key))) (0, 0) _ rD Tryd.underlying23 rfl (infok8 _ hdl) ?_) | (refine wpList_load_want rfl 23 _ rfl (g3 + 1) rfl 23 (irow .u8 (bl (tk key))) (0, 0) _ rD2 Tryd.underlying23 rfl (infok8 _ hdl) ?_) | fail)
  go_ret
  exact ⟨rfl, hw⟩

end Go.Proofs.YtamieopjigjfiaaDoor
