import Derived.Test.YtamieopjigjfiabDoorProg
import Derived.WalkKit
import Derived.WalkSpells
import Derived.WalkLawsBesides
import Derived.Lib.QuietBelow
import Derived.BigQuiet
import Derived.OrdersHeld
import Derived.Deep.RegionHeld3
import Derived.Test.YtamieopjigjfiabDoorKa
import Derived.Test.YtamieopjigjfiabDoorSc
import Derived.Test.YtamieopjigjfiabDoorNm
namespace Go.Proofs.YtamieopjigjfiabDoor
set_option maxRecDepth 100000
open Go Go.RowKit Go.Sort
attribute [local go_sem] setCell_drewN alloc_drewN

theorem all_row (cs : Array Value) : cs.extract 0 (0 + cs.size) = cs := by simp
theorem sm_write (key bs b : List Int) (g : Nat) (w : World) (v : Value) (rM : w.heap[g]? = some (.cells (mst key bs) 68 (0, 0))) (hB : Bys w v b) (hne : ∀ a l c, v = .slice (some a) l c → 0 < l → a.block ≠ g) (hcap : ∀ a l c, v = .slice a l c → l ≤ c) (hg1 : 1 < g) (hK : Kon w) (hz : ∀ z ∈ bs, 0 ≤ z ∧ z < 256) (hlim : bs.length + b.length ≤ 4611686018427380000) :
    Calls Tryd.prog 29 #[.pointer (some ⟨g, 0, none⟩), v] w fun e w' => e = .returned (.tuple #[]) ∧ w'.heap[g]? = some (.cells (mst key (bs ++ b)) 68 (0, 0)) ∧ w.grownBy w' (some g) := by
  have h := a_writeR (mrest key) 68 (kin key ++ bs) b g w v rM hB hne hcap hg1 hK (both_bd (kin_bd key) hz) (by rw [List.length_append, kin_len]; omega)
  rw [List.append_assoc] at h
  exact h
theorem flat_bd {ps : List (List Int)} (h : ∀ i, i < ps.length → ∀ z ∈ ps.getD i [], 0 ≤ z ∧ z < 256) (k : Nat) (hk : k ≤ ps.length) : ∀ z ∈ flat ps k, 0 ≤ z ∧ z < 256 := by
  induction k with
  | zero => intro z hz; simp [flat] at hz
  | succ k ih =>
    rw [flat_next ps k (by omega)]
    exact both_bd (ih (by omega)) (h k (by omega))
/-- Parts: slices in a row. -/
def Prt (W : World) (gp : Nat) (vs : List Value) (ps : List (List Int)) : Prop := W.heap[gp]? = some (.cells vs.toArray 26 (0, 0)) ∧ vs.length = ps.length ∧ ∀ i, i < ps.length → ∃ u uc, vs[i]? = some (.slice u (ps.getD i []).length uc) ∧ Bys W (.slice u (ps.getD i []).length uc) (ps.getD i []) ∧ (ps.getD i []).length ≤ uc
set_option maxRecDepth 100000 in
set_option maxHeartbeats 4000000 in
theorem a_sumOf (key : List B) (hk : key.length = 32) (ps : List (List Int)) (vs : List Value) (gp : Nat) (w : World) (hS : Sta w) (hK : Kon w) (hP : Prt w gp vs ps) (hsz : ps.flatten.length ≤ 4611686018427380000) (hpl : ps.length ≤ 1000) : Calls Tryd.prog 25 #[.agg (irow .u8 (bl key)), .slice (some ⟨gp, 0, none⟩) ps.length ps.length] w fun e w' => e = .returned (.agg (irow .u8 (hm (bl key) ps.flatten))) ∧ Below w.heap.size w w' := by
  obtain ⟨hP, hvl, hv⟩ := hP
  have hkl : (bl key).length = 32 := by rw [bl_len, hk]
  have hk1 := hK.sz
  have lgp := lt_of_row hP
  have hfl := flat_len ps
  have hfn := flat_next ps
  have hfa := flat_all ps
  have hfz := flat_bd (ps := ps) (fun i hi => by obtain ⟨u, uc, _, h, _⟩ := hv i hi; exact bys_bd h)
  have R0 := hp2_0 w (.cells (irow .u8 (bl key)) 23) (.cells (irow .u8 (zr 32)) 23)
  have R1 := hp2_1 w (.cells (irow .u8 (bl key)) 23) (.cells (irow .u8 (zr 32)) 23)
  have hw : Below w.heap.size w ((w.alloc (.cells (irow .u8 (bl key)) 23)).alloc (.cells (irow .u8 (zr 32)) 23)) := (((Below.refl _ _).alloc (Nat.le_refl _) _).alloc (by simp) _)
  have sk := slice_k w.heap.size
  generalize enp : ps.length = np at *
  go_enter Tryd.func25, Tryd.ntmps25
  go_wp2_with (first | (refine wpList_box rfl 23 _ rfl _ rfl (bK _) ?_) | (refine wpList_alloc rfl 23 rfl (irow .u8 (zr 32)) zkey ?_) | fail)
  try simp only [size_alloc1, Act.put, List.setIfInBounds_toArray, List.set_cons_succ, List.set_cons_zero]
  generalize ((w.alloc (.cells (irow .u8 (bl key)) 23)).alloc (.cells (irow .u8 (zr 32)) 23)) = w0 at *
  have hBk := Bys.of_row R0 (by omega) (bl_bnd _) 32
  rw [hkl] at hBk
  have cN := a_mnew (bl key) w0 _ (hS.below hw) (hK.below hw) hBk (fun a l c h => by cases h; exact Nat.le_refl _) (by omega)
  refine cN.mono ?_
  rintro e_ w1 ⟨gM, rfl, hgM, rM, hb⟩
  have l1 := lt_of_row R1
  have hs0 := hw.size
  replace R1 := keep hb R1
  replace hw := Below.after hw hb
  clear hb cN hBk R0 sk
  have e0 : flat ps 0 = [] := rfl
  rw [← e0] at rM
  replace e0 := hide e0
  go_wp2_with (fail)
  go_loopw [12] (fun i wr => ∃ k : Nat, k ≤ np ∧ i = .int .i64 k ∧ wr.heap[gM]? = some (.cells (mst (bl key) (flat ps k)) 68 (0, 0)) ∧ wr.heap[w.heap.size + 1]? = some (.cells (irow .u8 (zr 32)) 23 (0, 0)) ∧ Below w.heap.size w wr) (fun i _ => np - (intOf i).toNat)
  case atStart => exact ⟨0, by omega, rfl, rM, R1, hw⟩
  case round =>
    clear rM R1 hw
    obtain ⟨k, hk2, rfl, rM, R1, hw⟩ := hrel
    have hfk := hfl k
    have hgl := lt_of_row rM
    by_cases hlt : k < np
    · have hd : decide ((k : Int) < (np : Int)) = true := by simp; omega
      obtain ⟨u, uc, hvk, hBk, hcap⟩ := hv k hlt
      have hF1 := hfn k hlt
      have hf1 := hfl (k + 1)
      rw [hF1, List.length_append] at hf1
      have hfzk := hfz k hk2
      have hneP : ∀ a l c, Value.slice u (ps.getD k []).length uc = .slice (some a) l c → 0 < l → a.block ≠ gM := fun a l c h hl => by
        have := bys_ne hBk a l c h hl
        omega
      replace hF1 := hide hF1
      have hc1 : wr.cell? ⟨gp, k, none⟩ = some (.slice u (ps.getD k []).length uc) := by
        rw [cell_of_row _ _ _ _ _ _ (keep hw hP)]
        simpa using hvk
      clear hv hfn hfl hfa hfz hvk
      generalize ps.getD k [] = P at *
      generalize flat ps k = Fk at *
      have cW := sm_write (bl key) Fk P gM wr (.slice u P.length uc) rM (hBk.keep hw) hneP (fun a l c h => by cases h; exact hcap) (by omega) (hK.below hw) hfzk (by omega)
      go_wp2_with (fail)
      refine cW.mono ?_
      rintro e_ w2 ⟨rfl, rM2, hgr⟩
      have lR := lt_of_row R1
      replace R1 : w2.heap[w.heap.size + 1]? = _ := (hgr.block _ lR (by intro e; injection e with e; omega)).trans R1
      replace hw := hw.grown hgr hw.size (fun k h => by injection h with h; omega)
      rw [← hF1.out] at rM2
      clear hgr cW rM hc1
      go_wp2_with (fail)
      refine ⟨⟨k + 1, by omega, by go_num, rM2, R1, hw⟩, ?_⟩
      simp [intOf]; omega
    · obtain rfl : k = np := by omega
      have hd : decide ((k : Int) < (k : Int)) = false := by simp
      have hfzk := hfz k (Nat.le_refl _)
      rw [hfa] at rM hfzk hfk
      have cA := a_msum (bl key) ps.flatten gM wr (hK.below hw) rM hfzk hsz
      have hHl := hm_len (bl key) ps.flatten
      generalize eH : hm (bl key) ps.flatten = H at *
      replace eH := hide eH
      clear hv hfn hfl hfa hfz
      go_wp2_with (fail)
      refine cA.mono ?_
      rintro e_ w3 ⟨rfl, hb⟩
      replace R1 := keep hb R1
      replace hw := Below.after hw hb
      clear hb cA
      go_wp2_with (first | (refine wpList_store_row rfl 23 _ _ rfl (w.heap.size + 1) (irow .u8 H) rfl rfl 23 _ R1 (infok8 _ hHl) (fit32 _ _ (zr_len 32) hHl) (irow_one _ _) ?_) | fail)
      replace R1 := setRow_heap w3 (w.heap.size + 1) _ (irow .u8 H) _ _ R1
      replace hw := below_setRow hw (show w.heap.size ≤ w.heap.size + 1 by omega) (irow .u8 H)
      exact bodyPost_ret (results_cell_row Tryd.results25 _ _ (w.heap.size + 1) _ _ _ _ rfl R1 Tryd.underlying23 rfl (infok8 _ hHl)) rfl ⟨by rw [eH.out], hw⟩
theorem slice_n (g : Nat) (W : World) : (Instr.sliceAt 25 (.pointer (some ⟨g, 0, none⟩)) none none none).run Tryd.prog W = .ok (.slice (some ⟨g, 0, none⟩) 16 16) W := by kernel_rfl
theorem slice_16 (g : Nat) (W : World) : (Instr.sliceAt 23 (.pointer (some ⟨g, 0, none⟩)) none (some (.int .i64 16)) none).run Tryd.prog W = .ok (.slice (some ⟨g, 0, none⟩) 16 32) W := by kernel_rfl
theorem ex1s {f : FuncId} {args : Array Value} {w : World} {v : Value} {Bp : World → Prop} (h : Calls Tryd.prog f args w fun e w' => e = .returned v ∧ Bp w') : Calls Tryd.prog f args w fun e w' => ∃ v', e = .returned v' ∧ v' = v ∧ Bp w' := h.mono fun _ _ ⟨h1, h2⟩ => ⟨v, h1, rfl, h2⟩
theorem prt4 {W : World} {gp : Nat} {u0 u1 u2 u3 : Option Addr} {c0 c1 c2 c3 : Nat} {p0 p1 p2 p3 : List Int} (hg : W.heap[gp]? = some (.cells #[.slice u0 p0.length c0, .slice u1 p1.length c1, .slice u2 p2.length c2, .slice u3 p3.length c3] 26 (0, 0))) (h0 : Bys W (.slice u0 p0.length c0) p0) (h1 : Bys W (.slice u1 p1.length c1) p1) (h2 : Bys W (.slice u2 p2.length c2) p2) (h3 : Bys W (.slice u3 p3.length c3) p3) (q0 : p0.length ≤ c0) (q1 : p1.length ≤ c1) (q2 : p2.length ≤ c2) (q3 : p3.length ≤ c3) :
    Prt W gp [.slice u0 p0.length c0, .slice u1 p1.length c1, .slice u2 p2.length c2, .slice u3 p3.length c3] [p0, p1, p2, p3] := by
  refine ⟨hg, rfl, fun i hi => ?_⟩
  rcases (show i = 0 ∨ i = 1 ∨ i = 2 ∨ i = 3 by simp at hi; omega) with rfl | rfl | rfl | rfl
  · exact ⟨u0, c0, rfl, h0, q0⟩
  · exact ⟨u1, c1, rfl, h1, q1⟩
  · exact ⟨u2, c2, rfl, h2, q2⟩
  · exact ⟨u3, c3, rfl, h3, q3⟩
set_option maxRecDepth 100000 in
set_option maxHeartbeats 4000000 in
theorem a_tagOf (key nonce extra text : List B) (hk : key.length = 32) (hno : nonce.length = 16) (w : World) (ve vt : Value) (hS : Sta w) (hK : Kon w) (hE : BysB w ve extra) (hT : BysB w vt text) (qE : ∀ a l c, ve = .slice a l c → l ≤ c) (qT : ∀ a l c, vt = .slice a l c → l ≤ c) : Calls Tryd.prog 15 #[.agg (irow .u8 (bl key)), .agg (irow .u8 (bl nonce)), ve, vt] w fun e w' => ∃ v, e = .returned v ∧ ∃ g, v = .slice (some ⟨g, 0, none⟩) 16 32 ∧ w.heap.size ≤ g ∧ w'.heap[g]? = some (.cells (irow .u8 (hm (bl key) (und nonce extra text))) 23 (0, 0)) ∧ Below w.heap.size w w' := by
  have hkl : (bl key).length = 32 := by rw [bl_len, hk]
  have hnl : (bl nonce).length = 16 := by rw [bl_len, hno]
  have hel : extra.length ≤ 140737488351232 := hE.2.1
  have htl : text.length ≤ 140737488351232 := hT.2.1
  have hE := hE.1
  have hT := hT.1
  obtain ⟨ue, uec, rfl, _⟩ := id hE
  obtain ⟨ut, utc, rfl, _⟩ := id hT
  replace qE := qE _ _ _ rfl
  replace qT := qT _ _ _ rfl
  rw [bl_len] at hE qE
  rw [bl_len] at hT qT
  rw [bl_len, bl_len]
  have R0 := hp2_0 w (.cells (irow .u8 (bl key)) 23) (.cells (irow .u8 (bl nonce)) 25)
  have R1 := hp2_1 w (.cells (irow .u8 (bl key)) 23) (.cells (irow .u8 (bl nonce)) 25)
  have hw : Below w.heap.size w ((w.alloc (.cells (irow .u8 (bl key)) 23)).alloc (.cells (irow .u8 (bl nonce)) 25)) := (((Below.refl _ _).alloc (Nat.le_refl _) _).alloc (by simp) _)
  have sn := slice_n (w.heap.size + 1)
  have hmod : ((extra.length : Nat) : Int) % 18446744073709551616 = (extra.length : Int) := by omega
  have hwr : IntKind.u64.wrap ((extra.length : Nat) : Int) = (extra.length : Int) := by rw [IntKind.wrap_u64]; omega
  have hHl := hm_len (bl key) (und nonce extra text)
  have hul := und_len nonce extra text
  have hfl := und_flat nonce extra text
  go_enter Tryd.func15, Tryd.ntmps15
  go_wp2_with (first | (refine wpList_box rfl 23 _ rfl _ rfl (bK _) ?_) | (refine wpList_box rfl 25 _ rfl _ rfl (bNo _) ?_) | fail)
  try simp only [size_alloc1, Act.put, List.setIfInBounds_toArray, List.set_cons_succ, List.set_cons_zero]
  generalize ((w.alloc (.cells (irow .u8 (bl key)) 23)).alloc (.cells (irow .u8 (bl nonce)) 25)) = w0 at *
  have l0 := lt_of_row R0
  have l1 := lt_of_row R1
  have hsw := hw.size
  have cE := fun (W : World) => a_eight extra.length (by omega) W
  have hbd : Below w0.heap.size w0 w0.drew := below_drN (Below.refl _ _) 1
  replace R0 := keep hbd R0
  replace R1 := keep hbd R1
  replace hw := Below.after hw hbd
  clear hbd
  refine wp_region_noPanic ?_
  refine wp_region_held (S := fun W => W.heap[w.heap.size]? = some (.cells (irow .u8 (bl key)) 23 (0, 0))) (by kernel_rfl) ?_
  change wpAnyH _ _ _ _ _ _ _ _ (World.drew _)
  generalize w0.drew = w1 at *
  refine wpAnyH_take (i := 0) (v := .agg (irow .u8 (bl key))) rfl (by kernel_rfl) (by kernel_rfl) (by kernel_rfl) (fun _ _ _ h => h) (Or.inl ⟨by rfl, ?y1⟩) (R0) ?r1
  case y1 =>
    intro w_ hS_
    simp only [List.getElem_toArray, List.getElem_cons_zero]
    exact run_load_part 23 _ (by rfl) (w.heap.size) 0 (by rfl) 23 (irow .u8 (bl key)) (0, 0) (irow .u8 (bl key)) _ (hS_) (all_row _) Tryd.underlying23 rfl (infok8 _ hkl)
  simp only [Act.put, List.getElem_toArray, List.getElem_cons_zero, List.setIfInBounds_toArray, List.set_cons_succ, List.set_cons_zero]
  refine wpAnyH_take (i := 1) (v := ?v2) rfl (by kernel_rfl) (by kernel_rfl) (by kernel_rfl) (fun _ _ _ h => h) (Or.inl ⟨by rfl, ?y2⟩) (R0) ?r2
  case y2 =>
    intro w_ hS_
    go_simp
    try with_reducible rfl
  simp only [Act.put, List.getElem_toArray, List.getElem_cons_succ, List.getElem_cons_zero, List.setIfInBounds_toArray, List.set_cons_succ, List.set_cons_zero]
  refine wpAnyH_take (i := 2) (v := ?v3) rfl (by kernel_rfl) (by kernel_rfl) (by kernel_rfl) (fun _ _ _ h => h) (Or.inl ⟨by rfl, ?y3⟩) (R0) ?r3
  case y3 =>
    intro w_ hS_
    go_simp
    try with_reducible rfl
  simp only [Act.put, List.getElem_toArray, List.getElem_cons_succ, List.getElem_cons_zero, List.setIfInBounds_toArray, List.set_cons_succ, List.set_cons_zero]
  refine wpAnyH_take (i := 3) (v := ?v4) rfl (by kernel_rfl) (by kernel_rfl) (by kernel_rfl) (fun _ _ _ h => h) (Or.inl ⟨by rfl, ?y4⟩) (R0) ?r4
  case y4 =>
    intro w_ hS_
    go_simp
    try with_reducible rfl
  simp only [Act.put, List.getElem_toArray, List.getElem_cons_succ, List.getElem_cons_zero, List.setIfInBounds_toArray, List.set_cons_succ, List.set_cons_zero]
  refine wpAnyH_take (i := 5) (v := ?v5) rfl (by kernel_rfl) (by kernel_rfl) (by kernel_rfl) (fun _ _ _ h => h) (Or.inl ⟨by rfl, ?y5⟩) (R0) ?r5
  case y5 =>
    intro w_ hS_
    go_simp
    try with_reducible rfl
  simp only [Act.put, List.getElem_toArray, List.getElem_cons_succ, List.getElem_cons_zero, List.setIfInBounds_toArray, List.set_cons_succ, List.set_cons_zero]
  refine wpAnyH_take (i := 6) (v := ?v6) rfl (by kernel_rfl) (by kernel_rfl) (by kernel_rfl) (fun _ _ _ h => h) (Or.inl ⟨by rfl, ?y6⟩) (R0) ?r6
  case y6 =>
    intro w_ hS_
    go_simp
    try with_reducible rfl
  simp only [Act.put, List.getElem_toArray, List.getElem_cons_succ, List.getElem_cons_zero, List.setIfInBounds_toArray, List.set_cons_succ, List.set_cons_zero]
  refine wpAnyH_take (i := 7) (v := ?v7) rfl (by kernel_rfl) (by kernel_rfl) (by kernel_rfl) (fun _ _ _ h => h) (Or.inl ⟨by rfl, ?y7⟩) (R0) ?r7
  case y7 =>
    intro w_ hS_
    go_simp
    try with_reducible rfl
  simp only [Act.put, List.getElem_toArray, List.getElem_cons_succ, List.getElem_cons_zero, List.setIfInBounds_toArray, List.set_cons_succ, List.set_cons_zero]
  refine wpAnyH_two (j := 4) (k := 10) (fuel := 4) (by kernel_rfl) rfl rfl (by kernel_rfl) (by kernel_rfl) (fun K_ hK_ => ?_) (fun K_ hK_ => ?_)
  · have sz_e : w.heap.size ≤ w1.heap.size := hw.size
    refine wp_call_ex (f := 26) (by kernel_rfl) (cE w1) (fun v_ q1 hX_ => ?_)
    obtain ⟨ge, rfl, lge, re, hb_⟩ := hX_
    replace R0 := keep hb_ R0
    replace R1 := keep hb_ R1
    replace hw := Below.after hw hb_
    clear hb_
    replace lge : w.heap.size ≤ ge := Nat.le_trans (sz_e) lge
    clear sz_e
    refine hK_ _ _ (R0) ?_
    simp only [Act.put, List.getElem_toArray, List.getElem_cons_succ, List.getElem_cons_zero, List.setIfInBounds_toArray, List.set_cons_succ, List.set_cons_zero]
    clear hK_
    refine wpAnyH_two (j := 8) (k := 10) (fuel := 3) (by kernel_rfl) rfl rfl (by kernel_rfl) (by kernel_rfl) (fun K_ hK_ => ?_) (fun K_ hK_ => ?_)
    · refine wp_world_op (.slice (some ⟨q1.heap.size, 0, none⟩) 4 4) (q1.alloc (.cells #[.slice (some ⟨ge, 0, none⟩) 8 8, .slice ue extra.length uec, .slice (some ⟨w.heap.size + 1, 0, none⟩) 16 16, .slice ut text.length utc] 26)) (by kernel_rfl) ?_
      have hb_ : Below q1.heap.size q1 (q1.alloc (.cells #[.slice (some ⟨ge, 0, none⟩) 8 8, .slice ue extra.length uec, .slice (some ⟨w.heap.size + 1, 0, none⟩) 16 16, .slice ut text.length utc] 26)) := (Below.refl _ _).alloc (Nat.le_refl _) _
      have sz_g3 : w.heap.size ≤ q1.heap.size := hw.size
      have lt_R0_g3 := lt_of_row R0
      have lt_R1_g3 := lt_of_row R1
      have lt_re_g3 := lt_of_row re
      have rp := hp1_0 q1 (.cells #[.slice (some ⟨ge, 0, none⟩) 8 8, .slice ue extra.length uec, .slice (some ⟨w.heap.size + 1, 0, none⟩) 16 16, .slice ut text.length utc] 26)
      replace R0 := keep hb_ R0
      replace R1 := keep hb_ R1
      replace re := keep hb_ re
      replace hw := Below.after hw hb_
      clear hb_
      refine hK_ _ _ (R0) ?_
      simp only [Act.put, List.getElem_toArray, List.getElem_cons_succ, List.getElem_cons_zero, List.setIfInBounds_toArray, List.set_cons_succ, List.set_cons_zero]
      clear hK_
      generalize q1.alloc (.cells #[.slice (some ⟨ge, 0, none⟩) 8 8, .slice ue extra.length uec, .slice (some ⟨w.heap.size + 1, 0, none⟩) 16 16, .slice ut text.length utc] 26) = q2 at *
      generalize q1.heap.size = g3 at *
      refine wpAnyH_two (j := 9) (k := 10) (fuel := 2) (by kernel_rfl) rfl rfl (by kernel_rfl) (by kernel_rfl) (fun K_ hK_ => ?_) (fun K_ hK_ => ?_)
      · have hPr : Prt q2 g3 [.slice (some ⟨ge, 0, none⟩) 8 8, .slice ue extra.length uec, .slice (some ⟨w.heap.size + 1, 0, none⟩) 16 16, .slice ut text.length utc] [n8 extra.length, bl extra, bl nonce, bl text] := by
          have hB0 : Bys q2 (.slice (some ⟨ge, 0, none⟩) 8 8) (n8 extra.length) := Bys.of_row re (by rw [n8_len]; decide) (n8_bd _) 8
          have hB2 : Bys q2 (.slice (some ⟨w.heap.size + 1, 0, none⟩) (bl nonce).length 16) (bl nonce) := Bys.of_row R1 (by omega) (bl_bnd _) 16
          have hB1 := hE.keep hw
          have hB3 := hT.keep hw
          have h := prt4 (p0 := n8 extra.length) (p1 := bl extra) (p2 := bl nonce) (p3 := bl text) (W := q2) (gp := g3) (u0 := some ⟨ge, 0, none⟩) (c0 := 8) (u1 := ue) (c1 := uec) (u2 := some ⟨w.heap.size + 1, 0, none⟩) (c2 := 16) (u3 := ut) (c3 := utc)
          rw [bl_len extra, bl_len text, hnl, n8_len] at h
          rw [hnl] at hB2
          exact h rp hB0 hB1 hB2 hB3 (by omega) qE (by omega) qT
        have cU := a_sumOf key hk [n8 extra.length, bl extra, bl nonce, bl text] [.slice (some ⟨ge, 0, none⟩) 8 8, .slice ue extra.length uec, .slice (some ⟨w.heap.size + 1, 0, none⟩) 16 16, .slice ut text.length utc] g3 q2 (hS.below hw) (hK.below hw) hPr (by rw [hfl, hul, hno]; omega) (by simp)
        rw [hfl] at cU
        clear hPr
        refine wp_call_ex (f := 25) (by kernel_rfl) (ex1s cU) (fun v_ q4 hX_ => ?_)
        obtain ⟨rfl, hb_⟩ := hX_
        replace R0 := keep hb_ R0
        replace R1 := keep hb_ R1
        replace re := keep hb_ re
        replace rp := keep hb_ rp
        replace hw := Below.after hw hb_
        clear hb_
        clear cU
        refine hK_ _ _ (R0) ?_
        simp only [Act.put, List.getElem_toArray, List.getElem_cons_succ, List.getElem_cons_zero, List.setIfInBounds_toArray, List.set_cons_succ, List.set_cons_zero]
        clear hK_
        refine wpAnyH_one (k := 10) (fuel := 1) (by kernel_rfl) rfl (by kernel_rfl) (fun K_ hK_ => ?_)
        refine wp_world_op (.pointer (some ⟨q4.heap.size, 0, none⟩)) (q4.alloc (.cells (irow .u8 (zr 32)) 23)) (by kernel_rfl) ?_
        have hb_ : Below q4.heap.size q4 (q4.alloc (.cells (irow .u8 (zr 32)) 23)) := (Below.refl _ _).alloc (Nat.le_refl _) _
        have sz_g6 : w.heap.size ≤ q4.heap.size := hw.size
        have lt_R0_g6 := lt_of_row R0
        have lt_R1_g6 := lt_of_row R1
        have lt_re_g6 := lt_of_row re
        have lt_rp_g6 := lt_of_row rp
        have rA := hp1_0 q4 (.cells (irow .u8 (zr 32)) 23)
        replace R0 := keep hb_ R0
        replace R1 := keep hb_ R1
        replace re := keep hb_ re
        replace rp := keep hb_ rp
        replace hw := Below.after hw hb_
        clear hb_
        refine hK_ _ _ (R0) ?_
        simp only [Act.put, List.getElem_toArray, List.getElem_cons_succ, List.getElem_cons_zero, List.setIfInBounds_toArray, List.set_cons_succ, List.set_cons_zero]
        clear hK_
        generalize q4.alloc (.cells (irow .u8 (zr 32)) 23) = q5 at *
        generalize q4.heap.size = g6 at *
        refine wpAnyH_one (k := 11) (fuel := 0) (by kernel_rfl) rfl (by kernel_rfl) (fun K_ hK_ => ?_)
        refine wp_store_row 23 _ _ rfl (g6) (irow .u8 (hm (bl key) (und nonce extra text))) rfl rfl 23 _ rA (infok8 _ hHl) (fit32 _ _ (zr_len 32) hHl) (irow_one _ _) ?_
        replace R0 := (setRow_other q5 (g6) (w.heap.size) (irow .u8 (hm (bl key) (und nonce extra text))) (by omega)).trans R0
        replace rA := setRow_heap q5 (g6) _ (irow .u8 (hm (bl key) (und nonce extra text))) _ _ rA
        replace hw := below_setRow hw (show w.heap.size ≤ g6 by omega) (irow .u8 (hm (bl key) (und nonce extra text)))
        refine hK_ _ _ (R0) ?_
        simp only [Act.put]
        clear hK_
        generalize q5.setRow (g6) (irow .u8 (hm (bl key) (und nonce extra text))) = q7 at *
        refine wpAnyH_done (by kernel_rfl) ?_ _
        refine NoPanic.normal ?_
        have s16 := slice_16 g6
        go_wp2
        go_ret
        exact ⟨_, rfl, g6, rfl, by omega, rA, hw⟩
      · refine wp_world_op (.pointer (some ⟨q2.heap.size, 0, none⟩)) (q2.alloc (.cells (irow .u8 (zr 32)) 23)) (by kernel_rfl) ?_
        have hb_ : Below q2.heap.size q2 (q2.alloc (.cells (irow .u8 (zr 32)) 23)) := (Below.refl _ _).alloc (Nat.le_refl _) _
        have sz_g9 : w.heap.size ≤ q2.heap.size := hw.size
        have lt_R0_g9 := lt_of_row R0
        have lt_R1_g9 := lt_of_row R1
        have lt_re_g9 := lt_of_row re
        have lt_rp_g9 := lt_of_row rp
        have rA := hp1_0 q2 (.cells (irow .u8 (zr 32)) 23)
        replace R0 := keep hb_ R0
        replace R1 := keep hb_ R1
        replace re := keep hb_ re
        replace rp := keep hb_ rp
        replace hw := Below.after hw hb_
        clear hb_
        refine hK_ _ _ (R0) ?_
        simp only [Act.put, List.getElem_toArray, List.getElem_cons_succ, List.getElem_cons_zero, List.setIfInBounds_toArray, List.set_cons_succ, List.set_cons_zero]
        clear hK_
        generalize q2.alloc (.cells (irow .u8 (zr 32)) 23) = q8 at *
        generalize q2.heap.size = g9 at *
        refine wpAnyH_one (k := 9) (fuel := 1) (by kernel_rfl) rfl (by kernel_rfl) (fun K_ hK_ => ?_)
        have hPr : Prt q8 g3 [.slice (some ⟨ge, 0, none⟩) 8 8, .slice ue extra.length uec, .slice (some ⟨w.heap.size + 1, 0, none⟩) 16 16, .slice ut text.length utc] [n8 extra.length, bl extra, bl nonce, bl text] := by
          have hB0 : Bys q8 (.slice (some ⟨ge, 0, none⟩) 8 8) (n8 extra.length) := Bys.of_row re (by rw [n8_len]; decide) (n8_bd _) 8
          have hB2 : Bys q8 (.slice (some ⟨w.heap.size + 1, 0, none⟩) (bl nonce).length 16) (bl nonce) := Bys.of_row R1 (by omega) (bl_bnd _) 16
          have hB1 := hE.keep hw
          have hB3 := hT.keep hw
          have h := prt4 (p0 := n8 extra.length) (p1 := bl extra) (p2 := bl nonce) (p3 := bl text) (W := q8) (gp := g3) (u0 := some ⟨ge, 0, none⟩) (c0 := 8) (u1 := ue) (c1 := uec) (u2 := some ⟨w.heap.size + 1, 0, none⟩) (c2 := 16) (u3 := ut) (c3 := utc)
          rw [bl_len extra, bl_len text, hnl, n8_len] at h
          rw [hnl] at hB2
          exact h rp hB0 hB1 hB2 hB3 (by omega) qE (by omega) qT
        have cU := a_sumOf key hk [n8 extra.length, bl extra, bl nonce, bl text] [.slice (some ⟨ge, 0, none⟩) 8 8, .slice ue extra.length uec, .slice (some ⟨w.heap.size + 1, 0, none⟩) 16 16, .slice ut text.length utc] g3 q8 (hS.below hw) (hK.below hw) hPr (by rw [hfl, hul, hno]; omega) (by simp)
        rw [hfl] at cU
        clear hPr
        refine wp_call_ex (f := 25) (by kernel_rfl) (ex1s cU) (fun v_ q10 hX_ => ?_)
        obtain ⟨rfl, hb_⟩ := hX_
        replace R0 := keep hb_ R0
        replace R1 := keep hb_ R1
        replace re := keep hb_ re
        replace rp := keep hb_ rp
        replace rA := keep hb_ rA
        replace hw := Below.after hw hb_
        clear hb_
        clear cU
        refine hK_ _ _ (R0) ?_
        simp only [Act.put, List.getElem_toArray, List.getElem_cons_succ, List.getElem_cons_zero, List.setIfInBounds_toArray, List.set_cons_succ, List.set_cons_zero]
        clear hK_
        refine wpAnyH_one (k := 11) (fuel := 0) (by kernel_rfl) rfl (by kernel_rfl) (fun K_ hK_ => ?_)
        refine wp_store_row 23 _ _ rfl (g9) (irow .u8 (hm (bl key) (und nonce extra text))) rfl rfl 23 _ rA (infok8 _ hHl) (fit32 _ _ (zr_len 32) hHl) (irow_one _ _) ?_
        replace R0 := (setRow_other q10 (g9) (w.heap.size) (irow .u8 (hm (bl key) (und nonce extra text))) (by omega)).trans R0
        replace rA := setRow_heap q10 (g9) _ (irow .u8 (hm (bl key) (und nonce extra text))) _ _ rA
        replace hw := below_setRow hw (show w.heap.size ≤ g9 by omega) (irow .u8 (hm (bl key) (und nonce extra text)))
        refine hK_ _ _ (R0) ?_
        simp only [Act.put]
        clear hK_
        generalize q10.setRow (g9) (irow .u8 (hm (bl key) (und nonce extra text))) = q11 at *
        refine wpAnyH_done (by kernel_rfl) ?_ _
        refine NoPanic.normal ?_
        have s16 := slice_16 g9
        go_wp2
        go_ret
        exact ⟨_, rfl, g9, rfl, by omega, rA, hw⟩
    · refine wp_world_op (.pointer (some ⟨q1.heap.size, 0, none⟩)) (q1.alloc (.cells (irow .u8 (zr 32)) 23)) (by kernel_rfl) ?_
      have hb_ : Below q1.heap.size q1 (q1.alloc (.cells (irow .u8 (zr 32)) 23)) := (Below.refl _ _).alloc (Nat.le_refl _) _
      have sz_g13 : w.heap.size ≤ q1.heap.size := hw.size
      have lt_R0_g13 := lt_of_row R0
      have lt_R1_g13 := lt_of_row R1
      have lt_re_g13 := lt_of_row re
      have rA := hp1_0 q1 (.cells (irow .u8 (zr 32)) 23)
      replace R0 := keep hb_ R0
      replace R1 := keep hb_ R1
      replace re := keep hb_ re
      replace hw := Below.after hw hb_
      clear hb_
      refine hK_ _ _ (R0) ?_
      simp only [Act.put, List.getElem_toArray, List.getElem_cons_succ, List.getElem_cons_zero, List.setIfInBounds_toArray, List.set_cons_succ, List.set_cons_zero]
      clear hK_
      generalize q1.alloc (.cells (irow .u8 (zr 32)) 23) = q12 at *
      generalize q1.heap.size = g13 at *
      refine wpAnyH_one (k := 8) (fuel := 2) (by kernel_rfl) rfl (by kernel_rfl) (fun K_ hK_ => ?_)
      refine wp_world_op (.slice (some ⟨q12.heap.size, 0, none⟩) 4 4) (q12.alloc (.cells #[.slice (some ⟨ge, 0, none⟩) 8 8, .slice ue extra.length uec, .slice (some ⟨w.heap.size + 1, 0, none⟩) 16 16, .slice ut text.length utc] 26)) (by kernel_rfl) ?_
      have hb_ : Below q12.heap.size q12 (q12.alloc (.cells #[.slice (some ⟨ge, 0, none⟩) 8 8, .slice ue extra.length uec, .slice (some ⟨w.heap.size + 1, 0, none⟩) 16 16, .slice ut text.length utc] 26)) := (Below.refl _ _).alloc (Nat.le_refl _) _
      have sz_g15 : w.heap.size ≤ q12.heap.size := hw.size
      have lt_R0_g15 := lt_of_row R0
      have lt_R1_g15 := lt_of_row R1
      have lt_re_g15 := lt_of_row re
      have lt_rA_g15 := lt_of_row rA
      have rp := hp1_0 q12 (.cells #[.slice (some ⟨ge, 0, none⟩) 8 8, .slice ue extra.length uec, .slice (some ⟨w.heap.size + 1, 0, none⟩) 16 16, .slice ut text.length utc] 26)
      replace R0 := keep hb_ R0
      replace R1 := keep hb_ R1
      replace re := keep hb_ re
      replace rA := keep hb_ rA
      replace hw := Below.after hw hb_
      clear hb_
      refine hK_ _ _ (R0) ?_
      simp only [Act.put, List.getElem_toArray, List.getElem_cons_succ, List.getElem_cons_zero, List.setIfInBounds_toArray, List.set_cons_succ, List.set_cons_zero]
      clear hK_
      generalize q12.alloc (.cells #[.slice (some ⟨ge, 0, none⟩) 8 8, .slice ue extra.length uec, .slice (some ⟨w.heap.size + 1, 0, none⟩) 16 16, .slice ut text.length utc] 26) = q14 at *
      generalize q12.heap.size = g15 at *
      refine wpAnyH_one (k := 9) (fuel := 1) (by kernel_rfl) rfl (by kernel_rfl) (fun K_ hK_ => ?_)
      have hPr : Prt q14 g15 [.slice (some ⟨ge, 0, none⟩) 8 8, .slice ue extra.length uec, .slice (some ⟨w.heap.size + 1, 0, none⟩) 16 16, .slice ut text.length utc] [n8 extra.length, bl extra, bl nonce, bl text] := by
        have hB0 : Bys q14 (.slice (some ⟨ge, 0, none⟩) 8 8) (n8 extra.length) := Bys.of_row re (by rw [n8_len]; decide) (n8_bd _) 8
        have hB2 : Bys q14 (.slice (some ⟨w.heap.size + 1, 0, none⟩) (bl nonce).length 16) (bl nonce) := Bys.of_row R1 (by omega) (bl_bnd _) 16
        have hB1 := hE.keep hw
        have hB3 := hT.keep hw
        have h := prt4 (p0 := n8 extra.length) (p1 := bl extra) (p2 := bl nonce) (p3 := bl text) (W := q14) (gp := g15) (u0 := some ⟨ge, 0, none⟩) (c0 := 8) (u1 := ue) (c1 := uec) (u2 := some ⟨w.heap.size + 1, 0, none⟩) (c2 := 16) (u3 := ut) (c3 := utc)
        rw [bl_len extra, bl_len text, hnl, n8_len] at h
        rw [hnl] at hB2
        exact h rp hB0 hB1 hB2 hB3 (by omega) qE (by omega) qT
      have cU := a_sumOf key hk [n8 extra.length, bl extra, bl nonce, bl text] [.slice (some ⟨ge, 0, none⟩) 8 8, .slice ue extra.length uec, .slice (some ⟨w.heap.size + 1, 0, none⟩) 16 16, .slice ut text.length utc] g15 q14 (hS.below hw) (hK.below hw) hPr (by rw [hfl, hul, hno]; omega) (by simp)
      rw [hfl] at cU
      clear hPr
      refine wp_call_ex (f := 25) (by kernel_rfl) (ex1s cU) (fun v_ q16 hX_ => ?_)
      obtain ⟨rfl, hb_⟩ := hX_
      replace R0 := keep hb_ R0
      replace R1 := keep hb_ R1
      replace re := keep hb_ re
      replace rA := keep hb_ rA
      replace rp := keep hb_ rp
      replace hw := Below.after hw hb_
      clear hb_
      clear cU
      refine hK_ _ _ (R0) ?_
      simp only [Act.put, List.getElem_toArray, List.getElem_cons_succ, List.getElem_cons_zero, List.setIfInBounds_toArray, List.set_cons_succ, List.set_cons_zero]
      clear hK_
      refine wpAnyH_one (k := 11) (fuel := 0) (by kernel_rfl) rfl (by kernel_rfl) (fun K_ hK_ => ?_)
      refine wp_store_row 23 _ _ rfl (g13) (irow .u8 (hm (bl key) (und nonce extra text))) rfl rfl 23 _ rA (infok8 _ hHl) (fit32 _ _ (zr_len 32) hHl) (irow_one _ _) ?_
      replace R0 := (setRow_other q16 (g13) (w.heap.size) (irow .u8 (hm (bl key) (und nonce extra text))) (by omega)).trans R0
      replace rA := setRow_heap q16 (g13) _ (irow .u8 (hm (bl key) (und nonce extra text))) _ _ rA
      replace hw := below_setRow hw (show w.heap.size ≤ g13 by omega) (irow .u8 (hm (bl key) (und nonce extra text)))
      refine hK_ _ _ (R0) ?_
      simp only [Act.put]
      clear hK_
      generalize q16.setRow (g13) (irow .u8 (hm (bl key) (und nonce extra text))) = q17 at *
      refine wpAnyH_done (by kernel_rfl) ?_ _
      refine NoPanic.normal ?_
      have s16 := slice_16 g13
      go_wp2
      go_ret
      exact ⟨_, rfl, g13, rfl, by omega, rA, hw⟩
  · refine wp_world_op (.pointer (some ⟨w1.heap.size, 0, none⟩)) (w1.alloc (.cells (irow .u8 (zr 32)) 23)) (by kernel_rfl) ?_
    have hb_ : Below w1.heap.size w1 (w1.alloc (.cells (irow .u8 (zr 32)) 23)) := (Below.refl _ _).alloc (Nat.le_refl _) _
    have sz_g19 : w.heap.size ≤ w1.heap.size := hw.size
    have lt_R0_g19 := lt_of_row R0
    have lt_R1_g19 := lt_of_row R1
    have rA := hp1_0 w1 (.cells (irow .u8 (zr 32)) 23)
    replace R0 := keep hb_ R0
    replace R1 := keep hb_ R1
    replace hw := Below.after hw hb_
    clear hb_
    refine hK_ _ _ (R0) ?_
    simp only [Act.put, List.getElem_toArray, List.getElem_cons_succ, List.getElem_cons_zero, List.setIfInBounds_toArray, List.set_cons_succ, List.set_cons_zero]
    clear hK_
    generalize w1.alloc (.cells (irow .u8 (zr 32)) 23) = q18 at *
    generalize w1.heap.size = g19 at *
    refine wpAnyH_one (k := 4) (fuel := 3) (by kernel_rfl) rfl (by kernel_rfl) (fun K_ hK_ => ?_)
    have sz_e : w.heap.size ≤ q18.heap.size := hw.size
    refine wp_call_ex (f := 26) (by kernel_rfl) (cE q18) (fun v_ q20 hX_ => ?_)
    obtain ⟨ge, rfl, lge, re, hb_⟩ := hX_
    replace R0 := keep hb_ R0
    replace R1 := keep hb_ R1
    replace rA := keep hb_ rA
    replace hw := Below.after hw hb_
    clear hb_
    replace lge : w.heap.size ≤ ge := Nat.le_trans (sz_e) lge
    clear sz_e
    refine hK_ _ _ (R0) ?_
    simp only [Act.put, List.getElem_toArray, List.getElem_cons_succ, List.getElem_cons_zero, List.setIfInBounds_toArray, List.set_cons_succ, List.set_cons_zero]
    clear hK_
    refine wpAnyH_one (k := 8) (fuel := 2) (by kernel_rfl) rfl (by kernel_rfl) (fun K_ hK_ => ?_)
    refine wp_world_op (.slice (some ⟨q20.heap.size, 0, none⟩) 4 4) (q20.alloc (.cells #[.slice (some ⟨ge, 0, none⟩) 8 8, .slice ue extra.length uec, .slice (some ⟨w.heap.size + 1, 0, none⟩) 16 16, .slice ut text.length utc] 26)) (by kernel_rfl) ?_
    have hb_ : Below q20.heap.size q20 (q20.alloc (.cells #[.slice (some ⟨ge, 0, none⟩) 8 8, .slice ue extra.length uec, .slice (some ⟨w.heap.size + 1, 0, none⟩) 16 16, .slice ut text.length utc] 26)) := (Below.refl _ _).alloc (Nat.le_refl _) _
    have sz_g22 : w.heap.size ≤ q20.heap.size := hw.size
    have lt_R0_g22 := lt_of_row R0
    have lt_R1_g22 := lt_of_row R1
    have lt_rA_g22 := lt_of_row rA
    have lt_re_g22 := lt_of_row re
    have rp := hp1_0 q20 (.cells #[.slice (some ⟨ge, 0, none⟩) 8 8, .slice ue extra.length uec, .slice (some ⟨w.heap.size + 1, 0, none⟩) 16 16, .slice ut text.length utc] 26)
    replace R0 := keep hb_ R0
    replace R1 := keep hb_ R1
    replace rA := keep hb_ rA
    replace re := keep hb_ re
    replace hw := Below.after hw hb_
    clear hb_
    refine hK_ _ _ (R0) ?_
    simp only [Act.put, List.getElem_toArray, List.getElem_cons_succ, List.getElem_cons_zero, List.setIfInBounds_toArray, List.set_cons_succ, List.set_cons_zero]
    clear hK_
    generalize q20.alloc (.cells #[.slice (some ⟨ge, 0, none⟩) 8 8, .slice ue extra.length uec, .slice (some ⟨w.heap.size + 1, 0, none⟩) 16 16, .slice ut text.length utc] 26) = q21 at *
    generalize q20.heap.size = g22 at *
    refine wpAnyH_one (k := 9) (fuel := 1) (by kernel_rfl) rfl (by kernel_rfl) (fun K_ hK_ => ?_)
    have hPr : Prt q21 g22 [.slice (some ⟨ge, 0, none⟩) 8 8, .slice ue extra.length uec, .slice (some ⟨w.heap.size + 1, 0, none⟩) 16 16, .slice ut text.length utc] [n8 extra.length, bl extra, bl nonce, bl text] := by
      have hB0 : Bys q21 (.slice (some ⟨ge, 0, none⟩) 8 8) (n8 extra.length) := Bys.of_row re (by rw [n8_len]; decide) (n8_bd _) 8
      have hB2 : Bys q21 (.slice (some ⟨w.heap.size + 1, 0, none⟩) (bl nonce).length 16) (bl nonce) := Bys.of_row R1 (by omega) (bl_bnd _) 16
      have hB1 := hE.keep hw
      have hB3 := hT.keep hw
      have h := prt4 (p0 := n8 extra.length) (p1 := bl extra) (p2 := bl nonce) (p3 := bl text) (W := q21) (gp := g22) (u0 := some ⟨ge, 0, none⟩) (c0 := 8) (u1 := ue) (c1 := uec) (u2 := some ⟨w.heap.size + 1, 0, none⟩) (c2 := 16) (u3 := ut) (c3 := utc)
      rw [bl_len extra, bl_len text, hnl, n8_len] at h
      rw [hnl] at hB2
      exact h rp hB0 hB1 hB2 hB3 (by omega) qE (by omega) qT
    have cU := a_sumOf key hk [n8 extra.length, bl extra, bl nonce, bl text] [.slice (some ⟨ge, 0, none⟩) 8 8, .slice ue extra.length uec, .slice (some ⟨w.heap.size + 1, 0, none⟩) 16 16, .slice ut text.length utc] g22 q21 (hS.below hw) (hK.below hw) hPr (by rw [hfl, hul, hno]; omega) (by simp)
    rw [hfl] at cU
    clear hPr
    refine wp_call_ex (f := 25) (by kernel_rfl) (ex1s cU) (fun v_ q23 hX_ => ?_)
    obtain ⟨rfl, hb_⟩ := hX_
    replace R0 := keep hb_ R0
    replace R1 := keep hb_ R1
    replace rA := keep hb_ rA
    replace re := keep hb_ re
    replace rp := keep hb_ rp
    replace hw := Below.after hw hb_
    clear hb_
    clear cU
    refine hK_ _ _ (R0) ?_
    simp only [Act.put, List.getElem_toArray, List.getElem_cons_succ, List.getElem_cons_zero, List.setIfInBounds_toArray, List.set_cons_succ, List.set_cons_zero]
    clear hK_
    refine wpAnyH_one (k := 11) (fuel := 0) (by kernel_rfl) rfl (by kernel_rfl) (fun K_ hK_ => ?_)
    refine wp_store_row 23 _ _ rfl (g19) (irow .u8 (hm (bl key) (und nonce extra text))) rfl rfl 23 _ rA (infok8 _ hHl) (fit32 _ _ (zr_len 32) hHl) (irow_one _ _) ?_
    replace R0 := (setRow_other q23 (g19) (w.heap.size) (irow .u8 (hm (bl key) (und nonce extra text))) (by omega)).trans R0
    replace rA := setRow_heap q23 (g19) _ (irow .u8 (hm (bl key) (und nonce extra text))) _ _ rA
    replace hw := below_setRow hw (show w.heap.size ≤ g19 by omega) (irow .u8 (hm (bl key) (und nonce extra text)))
    refine hK_ _ _ (R0) ?_
    simp only [Act.put]
    clear hK_
    generalize q23.setRow (g19) (irow .u8 (hm (bl key) (und nonce extra text))) = q24 at *
    refine wpAnyH_done (by kernel_rfl) ?_ _
    refine NoPanic.normal ?_
    have s16 := slice_16 g19
    go_wp2
    go_ret
    exact ⟨_, rfl, g19, rfl, by omega, rA, hw⟩

end Go.Proofs.YtamieopjigjfiabDoor
