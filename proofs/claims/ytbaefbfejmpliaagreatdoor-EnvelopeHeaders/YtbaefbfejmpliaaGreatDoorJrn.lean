import Derived.Test.YtbaefbfejmpliaaGreatDoorQb8
import Derived.Test.YtbaefbfejmpliaaGreatDoorQb4
import Derived.OwnWalk
import Derived.Deep.Cut
import Derived.Deep.RegionHeld3
namespace Go.Proofs.YtbaefbfejmpliaaGreatDoor
set_option maxRecDepth 100000
open Go Go.RowKit Go.Sort
attribute [local go_sem] setCell_drewN alloc_drewN
section
variable {P : Program} {ops : Array Oper} {Q : Exit → Act → World → Prop} {md : Region.Mode} {S : World → Prop}
/-- Any of three operations may come up. -/
theorem wpAnyH_three {j k l : Nat} {oj ok ol : Oper} {fuel : Nat} {listed : Array Bool} {a : Act} {w : World} (hr : Region.ready md ops listed = [j, k, l]) (hj : ops[j]? = some oj) (hk : ops[k]? = some ok) (hl : ops[l]? = some ol) (wj : Region.wanted oj (yielded ops a.tmps) = true) (wk : Region.wanted ok (yielded ops a.tmps) = true) (wl : Region.wanted ol (yielded ops a.tmps) = true)
    (h1 : ∀ K : Act → World → Prop, (∀ a' w', S w' → wpAnyH P md ops Q S fuel (listed.setIfInBounds j true) a' w' → K a' w') → oj.wp P a w K Q)
    (h2 : ∀ K : Act → World → Prop, (∀ a' w', S w' → wpAnyH P md ops Q S fuel (listed.setIfInBounds k true) a' w' → K a' w') → ok.wp P a w K Q)
    (h3 : ∀ K : Act → World → Prop, (∀ a' w', S w' → wpAnyH P md ops Q S fuel (listed.setIfInBounds l true) a' w' → K a' w') → ol.wp P a w K Q) : wpAnyH P md ops Q S (fuel + 1) listed a w := by
  refine wpAnyH_all hr (by simp) (fun i hi' => ?_)
  obtain rfl | rfl | rfl : i = j ∨ i = k ∨ i = l := by simpa using hi'
  · unfold wpOp
    simp only [hj, wj, if_true]
    exact .inl (h1 _ (fun a' w' hS hn => ⟨hS, hn⟩))
  · unfold wpOp
    simp only [hk, wk, if_true]
    exact .inl (h2 _ (fun a' w' hS hn => ⟨hS, hn⟩))
  · unfold wpOp
    simp only [hl, wl, if_true]
    exact .inl (h3 _ (fun a' w' hS hn => ⟨hS, hn⟩))
end
theorem rdc_keepH {W V : World} {g : Nat} {ts : List Slt} (h : Rdc W g ts) (hb : Below W.heap.size W V) : Rdc V g ts := by
  obtain ⟨u, h1, h2⟩ := h
  exact ⟨u, keep hb h1, h2.keep hb⟩
/-- A header's fields. -/
def hfd (pub : List B) (prev m : Nat) : List Fd := fdk hdr (hxs 0 prev m) [pub, [], []] 3
theorem hfd_at (g : Nat) (pub : List B) (prev m : Nat) : fdk hdr (hxs g prev m) [pub, [], []] 3 = hfd pub prev m := rfl
theorem hfd_at3 (g : Nat) (pub : List B) (prev m : Nat) : fdk hdr (hxs g prev m) [pub, [], []] hdr.length = hfd pub prev m := rfl
theorem hdr_chk (g prev m : Nat) (h1 : prev < 4294967296) (h2 : m < 4294967296) : chF hdr (hxs g prev m) 1 = none := by
  have h := hdr_ck g prev m h1 h2
  unfold ckF at h
  rwa [if_neg (by decide), if_neg (by show ¬ (3 : Nat) ≠ 3; decide)] at h
set_option maxRecDepth 100000 in
set_option maxHeartbeats 16000000 in
theorem r_PackHeader (pub : List B) (hp : pub.length = 32) (prev m : Nat) (h1 : prev < 4294967296) (h2 : m < 4294967296) (w : World) : Calls Tryz.prog 10 #[.agg (hrw pub prev m)] w fun e w' => ∃ u, e = .returned u ∧ Own w' w.heap.size u (eout (hfd pub prev m)) ∧ Below w.heap.size w w' := by
  have wp1 : IntKind.wrap .u64 (prev : Int) = (prev : Int) := by show (prev : Int) % 18446744073709551616 = prev; omega
  have wp2 : IntKind.wrap .u64 (m : Int) = (m : Int) := by show (m : Int) % 18446744073709551616 = m; omega
  have RH := hp1_0 w (.cells (hrw pub prev m) 26)
  have hw : Below w.heap.size w (w.alloc (.cells (hrw pub prev m) 26)) := (Below.refl _ _).alloc (Nat.le_refl _) _
  have hone : (#[Value.int .i64 0, .int .i64 0, .int .i64 0] : Array Value).all (·.oneCell') = true := by simp [Value.oneCell']
  go_enter Tryz.func10, Tryz.ntmps10
  go_upto_region 1 with (first | (refine wpList_box rfl 26 _ rfl _ rfl (bHdr _) ?_) | fail)
  try simp only [Act.put, List.setIfInBounds_toArray, List.set_cons_succ, List.set_cons_zero]
  generalize w.alloc (.cells (hrw pub prev m) 26) = w0 at *
  have hbd : Below w0.heap.size w0 w0.drew := below_drN (Below.refl _ _) 1
  replace RH := keep hbd RH
  replace hw := Below.after hw hbd
  clear hbd
  refine wp_region_noPanic ?_
  refine wp_region_held (S := fun W : World => W.heap[w.heap.size]? = some (.cells (hrw pub prev m) 26 (0, 0))) (by kernel_rfl) ?_
  change wpAnyH _ _ _ _ _ _ _ _ (World.drew _)
  generalize w0.drew = w1 at *
  refine wpAnyH_take (i := 1) (v := ?v1) rfl (by kernel_rfl) (by kernel_rfl) (by kernel_rfl) (fun _ _ _ h => h) (Or.inl ⟨by rfl, ?y1⟩) (RH) ?r1
  case y1 =>
    intro w_ hS_
    go_simp
    try with_reducible rfl
  simp only [Act.put, List.getElem_toArray, List.getElem_cons_succ, List.getElem_cons_zero, List.setIfInBounds_toArray, List.set_cons_succ, List.set_cons_zero]
  refine wpAnyH_take (i := 2) (v := .slice (some ⟨w.heap.size, 0, none⟩) 32 32) rfl (by kernel_rfl) (by kernel_rfl) (by kernel_rfl) (fun _ _ _ h => h) (Or.inl ⟨by rfl, ?y2⟩) (RH) ?r2
  case y2 =>
    intro w_ hS_
    go_simp
    try with_reducible rfl
  simp only [Act.put, List.getElem_toArray, List.getElem_cons_succ, List.getElem_cons_zero, List.setIfInBounds_toArray, List.set_cons_succ, List.set_cons_zero]
  refine wpAnyH_take (i := 3) (v := .agg #[.int .u64 0, .slice (some ⟨w.heap.size, 0, none⟩) 32 32, .slice none 0 0]) rfl (by kernel_rfl) (by kernel_rfl) (by kernel_rfl) (fun _ _ _ h => h) (Or.inl ⟨by rfl, ?y3⟩) (RH) ?r3
  case y3 =>
    intro w_ hS_
    go_simp
    try with_reducible rfl
  simp only [Act.put, List.getElem_toArray, List.getElem_cons_succ, List.getElem_cons_zero, List.setIfInBounds_toArray, List.set_cons_succ, List.set_cons_zero]
  refine wpAnyH_take (i := 4) (v := ?v4) rfl (by kernel_rfl) (by kernel_rfl) (by kernel_rfl) (fun _ _ _ h => h) (Or.inl ⟨by rfl, ?y4⟩) (RH) ?r4
  case y4 =>
    intro w_ hS_
    go_simp
    try with_reducible rfl
  simp only [Act.put, List.getElem_toArray, List.getElem_cons_succ, List.getElem_cons_zero, List.setIfInBounds_toArray, List.set_cons_succ, List.set_cons_zero]
  refine wpAnyH_take (i := 5) (v := .int .u32 (prev : Int)) rfl (by kernel_rfl) (by kernel_rfl) (by kernel_rfl) (fun _ _ _ h => h) (Or.inl ⟨by rfl, ?y5⟩) (RH) ?r5
  case y5 =>
    intro w_ hS_
    have c_ : w_.cell? ⟨w.heap.size, 32, none⟩ = some (.int .u32 (prev : Int)) := by rw [cell_of_row _ _ _ _ _ _ hS_]; exact hrw_prev pub hp prev m
    go_simp
    try with_reducible rfl
  simp only [Act.put, List.getElem_toArray, List.getElem_cons_succ, List.getElem_cons_zero, List.setIfInBounds_toArray, List.set_cons_succ, List.set_cons_zero]
  refine wpAnyH_take (i := 6) (v := .int .u64 (prev : Int)) rfl (by kernel_rfl) (by kernel_rfl) (by kernel_rfl) (fun _ _ _ h => h) (Or.inl ⟨by rfl, ?y6⟩) (RH) ?r6
  case y6 =>
    intro w_ hS_
    go_simp
    try with_reducible rfl
  simp only [Act.put, List.getElem_toArray, List.getElem_cons_succ, List.getElem_cons_zero, List.setIfInBounds_toArray, List.set_cons_succ, List.set_cons_zero]
  refine wpAnyH_take (i := 7) (v := .agg #[.int .u64 (prev : Int), .slice none 0 0, .slice none 0 0]) rfl (by kernel_rfl) (by kernel_rfl) (by kernel_rfl) (fun _ _ _ h => h) (Or.inl ⟨by rfl, ?y7⟩) (RH) ?r7
  case y7 =>
    intro w_ hS_
    go_simp
    try with_reducible rfl
  simp only [Act.put, List.getElem_toArray, List.getElem_cons_succ, List.getElem_cons_zero, List.setIfInBounds_toArray, List.set_cons_succ, List.set_cons_zero]
  refine wpAnyH_take (i := 8) (v := ?v8) rfl (by kernel_rfl) (by kernel_rfl) (by kernel_rfl) (fun _ _ _ h => h) (Or.inl ⟨by rfl, ?y8⟩) (RH) ?r8
  case y8 =>
    intro w_ hS_
    go_simp
    try with_reducible rfl
  simp only [Act.put, List.getElem_toArray, List.getElem_cons_succ, List.getElem_cons_zero, List.setIfInBounds_toArray, List.set_cons_succ, List.set_cons_zero]
  refine wpAnyH_take (i := 9) (v := .int .u32 (m : Int)) rfl (by kernel_rfl) (by kernel_rfl) (by kernel_rfl) (fun _ _ _ h => h) (Or.inl ⟨by rfl, ?y9⟩) (RH) ?r9
  case y9 =>
    intro w_ hS_
    have c_ : w_.cell? ⟨w.heap.size, 33, none⟩ = some (.int .u32 (m : Int)) := by rw [cell_of_row _ _ _ _ _ _ hS_]; exact hrw_m pub hp prev m
    go_simp
    try with_reducible rfl
  simp only [Act.put, List.getElem_toArray, List.getElem_cons_succ, List.getElem_cons_zero, List.setIfInBounds_toArray, List.set_cons_succ, List.set_cons_zero]
  refine wpAnyH_take (i := 10) (v := .int .u64 (m : Int)) rfl (by kernel_rfl) (by kernel_rfl) (by kernel_rfl) (fun _ _ _ h => h) (Or.inl ⟨by rfl, ?y10⟩) (RH) ?r10
  case y10 =>
    intro w_ hS_
    go_simp
    try with_reducible rfl
  simp only [Act.put, List.getElem_toArray, List.getElem_cons_succ, List.getElem_cons_zero, List.setIfInBounds_toArray, List.set_cons_succ, List.set_cons_zero]
  refine wpAnyH_take (i := 11) (v := .agg #[.int .u64 (m : Int), .slice none 0 0, .slice none 0 0]) rfl (by kernel_rfl) (by kernel_rfl) (by kernel_rfl) (fun _ _ _ h => h) (Or.inl ⟨by rfl, ?y11⟩) (RH) ?r11
  case y11 =>
    intro w_ hS_
    go_simp
    try with_reducible rfl
  simp only [Act.put, List.getElem_toArray, List.getElem_cons_succ, List.getElem_cons_zero, List.setIfInBounds_toArray, List.set_cons_succ, List.set_cons_zero]
  refine wpAnyH_three (j := 0) (k := 12) (l := 18) (fuel := 9) (by kernel_rfl) rfl rfl rfl (by kernel_rfl) (by kernel_rfl) (by kernel_rfl) (fun K_ hK_ => ?_) (fun K_ hK_ => ?_) (fun K_ hK_ => ?_)
  · have cH := (r_header w1).mono (fun e w' h => (by obtain ⟨⟨q, h1, h2, h3⟩, h4⟩ := h; exact ⟨_, h1, q, rfl, h3, h4⟩ : ∃ v, e = .returned v ∧ ∃ q, v = .pointer (some ⟨q, 0, none⟩) ∧ Rdc w' q hdr ∧ Below w1.heap.size w1 w'))
    refine wp_call_ex (R := fun v w' => ∃ q, v = .pointer (some ⟨q, 0, none⟩) ∧ Rdc w' q hdr ∧ Below w1.heap.size w1 w') (by kernel_rfl) cH (fun v_ q1 hX_ => ?_)
    obtain ⟨q, rfl, hC, hb_⟩ := hX_
    replace RH := keep hb_ RH
    replace hw := Below.after hw hb_
    clear hb_ cH
    refine hK_ _ _ (RH) ?_
    simp only [Act.put, List.getElem_toArray, List.getElem_cons_zero, List.setIfInBounds_toArray, List.set_cons_succ, List.set_cons_zero]
    clear hK_
    refine wpAnyH_two (j := 12) (k := 18) (fuel := 8) (by kernel_rfl) rfl rfl (by kernel_rfl) (by kernel_rfl) (fun K_ hK_ => ?_) (fun K_ hK_ => ?_)
    · refine wp_val_op (.slice (some ⟨q1.heap.size, 0, none⟩) 3 3) (w' := q1.alloc (.cells (hps w.heap.size prev m) 62)) (by kernel_rfl) ?_
      have hPs : Bx (q1.alloc (.cells (hps w.heap.size prev m) 62)) q1.heap.size (hps w.heap.size prev m) := ⟨_, hp1_0 q1 _⟩
      have hb_ : Below q1.heap.size q1 (q1.alloc (.cells (hps w.heap.size prev m) 62)) := (Below.refl _ _).alloc (Nat.le_refl _) _
      replace RH := keep hb_ RH
      replace hC := rdc_keepH hC hb_
      replace hw := Below.after hw hb_
      clear hb_
      refine hK_ _ _ (RH) ?_
      simp only [Act.put, List.getElem_toArray, List.getElem_cons_succ, List.getElem_cons_zero, List.setIfInBounds_toArray, List.set_cons_succ, List.set_cons_zero]
      clear hK_
      generalize q1.alloc (.cells (hps w.heap.size prev m) 62) = q2 at *
      generalize q1.heap.size = gp at *
      refine wpAnyH_take (i := 13) (v := .agg #[.int .u64 0, .slice none 0 0, .slice (some ⟨gp, 0, none⟩) 3 3]) rfl (by kernel_rfl) (by kernel_rfl) (by kernel_rfl) (fun _ _ _ h => h) (Or.inl ⟨by rfl, ?y12⟩) (RH) ?r12
      case y12 =>
        intro w_ hS_
        go_simp
        try with_reducible rfl
      simp only [Act.put, List.getElem_toArray, List.getElem_cons_succ, List.getElem_cons_zero, List.setIfInBounds_toArray, List.set_cons_succ, List.set_cons_zero]
      refine wpAnyH_two (j := 14) (k := 18) (fuel := 6) (by kernel_rfl) rfl rfl (by kernel_rfl) (by kernel_rfl) (fun K_ hK_ => ?_) (fun K_ hK_ => ?_)
      · have cE := r_EncodeF hdr_flat (by decide) none 0 (.slice (some ⟨gp, 0, none⟩) 3 3) (hxs w.heap.size prev m) [pub, [], []] rfl (hdr_chk _ _ _ h1 h2) q2 hC (hdr_prt h1 h2 hPs) (hdr_bys hp h1 h2 ⟨_, RH⟩)
        rw [hfd_at3] at cE
        have cE2 := cE.mono (fun e w' h => (by obtain ⟨u, e1, e2, e3⟩ := h; exact ⟨_, e1, u, rfl, e2, e3⟩ : ∃ v, e = .returned v ∧ ∃ u, v = .tuple #[u, .agg #[.int .i64 0, .int .i64 0, .int .i64 0]] ∧ Own w' q2.heap.size u (eout (hfd pub prev m)) ∧ Below q2.heap.size q2 w'))
        refine wp_call_ex (R := fun v w' => ∃ u, v = .tuple #[u, .agg #[.int .i64 0, .int .i64 0, .int .i64 0]] ∧ Own w' q2.heap.size u (eout (hfd pub prev m)) ∧ Below q2.heap.size q2 w') (by kernel_rfl) cE2 (fun v_ q3 hX_ => ?_)
        obtain ⟨u, rfl, hU, hb_⟩ := hX_
        have hU2 := own_down hU hw.size
        clear cE cE2 hC hPs
        replace RH := keep hb_ RH
        replace hw := Below.after hw hb_
        clear hb_ hU
        obtain ⟨L, hL⟩ : ∃ L, (eout (hfd pub prev m)) = L := ⟨_, rfl⟩
        rw [hL] at hU2
        replace hL := hide hL
        obtain ⟨ua, uc, rfl⟩ := slen_own hU2
        refine hK_ _ _ (RH) ?_
        simp only [Act.put, List.getElem_toArray, List.getElem_cons_succ, List.getElem_cons_zero, List.setIfInBounds_toArray, List.set_cons_succ, List.set_cons_zero]
        clear hK_
        refine wpAnyH_take (i := 15) (v := ?v13) rfl (by kernel_rfl) (by kernel_rfl) (by kernel_rfl) (fun _ _ _ h => h) (Or.inl ⟨by rfl, ?y13⟩) (RH) ?r13
        case y13 =>
          intro w_ hS_
          go_simp
          try with_reducible rfl
        simp only [Act.put, List.getElem_toArray, List.getElem_cons_succ, List.getElem_cons_zero, List.setIfInBounds_toArray, List.set_cons_succ, List.set_cons_zero]
        refine wpAnyH_take (i := 16) (v := ?v14) rfl (by kernel_rfl) (by kernel_rfl) (by kernel_rfl) (fun _ _ _ h => h) (Or.inl ⟨by rfl, ?y14⟩) (RH) ?r14
        case y14 =>
          intro w_ hS_
          go_simp
          try with_reducible rfl
        simp only [Act.put, List.getElem_toArray, List.getElem_cons_succ, List.getElem_cons_zero, List.setIfInBounds_toArray, List.set_cons_succ, List.set_cons_zero]
        refine wpAnyH_take (i := 17) (v := ?v15) rfl (by kernel_rfl) (by kernel_rfl) (by kernel_rfl) (fun _ _ _ h => h) (Or.inl ⟨by rfl, ?y15⟩) (RH) ?r15
        case y15 =>
          intro w_ hS_
          go_simp
          try with_reducible rfl
        simp only [Act.put, List.getElem_toArray, List.getElem_cons_succ, List.getElem_cons_zero, List.setIfInBounds_toArray, List.set_cons_succ, List.set_cons_zero]
        refine wpAnyH_one (k := 18) (fuel := 2) (by kernel_rfl) rfl (by kernel_rfl) (fun K_ hK_ => ?_)
        have hne0 := fun k e => (own_lt hU2 k e).2
        refine wp_world_op (.pointer (some ⟨q3.heap.size, 0, none⟩)) (q3.alloc (.cells #[.int .i64 0, .int .i64 0, .int .i64 0] 40)) (by kernel_rfl) ?_
        have hb_ : Below q3.heap.size q3 (q3.alloc (.cells #[.int .i64 0, .int .i64 0, .int .i64 0] 40)) := (Below.refl _ _).alloc (Nat.le_refl _) _
        have sz_g6 : w.heap.size ≤ q3.heap.size := hw.size
        have lt_RH_g6 := lt_of_row RH
        have RF := hp1_0 q3 (.cells #[.int .i64 0, .int .i64 0, .int .i64 0] 40)
        replace RH := keep hb_ RH
        replace hU2 := hU2.keep hb_
        replace hw := Below.after hw hb_
        clear hb_
        refine hK_ _ _ (RH) ?_
        simp only [Act.put, List.getElem_toArray, List.getElem_cons_succ, List.getElem_cons_zero, List.setIfInBounds_toArray, List.set_cons_succ, List.set_cons_zero]
        clear hK_
        generalize q3.alloc (.cells #[.int .i64 0, .int .i64 0, .int .i64 0] 40) = q5 at *
        generalize q3.heap.size = g6 at *
        have hne : ∀ k, (Value.slice ua L.length uc).ownBlock = some k → k ≠ g6 := fun k e => by have := hne0 k e; omega
        refine wpAnyH_take (i := 19) (v := ?v16) rfl (by kernel_rfl) (by kernel_rfl) (by kernel_rfl) (fun _ _ _ h => h) (Or.inl ⟨by rfl, ?y16⟩) (RH) ?r16
        case y16 =>
          intro w_ hS_
          go_simp
          try with_reducible rfl
        simp only [Act.put, List.getElem_toArray, List.getElem_cons_succ, List.getElem_cons_zero, List.setIfInBounds_toArray, List.set_cons_succ, List.set_cons_zero]
        refine wpAnyH_one (k := 20) (fuel := 0) (by kernel_rfl) rfl (by kernel_rfl) (fun K_ hK_ => ?_)
        refine wp_store_row 40 _ _ rfl (g6) #[.int .i64 0, .int .i64 0, .int .i64 0] rfl rfl 40 _ RF infoFt rfl hone ?_
        replace RH := (setRow_other q5 (g6) (w.heap.size) #[.int .i64 0, .int .i64 0, .int .i64 0] (by omega)).trans RH
        replace hU2 : Own (q5.setRow g6 #[.int .i64 0, .int .i64 0, .int .i64 0]) w.heap.size (.slice ua L.length uc) L := own_but hU2 fun q hq => setRow_other q5 (g6) q _ (by have := hne q hq; omega)
        replace hw := below_setRow hw (show w.heap.size ≤ g6 by omega) #[.int .i64 0, .int .i64 0, .int .i64 0]
        refine hK_ _ _ (RH) ?_
        simp only [Act.put, List.getElem_toArray, List.getElem_cons_succ, List.getElem_cons_zero]
        clear hK_
        generalize q5.setRow g6 #[.int .i64 0, .int .i64 0, .int .i64 0] = q7 at *
        refine wpAnyH_done (by kernel_rfl) ?_ _
        refine NoPanic.normal ?_
        have A1 := hide hU2
        have A2 := hide hw
        clear hU2 hw RH RF hne
        go_wp2_with (fail)
        go_ret
        exact ⟨_, rfl, by rw [hL.out]; exact A1.out, A2.out⟩
      · refine wp_world_op (.pointer (some ⟨q2.heap.size, 0, none⟩)) (q2.alloc (.cells #[.int .i64 0, .int .i64 0, .int .i64 0] 40)) (by kernel_rfl) ?_
        have hb_ : Below q2.heap.size q2 (q2.alloc (.cells #[.int .i64 0, .int .i64 0, .int .i64 0] 40)) := (Below.refl _ _).alloc (Nat.le_refl _) _
        have sz_g10 : w.heap.size ≤ q2.heap.size := hw.size
        have lt_RH_g10 := lt_of_row RH
        have RF := hp1_0 q2 (.cells #[.int .i64 0, .int .i64 0, .int .i64 0] 40)
        replace RH := keep hb_ RH
        replace hC := rdc_keepH hC hb_
        replace hPs := hPs.keep hb_
        replace hw := Below.after hw hb_
        clear hb_
        refine hK_ _ _ (RH) ?_
        simp only [Act.put, List.getElem_toArray, List.getElem_cons_succ, List.getElem_cons_zero, List.setIfInBounds_toArray, List.set_cons_succ, List.set_cons_zero]
        clear hK_
        generalize q2.alloc (.cells #[.int .i64 0, .int .i64 0, .int .i64 0] 40) = q9 at *
        generalize q2.heap.size = g10 at *
        refine wpAnyH_one (k := 14) (fuel := 5) (by kernel_rfl) rfl (by kernel_rfl) (fun K_ hK_ => ?_)
        have cE := r_EncodeF hdr_flat (by decide) none 0 (.slice (some ⟨gp, 0, none⟩) 3 3) (hxs w.heap.size prev m) [pub, [], []] rfl (hdr_chk _ _ _ h1 h2) q9 hC (hdr_prt h1 h2 hPs) (hdr_bys hp h1 h2 ⟨_, RH⟩)
        rw [hfd_at3] at cE
        have cE2 := cE.mono (fun e w' h => (by obtain ⟨u, e1, e2, e3⟩ := h; exact ⟨_, e1, u, rfl, e2, e3⟩ : ∃ v, e = .returned v ∧ ∃ u, v = .tuple #[u, .agg #[.int .i64 0, .int .i64 0, .int .i64 0]] ∧ Own w' q9.heap.size u (eout (hfd pub prev m)) ∧ Below q9.heap.size q9 w'))
        refine wp_call_ex (R := fun v w' => ∃ u, v = .tuple #[u, .agg #[.int .i64 0, .int .i64 0, .int .i64 0]] ∧ Own w' q9.heap.size u (eout (hfd pub prev m)) ∧ Below q9.heap.size q9 w') (by kernel_rfl) cE2 (fun v_ q11 hX_ => ?_)
        obtain ⟨u, rfl, hU, hb_⟩ := hX_
        have hU2 := own_down hU hw.size
        have hne : ∀ k, u.ownBlock = some k → k ≠ g10 := fun k e => by have := own_low hU k e; have := lt_of_row RF; omega
        clear cE cE2 hC hPs
        replace RH := keep hb_ RH
        replace RF := keep hb_ RF
        replace hw := Below.after hw hb_
        clear hb_ hU
        obtain ⟨L, hL⟩ : ∃ L, (eout (hfd pub prev m)) = L := ⟨_, rfl⟩
        rw [hL] at hU2
        replace hL := hide hL
        obtain ⟨ua, uc, rfl⟩ := slen_own hU2
        refine hK_ _ _ (RH) ?_
        simp only [Act.put, List.getElem_toArray, List.getElem_cons_succ, List.getElem_cons_zero, List.setIfInBounds_toArray, List.set_cons_succ, List.set_cons_zero]
        clear hK_
        refine wpAnyH_take (i := 15) (v := ?v17) rfl (by kernel_rfl) (by kernel_rfl) (by kernel_rfl) (fun _ _ _ h => h) (Or.inl ⟨by rfl, ?y17⟩) (RH) ?r17
        case y17 =>
          intro w_ hS_
          go_simp
          try with_reducible rfl
        simp only [Act.put, List.getElem_toArray, List.getElem_cons_succ, List.getElem_cons_zero, List.setIfInBounds_toArray, List.set_cons_succ, List.set_cons_zero]
        refine wpAnyH_take (i := 16) (v := ?v18) rfl (by kernel_rfl) (by kernel_rfl) (by kernel_rfl) (fun _ _ _ h => h) (Or.inl ⟨by rfl, ?y18⟩) (RH) ?r18
        case y18 =>
          intro w_ hS_
          go_simp
          try with_reducible rfl
        simp only [Act.put, List.getElem_toArray, List.getElem_cons_succ, List.getElem_cons_zero, List.setIfInBounds_toArray, List.set_cons_succ, List.set_cons_zero]
        refine wpAnyH_take (i := 17) (v := ?v19) rfl (by kernel_rfl) (by kernel_rfl) (by kernel_rfl) (fun _ _ _ h => h) (Or.inl ⟨by rfl, ?y19⟩) (RH) ?r19
        case y19 =>
          intro w_ hS_
          go_simp
          try with_reducible rfl
        simp only [Act.put, List.getElem_toArray, List.getElem_cons_succ, List.getElem_cons_zero, List.setIfInBounds_toArray, List.set_cons_succ, List.set_cons_zero]
        refine wpAnyH_take (i := 19) (v := ?v20) rfl (by kernel_rfl) (by kernel_rfl) (by kernel_rfl) (fun _ _ _ h => h) (Or.inl ⟨by rfl, ?y20⟩) (RH) ?r20
        case y20 =>
          intro w_ hS_
          go_simp
          try with_reducible rfl
        simp only [Act.put, List.getElem_toArray, List.getElem_cons_succ, List.getElem_cons_zero, List.setIfInBounds_toArray, List.set_cons_succ, List.set_cons_zero]
        refine wpAnyH_one (k := 20) (fuel := 0) (by kernel_rfl) rfl (by kernel_rfl) (fun K_ hK_ => ?_)
        refine wp_store_row 40 _ _ rfl (g10) #[.int .i64 0, .int .i64 0, .int .i64 0] rfl rfl 40 _ RF infoFt rfl hone ?_
        replace RH := (setRow_other q11 (g10) (w.heap.size) #[.int .i64 0, .int .i64 0, .int .i64 0] (by omega)).trans RH
        replace hU2 : Own (q11.setRow g10 #[.int .i64 0, .int .i64 0, .int .i64 0]) w.heap.size (.slice ua L.length uc) L := own_but hU2 fun q hq => setRow_other q11 (g10) q _ (by have := hne q hq; omega)
        replace hw := below_setRow hw (show w.heap.size ≤ g10 by omega) #[.int .i64 0, .int .i64 0, .int .i64 0]
        refine hK_ _ _ (RH) ?_
        simp only [Act.put, List.getElem_toArray, List.getElem_cons_succ, List.getElem_cons_zero]
        clear hK_
        generalize q11.setRow g10 #[.int .i64 0, .int .i64 0, .int .i64 0] = q12 at *
        refine wpAnyH_done (by kernel_rfl) ?_ _
        refine NoPanic.normal ?_
        have A1 := hide hU2
        have A2 := hide hw
        clear hU2 hw RH RF hne
        go_wp2_with (fail)
        go_ret
        exact ⟨_, rfl, by rw [hL.out]; exact A1.out, A2.out⟩
    · refine wp_world_op (.pointer (some ⟨q1.heap.size, 0, none⟩)) (q1.alloc (.cells #[.int .i64 0, .int .i64 0, .int .i64 0] 40)) (by kernel_rfl) ?_
      have hb_ : Below q1.heap.size q1 (q1.alloc (.cells #[.int .i64 0, .int .i64 0, .int .i64 0] 40)) := (Below.refl _ _).alloc (Nat.le_refl _) _
      have sz_g15 : w.heap.size ≤ q1.heap.size := hw.size
      have lt_RH_g15 := lt_of_row RH
      have RF := hp1_0 q1 (.cells #[.int .i64 0, .int .i64 0, .int .i64 0] 40)
      replace RH := keep hb_ RH
      replace hC := rdc_keepH hC hb_
      replace hw := Below.after hw hb_
      clear hb_
      refine hK_ _ _ (RH) ?_
      simp only [Act.put, List.getElem_toArray, List.getElem_cons_succ, List.getElem_cons_zero, List.setIfInBounds_toArray, List.set_cons_succ, List.set_cons_zero]
      clear hK_
      generalize q1.alloc (.cells #[.int .i64 0, .int .i64 0, .int .i64 0] 40) = q14 at *
      generalize q1.heap.size = g15 at *
      refine wpAnyH_one (k := 12) (fuel := 7) (by kernel_rfl) rfl (by kernel_rfl) (fun K_ hK_ => ?_)
      refine wp_val_op (.slice (some ⟨q14.heap.size, 0, none⟩) 3 3) (w' := q14.alloc (.cells (hps w.heap.size prev m) 62)) (by kernel_rfl) ?_
      have hPs : Bx (q14.alloc (.cells (hps w.heap.size prev m) 62)) q14.heap.size (hps w.heap.size prev m) := ⟨_, hp1_0 q14 _⟩
      have hb_ : Below q14.heap.size q14 (q14.alloc (.cells (hps w.heap.size prev m) 62)) := (Below.refl _ _).alloc (Nat.le_refl _) _
      replace RH := keep hb_ RH
      replace RF := keep hb_ RF
      replace hC := rdc_keepH hC hb_
      replace hw := Below.after hw hb_
      clear hb_
      refine hK_ _ _ (RH) ?_
      simp only [Act.put, List.getElem_toArray, List.getElem_cons_succ, List.getElem_cons_zero, List.setIfInBounds_toArray, List.set_cons_succ, List.set_cons_zero]
      clear hK_
      generalize q14.alloc (.cells (hps w.heap.size prev m) 62) = q16 at *
      generalize q14.heap.size = gp at *
      refine wpAnyH_take (i := 13) (v := .agg #[.int .u64 0, .slice none 0 0, .slice (some ⟨gp, 0, none⟩) 3 3]) rfl (by kernel_rfl) (by kernel_rfl) (by kernel_rfl) (fun _ _ _ h => h) (Or.inl ⟨by rfl, ?y21⟩) (RH) ?r21
      case y21 =>
        intro w_ hS_
        go_simp
        try with_reducible rfl
      simp only [Act.put, List.getElem_toArray, List.getElem_cons_succ, List.getElem_cons_zero, List.setIfInBounds_toArray, List.set_cons_succ, List.set_cons_zero]
      refine wpAnyH_one (k := 14) (fuel := 5) (by kernel_rfl) rfl (by kernel_rfl) (fun K_ hK_ => ?_)
      have cE := r_EncodeF hdr_flat (by decide) none 0 (.slice (some ⟨gp, 0, none⟩) 3 3) (hxs w.heap.size prev m) [pub, [], []] rfl (hdr_chk _ _ _ h1 h2) q16 hC (hdr_prt h1 h2 hPs) (hdr_bys hp h1 h2 ⟨_, RH⟩)
      rw [hfd_at3] at cE
      have cE2 := cE.mono (fun e w' h => (by obtain ⟨u, e1, e2, e3⟩ := h; exact ⟨_, e1, u, rfl, e2, e3⟩ : ∃ v, e = .returned v ∧ ∃ u, v = .tuple #[u, .agg #[.int .i64 0, .int .i64 0, .int .i64 0]] ∧ Own w' q16.heap.size u (eout (hfd pub prev m)) ∧ Below q16.heap.size q16 w'))
      refine wp_call_ex (R := fun v w' => ∃ u, v = .tuple #[u, .agg #[.int .i64 0, .int .i64 0, .int .i64 0]] ∧ Own w' q16.heap.size u (eout (hfd pub prev m)) ∧ Below q16.heap.size q16 w') (by kernel_rfl) cE2 (fun v_ q17 hX_ => ?_)
      obtain ⟨u, rfl, hU, hb_⟩ := hX_
      have hU2 := own_down hU hw.size
      have hne : ∀ k, u.ownBlock = some k → k ≠ g15 := fun k e => by have := own_low hU k e; have := lt_of_row RF; omega
      clear cE cE2 hC hPs
      replace RH := keep hb_ RH
      replace RF := keep hb_ RF
      replace hw := Below.after hw hb_
      clear hb_ hU
      obtain ⟨L, hL⟩ : ∃ L, (eout (hfd pub prev m)) = L := ⟨_, rfl⟩
      rw [hL] at hU2
      replace hL := hide hL
      obtain ⟨ua, uc, rfl⟩ := slen_own hU2
      refine hK_ _ _ (RH) ?_
      simp only [Act.put, List.getElem_toArray, List.getElem_cons_succ, List.getElem_cons_zero, List.setIfInBounds_toArray, List.set_cons_succ, List.set_cons_zero]
      clear hK_
      refine wpAnyH_take (i := 15) (v := ?v22) rfl (by kernel_rfl) (by kernel_rfl) (by kernel_rfl) (fun _ _ _ h => h) (Or.inl ⟨by rfl, ?y22⟩) (RH) ?r22
      case y22 =>
        intro w_ hS_
        go_simp
        try with_reducible rfl
      simp only [Act.put, List.getElem_toArray, List.getElem_cons_succ, List.getElem_cons_zero, List.setIfInBounds_toArray, List.set_cons_succ, List.set_cons_zero]
      refine wpAnyH_take (i := 16) (v := ?v23) rfl (by kernel_rfl) (by kernel_rfl) (by kernel_rfl) (fun _ _ _ h => h) (Or.inl ⟨by rfl, ?y23⟩) (RH) ?r23
      case y23 =>
        intro w_ hS_
        go_simp
        try with_reducible rfl
      simp only [Act.put, List.getElem_toArray, List.getElem_cons_succ, List.getElem_cons_zero, List.setIfInBounds_toArray, List.set_cons_succ, List.set_cons_zero]
      refine wpAnyH_take (i := 17) (v := ?v24) rfl (by kernel_rfl) (by kernel_rfl) (by kernel_rfl) (fun _ _ _ h => h) (Or.inl ⟨by rfl, ?y24⟩) (RH) ?r24
      case y24 =>
        intro w_ hS_
        go_simp
        try with_reducible rfl
      simp only [Act.put, List.getElem_toArray, List.getElem_cons_succ, List.getElem_cons_zero, List.setIfInBounds_toArray, List.set_cons_succ, List.set_cons_zero]
      refine wpAnyH_take (i := 19) (v := ?v25) rfl (by kernel_rfl) (by kernel_rfl) (by kernel_rfl) (fun _ _ _ h => h) (Or.inl ⟨by rfl, ?y25⟩) (RH) ?r25
      case y25 =>
        intro w_ hS_
        go_simp
        try with_reducible rfl
      simp only [Act.put, List.getElem_toArray, List.getElem_cons_succ, List.getElem_cons_zero, List.setIfInBounds_toArray, List.set_cons_succ, List.set_cons_zero]
      refine wpAnyH_one (k := 20) (fuel := 0) (by kernel_rfl) rfl (by kernel_rfl) (fun K_ hK_ => ?_)
      refine wp_store_row 40 _ _ rfl (g15) #[.int .i64 0, .int .i64 0, .int .i64 0] rfl rfl 40 _ RF infoFt rfl hone ?_
      replace RH := (setRow_other q17 (g15) (w.heap.size) #[.int .i64 0, .int .i64 0, .int .i64 0] (by omega)).trans RH
      replace hU2 : Own (q17.setRow g15 #[.int .i64 0, .int .i64 0, .int .i64 0]) w.heap.size (.slice ua L.length uc) L := own_but hU2 fun q hq => setRow_other q17 (g15) q _ (by have := hne q hq; omega)
      replace hw := below_setRow hw (show w.heap.size ≤ g15 by omega) #[.int .i64 0, .int .i64 0, .int .i64 0]
      refine hK_ _ _ (RH) ?_
      simp only [Act.put, List.getElem_toArray, List.getElem_cons_succ, List.getElem_cons_zero]
      clear hK_
      generalize q17.setRow g15 #[.int .i64 0, .int .i64 0, .int .i64 0] = q18 at *
      refine wpAnyH_done (by kernel_rfl) ?_ _
      refine NoPanic.normal ?_
      have A1 := hide hU2
      have A2 := hide hw
      clear hU2 hw RH RF hne
      go_wp2_with (fail)
      go_ret
      exact ⟨_, rfl, by rw [hL.out]; exact A1.out, A2.out⟩
  · refine wp_val_op (.slice (some ⟨w1.heap.size, 0, none⟩) 3 3) (w' := w1.alloc (.cells (hps w.heap.size prev m) 62)) (by kernel_rfl) ?_
    have hPs : Bx (w1.alloc (.cells (hps w.heap.size prev m) 62)) w1.heap.size (hps w.heap.size prev m) := ⟨_, hp1_0 w1 _⟩
    have hb_ : Below w1.heap.size w1 (w1.alloc (.cells (hps w.heap.size prev m) 62)) := (Below.refl _ _).alloc (Nat.le_refl _) _
    replace RH := keep hb_ RH
    replace hw := Below.after hw hb_
    clear hb_
    refine hK_ _ _ (RH) ?_
    simp only [Act.put, List.getElem_toArray, List.getElem_cons_succ, List.getElem_cons_zero, List.setIfInBounds_toArray, List.set_cons_succ, List.set_cons_zero]
    clear hK_
    generalize w1.alloc (.cells (hps w.heap.size prev m) 62) = q19 at *
    generalize w1.heap.size = gp at *
    refine wpAnyH_take (i := 13) (v := .agg #[.int .u64 0, .slice none 0 0, .slice (some ⟨gp, 0, none⟩) 3 3]) rfl (by kernel_rfl) (by kernel_rfl) (by kernel_rfl) (fun _ _ _ h => h) (Or.inl ⟨by rfl, ?y26⟩) (RH) ?r26
    case y26 =>
      intro w_ hS_
      go_simp
      try with_reducible rfl
    simp only [Act.put, List.getElem_toArray, List.getElem_cons_succ, List.getElem_cons_zero, List.setIfInBounds_toArray, List.set_cons_succ, List.set_cons_zero]
    refine wpAnyH_two (j := 0) (k := 18) (fuel := 7) (by kernel_rfl) rfl rfl (by kernel_rfl) (by kernel_rfl) (fun K_ hK_ => ?_) (fun K_ hK_ => ?_)
    · have cH := (r_header q19).mono (fun e w' h => (by obtain ⟨⟨q, h1, h2, h3⟩, h4⟩ := h; exact ⟨_, h1, q, rfl, h3, h4⟩ : ∃ v, e = .returned v ∧ ∃ q, v = .pointer (some ⟨q, 0, none⟩) ∧ Rdc w' q hdr ∧ Below q19.heap.size q19 w'))
      refine wp_call_ex (R := fun v w' => ∃ q, v = .pointer (some ⟨q, 0, none⟩) ∧ Rdc w' q hdr ∧ Below q19.heap.size q19 w') (by kernel_rfl) cH (fun v_ q20 hX_ => ?_)
      obtain ⟨q, rfl, hC, hb_⟩ := hX_
      replace RH := keep hb_ RH
      replace hPs := hPs.keep hb_
      replace hw := Below.after hw hb_
      clear hb_ cH
      refine hK_ _ _ (RH) ?_
      simp only [Act.put, List.getElem_toArray, List.getElem_cons_zero, List.setIfInBounds_toArray, List.set_cons_succ, List.set_cons_zero]
      clear hK_
      refine wpAnyH_two (j := 14) (k := 18) (fuel := 6) (by kernel_rfl) rfl rfl (by kernel_rfl) (by kernel_rfl) (fun K_ hK_ => ?_) (fun K_ hK_ => ?_)
      · have cE := r_EncodeF hdr_flat (by decide) none 0 (.slice (some ⟨gp, 0, none⟩) 3 3) (hxs w.heap.size prev m) [pub, [], []] rfl (hdr_chk _ _ _ h1 h2) q20 hC (hdr_prt h1 h2 hPs) (hdr_bys hp h1 h2 ⟨_, RH⟩)
        rw [hfd_at3] at cE
        have cE2 := cE.mono (fun e w' h => (by obtain ⟨u, e1, e2, e3⟩ := h; exact ⟨_, e1, u, rfl, e2, e3⟩ : ∃ v, e = .returned v ∧ ∃ u, v = .tuple #[u, .agg #[.int .i64 0, .int .i64 0, .int .i64 0]] ∧ Own w' q20.heap.size u (eout (hfd pub prev m)) ∧ Below q20.heap.size q20 w'))
        refine wp_call_ex (R := fun v w' => ∃ u, v = .tuple #[u, .agg #[.int .i64 0, .int .i64 0, .int .i64 0]] ∧ Own w' q20.heap.size u (eout (hfd pub prev m)) ∧ Below q20.heap.size q20 w') (by kernel_rfl) cE2 (fun v_ q21 hX_ => ?_)
        obtain ⟨u, rfl, hU, hb_⟩ := hX_
        have hU2 := own_down hU hw.size
        clear cE cE2 hC hPs
        replace RH := keep hb_ RH
        replace hw := Below.after hw hb_
        clear hb_ hU
        obtain ⟨L, hL⟩ : ∃ L, (eout (hfd pub prev m)) = L := ⟨_, rfl⟩
        rw [hL] at hU2
        replace hL := hide hL
        obtain ⟨ua, uc, rfl⟩ := slen_own hU2
        refine hK_ _ _ (RH) ?_
        simp only [Act.put, List.getElem_toArray, List.getElem_cons_succ, List.getElem_cons_zero, List.setIfInBounds_toArray, List.set_cons_succ, List.set_cons_zero]
        clear hK_
        refine wpAnyH_take (i := 15) (v := ?v27) rfl (by kernel_rfl) (by kernel_rfl) (by kernel_rfl) (fun _ _ _ h => h) (Or.inl ⟨by rfl, ?y27⟩) (RH) ?r27
        case y27 =>
          intro w_ hS_
          go_simp
          try with_reducible rfl
        simp only [Act.put, List.getElem_toArray, List.getElem_cons_succ, List.getElem_cons_zero, List.setIfInBounds_toArray, List.set_cons_succ, List.set_cons_zero]
        refine wpAnyH_take (i := 16) (v := ?v28) rfl (by kernel_rfl) (by kernel_rfl) (by kernel_rfl) (fun _ _ _ h => h) (Or.inl ⟨by rfl, ?y28⟩) (RH) ?r28
        case y28 =>
          intro w_ hS_
          go_simp
          try with_reducible rfl
        simp only [Act.put, List.getElem_toArray, List.getElem_cons_succ, List.getElem_cons_zero, List.setIfInBounds_toArray, List.set_cons_succ, List.set_cons_zero]
        refine wpAnyH_take (i := 17) (v := ?v29) rfl (by kernel_rfl) (by kernel_rfl) (by kernel_rfl) (fun _ _ _ h => h) (Or.inl ⟨by rfl, ?y29⟩) (RH) ?r29
        case y29 =>
          intro w_ hS_
          go_simp
          try with_reducible rfl
        simp only [Act.put, List.getElem_toArray, List.getElem_cons_succ, List.getElem_cons_zero, List.setIfInBounds_toArray, List.set_cons_succ, List.set_cons_zero]
        refine wpAnyH_one (k := 18) (fuel := 2) (by kernel_rfl) rfl (by kernel_rfl) (fun K_ hK_ => ?_)
        have hne0 := fun k e => (own_lt hU2 k e).2
        refine wp_world_op (.pointer (some ⟨q21.heap.size, 0, none⟩)) (q21.alloc (.cells #[.int .i64 0, .int .i64 0, .int .i64 0] 40)) (by kernel_rfl) ?_
        have hb_ : Below q21.heap.size q21 (q21.alloc (.cells #[.int .i64 0, .int .i64 0, .int .i64 0] 40)) := (Below.refl _ _).alloc (Nat.le_refl _) _
        have sz_g24 : w.heap.size ≤ q21.heap.size := hw.size
        have lt_RH_g24 := lt_of_row RH
        have RF := hp1_0 q21 (.cells #[.int .i64 0, .int .i64 0, .int .i64 0] 40)
        replace RH := keep hb_ RH
        replace hU2 := hU2.keep hb_
        replace hw := Below.after hw hb_
        clear hb_
        refine hK_ _ _ (RH) ?_
        simp only [Act.put, List.getElem_toArray, List.getElem_cons_succ, List.getElem_cons_zero, List.setIfInBounds_toArray, List.set_cons_succ, List.set_cons_zero]
        clear hK_
        generalize q21.alloc (.cells #[.int .i64 0, .int .i64 0, .int .i64 0] 40) = q23 at *
        generalize q21.heap.size = g24 at *
        have hne : ∀ k, (Value.slice ua L.length uc).ownBlock = some k → k ≠ g24 := fun k e => by have := hne0 k e; omega
        refine wpAnyH_take (i := 19) (v := ?v30) rfl (by kernel_rfl) (by kernel_rfl) (by kernel_rfl) (fun _ _ _ h => h) (Or.inl ⟨by rfl, ?y30⟩) (RH) ?r30
        case y30 =>
          intro w_ hS_
          go_simp
          try with_reducible rfl
        simp only [Act.put, List.getElem_toArray, List.getElem_cons_succ, List.getElem_cons_zero, List.setIfInBounds_toArray, List.set_cons_succ, List.set_cons_zero]
        refine wpAnyH_one (k := 20) (fuel := 0) (by kernel_rfl) rfl (by kernel_rfl) (fun K_ hK_ => ?_)
        refine wp_store_row 40 _ _ rfl (g24) #[.int .i64 0, .int .i64 0, .int .i64 0] rfl rfl 40 _ RF infoFt rfl hone ?_
        replace RH := (setRow_other q23 (g24) (w.heap.size) #[.int .i64 0, .int .i64 0, .int .i64 0] (by omega)).trans RH
        replace hU2 : Own (q23.setRow g24 #[.int .i64 0, .int .i64 0, .int .i64 0]) w.heap.size (.slice ua L.length uc) L := own_but hU2 fun q hq => setRow_other q23 (g24) q _ (by have := hne q hq; omega)
        replace hw := below_setRow hw (show w.heap.size ≤ g24 by omega) #[.int .i64 0, .int .i64 0, .int .i64 0]
        refine hK_ _ _ (RH) ?_
        simp only [Act.put, List.getElem_toArray, List.getElem_cons_succ, List.getElem_cons_zero]
        clear hK_
        generalize q23.setRow g24 #[.int .i64 0, .int .i64 0, .int .i64 0] = q25 at *
        refine wpAnyH_done (by kernel_rfl) ?_ _
        refine NoPanic.normal ?_
        have A1 := hide hU2
        have A2 := hide hw
        clear hU2 hw RH RF hne
        go_wp2_with (fail)
        go_ret
        exact ⟨_, rfl, by rw [hL.out]; exact A1.out, A2.out⟩
      · refine wp_world_op (.pointer (some ⟨q20.heap.size, 0, none⟩)) (q20.alloc (.cells #[.int .i64 0, .int .i64 0, .int .i64 0] 40)) (by kernel_rfl) ?_
        have hb_ : Below q20.heap.size q20 (q20.alloc (.cells #[.int .i64 0, .int .i64 0, .int .i64 0] 40)) := (Below.refl _ _).alloc (Nat.le_refl _) _
        have sz_g28 : w.heap.size ≤ q20.heap.size := hw.size
        have lt_RH_g28 := lt_of_row RH
        have RF := hp1_0 q20 (.cells #[.int .i64 0, .int .i64 0, .int .i64 0] 40)
        replace RH := keep hb_ RH
        replace hPs := hPs.keep hb_
        replace hC := rdc_keepH hC hb_
        replace hw := Below.after hw hb_
        clear hb_
        refine hK_ _ _ (RH) ?_
        simp only [Act.put, List.getElem_toArray, List.getElem_cons_succ, List.getElem_cons_zero, List.setIfInBounds_toArray, List.set_cons_succ, List.set_cons_zero]
        clear hK_
        generalize q20.alloc (.cells #[.int .i64 0, .int .i64 0, .int .i64 0] 40) = q27 at *
        generalize q20.heap.size = g28 at *
        refine wpAnyH_one (k := 14) (fuel := 5) (by kernel_rfl) rfl (by kernel_rfl) (fun K_ hK_ => ?_)
        have cE := r_EncodeF hdr_flat (by decide) none 0 (.slice (some ⟨gp, 0, none⟩) 3 3) (hxs w.heap.size prev m) [pub, [], []] rfl (hdr_chk _ _ _ h1 h2) q27 hC (hdr_prt h1 h2 hPs) (hdr_bys hp h1 h2 ⟨_, RH⟩)
        rw [hfd_at3] at cE
        have cE2 := cE.mono (fun e w' h => (by obtain ⟨u, e1, e2, e3⟩ := h; exact ⟨_, e1, u, rfl, e2, e3⟩ : ∃ v, e = .returned v ∧ ∃ u, v = .tuple #[u, .agg #[.int .i64 0, .int .i64 0, .int .i64 0]] ∧ Own w' q27.heap.size u (eout (hfd pub prev m)) ∧ Below q27.heap.size q27 w'))
        refine wp_call_ex (R := fun v w' => ∃ u, v = .tuple #[u, .agg #[.int .i64 0, .int .i64 0, .int .i64 0]] ∧ Own w' q27.heap.size u (eout (hfd pub prev m)) ∧ Below q27.heap.size q27 w') (by kernel_rfl) cE2 (fun v_ q29 hX_ => ?_)
        obtain ⟨u, rfl, hU, hb_⟩ := hX_
        have hU2 := own_down hU hw.size
        have hne : ∀ k, u.ownBlock = some k → k ≠ g28 := fun k e => by have := own_low hU k e; have := lt_of_row RF; omega
        clear cE cE2 hC hPs
        replace RH := keep hb_ RH
        replace RF := keep hb_ RF
        replace hw := Below.after hw hb_
        clear hb_ hU
        obtain ⟨L, hL⟩ : ∃ L, (eout (hfd pub prev m)) = L := ⟨_, rfl⟩
        rw [hL] at hU2
        replace hL := hide hL
        obtain ⟨ua, uc, rfl⟩ := slen_own hU2
        refine hK_ _ _ (RH) ?_
        simp only [Act.put, List.getElem_toArray, List.getElem_cons_succ, List.getElem_cons_zero, List.setIfInBounds_toArray, List.set_cons_succ, List.set_cons_zero]
        clear hK_
        refine wpAnyH_take (i := 15) (v := ?v31) rfl (by kernel_rfl) (by kernel_rfl) (by kernel_rfl) (fun _ _ _ h => h) (Or.inl ⟨by rfl, ?y31⟩) (RH) ?r31
        case y31 =>
          intro w_ hS_
          go_simp
          try with_reducible rfl
        simp only [Act.put, List.getElem_toArray, List.getElem_cons_succ, List.getElem_cons_zero, List.setIfInBounds_toArray, List.set_cons_succ, List.set_cons_zero]
        refine wpAnyH_take (i := 16) (v := ?v32) rfl (by kernel_rfl) (by kernel_rfl) (by kernel_rfl) (fun _ _ _ h => h) (Or.inl ⟨by rfl, ?y32⟩) (RH) ?r32
        case y32 =>
          intro w_ hS_
          go_simp
          try with_reducible rfl
        simp only [Act.put, List.getElem_toArray, List.getElem_cons_succ, List.getElem_cons_zero, List.setIfInBounds_toArray, List.set_cons_succ, List.set_cons_zero]
        refine wpAnyH_take (i := 17) (v := ?v33) rfl (by kernel_rfl) (by kernel_rfl) (by kernel_rfl) (fun _ _ _ h => h) (Or.inl ⟨by rfl, ?y33⟩) (RH) ?r33
        case y33 =>
          intro w_ hS_
          go_simp
          try with_reducible rfl
        simp only [Act.put, List.getElem_toArray, List.getElem_cons_succ, List.getElem_cons_zero, List.setIfInBounds_toArray, List.set_cons_succ, List.set_cons_zero]
        refine wpAnyH_take (i := 19) (v := ?v34) rfl (by kernel_rfl) (by kernel_rfl) (by kernel_rfl) (fun _ _ _ h => h) (Or.inl ⟨by rfl, ?y34⟩) (RH) ?r34
        case y34 =>
          intro w_ hS_
          go_simp
          try with_reducible rfl
        simp only [Act.put, List.getElem_toArray, List.getElem_cons_succ, List.getElem_cons_zero, List.setIfInBounds_toArray, List.set_cons_succ, List.set_cons_zero]
        refine wpAnyH_one (k := 20) (fuel := 0) (by kernel_rfl) rfl (by kernel_rfl) (fun K_ hK_ => ?_)
        refine wp_store_row 40 _ _ rfl (g28) #[.int .i64 0, .int .i64 0, .int .i64 0] rfl rfl 40 _ RF infoFt rfl hone ?_
        replace RH := (setRow_other q29 (g28) (w.heap.size) #[.int .i64 0, .int .i64 0, .int .i64 0] (by omega)).trans RH
        replace hU2 : Own (q29.setRow g28 #[.int .i64 0, .int .i64 0, .int .i64 0]) w.heap.size (.slice ua L.length uc) L := own_but hU2 fun q hq => setRow_other q29 (g28) q _ (by have := hne q hq; omega)
        replace hw := below_setRow hw (show w.heap.size ≤ g28 by omega) #[.int .i64 0, .int .i64 0, .int .i64 0]
        refine hK_ _ _ (RH) ?_
        simp only [Act.put, List.getElem_toArray, List.getElem_cons_succ, List.getElem_cons_zero]
        clear hK_
        generalize q29.setRow g28 #[.int .i64 0, .int .i64 0, .int .i64 0] = q30 at *
        refine wpAnyH_done (by kernel_rfl) ?_ _
        refine NoPanic.normal ?_
        have A1 := hide hU2
        have A2 := hide hw
        clear hU2 hw RH RF hne
        go_wp2_with (fail)
        go_ret
        exact ⟨_, rfl, by rw [hL.out]; exact A1.out, A2.out⟩
    · refine wp_world_op (.pointer (some ⟨q19.heap.size, 0, none⟩)) (q19.alloc (.cells #[.int .i64 0, .int .i64 0, .int .i64 0] 40)) (by kernel_rfl) ?_
      have hb_ : Below q19.heap.size q19 (q19.alloc (.cells #[.int .i64 0, .int .i64 0, .int .i64 0] 40)) := (Below.refl _ _).alloc (Nat.le_refl _) _
      have sz_g33 : w.heap.size ≤ q19.heap.size := hw.size
      have lt_RH_g33 := lt_of_row RH
      have RF := hp1_0 q19 (.cells #[.int .i64 0, .int .i64 0, .int .i64 0] 40)
      replace RH := keep hb_ RH
      replace hPs := hPs.keep hb_
      replace hw := Below.after hw hb_
      clear hb_
      refine hK_ _ _ (RH) ?_
      simp only [Act.put, List.getElem_toArray, List.getElem_cons_succ, List.getElem_cons_zero, List.setIfInBounds_toArray, List.set_cons_succ, List.set_cons_zero]
      clear hK_
      generalize q19.alloc (.cells #[.int .i64 0, .int .i64 0, .int .i64 0] 40) = q32 at *
      generalize q19.heap.size = g33 at *
      refine wpAnyH_one (k := 0) (fuel := 6) (by kernel_rfl) rfl (by kernel_rfl) (fun K_ hK_ => ?_)
      have cH := (r_header q32).mono (fun e w' h => (by obtain ⟨⟨q, h1, h2, h3⟩, h4⟩ := h; exact ⟨_, h1, q, rfl, h3, h4⟩ : ∃ v, e = .returned v ∧ ∃ q, v = .pointer (some ⟨q, 0, none⟩) ∧ Rdc w' q hdr ∧ Below q32.heap.size q32 w'))
      refine wp_call_ex (R := fun v w' => ∃ q, v = .pointer (some ⟨q, 0, none⟩) ∧ Rdc w' q hdr ∧ Below q32.heap.size q32 w') (by kernel_rfl) cH (fun v_ q34 hX_ => ?_)
      obtain ⟨q, rfl, hC, hb_⟩ := hX_
      replace RH := keep hb_ RH
      replace RF := keep hb_ RF
      replace hPs := hPs.keep hb_
      replace hw := Below.after hw hb_
      clear hb_ cH
      refine hK_ _ _ (RH) ?_
      simp only [Act.put, List.getElem_toArray, List.getElem_cons_zero, List.setIfInBounds_toArray, List.set_cons_succ, List.set_cons_zero]
      clear hK_
      refine wpAnyH_one (k := 14) (fuel := 5) (by kernel_rfl) rfl (by kernel_rfl) (fun K_ hK_ => ?_)
      have cE := r_EncodeF hdr_flat (by decide) none 0 (.slice (some ⟨gp, 0, none⟩) 3 3) (hxs w.heap.size prev m) [pub, [], []] rfl (hdr_chk _ _ _ h1 h2) q34 hC (hdr_prt h1 h2 hPs) (hdr_bys hp h1 h2 ⟨_, RH⟩)
      rw [hfd_at3] at cE
      have cE2 := cE.mono (fun e w' h => (by obtain ⟨u, e1, e2, e3⟩ := h; exact ⟨_, e1, u, rfl, e2, e3⟩ : ∃ v, e = .returned v ∧ ∃ u, v = .tuple #[u, .agg #[.int .i64 0, .int .i64 0, .int .i64 0]] ∧ Own w' q34.heap.size u (eout (hfd pub prev m)) ∧ Below q34.heap.size q34 w'))
      refine wp_call_ex (R := fun v w' => ∃ u, v = .tuple #[u, .agg #[.int .i64 0, .int .i64 0, .int .i64 0]] ∧ Own w' q34.heap.size u (eout (hfd pub prev m)) ∧ Below q34.heap.size q34 w') (by kernel_rfl) cE2 (fun v_ q35 hX_ => ?_)
      obtain ⟨u, rfl, hU, hb_⟩ := hX_
      have hU2 := own_down hU hw.size
      have hne : ∀ k, u.ownBlock = some k → k ≠ g33 := fun k e => by have := own_low hU k e; have := lt_of_row RF; omega
      clear cE cE2 hC hPs
      replace RH := keep hb_ RH
      replace RF := keep hb_ RF
      replace hw := Below.after hw hb_
      clear hb_ hU
      obtain ⟨L, hL⟩ : ∃ L, (eout (hfd pub prev m)) = L := ⟨_, rfl⟩
      rw [hL] at hU2
      replace hL := hide hL
      obtain ⟨ua, uc, rfl⟩ := slen_own hU2
      refine hK_ _ _ (RH) ?_
      simp only [Act.put, List.getElem_toArray, List.getElem_cons_succ, List.getElem_cons_zero, List.setIfInBounds_toArray, List.set_cons_succ, List.set_cons_zero]
      clear hK_
      refine wpAnyH_take (i := 15) (v := ?v35) rfl (by kernel_rfl) (by kernel_rfl) (by kernel_rfl) (fun _ _ _ h => h) (Or.inl ⟨by rfl, ?y35⟩) (RH) ?r35
      case y35 =>
        intro w_ hS_
        go_simp
        try with_reducible rfl
      simp only [Act.put, List.getElem_toArray, List.getElem_cons_succ, List.getElem_cons_zero, List.setIfInBounds_toArray, List.set_cons_succ, List.set_cons_zero]
      refine wpAnyH_take (i := 16) (v := ?v36) rfl (by kernel_rfl) (by kernel_rfl) (by kernel_rfl) (fun _ _ _ h => h) (Or.inl ⟨by rfl, ?y36⟩) (RH) ?r36
      case y36 =>
        intro w_ hS_
        go_simp
        try with_reducible rfl
      simp only [Act.put, List.getElem_toArray, List.getElem_cons_succ, List.getElem_cons_zero, List.setIfInBounds_toArray, List.set_cons_succ, List.set_cons_zero]
      refine wpAnyH_take (i := 17) (v := ?v37) rfl (by kernel_rfl) (by kernel_rfl) (by kernel_rfl) (fun _ _ _ h => h) (Or.inl ⟨by rfl, ?y37⟩) (RH) ?r37
      case y37 =>
        intro w_ hS_
        go_simp
        try with_reducible rfl
      simp only [Act.put, List.getElem_toArray, List.getElem_cons_succ, List.getElem_cons_zero, List.setIfInBounds_toArray, List.set_cons_succ, List.set_cons_zero]
      refine wpAnyH_take (i := 19) (v := ?v38) rfl (by kernel_rfl) (by kernel_rfl) (by kernel_rfl) (fun _ _ _ h => h) (Or.inl ⟨by rfl, ?y38⟩) (RH) ?r38
      case y38 =>
        intro w_ hS_
        go_simp
        try with_reducible rfl
      simp only [Act.put, List.getElem_toArray, List.getElem_cons_succ, List.getElem_cons_zero, List.setIfInBounds_toArray, List.set_cons_succ, List.set_cons_zero]
      refine wpAnyH_one (k := 20) (fuel := 0) (by kernel_rfl) rfl (by kernel_rfl) (fun K_ hK_ => ?_)
      refine wp_store_row 40 _ _ rfl (g33) #[.int .i64 0, .int .i64 0, .int .i64 0] rfl rfl 40 _ RF infoFt rfl hone ?_
      replace RH := (setRow_other q35 (g33) (w.heap.size) #[.int .i64 0, .int .i64 0, .int .i64 0] (by omega)).trans RH
      replace hU2 : Own (q35.setRow g33 #[.int .i64 0, .int .i64 0, .int .i64 0]) w.heap.size (.slice ua L.length uc) L := own_but hU2 fun q hq => setRow_other q35 (g33) q _ (by have := hne q hq; omega)
      replace hw := below_setRow hw (show w.heap.size ≤ g33 by omega) #[.int .i64 0, .int .i64 0, .int .i64 0]
      refine hK_ _ _ (RH) ?_
      simp only [Act.put, List.getElem_toArray, List.getElem_cons_succ, List.getElem_cons_zero]
      clear hK_
      generalize q35.setRow g33 #[.int .i64 0, .int .i64 0, .int .i64 0] = q36 at *
      refine wpAnyH_done (by kernel_rfl) ?_ _
      refine NoPanic.normal ?_
      have A1 := hide hU2
      have A2 := hide hw
      clear hU2 hw RH RF hne
      go_wp2_with (fail)
      go_ret
      exact ⟨_, rfl, by rw [hL.out]; exact A1.out, A2.out⟩
  · refine wp_world_op (.pointer (some ⟨w1.heap.size, 0, none⟩)) (w1.alloc (.cells #[.int .i64 0, .int .i64 0, .int .i64 0] 40)) (by kernel_rfl) ?_
    have hb_ : Below w1.heap.size w1 (w1.alloc (.cells #[.int .i64 0, .int .i64 0, .int .i64 0] 40)) := (Below.refl _ _).alloc (Nat.le_refl _) _
    have sz_g39 : w.heap.size ≤ w1.heap.size := hw.size
    have lt_RH_g39 := lt_of_row RH
    have RF := hp1_0 w1 (.cells #[.int .i64 0, .int .i64 0, .int .i64 0] 40)
    replace RH := keep hb_ RH
    replace hw := Below.after hw hb_
    clear hb_
    refine hK_ _ _ (RH) ?_
    simp only [Act.put, List.getElem_toArray, List.getElem_cons_succ, List.getElem_cons_zero, List.setIfInBounds_toArray, List.set_cons_succ, List.set_cons_zero]
    clear hK_
    generalize w1.alloc (.cells #[.int .i64 0, .int .i64 0, .int .i64 0] 40) = q38 at *
    generalize w1.heap.size = g39 at *
    refine wpAnyH_two (j := 0) (k := 12) (fuel := 8) (by kernel_rfl) rfl rfl (by kernel_rfl) (by kernel_rfl) (fun K_ hK_ => ?_) (fun K_ hK_ => ?_)
    · have cH := (r_header q38).mono (fun e w' h => (by obtain ⟨⟨q, h1, h2, h3⟩, h4⟩ := h; exact ⟨_, h1, q, rfl, h3, h4⟩ : ∃ v, e = .returned v ∧ ∃ q, v = .pointer (some ⟨q, 0, none⟩) ∧ Rdc w' q hdr ∧ Below q38.heap.size q38 w'))
      refine wp_call_ex (R := fun v w' => ∃ q, v = .pointer (some ⟨q, 0, none⟩) ∧ Rdc w' q hdr ∧ Below q38.heap.size q38 w') (by kernel_rfl) cH (fun v_ q40 hX_ => ?_)
      obtain ⟨q, rfl, hC, hb_⟩ := hX_
      replace RH := keep hb_ RH
      replace RF := keep hb_ RF
      replace hw := Below.after hw hb_
      clear hb_ cH
      refine hK_ _ _ (RH) ?_
      simp only [Act.put, List.getElem_toArray, List.getElem_cons_zero, List.setIfInBounds_toArray, List.set_cons_succ, List.set_cons_zero]
      clear hK_
      refine wpAnyH_one (k := 12) (fuel := 7) (by kernel_rfl) rfl (by kernel_rfl) (fun K_ hK_ => ?_)
      refine wp_val_op (.slice (some ⟨q40.heap.size, 0, none⟩) 3 3) (w' := q40.alloc (.cells (hps w.heap.size prev m) 62)) (by kernel_rfl) ?_
      have hPs : Bx (q40.alloc (.cells (hps w.heap.size prev m) 62)) q40.heap.size (hps w.heap.size prev m) := ⟨_, hp1_0 q40 _⟩
      have hb_ : Below q40.heap.size q40 (q40.alloc (.cells (hps w.heap.size prev m) 62)) := (Below.refl _ _).alloc (Nat.le_refl _) _
      replace RH := keep hb_ RH
      replace RF := keep hb_ RF
      replace hC := rdc_keepH hC hb_
      replace hw := Below.after hw hb_
      clear hb_
      refine hK_ _ _ (RH) ?_
      simp only [Act.put, List.getElem_toArray, List.getElem_cons_succ, List.getElem_cons_zero, List.setIfInBounds_toArray, List.set_cons_succ, List.set_cons_zero]
      clear hK_
      generalize q40.alloc (.cells (hps w.heap.size prev m) 62) = q41 at *
      generalize q40.heap.size = gp at *
      refine wpAnyH_take (i := 13) (v := .agg #[.int .u64 0, .slice none 0 0, .slice (some ⟨gp, 0, none⟩) 3 3]) rfl (by kernel_rfl) (by kernel_rfl) (by kernel_rfl) (fun _ _ _ h => h) (Or.inl ⟨by rfl, ?y39⟩) (RH) ?r39
      case y39 =>
        intro w_ hS_
        go_simp
        try with_reducible rfl
      simp only [Act.put, List.getElem_toArray, List.getElem_cons_succ, List.getElem_cons_zero, List.setIfInBounds_toArray, List.set_cons_succ, List.set_cons_zero]
      refine wpAnyH_one (k := 14) (fuel := 5) (by kernel_rfl) rfl (by kernel_rfl) (fun K_ hK_ => ?_)
      have cE := r_EncodeF hdr_flat (by decide) none 0 (.slice (some ⟨gp, 0, none⟩) 3 3) (hxs w.heap.size prev m) [pub, [], []] rfl (hdr_chk _ _ _ h1 h2) q41 hC (hdr_prt h1 h2 hPs) (hdr_bys hp h1 h2 ⟨_, RH⟩)
      rw [hfd_at3] at cE
      have cE2 := cE.mono (fun e w' h => (by obtain ⟨u, e1, e2, e3⟩ := h; exact ⟨_, e1, u, rfl, e2, e3⟩ : ∃ v, e = .returned v ∧ ∃ u, v = .tuple #[u, .agg #[.int .i64 0, .int .i64 0, .int .i64 0]] ∧ Own w' q41.heap.size u (eout (hfd pub prev m)) ∧ Below q41.heap.size q41 w'))
      refine wp_call_ex (R := fun v w' => ∃ u, v = .tuple #[u, .agg #[.int .i64 0, .int .i64 0, .int .i64 0]] ∧ Own w' q41.heap.size u (eout (hfd pub prev m)) ∧ Below q41.heap.size q41 w') (by kernel_rfl) cE2 (fun v_ q42 hX_ => ?_)
      obtain ⟨u, rfl, hU, hb_⟩ := hX_
      have hU2 := own_down hU hw.size
      have hne : ∀ k, u.ownBlock = some k → k ≠ g39 := fun k e => by have := own_low hU k e; have := lt_of_row RF; omega
      clear cE cE2 hC hPs
      replace RH := keep hb_ RH
      replace RF := keep hb_ RF
      replace hw := Below.after hw hb_
      clear hb_ hU
      obtain ⟨L, hL⟩ : ∃ L, (eout (hfd pub prev m)) = L := ⟨_, rfl⟩
      rw [hL] at hU2
      replace hL := hide hL
      obtain ⟨ua, uc, rfl⟩ := slen_own hU2
      refine hK_ _ _ (RH) ?_
      simp only [Act.put, List.getElem_toArray, List.getElem_cons_succ, List.getElem_cons_zero, List.setIfInBounds_toArray, List.set_cons_succ, List.set_cons_zero]
      clear hK_
      refine wpAnyH_take (i := 15) (v := ?v40) rfl (by kernel_rfl) (by kernel_rfl) (by kernel_rfl) (fun _ _ _ h => h) (Or.inl ⟨by rfl, ?y40⟩) (RH) ?r40
      case y40 =>
        intro w_ hS_
        go_simp
        try with_reducible rfl
      simp only [Act.put, List.getElem_toArray, List.getElem_cons_succ, List.getElem_cons_zero, List.setIfInBounds_toArray, List.set_cons_succ, List.set_cons_zero]
      refine wpAnyH_take (i := 16) (v := ?v41) rfl (by kernel_rfl) (by kernel_rfl) (by kernel_rfl) (fun _ _ _ h => h) (Or.inl ⟨by rfl, ?y41⟩) (RH) ?r41
      case y41 =>
        intro w_ hS_
        go_simp
        try with_reducible rfl
      simp only [Act.put, List.getElem_toArray, List.getElem_cons_succ, List.getElem_cons_zero, List.setIfInBounds_toArray, List.set_cons_succ, List.set_cons_zero]
      refine wpAnyH_take (i := 17) (v := ?v42) rfl (by kernel_rfl) (by kernel_rfl) (by kernel_rfl) (fun _ _ _ h => h) (Or.inl ⟨by rfl, ?y42⟩) (RH) ?r42
      case y42 =>
        intro w_ hS_
        go_simp
        try with_reducible rfl
      simp only [Act.put, List.getElem_toArray, List.getElem_cons_succ, List.getElem_cons_zero, List.setIfInBounds_toArray, List.set_cons_succ, List.set_cons_zero]
      refine wpAnyH_take (i := 19) (v := ?v43) rfl (by kernel_rfl) (by kernel_rfl) (by kernel_rfl) (fun _ _ _ h => h) (Or.inl ⟨by rfl, ?y43⟩) (RH) ?r43
      case y43 =>
        intro w_ hS_
        go_simp
        try with_reducible rfl
      simp only [Act.put, List.getElem_toArray, List.getElem_cons_succ, List.getElem_cons_zero, List.setIfInBounds_toArray, List.set_cons_succ, List.set_cons_zero]
      refine wpAnyH_one (k := 20) (fuel := 0) (by kernel_rfl) rfl (by kernel_rfl) (fun K_ hK_ => ?_)
      refine wp_store_row 40 _ _ rfl (g39) #[.int .i64 0, .int .i64 0, .int .i64 0] rfl rfl 40 _ RF infoFt rfl hone ?_
      replace RH := (setRow_other q42 (g39) (w.heap.size) #[.int .i64 0, .int .i64 0, .int .i64 0] (by omega)).trans RH
      replace hU2 : Own (q42.setRow g39 #[.int .i64 0, .int .i64 0, .int .i64 0]) w.heap.size (.slice ua L.length uc) L := own_but hU2 fun q hq => setRow_other q42 (g39) q _ (by have := hne q hq; omega)
      replace hw := below_setRow hw (show w.heap.size ≤ g39 by omega) #[.int .i64 0, .int .i64 0, .int .i64 0]
      refine hK_ _ _ (RH) ?_
      simp only [Act.put, List.getElem_toArray, List.getElem_cons_succ, List.getElem_cons_zero]
      clear hK_
      generalize q42.setRow g39 #[.int .i64 0, .int .i64 0, .int .i64 0] = q43 at *
      refine wpAnyH_done (by kernel_rfl) ?_ _
      refine NoPanic.normal ?_
      have A1 := hide hU2
      have A2 := hide hw
      clear hU2 hw RH RF hne
      go_wp2_with (fail)
      go_ret
      exact ⟨_, rfl, by rw [hL.out]; exact A1.out, A2.out⟩
    · refine wp_val_op (.slice (some ⟨q38.heap.size, 0, none⟩) 3 3) (w' := q38.alloc (.cells (hps w.heap.size prev m) 62)) (by kernel_rfl) ?_
      have hPs : Bx (q38.alloc (.cells (hps w.heap.size prev m) 62)) q38.heap.size (hps w.heap.size prev m) := ⟨_, hp1_0 q38 _⟩
      have hb_ : Below q38.heap.size q38 (q38.alloc (.cells (hps w.heap.size prev m) 62)) := (Below.refl _ _).alloc (Nat.le_refl _) _
      replace RH := keep hb_ RH
      replace RF := keep hb_ RF
      replace hw := Below.after hw hb_
      clear hb_
      refine hK_ _ _ (RH) ?_
      simp only [Act.put, List.getElem_toArray, List.getElem_cons_succ, List.getElem_cons_zero, List.setIfInBounds_toArray, List.set_cons_succ, List.set_cons_zero]
      clear hK_
      generalize q38.alloc (.cells (hps w.heap.size prev m) 62) = q44 at *
      generalize q38.heap.size = gp at *
      refine wpAnyH_take (i := 13) (v := .agg #[.int .u64 0, .slice none 0 0, .slice (some ⟨gp, 0, none⟩) 3 3]) rfl (by kernel_rfl) (by kernel_rfl) (by kernel_rfl) (fun _ _ _ h => h) (Or.inl ⟨by rfl, ?y44⟩) (RH) ?r44
      case y44 =>
        intro w_ hS_
        go_simp
        try with_reducible rfl
      simp only [Act.put, List.getElem_toArray, List.getElem_cons_succ, List.getElem_cons_zero, List.setIfInBounds_toArray, List.set_cons_succ, List.set_cons_zero]
      refine wpAnyH_one (k := 0) (fuel := 6) (by kernel_rfl) rfl (by kernel_rfl) (fun K_ hK_ => ?_)
      have cH := (r_header q44).mono (fun e w' h => (by obtain ⟨⟨q, h1, h2, h3⟩, h4⟩ := h; exact ⟨_, h1, q, rfl, h3, h4⟩ : ∃ v, e = .returned v ∧ ∃ q, v = .pointer (some ⟨q, 0, none⟩) ∧ Rdc w' q hdr ∧ Below q44.heap.size q44 w'))
      refine wp_call_ex (R := fun v w' => ∃ q, v = .pointer (some ⟨q, 0, none⟩) ∧ Rdc w' q hdr ∧ Below q44.heap.size q44 w') (by kernel_rfl) cH (fun v_ q45 hX_ => ?_)
      obtain ⟨q, rfl, hC, hb_⟩ := hX_
      replace RH := keep hb_ RH
      replace RF := keep hb_ RF
      replace hPs := hPs.keep hb_
      replace hw := Below.after hw hb_
      clear hb_ cH
      refine hK_ _ _ (RH) ?_
      simp only [Act.put, List.getElem_toArray, List.getElem_cons_zero, List.setIfInBounds_toArray, List.set_cons_succ, List.set_cons_zero]
      clear hK_
      refine wpAnyH_one (k := 14) (fuel := 5) (by kernel_rfl) rfl (by kernel_rfl) (fun K_ hK_ => ?_)
      have cE := r_EncodeF hdr_flat (by decide) none 0 (.slice (some ⟨gp, 0, none⟩) 3 3) (hxs w.heap.size prev m) [pub, [], []] rfl (hdr_chk _ _ _ h1 h2) q45 hC (hdr_prt h1 h2 hPs) (hdr_bys hp h1 h2 ⟨_, RH⟩)
      rw [hfd_at3] at cE
      have cE2 := cE.mono (fun e w' h => (by obtain ⟨u, e1, e2, e3⟩ := h; exact ⟨_, e1, u, rfl, e2, e3⟩ : ∃ v, e = .returned v ∧ ∃ u, v = .tuple #[u, .agg #[.int .i64 0, .int .i64 0, .int .i64 0]] ∧ Own w' q45.heap.size u (eout (hfd pub prev m)) ∧ Below q45.heap.size q45 w'))
      refine wp_call_ex (R := fun v w' => ∃ u, v = .tuple #[u, .agg #[.int .i64 0, .int .i64 0, .int .i64 0]] ∧ Own w' q45.heap.size u (eout (hfd pub prev m)) ∧ Below q45.heap.size q45 w') (by kernel_rfl) cE2 (fun v_ q46 hX_ => ?_)
      obtain ⟨u, rfl, hU, hb_⟩ := hX_
      have hU2 := own_down hU hw.size
      have hne : ∀ k, u.ownBlock = some k → k ≠ g39 := fun k e => by have := own_low hU k e; have := lt_of_row RF; omega
      clear cE cE2 hC hPs
      replace RH := keep hb_ RH
      replace RF := keep hb_ RF
      replace hw := Below.after hw hb_
      clear hb_ hU
      obtain ⟨L, hL⟩ : ∃ L, (eout (hfd pub prev m)) = L := ⟨_, rfl⟩
      rw [hL] at hU2
      replace hL := hide hL
      obtain ⟨ua, uc, rfl⟩ := slen_own hU2
      refine hK_ _ _ (RH) ?_
      simp only [Act.put, List.getElem_toArray, List.getElem_cons_succ, List.getElem_cons_zero, List.setIfInBounds_toArray, List.set_cons_succ, List.set_cons_zero]
      clear hK_
      refine wpAnyH_take (i := 15) (v := ?v45) rfl (by kernel_rfl) (by kernel_rfl) (by kernel_rfl) (fun _ _ _ h => h) (Or.inl ⟨by rfl, ?y45⟩) (RH) ?r45
      case y45 =>
        intro w_ hS_
        go_simp
        try with_reducible rfl
      simp only [Act.put, List.getElem_toArray, List.getElem_cons_succ, List.getElem_cons_zero, List.setIfInBounds_toArray, List.set_cons_succ, List.set_cons_zero]
      refine wpAnyH_take (i := 16) (v := ?v46) rfl (by kernel_rfl) (by kernel_rfl) (by kernel_rfl) (fun _ _ _ h => h) (Or.inl ⟨by rfl, ?y46⟩) (RH) ?r46
      case y46 =>
        intro w_ hS_
        go_simp
        try with_reducible rfl
      simp only [Act.put, List.getElem_toArray, List.getElem_cons_succ, List.getElem_cons_zero, List.setIfInBounds_toArray, List.set_cons_succ, List.set_cons_zero]
      refine wpAnyH_take (i := 17) (v := ?v47) rfl (by kernel_rfl) (by kernel_rfl) (by kernel_rfl) (fun _ _ _ h => h) (Or.inl ⟨by rfl, ?y47⟩) (RH) ?r47
      case y47 =>
        intro w_ hS_
        go_simp
        try with_reducible rfl
      simp only [Act.put, List.getElem_toArray, List.getElem_cons_succ, List.getElem_cons_zero, List.setIfInBounds_toArray, List.set_cons_succ, List.set_cons_zero]
      refine wpAnyH_take (i := 19) (v := ?v48) rfl (by kernel_rfl) (by kernel_rfl) (by kernel_rfl) (fun _ _ _ h => h) (Or.inl ⟨by rfl, ?y48⟩) (RH) ?r48
      case y48 =>
        intro w_ hS_
        go_simp
        try with_reducible rfl
      simp only [Act.put, List.getElem_toArray, List.getElem_cons_succ, List.getElem_cons_zero, List.setIfInBounds_toArray, List.set_cons_succ, List.set_cons_zero]
      refine wpAnyH_one (k := 20) (fuel := 0) (by kernel_rfl) rfl (by kernel_rfl) (fun K_ hK_ => ?_)
      refine wp_store_row 40 _ _ rfl (g39) #[.int .i64 0, .int .i64 0, .int .i64 0] rfl rfl 40 _ RF infoFt rfl hone ?_
      replace RH := (setRow_other q46 (g39) (w.heap.size) #[.int .i64 0, .int .i64 0, .int .i64 0] (by omega)).trans RH
      replace hU2 : Own (q46.setRow g39 #[.int .i64 0, .int .i64 0, .int .i64 0]) w.heap.size (.slice ua L.length uc) L := own_but hU2 fun q hq => setRow_other q46 (g39) q _ (by have := hne q hq; omega)
      replace hw := below_setRow hw (show w.heap.size ≤ g39 by omega) #[.int .i64 0, .int .i64 0, .int .i64 0]
      refine hK_ _ _ (RH) ?_
      simp only [Act.put, List.getElem_toArray, List.getElem_cons_succ, List.getElem_cons_zero]
      clear hK_
      generalize q46.setRow g39 #[.int .i64 0, .int .i64 0, .int .i64 0] = q47 at *
      refine wpAnyH_done (by kernel_rfl) ?_ _
      refine NoPanic.normal ?_
      have A1 := hide hU2
      have A2 := hide hw
      clear hU2 hw RH RF hne
      go_wp2_with (fail)
      go_ret
      exact ⟨_, rfl, by rw [hL.out]; exact A1.out, A2.out⟩
end Go.Proofs.YtbaefbfejmpliaaGreatDoor
