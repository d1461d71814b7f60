import Derived.Test.YtamieopjigjfiaaDoorProg
import Derived.WalkKit
import Derived.WalkSpells
import Derived.WalkLawsBesides
import Derived.Lib.QuietBelow
import Derived.BigQuiet
import Derived.OrdersHeld
import Derived.OwnWalk
import Derived.Lib.SlBytesConst
import Derived.Deep.RegionHeld3
import Derived.Test.YtamieopjigjfiaaDoorKa
import Derived.Test.YtamieopjigjfiaaDoorSr
namespace Go.Proofs.YtamieopjigjfiaaDoor
set_option maxRecDepth 100000
open Go Go.RowKit Go.Sort
attribute [local go_sem] setCell_drewN alloc_drewN

theorem own_setRow {W : World} {b g : Nat} {v : Value} {d : List B} (h : Own W b v d) (cs : Array Value) (hx : ∀ k, v.ownBlock = some k → k ≠ g) : Own (W.setRow g cs) b v d := by
  obtain ⟨q1, q2 | ⟨g1, cap1, cur, hv, hbg, hg, hq⟩⟩ := h
  · exact ⟨q1, .inl q2⟩
  · subst hv
    exact ⟨q1, .inr ⟨g1, cap1, cur, rfl, hbg, (setRow_other W g g1 cs (hx g1 rfl)).trans hg, hq⟩⟩
set_option maxRecDepth 100000 in
set_option maxHeartbeats 4000000 in
theorem opens_any (key nonce extra d : List B) (hk : key.length = 32) (hno : nonce.length = 16) (w : World) (ve vd : Value) (hS : Sta w) (hK : Kon w) (hE : BysC w ve extra) (hD : BysC w vd d) : Calls Tryd.prog 5 #[.agg (boxr key nonce ve vd)] w fun e w' => e = .returned (.bool true) ∧ Below w.heap.size w w' := by
  have hkl : (bl key).length = 32 := by rw [bl_len, hk]
  have hiN := info_bl infoN nonce hno
  obtain ⟨hE, qE⟩ := hE
  obtain ⟨hD, qD⟩ := hD
  obtain ⟨ue, uec, rfl⟩ : ∃ ao cap, ve = .slice ao extra.length cap := by
    obtain ⟨⟨ao, cap, h, _⟩, _⟩ := hE
    rw [bl_len] at h
    exact ⟨ao, cap, h⟩
  obtain ⟨ud, udc, rfl⟩ : ∃ ao cap, vd = .slice ao d.length cap := by
    obtain ⟨⟨ao, cap, h, _⟩, _⟩ := hD
    rw [bl_len] at h
    exact ⟨ao, cap, h⟩
  replace qE := qE _ _ _ rfl
  replace qD := qD _ _ _ rfl
  have hel : extra.length ≤ 140737488351232 := hE.2.1
  have hdl : d.length ≤ 140737488351232 := hD.2.1
  have RB := hp1_0 w (.cells (boxr key nonce (.slice ue extra.length uec) (.slice ud d.length udc)) 31)
  have hw : Below w.heap.size w (w.alloc (.cells (boxr key nonce (.slice ue extra.length uec) (.slice ud d.length udc)) 31)) := (Below.refl _ _).alloc (Nat.le_refl _) _
  have hEh : Hid (∀ V, Below w.heap.size w V → BysB V (.slice ue extra.length uec) extra) := hide (fun V h => hE.keep h)
  have hDh : Hid (∀ V, Below w.heap.size w V → BysB V (.slice ud d.length udc) d) := hide (fun V h => hD.keep h)
  clear hE hD
  obtain ⟨LA, eLA⟩ : ∃ L, opr key nonce extra d = L := ⟨_, rfl⟩
  obtain ⟨EA, eEA⟩ : ∃ z, ope key nonce extra d = z := ⟨_, rfl⟩
  obtain ⟨LX, eLX⟩ : ∃ L, slr key nonce (tbn extra) d = L := ⟨_, rfl⟩
  obtain ⟨LT, eLT⟩ : ∃ L, opr key nonce (tbn extra) LX = L := ⟨_, rfl⟩
  obtain ⟨ET, eET⟩ : ∃ z, ope key nonce (tbn extra) LX = z := ⟨_, rfl⟩
  obtain ⟨EX, eEX⟩ : ∃ z, sle (tbn extra) d = z := ⟨_, rfl⟩
  have lLA : Hid (LA.length ≤ 2097232) := hide (by
    rw [← eLA, opr]
    split
    · exact Nat.zero_le _
    split
    · exact Nat.zero_le _
    split
    · rw [cfx_len, obx_len]; omega
    · exact Nat.zero_le _)
  have lLX : LX.length ≤ d.length + 16 := by
    rw [← eLX, slr]
    split
    · exact Nat.zero_le _
    · rw [bx_len]; omega
  have lLX2 : LX.length ≤ 2097232 := by
    rw [← eLX, slr]
    split
    · exact Nat.zero_le _
    · rw [bx_len]; omega
  replace eLA := hide eLA
  replace eEA := hide eEA
  replace eLX := hide eLX
  replace eEX := hide eEX
  replace eLT := hide eLT
  replace eET := hide eET
  go_enter Tryd.func5, Tryd.ntmps5
  go_wp2_with (first | (refine wpList_box rfl 31 _ rfl _ rfl (bBox _) ?_; refine wpList_stay ?_) | fail)
  unfold WpStay
  generalize w.alloc (.cells (boxr key nonce (.slice ue extra.length uec) (.slice ud d.length udc)) 31) = w0 at *
  have lB := lt_of_row RB
  have cE_ := (box_cell RB hk hno).1
  have cD_ := (box_cell RB hk hno).2
  go_wp2_with (first | (refine wpList_load_part rfl 23 _ rfl w.heap.size 0 rfl 31 (boxr key nonce (.slice ue extra.length uec) (.slice ud d.length udc)) (0, 0) (irow .u8 (bl key)) _ RB (box_key _ _ _ _) Tryd.underlying23 rfl (infok8 _ hkl) ?_) | (refine wpList_load_part rfl 28 _ rfl w.heap.size 32 rfl 31 (boxr key nonce (.slice ue extra.length uec) (.slice ud d.length udc)) (0, 0) (irow .u8 (bl nonce)) _ RB (box_nonce _ _ _ _ hk) Tryd.underlying28 rfl hiN ?_) | fail)
  clear cE_ cD_
  refine (sB_hand extra w0 _ (hEh.out _ hw)).mono ?_
  rintro e_ w1 ⟨rfl, re, hb⟩
  replace RB := keep hb RB
  replace hw := Below.after hw hb
  have sz_w1 := hb.size
  clear hb
  generalize w0.heap.size = gE at *
  have lgE := lt_of_row re
  have cE_ := (box_cell RB hk hno).1
  have cD_ := (box_cell RB hk hno).2
  go_wp2_with (first | (refine wpList_load_part rfl 23 _ rfl w.heap.size 0 rfl 31 (boxr key nonce (.slice ue extra.length uec) (.slice ud d.length udc)) (0, 0) (irow .u8 (bl key)) _ RB (box_key _ _ _ _) Tryd.underlying23 rfl (infok8 _ hkl) ?_) | (refine wpList_load_part rfl 28 _ rfl w.heap.size 32 rfl 31 (boxr key nonce (.slice ue extra.length uec) (.slice ud d.length udc)) (0, 0) (irow .u8 (bl nonce)) _ RB (box_nonce _ _ _ _ hk) Tryd.underlying28 rfl hiN ?_) | fail)
  clear cE_ cD_
  refine (sB_hand d w1 _ (hDh.out _ hw)).mono ?_
  rintro e_ w2 ⟨rfl, rd, hb⟩
  replace RB := keep hb RB
  replace re := keep hb re
  replace hw := Below.after hw hb
  have sz_w2 := hb.size
  clear hb
  generalize w1.heap.size = gD at *
  have lgD := lt_of_row rd
  have slE := slice_to (some ⟨gE, 0, none⟩) (extra.length + 80) (extra.length + 80) extra.length (by omega)
  have slD := slice_to (some ⟨gD, 0, none⟩) (d.length + 80) (d.length + 80) d.length (by omega)
  obtain ⟨lo, elo⟩ : ∃ n, n = w2.heap.size := ⟨_, rfl⟩
  have kD : gD < lo := by rw [elo]; exact lgD
  have kE : gE < lo := by omega
  have kB : w.heap.size < lo := by omega
  replace elo := hide elo
  go_wp2_with (fail)
  have hbd : Below w2.heap.size w2 w2.drew := below_drN (Below.refl _ _) 1
  have szd_w3d := hbd.size
  replace RB := keep hbd RB
  replace re := keep hbd re
  replace rd := keep hbd rd
  replace hw := Below.after hw hbd
  clear hbd
  refine wp_region_noPanic ?_
  refine wp_region_held (S := fun W => W.heap[w.heap.size]? = some (.cells (boxr key nonce (.slice ue extra.length uec) (.slice ud d.length udc)) 31 (0, 0))) (by kernel_rfl) ?_
  change wpAnyH _ _ _ _ _ _ _ _ (World.drew _)
  generalize w2.drew = w3d at *
  refine wpAnyH_take (i := 0) (v := ?v1) rfl (by kernel_rfl) (by kernel_rfl) (by kernel_rfl) (fun _ _ _ h => h) (Or.inl ⟨by rfl, ?y1⟩) (RB) ?r1
  case y1 =>
    intro w_ hS_
    go_simp
    try with_reducible rfl
  simp only [Act.put, List.getElem_toArray, List.getElem_cons_zero, List.setIfInBounds_toArray, List.set_cons_succ, List.set_cons_zero]
  refine wpAnyH_take (i := 1) (v := .agg (irow .u8 (bl key))) rfl (by kernel_rfl) (by kernel_rfl) (by kernel_rfl) (fun _ _ _ h => h) (Or.inl ⟨by rfl, ?y2⟩) (RB) ?r2
  case y2 =>
    intro w_ hS_
    simp only [List.getElem_toArray, List.getElem_cons_succ, List.getElem_cons_zero]
    exact run_load_part 23 _ (by rfl) (w.heap.size) 0 (by rfl) 31 (boxr key nonce (.slice ue extra.length uec) (.slice ud d.length udc)) (0, 0) (irow .u8 (bl key)) _ (hS_) (box_key _ _ _ _) Tryd.underlying23 rfl (infok8 _ hkl)
  simp only [Act.put, List.getElem_toArray, List.getElem_cons_succ, List.getElem_cons_zero, List.setIfInBounds_toArray, List.set_cons_succ, List.set_cons_zero]
  refine wpAnyH_take (i := 2) (v := ?v3) rfl (by kernel_rfl) (by kernel_rfl) (by kernel_rfl) (fun _ _ _ h => h) (Or.inl ⟨by rfl, ?y3⟩) (RB) ?r3
  case y3 =>
    intro w_ hS_
    go_simp
    try with_reducible rfl
  simp only [Act.put, List.getElem_toArray, List.getElem_cons_succ, List.getElem_cons_zero, List.setIfInBounds_toArray, List.set_cons_succ, List.set_cons_zero]
  refine wpAnyH_take (i := 3) (v := .agg (irow .u8 (bl nonce))) rfl (by kernel_rfl) (by kernel_rfl) (by kernel_rfl) (fun _ _ _ h => h) (Or.inl ⟨by rfl, ?y4⟩) (RB) ?r4
  case y4 =>
    intro w_ hS_
    simp only [List.getElem_toArray, List.getElem_cons_succ, List.getElem_cons_zero]
    exact run_load_part 28 _ (by rfl) (w.heap.size) 32 (by rfl) 31 (boxr key nonce (.slice ue extra.length uec) (.slice ud d.length udc)) (0, 0) (irow .u8 (bl nonce)) _ (hS_) (box_nonce _ _ _ _ hk) Tryd.underlying28 rfl hiN
  simp only [Act.put, List.getElem_toArray, List.getElem_cons_succ, List.getElem_cons_zero, List.setIfInBounds_toArray, List.set_cons_succ, List.set_cons_zero]
  refine wpAnyH_take (i := 4) (v := ?v5) rfl (by kernel_rfl) (by kernel_rfl) (by kernel_rfl) (fun _ _ _ h => h) (Or.inl ⟨by rfl, ?y5⟩) (RB) ?r5
  case y5 =>
    intro w_ hS_
    go_simp
    try with_reducible rfl
  simp only [Act.put, List.getElem_toArray, List.getElem_cons_succ, List.getElem_cons_zero, List.setIfInBounds_toArray, List.set_cons_succ, List.set_cons_zero]
  refine wpAnyH_take (i := 5) (v := ?v6) rfl (by kernel_rfl) (by kernel_rfl) (by kernel_rfl) (fun _ _ _ h => h) (Or.inl ⟨by rfl, ?y6⟩) (RB) ?r6
  case y6 =>
    intro w_ hS_
    go_simp
    try with_reducible rfl
  simp only [Act.put, List.getElem_toArray, List.getElem_cons_succ, List.getElem_cons_zero, List.setIfInBounds_toArray, List.set_cons_succ, List.set_cons_zero]
  refine wpAnyH_take (i := 6) (v := .slice ue extra.length uec) rfl (by kernel_rfl) (by kernel_rfl) (by kernel_rfl) (fun _ _ _ h => h) (Or.inl ⟨by rfl, ?y7⟩) (RB) ?r7
  case y7 =>
    intro w_ hS_
    have c_ := (box_cell (hS_) hk hno).1
    go_simp
    try with_reducible rfl
  simp only [Act.put, List.getElem_toArray, List.getElem_cons_succ, List.getElem_cons_zero, List.setIfInBounds_toArray, List.set_cons_succ, List.set_cons_zero]
  refine wpAnyH_take (i := 7) (v := ?v8) rfl (by kernel_rfl) (by kernel_rfl) (by kernel_rfl) (fun _ _ _ h => h) (Or.inl ⟨by rfl, ?y8⟩) (RB) ?r8
  case y8 =>
    intro w_ hS_
    go_simp
    try with_reducible rfl
  simp only [Act.put, List.getElem_toArray, List.getElem_cons_succ, List.getElem_cons_zero, List.setIfInBounds_toArray, List.set_cons_succ, List.set_cons_zero]
  refine wpAnyH_take (i := 8) (v := ?v9) rfl (by kernel_rfl) (by kernel_rfl) (by kernel_rfl) (fun _ _ _ h => h) (Or.inl ⟨by rfl, ?y9⟩) (RB) ?r9
  case y9 =>
    intro w_ hS_
    go_simp
    try with_reducible rfl
  simp only [Act.put, List.getElem_toArray, List.getElem_cons_succ, List.getElem_cons_zero, List.setIfInBounds_toArray, List.set_cons_succ, List.set_cons_zero]
  refine wpAnyH_take (i := 9) (v := ?v10) rfl (by kernel_rfl) (by kernel_rfl) (by kernel_rfl) (fun _ _ _ h => h) (Or.inl ⟨by rfl, ?y10⟩) (RB) ?r10
  case y10 =>
    intro w_ hS_
    go_simp
    try with_reducible rfl
  simp only [Act.put, List.getElem_toArray, List.getElem_cons_succ, List.getElem_cons_zero, List.setIfInBounds_toArray, List.set_cons_succ, List.set_cons_zero]
  refine wpAnyH_take (i := 10) (v := ?v11) rfl (by kernel_rfl) (by kernel_rfl) (by kernel_rfl) (fun _ _ _ h => h) (Or.inl ⟨by rfl, ?y11⟩) (RB) ?r11
  case y11 =>
    intro w_ hS_
    go_simp
    try with_reducible rfl
  simp only [Act.put, List.getElem_toArray, List.getElem_cons_succ, List.getElem_cons_zero, List.setIfInBounds_toArray, List.set_cons_succ, List.set_cons_zero]
  refine wpAnyH_take (i := 11) (v := .slice ud d.length udc) rfl (by kernel_rfl) (by kernel_rfl) (by kernel_rfl) (fun _ _ _ h => h) (Or.inl ⟨by rfl, ?y12⟩) (RB) ?r12
  case y12 =>
    intro w_ hS_
    have c_ := (box_cell (hS_) hk hno).2
    go_simp
    try with_reducible rfl
  simp only [Act.put, List.getElem_toArray, List.getElem_cons_succ, List.getElem_cons_zero, List.setIfInBounds_toArray, List.set_cons_succ, List.set_cons_zero]
  refine wpAnyH_take (i := 12) (v := ?v13) rfl (by kernel_rfl) (by kernel_rfl) (by kernel_rfl) (fun _ _ _ h => h) (Or.inl ⟨by rfl, ?y13⟩) (RB) ?r13
  case y13 =>
    intro w_ hS_
    go_simp
    try with_reducible rfl
  simp only [Act.put, List.getElem_toArray, List.getElem_cons_succ, List.getElem_cons_zero, List.setIfInBounds_toArray, List.set_cons_succ, List.set_cons_zero]
  refine wpAnyH_take (i := 13) (v := ?v14) rfl (by kernel_rfl) (by kernel_rfl) (by kernel_rfl) (fun _ _ _ h => h) (Or.inl ⟨by rfl, ?y14⟩) (RB) ?r14
  case y14 =>
    intro w_ hS_
    go_simp
    try with_reducible rfl
  simp only [Act.put, List.getElem_toArray, List.getElem_cons_succ, List.getElem_cons_zero, List.setIfInBounds_toArray, List.set_cons_succ, List.set_cons_zero]
  refine wpAnyH_one (k := 14) (fuel := 5) (by kernel_rfl) rfl (by kernel_rfl) (fun K_ hK_ => ?_)
  have cX := a_open key nonce extra d hk hno w3d (.slice (some ⟨gE, 0, none⟩) extra.length (extra.length + 80)) (.slice (some ⟨gD, 0, none⟩) d.length (d.length + 80)) (hS.below hw) (hK.below hw) (head_bysB re rfl hel _) (head_bysB rd rfl (by omega) _) (fun a l c h => by cases h; omega) (fun a l c h => by cases h; omega)
  rw [eLA.out, eEA.out] at cX
  refine wp_call_ex (f := 18) (by kernel_rfl) (cX) (fun v_ q1 hX_ => ?_)
  obtain ⟨⟨va, rfl, hOva⟩, hb_⟩ := hX_
  have szc_q1 := hb_.size
  replace RB := keep hb_ RB
  replace re := keep hb_ re
  replace rd := keep hb_ rd
  replace hw := Below.after hw hb_
  clear hb_
  clear cX
  refine hK_ _ _ (RB) ?_
  simp only [Act.put, List.getElem_toArray, List.getElem_cons_succ, List.getElem_cons_zero, List.setIfInBounds_toArray, List.set_cons_succ, List.set_cons_zero]
  clear hK_
  refine wpAnyH_take (i := 15) (v := ?v15) rfl (by kernel_rfl) (by kernel_rfl) (by kernel_rfl) (fun _ _ _ h => h) (Or.inl ⟨by rfl, ?y15⟩) (RB) ?r15
  case y15 =>
    intro w_ hS_
    go_simp
    try with_reducible rfl
  simp only [Act.put, List.getElem_toArray, List.getElem_cons_succ, List.getElem_cons_zero, List.setIfInBounds_toArray, List.set_cons_succ, List.set_cons_zero]
  refine wpAnyH_take (i := 16) (v := ?v16) rfl (by kernel_rfl) (by kernel_rfl) (by kernel_rfl) (fun _ _ _ h => h) (Or.inl ⟨by rfl, ?y16⟩) (RB) ?r16
  case y16 =>
    intro w_ hS_
    go_simp
    try with_reducible rfl
  simp only [Act.put, List.getElem_toArray, List.getElem_cons_succ, List.getElem_cons_zero, List.setIfInBounds_toArray, List.set_cons_succ, List.set_cons_zero]
  refine wpAnyH_take (i := 17) (v := ?v17) rfl (by kernel_rfl) (by kernel_rfl) (by kernel_rfl) (fun _ _ _ h => h) (Or.inl ⟨by rfl, ?y17⟩) (RB) ?r17
  case y17 =>
    intro w_ hS_
    go_simp
    try with_reducible rfl
  simp only [Act.put, List.getElem_toArray, List.getElem_cons_succ, List.getElem_cons_zero, List.setIfInBounds_toArray, List.set_cons_succ, List.set_cons_zero]
  refine wpAnyH_take (i := 18) (v := ?v18) rfl (by kernel_rfl) (by kernel_rfl) (by kernel_rfl) (fun _ _ _ h => h) (Or.inl ⟨by rfl, ?y18⟩) (RB) ?r18
  case y18 =>
    intro w_ hS_
    go_simp
    try with_reducible rfl
  simp only [Act.put, List.getElem_toArray, List.getElem_cons_succ, List.getElem_cons_zero, List.setIfInBounds_toArray, List.set_cons_succ, List.set_cons_zero]
  refine wpAnyH_take (i := 19) (v := ?v19) rfl (by kernel_rfl) (by kernel_rfl) (by kernel_rfl) (fun _ _ _ h => h) (Or.inl ⟨by rfl, ?y19⟩) (RB) ?r19
  case y19 =>
    intro w_ hS_
    go_simp
    try with_reducible rfl
  simp only [Act.put, List.getElem_toArray, List.getElem_cons_succ, List.getElem_cons_zero, List.setIfInBounds_toArray, List.set_cons_succ, List.set_cons_zero]
  refine wpAnyH_done (by kernel_rfl) ?_ _
  refine NoPanic.normal ?_
  obtain ⟨aA, cA, rfl⟩ := slen_own hOva
  obtain ⟨bva, ebva⟩ : ∃ n, n = w3d.heap.size := ⟨_, rfl⟩
  obtain ⟨sva, esva⟩ : ∃ n, n = q1.heap.size := ⟨_, rfl⟩
  have szva : Hid (∀ k, (Value.slice aA LA.length cA).ownBlock = some k → k < sva) := hide (by rw [esva]; exact own_high hOva)
  replace ebva := hide ebva
  replace esva := hide esva
  have lva : lo ≤ bva := by rw [ebva.out, elo.out]; exact szd_w3d
  go_wp2_with (fail)
  have hbd : Below q1.heap.size q1 q1.drew := below_drN (Below.refl _ _) 1
  have szd_w4d := hbd.size
  replace RB := keep hbd RB
  replace re := keep hbd re
  replace rd := keep hbd rd
  replace hOva := hOva.keep hbd
  replace hw := Below.after hw hbd
  clear hbd
  refine wp_region_noPanic ?_
  refine wp_region_held (S := fun W => W.heap[w.heap.size]? = some (.cells (boxr key nonce (.slice ue extra.length uec) (.slice ud d.length udc)) 31 (0, 0))) (by kernel_rfl) ?_
  change wpAnyH _ _ _ _ _ _ _ _ (World.drew _)
  generalize q1.drew = w4d at *
  refine wpAnyH_take (i := 0) (v := ?v20) rfl (by kernel_rfl) (by kernel_rfl) (by kernel_rfl) (fun _ _ _ h => h) (Or.inl ⟨by rfl, ?y20⟩) (RB) ?r20
  case y20 =>
    intro w_ hS_
    go_simp
    try with_reducible rfl
  simp only [Act.put, List.getElem_toArray, List.getElem_cons_zero, List.setIfInBounds_toArray, List.set_cons_succ, List.set_cons_zero]
  refine wpAnyH_take (i := 1) (v := .agg (irow .u8 (bl key))) rfl (by kernel_rfl) (by kernel_rfl) (by kernel_rfl) (fun _ _ _ h => h) (Or.inl ⟨by rfl, ?y21⟩) (RB) ?r21
  case y21 =>
    intro w_ hS_
    simp only [List.getElem_toArray, List.getElem_cons_succ, List.getElem_cons_zero]
    exact run_load_part 23 _ (by rfl) (w.heap.size) 0 (by rfl) 31 (boxr key nonce (.slice ue extra.length uec) (.slice ud d.length udc)) (0, 0) (irow .u8 (bl key)) _ (hS_) (box_key _ _ _ _) Tryd.underlying23 rfl (infok8 _ hkl)
  simp only [Act.put, List.getElem_toArray, List.getElem_cons_succ, List.getElem_cons_zero, List.setIfInBounds_toArray, List.set_cons_succ, List.set_cons_zero]
  refine wpAnyH_take (i := 2) (v := ?v22) rfl (by kernel_rfl) (by kernel_rfl) (by kernel_rfl) (fun _ _ _ h => h) (Or.inl ⟨by rfl, ?y22⟩) (RB) ?r22
  case y22 =>
    intro w_ hS_
    go_simp
    try with_reducible rfl
  simp only [Act.put, List.getElem_toArray, List.getElem_cons_succ, List.getElem_cons_zero, List.setIfInBounds_toArray, List.set_cons_succ, List.set_cons_zero]
  refine wpAnyH_take (i := 3) (v := .agg (irow .u8 (bl nonce))) rfl (by kernel_rfl) (by kernel_rfl) (by kernel_rfl) (fun _ _ _ h => h) (Or.inl ⟨by rfl, ?y23⟩) (RB) ?r23
  case y23 =>
    intro w_ hS_
    simp only [List.getElem_toArray, List.getElem_cons_succ, List.getElem_cons_zero]
    exact run_load_part 28 _ (by rfl) (w.heap.size) 32 (by rfl) 31 (boxr key nonce (.slice ue extra.length uec) (.slice ud d.length udc)) (0, 0) (irow .u8 (bl nonce)) _ (hS_) (box_nonce _ _ _ _ hk) Tryd.underlying28 rfl hiN
  simp only [Act.put, List.getElem_toArray, List.getElem_cons_succ, List.getElem_cons_zero, List.setIfInBounds_toArray, List.set_cons_succ, List.set_cons_zero]
  refine wpAnyH_take (i := 4) (v := ?v24) rfl (by kernel_rfl) (by kernel_rfl) (by kernel_rfl) (fun _ _ _ h => h) (Or.inl ⟨by rfl, ?y24⟩) (RB) ?r24
  case y24 =>
    intro w_ hS_
    go_simp
    try with_reducible rfl
  simp only [Act.put, List.getElem_toArray, List.getElem_cons_succ, List.getElem_cons_zero, List.setIfInBounds_toArray, List.set_cons_succ, List.set_cons_zero]
  refine wpAnyH_take (i := 5) (v := ?v25) rfl (by kernel_rfl) (by kernel_rfl) (by kernel_rfl) (fun _ _ _ h => h) (Or.inl ⟨by rfl, ?y25⟩) (RB) ?r25
  case y25 =>
    intro w_ hS_
    go_simp
    try with_reducible rfl
  simp only [Act.put, List.getElem_toArray, List.getElem_cons_succ, List.getElem_cons_zero, List.setIfInBounds_toArray, List.set_cons_succ, List.set_cons_zero]
  refine wpAnyH_take (i := 6) (v := .slice ue extra.length uec) rfl (by kernel_rfl) (by kernel_rfl) (by kernel_rfl) (fun _ _ _ h => h) (Or.inl ⟨by rfl, ?y26⟩) (RB) ?r26
  case y26 =>
    intro w_ hS_
    have c_ := (box_cell (hS_) hk hno).1
    go_simp
    try with_reducible rfl
  simp only [Act.put, List.getElem_toArray, List.getElem_cons_succ, List.getElem_cons_zero, List.setIfInBounds_toArray, List.set_cons_succ, List.set_cons_zero]
  refine wpAnyH_take (i := 7) (v := ?v27) rfl (by kernel_rfl) (by kernel_rfl) (by kernel_rfl) (fun _ _ _ h => h) (Or.inl ⟨by rfl, ?y27⟩) (RB) ?r27
  case y27 =>
    intro w_ hS_
    go_simp
    try with_reducible rfl
  simp only [Act.put, List.getElem_toArray, List.getElem_cons_succ, List.getElem_cons_zero, List.setIfInBounds_toArray, List.set_cons_succ, List.set_cons_zero]
  refine wpAnyH_take (i := 8) (v := ?v28) rfl (by kernel_rfl) (by kernel_rfl) (by kernel_rfl) (fun _ _ _ h => h) (Or.inl ⟨by rfl, ?y28⟩) (RB) ?r28
  case y28 =>
    intro w_ hS_
    go_simp
    try with_reducible rfl
  simp only [Act.put, List.getElem_toArray, List.getElem_cons_succ, List.getElem_cons_zero, List.setIfInBounds_toArray, List.set_cons_succ, List.set_cons_zero]
  refine wpAnyH_take (i := 9) (v := ?v29) rfl (by kernel_rfl) (by kernel_rfl) (by kernel_rfl) (fun _ _ _ h => h) (Or.inl ⟨by rfl, ?y29⟩) (RB) ?r29
  case y29 =>
    intro w_ hS_
    go_simp
    try with_reducible rfl
  simp only [Act.put, List.getElem_toArray, List.getElem_cons_succ, List.getElem_cons_zero, List.setIfInBounds_toArray, List.set_cons_succ, List.set_cons_zero]
  refine wpAnyH_take (i := 10) (v := ?v30) rfl (by kernel_rfl) (by kernel_rfl) (by kernel_rfl) (fun _ _ _ h => h) (Or.inl ⟨by rfl, ?y30⟩) (RB) ?r30
  case y30 =>
    intro w_ hS_
    go_simp
    try with_reducible rfl
  simp only [Act.put, List.getElem_toArray, List.getElem_cons_succ, List.getElem_cons_zero, List.setIfInBounds_toArray, List.set_cons_succ, List.set_cons_zero]
  refine wpAnyH_take (i := 11) (v := .slice ud d.length udc) rfl (by kernel_rfl) (by kernel_rfl) (by kernel_rfl) (fun _ _ _ h => h) (Or.inl ⟨by rfl, ?y31⟩) (RB) ?r31
  case y31 =>
    intro w_ hS_
    have c_ := (box_cell (hS_) hk hno).2
    go_simp
    try with_reducible rfl
  simp only [Act.put, List.getElem_toArray, List.getElem_cons_succ, List.getElem_cons_zero, List.setIfInBounds_toArray, List.set_cons_succ, List.set_cons_zero]
  refine wpAnyH_take (i := 12) (v := ?v32) rfl (by kernel_rfl) (by kernel_rfl) (by kernel_rfl) (fun _ _ _ h => h) (Or.inl ⟨by rfl, ?y32⟩) (RB) ?r32
  case y32 =>
    intro w_ hS_
    go_simp
    try with_reducible rfl
  simp only [Act.put, List.getElem_toArray, List.getElem_cons_succ, List.getElem_cons_zero, List.setIfInBounds_toArray, List.set_cons_succ, List.set_cons_zero]
  refine wpAnyH_take (i := 13) (v := ?v33) rfl (by kernel_rfl) (by kernel_rfl) (by kernel_rfl) (fun _ _ _ h => h) (Or.inl ⟨by rfl, ?y33⟩) (RB) ?r33
  case y33 =>
    intro w_ hS_
    go_simp
    try with_reducible rfl
  simp only [Act.put, List.getElem_toArray, List.getElem_cons_succ, List.getElem_cons_zero, List.setIfInBounds_toArray, List.set_cons_succ, List.set_cons_zero]
  refine wpAnyH_one (k := 14) (fuel := 5) (by kernel_rfl) rfl (by kernel_rfl) (fun K_ hK_ => ?_)
  have cX := a_open key nonce extra d hk hno w4d (.slice (some ⟨gE, 0, none⟩) extra.length (extra.length + 80)) (.slice (some ⟨gD, 0, none⟩) d.length (d.length + 80)) (hS.below hw) (hK.below hw) (head_bysB re rfl hel _) (head_bysB rd rfl (by omega) _) (fun a l c h => by cases h; omega) (fun a l c h => by cases h; omega)
  rw [eLA.out, eEA.out] at cX
  refine wp_call_ex (f := 18) (by kernel_rfl) (cX) (fun v_ q2 hX_ => ?_)
  obtain ⟨⟨vb, rfl, hOvb⟩, hb_⟩ := hX_
  have szc_q2 := hb_.size
  replace RB := keep hb_ RB
  replace re := keep hb_ re
  replace rd := keep hb_ rd
  replace hOva := hOva.keep hb_
  replace hw := Below.after hw hb_
  clear hb_
  clear cX
  refine hK_ _ _ (RB) ?_
  simp only [Act.put, List.getElem_toArray, List.getElem_cons_succ, List.getElem_cons_zero, List.setIfInBounds_toArray, List.set_cons_succ, List.set_cons_zero]
  clear hK_
  refine wpAnyH_take (i := 15) (v := ?v34) rfl (by kernel_rfl) (by kernel_rfl) (by kernel_rfl) (fun _ _ _ h => h) (Or.inl ⟨by rfl, ?y34⟩) (RB) ?r34
  case y34 =>
    intro w_ hS_
    go_simp
    try with_reducible rfl
  simp only [Act.put, List.getElem_toArray, List.getElem_cons_succ, List.getElem_cons_zero, List.setIfInBounds_toArray, List.set_cons_succ, List.set_cons_zero]
  refine wpAnyH_take (i := 16) (v := ?v35) rfl (by kernel_rfl) (by kernel_rfl) (by kernel_rfl) (fun _ _ _ h => h) (Or.inl ⟨by rfl, ?y35⟩) (RB) ?r35
  case y35 =>
    intro w_ hS_
    go_simp
    try with_reducible rfl
  simp only [Act.put, List.getElem_toArray, List.getElem_cons_succ, List.getElem_cons_zero, List.setIfInBounds_toArray, List.set_cons_succ, List.set_cons_zero]
  refine wpAnyH_take (i := 17) (v := ?v36) rfl (by kernel_rfl) (by kernel_rfl) (by kernel_rfl) (fun _ _ _ h => h) (Or.inl ⟨by rfl, ?y36⟩) (RB) ?r36
  case y36 =>
    intro w_ hS_
    go_simp
    try with_reducible rfl
  simp only [Act.put, List.getElem_toArray, List.getElem_cons_succ, List.getElem_cons_zero, List.setIfInBounds_toArray, List.set_cons_succ, List.set_cons_zero]
  refine wpAnyH_take (i := 18) (v := ?v37) rfl (by kernel_rfl) (by kernel_rfl) (by kernel_rfl) (fun _ _ _ h => h) (Or.inl ⟨by rfl, ?y37⟩) (RB) ?r37
  case y37 =>
    intro w_ hS_
    go_simp
    try with_reducible rfl
  simp only [Act.put, List.getElem_toArray, List.getElem_cons_succ, List.getElem_cons_zero, List.setIfInBounds_toArray, List.set_cons_succ, List.set_cons_zero]
  refine wpAnyH_take (i := 19) (v := ?v38) rfl (by kernel_rfl) (by kernel_rfl) (by kernel_rfl) (fun _ _ _ h => h) (Or.inl ⟨by rfl, ?y38⟩) (RB) ?r38
  case y38 =>
    intro w_ hS_
    go_simp
    try with_reducible rfl
  simp only [Act.put, List.getElem_toArray, List.getElem_cons_succ, List.getElem_cons_zero, List.setIfInBounds_toArray, List.set_cons_succ, List.set_cons_zero]
  refine wpAnyH_done (by kernel_rfl) ?_ _
  refine NoPanic.normal ?_
  obtain ⟨aB, cB, rfl⟩ := slen_own hOvb
  obtain ⟨bvb, ebvb⟩ : ∃ n, n = w4d.heap.size := ⟨_, rfl⟩
  obtain ⟨svb, esvb⟩ : ∃ n, n = q2.heap.size := ⟨_, rfl⟩
  have szvb : Hid (∀ k, (Value.slice aB LA.length cB).ownBlock = some k → k < svb) := hide (by rw [esvb]; exact own_high hOvb)
  replace ebvb := hide ebvb
  replace esvb := hide esvb
  have kvb : sva ≤ bvb := by rw [esva.out, ebvb.out]; exact szd_w4d
  have ksb : svb ≤ q2.heap.size := by rw [esvb.out]; exact Nat.le_refl _
  have cE_ := (box_cell RB hk hno).1
  have cD_ := (box_cell RB hk hno).2
  go_wp2_with (first | (refine wpList_load_part rfl 23 _ rfl w.heap.size 0 rfl 31 (boxr key nonce (.slice ue extra.length uec) (.slice ud d.length udc)) (0, 0) (irow .u8 (bl key)) _ RB (box_key _ _ _ _) Tryd.underlying23 rfl (infok8 _ hkl) ?_) | (refine wpList_load_part rfl 28 _ rfl w.heap.size 32 rfl 31 (boxr key nonce (.slice ue extra.length uec) (.slice ud d.length udc)) (0, 0) (irow .u8 (bl nonce)) _ RB (box_nonce _ _ _ _ hk) Tryd.underlying28 rfl hiN ?_) | fail)
  clear cE_ cD_
  have cX := q_open key nonce extra d hk hno q2 _ _ (hEh.out _ hw) (hDh.out _ hw) (fun a l c h => by cases h; exact qD)
  rw [eLA.out, eEA.out] at cX
  refine cX.mono ?_
  rintro e_ w3 ⟨_, rfl, ⟨vc, rfl, hOvc⟩, hb⟩
  obtain ⟨avc, cvc, rfl⟩ := slen_own hOvc
  clear cX
  replace RB := keep hb RB
  replace re := keep hb re
  replace rd := keep hb rd
  replace hOva := hOva.keep hb
  replace hOvb := hOvb.keep hb
  replace hw := Below.after hw hb
  have sz_w3 := hb.size
  clear hb
  have cE_ := (box_cell RB hk hno).1
  have cD_ := (box_cell RB hk hno).2
  go_wp2_with (first | (refine wpList_load_part rfl 23 _ rfl w.heap.size 0 rfl 31 (boxr key nonce (.slice ue extra.length uec) (.slice ud d.length udc)) (0, 0) (irow .u8 (bl key)) _ RB (box_key _ _ _ _) Tryd.underlying23 rfl (infok8 _ hkl) ?_) | (refine wpList_load_part rfl 28 _ rfl w.heap.size 32 rfl 31 (boxr key nonce (.slice ue extra.length uec) (.slice ud d.length udc)) (0, 0) (irow .u8 (bl nonce)) _ RB (box_nonce _ _ _ _ hk) Tryd.underlying28 rfl hiN ?_) | fail)
  clear cE_ cD_
  refine (sB_eq LA w3 _ _ hOva.bys hOvc.bys).mono ?_
  rintro e_ w4 ⟨rfl, hb⟩
  replace RB := keep hb RB
  replace re := keep hb re
  replace rd := keep hb rd
  replace hOva := hOva.keep hb
  replace hOvb := hOvb.keep hb
  replace hOvc := hOvc.keep hb
  replace hw := Below.after hw hb
  have sz_w4 := hb.size
  clear hb
  have cE_ := (box_cell RB hk hno).1
  have cD_ := (box_cell RB hk hno).2
  go_wp2_with (first | (refine wpList_load_part rfl 23 _ rfl w.heap.size 0 rfl 31 (boxr key nonce (.slice ue extra.length uec) (.slice ud d.length udc)) (0, 0) (irow .u8 (bl key)) _ RB (box_key _ _ _ _) Tryd.underlying23 rfl (infok8 _ hkl) ?_) | (refine wpList_load_part rfl 28 _ rfl w.heap.size 32 rfl 31 (boxr key nonce (.slice ue extra.length uec) (.slice ud d.length udc)) (0, 0) (irow .u8 (bl nonce)) _ RB (box_nonce _ _ _ _ hk) Tryd.underlying28 rfl hiN ?_) | fail)
  clear cE_ cD_
  refine (sB_eq LA w4 _ _ hOvb.bys hOvc.bys).mono ?_
  rintro e_ w5 ⟨rfl, hb⟩
  replace RB := keep hb RB
  replace re := keep hb re
  replace rd := keep hb rd
  replace hOva := hOva.keep hb
  replace hOvb := hOvb.keep hb
  replace hOvc := hOvc.keep hb
  replace hw := Below.after hw hb
  have sz_w5 := hb.size
  clear hb
  clear hOvc
  have cE_ := (box_cell RB hk hno).1
  have cD_ := (box_cell RB hk hno).2
  go_wp2_with (first | (refine wpList_load_part rfl 23 _ rfl w.heap.size 0 rfl 31 (boxr key nonce (.slice ue extra.length uec) (.slice ud d.length udc)) (0, 0) (irow .u8 (bl key)) _ RB (box_key _ _ _ _) Tryd.underlying23 rfl (infok8 _ hkl) ?_) | (refine wpList_load_part rfl 28 _ rfl w.heap.size 32 rfl 31 (boxr key nonce (.slice ue extra.length uec) (.slice ud d.length udc)) (0, 0) (irow .u8 (bl nonce)) _ RB (box_nonce _ _ _ _ hk) Tryd.underlying28 rfl hiN ?_) | fail)
  clear cE_ cD_
  have hba : Below w5.heap.size w5 (w5.alloc (.cells #[.slice aA LA.length cA, .slice aB LA.length cB] 29)) := (Below.refl _ _).alloc (Nat.le_refl _) _
  have hsW := size_alloc1 w5 (.cells #[.slice aA LA.length cA, .slice aB LA.length cB] 29)
  have kkva : bva ≤ sva := by rw [ebva.out, esva.out]; omega
  have kkvb : bvb ≤ svb := by rw [ebvb.out, esvb.out]; omega
  obtain ⟨xva, exva, hxva⟩ := own_ap (hOva.keep hba)
  have fva : ∀ g m c, xva = (some g, m, c) → m ≤ 2097232 ∧ g < sva ∧ bva ≤ g := fun g m c e => ⟨by rw [(hxva g m c e).1]; exact lLA.out, szva.out g (by rw [exva, e]; rfl), by rw [ebva.out]; exact (hxva g m c e).2.1⟩
  have rva : ∀ g m c, xva = (some g, m, c) → ∃ l : List Int, l.length = m ∧ (w5.alloc (.cells #[.slice aA LA.length cA, .slice aB LA.length cB] 29)).ownsRow lo 5 1 (.slice (some ⟨g, 0, none⟩) m c) m (l.map (Value.int .u8)) ∧ True := fun g m c e => ⟨bl LA, by rw [bl_len]; exact ((hxva g m c e).1).symm, or_lower (hxva g m c e).2.2.2 (by rw [← ebva.out]; omega), trivial⟩
  obtain ⟨xvb, exvb, hxvb⟩ := own_ap (hOvb.keep hba)
  have fvb : ∀ g m c, xvb = (some g, m, c) → m ≤ 2097232 ∧ g < svb ∧ bvb ≤ g := fun g m c e => ⟨by rw [(hxvb g m c e).1]; exact lLA.out, szvb.out g (by rw [exvb, e]; rfl), by rw [ebvb.out]; exact (hxvb g m c e).2.1⟩
  have rvb : ∀ g m c, xvb = (some g, m, c) → ∃ l : List Int, l.length = m ∧ (w5.alloc (.cells #[.slice aA LA.length cA, .slice aB LA.length cB] 29)).ownsRow lo 5 1 (.slice (some ⟨g, 0, none⟩) m c) m (l.map (Value.int .u8)) ∧ True := fun g m c e => ⟨bl LA, by rw [bl_len]; exact ((hxvb g m c e).1).symm, or_lower (hxvb g m c e).2.2.2 (by rw [← ebvb.out]; omega), trivial⟩
  have hgl : (w5.alloc (.cells #[.slice aA LA.length cA, .slice aB LA.length cB] 29)).heap[w5.heap.size]? = some (.cells (([xva, xvb] : List (Option Nat × Nat × Nat)).map apV).toArray 29 (0, 0)) := by
    rw [show (([xva, xvb] : List (Option Nat × Nat × Nat)).map apV).toArray = #[.slice aA LA.length cA, .slice aB LA.length cB] by simp only [List.map_cons, List.map_nil, ← exva, ← exvb]]
    exact hp1_0 w5 _
  have hR : ApR lo (w5.alloc (.cells #[.slice aA LA.length cA, .slice aB LA.length cB] 29)) [xva, xvb] (fun _ _ => True) := by
    intro j g m c hj
    rcases j with _ | _ | i
    · exact rva g m c (by simpa using hj)
    · exact rvb g m c (by simpa using hj)
    · simp at hj
  have hDj : ApD [xva, xvb] := by
    intro i j g m n c d hi hj
    rcases i with _ | _ | i <;> rcases j with _ | _ | j
    · rfl
    · have h1 := fva _ _ _ (by simpa using hi)
      have h2 := fvb _ _ _ (by simpa using hj)
      omega
    · simp at hj
    · have h1 := fvb _ _ _ (by simpa using hi)
      have h2 := fva _ _ _ (by simpa using hj)
      omega
    · rfl
    · simp at hj
    · simp at hi
    · simp at hi
    · simp at hi
  have hLo : ∀ (i : Nat) g m c, ([xva, xvb] : List (Option Nat × Nat × Nat))[i]? = some (some g, m, c) → g ≠ w5.heap.size ∧ m ≤ 140737488350000 := by
    intro i g m c hi
    rcases i with _ | _ | i
    · have h1 := fva _ _ _ (by simpa using hi)
      omega
    · have h1 := fvb _ _ _ (by simpa using hi)
      omega
    · simp at hi
  replace RB := keep hba RB
  replace re := keep hba re
  replace rd := keep hba rd
  replace hw := Below.after hw hba
  refine (s_apart [xva, xvb] w5.heap.size lo (w5.alloc (.cells #[.slice aA LA.length cA, .slice aB LA.length cB] 29)) (by rw [hsW]; omega) (by simp) hgl hR hDj hLo).mono ?_
  rintro e_ w6 ⟨rfl, hb⟩
  replace RB : w6.heap[w.heap.size]? = _ := (hb.block _ (by omega)).trans RB
  replace re : w6.heap[gE]? = _ := (hb.block _ (by omega)).trans re
  replace rd : w6.heap[gD]? = _ := (hb.block _ (by omega)).trans rd
  replace hw := hw.trans (hb.mono (by omega))
  have sz_w6 : lo ≤ w6.heap.size := by have := hb.size; omega
  clear rva fva hxva hOva szva
  clear rvb fvb hxvb hOvb szvb
  clear hb hba hgl hR hDj hLo hsW
  have cE_ := (box_cell RB hk hno).1
  have cD_ := (box_cell RB hk hno).2
  go_wp2_with (first | (refine wpList_load_part rfl 23 _ rfl w.heap.size 0 rfl 31 (boxr key nonce (.slice ue extra.length uec) (.slice ud d.length udc)) (0, 0) (irow .u8 (bl key)) _ RB (box_key _ _ _ _) Tryd.underlying23 rfl (infok8 _ hkl) ?_) | (refine wpList_load_part rfl 28 _ rfl w.heap.size 32 rfl 31 (boxr key nonce (.slice ue extra.length uec) (.slice ud d.length udc)) (0, 0) (irow .u8 (bl nonce)) _ RB (box_nonce _ _ _ _ hk) Tryd.underlying28 rfl hiN ?_) | fail)
  clear cE_ cD_
  refine (sB_left extra gE w6 _ (hEh.out _ hw) re).mono ?_
  rintro e_ w7 ⟨rfl, hb⟩
  replace RB := keep hb RB
  replace re := keep hb re
  replace rd := keep hb rd
  replace hw := Below.after hw hb
  have sz_w7 := hb.size
  clear hb
  have cE_ := (box_cell RB hk hno).1
  have cD_ := (box_cell RB hk hno).2
  go_wp2_with (first | (refine wpList_load_part rfl 23 _ rfl w.heap.size 0 rfl 31 (boxr key nonce (.slice ue extra.length uec) (.slice ud d.length udc)) (0, 0) (irow .u8 (bl key)) _ RB (box_key _ _ _ _) Tryd.underlying23 rfl (infok8 _ hkl) ?_) | (refine wpList_load_part rfl 28 _ rfl w.heap.size 32 rfl 31 (boxr key nonce (.slice ue extra.length uec) (.slice ud d.length udc)) (0, 0) (irow .u8 (bl nonce)) _ RB (box_nonce _ _ _ _ hk) Tryd.underlying28 rfl hiN ?_) | fail)
  clear cE_ cD_
  refine (sB_left d gD w7 _ (hDh.out _ hw) rd).mono ?_
  rintro e_ w8 ⟨rfl, hb⟩
  replace RB := keep hb RB
  replace re := keep hb re
  replace rd := keep hb rd
  replace hw := Below.after hw hb
  have sz_w8 := hb.size
  clear hb
  have cE_ := (box_cell RB hk hno).1
  have cD_ := (box_cell RB hk hno).2
  go_wp2_with (first | (refine wpList_load_part rfl 23 _ rfl w.heap.size 0 rfl 31 (boxr key nonce (.slice ue extra.length uec) (.slice ud d.length udc)) (0, 0) (irow .u8 (bl key)) _ RB (box_key _ _ _ _) Tryd.underlying23 rfl (infok8 _ hkl) ?_) | (refine wpList_load_part rfl 28 _ rfl w.heap.size 32 rfl 31 (boxr key nonce (.slice ue extra.length uec) (.slice ud d.length udc)) (0, 0) (irow .u8 (bl nonce)) _ RB (box_nonce _ _ _ _ hk) Tryd.underlying28 rfl hiN ?_) | fail)
  clear cE_ cD_
  refine (sB_turned extra gE w8 _ (hEh.out _ hw) re).mono ?_
  rintro e_ w9 ⟨rfl, rt, re2, hgr⟩
  have lt_RB := lt_of_row RB
  replace RB : w9.heap[w.heap.size]? = _ := (hgr.block _ lt_RB (by intro e; injection e with e; omega)).trans RB
  clear lt_RB
  have lt_rd := lt_of_row rd
  replace rd : w9.heap[gD]? = _ := (hgr.block _ lt_rd (by intro e; injection e with e; omega)).trans rd
  clear lt_rd
  replace hw := hw.grown hgr hw.size (fun k h => by injection h with h; omega)
  have lr_rt := hgr.size
  clear hgr re
  have re := re2
  clear re2
  have ln_rt : lo ≤ w8.heap.size := by omega
  generalize w8.heap.size = gT at *
  have cE_ := (box_cell RB hk hno).1
  have cD_ := (box_cell RB hk hno).2
  go_wp2_with (first | (refine wpList_load_part rfl 23 _ rfl w.heap.size 0 rfl 31 (boxr key nonce (.slice ue extra.length uec) (.slice ud d.length udc)) (0, 0) (irow .u8 (bl key)) _ RB (box_key _ _ _ _) Tryd.underlying23 rfl (infok8 _ hkl) ?_) | (refine wpList_load_part rfl 28 _ rfl w.heap.size 32 rfl 31 (boxr key nonce (.slice ue extra.length uec) (.slice ud d.length udc)) (0, 0) (irow .u8 (bl nonce)) _ RB (box_nonce _ _ _ _ hk) Tryd.underlying28 rfl hiN ?_) | fail)
  clear cE_ cD_
  have cX := q_seal key nonce (tbn extra) d hk hno w9 (.slice (some ⟨gT, 0, none⟩) extra.length extra.length) _ (row_bysB rt (tbn_len _) hel _) (hDh.out _ hw)
  rw [eLX.out, eEX.out] at cX
  refine cX.mono ?_
  rintro e_ w10 ⟨_, rfl, ⟨vx, rfl, hOvx⟩, hb⟩
  obtain ⟨avx, cvx, rfl⟩ := slen_own hOvx
  have bax : ∀ k, (Value.slice avx LX.length cvx).ownBlock = some k → lo ≤ k := fun k h => Nat.le_trans (by omega) (own_low hOvx k h)
  clear cX
  replace RB := keep hb RB
  replace re := keep hb re
  replace rd := keep hb rd
  replace rt := keep hb rt
  replace hw := Below.after hw hb
  have sz_w10 := hb.size
  clear hb
  have hdx : decide ((d.length : Int) + 80 < (LX.length : Int)) = false := by simp; omega
  have hcp := copy_bys (o := 0) (dLen := d.length + 80) (dCap := d.length + 80) rd hOvx.bys (by rw [bl_len]; omega) (by simp only [List.length_append, bl_len, mk4_len]; omega)
  rw [List.take_zero, List.nil_append, Nat.zero_add, bl_len] at hcp
  have hgo : goInt LX.length = .int .i64 (LX.length : Int) := rfl
  rw [hgo] at hcp
  generalize eR : (bl d ++ mk4 80).drop LX.length = R at *
  clear eR
  go_wp2_with (fail)
  have hOvx2 := own_setRow hOvx (g := gD) (irow .u8 (bl LX ++ R)) (fun k h => by have := bax k h; omega)
  replace RB := (setRow_other w10 gD (w.heap.size) (irow .u8 (bl LX ++ R)) (by omega)).trans RB
  replace re := (setRow_other w10 gD gE (irow .u8 (bl LX ++ R)) (by omega)).trans re
  replace rt := (setRow_other w10 gD gT (irow .u8 (bl LX ++ R)) (by omega)).trans rt
  replace rd := setRow_heap w10 gD _ (irow .u8 (bl LX ++ R)) _ _ rd
  replace hw := below_setRow hw (show w.heap.size ≤ gD by omega) (irow .u8 (bl LX ++ R))
  clear hOvx hcp hgo hdx
  have hOvx := hOvx2
  clear hOvx2 bax slD
  generalize w10.setRow gD (irow .u8 (bl LX ++ R)) = w11 at *
  have slD := slice_to (some ⟨gD, 0, none⟩) (d.length + 80) (d.length + 80) LX.length (by omega)
  have hbd : Below w11.heap.size w11 w11.drew := below_drN (Below.refl _ _) 1
  have szd_w15d := hbd.size
  replace RB := keep hbd RB
  replace re := keep hbd re
  replace rd := keep hbd rd
  replace rt := keep hbd rt
  replace hOvx := hOvx.keep hbd
  replace hw := Below.after hw hbd
  clear hbd
  refine wp_region_noPanic ?_
  refine wp_region_held (S := fun W => W.heap[w.heap.size]? = some (.cells (boxr key nonce (.slice ue extra.length uec) (.slice ud d.length udc)) 31 (0, 0))) (by kernel_rfl) ?_
  change wpAnyH _ _ _ _ _ _ _ _ (World.drew _)
  generalize w11.drew = w15d at *
  refine wpAnyH_take (i := 0) (v := ?v39) rfl (by kernel_rfl) (by kernel_rfl) (by kernel_rfl) (fun _ _ _ h => h) (Or.inl ⟨by rfl, ?y39⟩) (RB) ?r39
  case y39 =>
    intro w_ hS_
    go_simp
    try with_reducible rfl
  simp only [Act.put, List.getElem_toArray, List.getElem_cons_zero, List.setIfInBounds_toArray, List.set_cons_succ, List.set_cons_zero]
  refine wpAnyH_take (i := 1) (v := .agg (irow .u8 (bl key))) rfl (by kernel_rfl) (by kernel_rfl) (by kernel_rfl) (fun _ _ _ h => h) (Or.inl ⟨by rfl, ?y40⟩) (RB) ?r40
  case y40 =>
    intro w_ hS_
    simp only [List.getElem_toArray, List.getElem_cons_succ, List.getElem_cons_zero]
    exact run_load_part 23 _ (by rfl) (w.heap.size) 0 (by rfl) 31 (boxr key nonce (.slice ue extra.length uec) (.slice ud d.length udc)) (0, 0) (irow .u8 (bl key)) _ (hS_) (box_key _ _ _ _) Tryd.underlying23 rfl (infok8 _ hkl)
  simp only [Act.put, List.getElem_toArray, List.getElem_cons_succ, List.getElem_cons_zero, List.setIfInBounds_toArray, List.set_cons_succ, List.set_cons_zero]
  refine wpAnyH_take (i := 2) (v := ?v41) rfl (by kernel_rfl) (by kernel_rfl) (by kernel_rfl) (fun _ _ _ h => h) (Or.inl ⟨by rfl, ?y41⟩) (RB) ?r41
  case y41 =>
    intro w_ hS_
    go_simp
    try with_reducible rfl
  simp only [Act.put, List.getElem_toArray, List.getElem_cons_succ, List.getElem_cons_zero, List.setIfInBounds_toArray, List.set_cons_succ, List.set_cons_zero]
  refine wpAnyH_take (i := 3) (v := .agg (irow .u8 (bl nonce))) rfl (by kernel_rfl) (by kernel_rfl) (by kernel_rfl) (fun _ _ _ h => h) (Or.inl ⟨by rfl, ?y42⟩) (RB) ?r42
  case y42 =>
    intro w_ hS_
    simp only [List.getElem_toArray, List.getElem_cons_succ, List.getElem_cons_zero]
    exact run_load_part 28 _ (by rfl) (w.heap.size) 32 (by rfl) 31 (boxr key nonce (.slice ue extra.length uec) (.slice ud d.length udc)) (0, 0) (irow .u8 (bl nonce)) _ (hS_) (box_nonce _ _ _ _ hk) Tryd.underlying28 rfl hiN
  simp only [Act.put, List.getElem_toArray, List.getElem_cons_succ, List.getElem_cons_zero, List.setIfInBounds_toArray, List.set_cons_succ, List.set_cons_zero]
  refine wpAnyH_take (i := 4) (v := ?v43) rfl (by kernel_rfl) (by kernel_rfl) (by kernel_rfl) (fun _ _ _ h => h) (Or.inl ⟨by rfl, ?y43⟩) (RB) ?r43
  case y43 =>
    intro w_ hS_
    go_simp
    try with_reducible rfl
  simp only [Act.put, List.getElem_toArray, List.getElem_cons_succ, List.getElem_cons_zero, List.setIfInBounds_toArray, List.set_cons_succ, List.set_cons_zero]
  refine wpAnyH_take (i := 5) (v := ?v44) rfl (by kernel_rfl) (by kernel_rfl) (by kernel_rfl) (fun _ _ _ h => h) (Or.inl ⟨by rfl, ?y44⟩) (RB) ?r44
  case y44 =>
    intro w_ hS_
    go_simp
    try with_reducible rfl
  simp only [Act.put, List.getElem_toArray, List.getElem_cons_succ, List.getElem_cons_zero, List.setIfInBounds_toArray, List.set_cons_succ, List.set_cons_zero]
  refine wpAnyH_take (i := 6) (v := .slice ue extra.length uec) rfl (by kernel_rfl) (by kernel_rfl) (by kernel_rfl) (fun _ _ _ h => h) (Or.inl ⟨by rfl, ?y45⟩) (RB) ?r45
  case y45 =>
    intro w_ hS_
    have c_ := (box_cell (hS_) hk hno).1
    go_simp
    try with_reducible rfl
  simp only [Act.put, List.getElem_toArray, List.getElem_cons_succ, List.getElem_cons_zero, List.setIfInBounds_toArray, List.set_cons_succ, List.set_cons_zero]
  refine wpAnyH_take (i := 7) (v := ?v46) rfl (by kernel_rfl) (by kernel_rfl) (by kernel_rfl) (fun _ _ _ h => h) (Or.inl ⟨by rfl, ?y46⟩) (RB) ?r46
  case y46 =>
    intro w_ hS_
    go_simp
    try with_reducible rfl
  simp only [Act.put, List.getElem_toArray, List.getElem_cons_succ, List.getElem_cons_zero, List.setIfInBounds_toArray, List.set_cons_succ, List.set_cons_zero]
  refine wpAnyH_take (i := 8) (v := ?v47) rfl (by kernel_rfl) (by kernel_rfl) (by kernel_rfl) (fun _ _ _ h => h) (Or.inl ⟨by rfl, ?y47⟩) (RB) ?r47
  case y47 =>
    intro w_ hS_
    go_simp
    try with_reducible rfl
  simp only [Act.put, List.getElem_toArray, List.getElem_cons_succ, List.getElem_cons_zero, List.setIfInBounds_toArray, List.set_cons_succ, List.set_cons_zero]
  refine wpAnyH_take (i := 9) (v := ?v48) rfl (by kernel_rfl) (by kernel_rfl) (by kernel_rfl) (fun _ _ _ h => h) (Or.inl ⟨by rfl, ?y48⟩) (RB) ?r48
  case y48 =>
    intro w_ hS_
    go_simp
    try with_reducible rfl
  simp only [Act.put, List.getElem_toArray, List.getElem_cons_succ, List.getElem_cons_zero, List.setIfInBounds_toArray, List.set_cons_succ, List.set_cons_zero]
  refine wpAnyH_take (i := 10) (v := ?v49) rfl (by kernel_rfl) (by kernel_rfl) (by kernel_rfl) (fun _ _ _ h => h) (Or.inl ⟨by rfl, ?y49⟩) (RB) ?r49
  case y49 =>
    intro w_ hS_
    go_simp
    try with_reducible rfl
  simp only [Act.put, List.getElem_toArray, List.getElem_cons_succ, List.getElem_cons_zero, List.setIfInBounds_toArray, List.set_cons_succ, List.set_cons_zero]
  refine wpAnyH_take (i := 11) (v := ?v50) rfl (by kernel_rfl) (by kernel_rfl) (by kernel_rfl) (fun _ _ _ h => h) (Or.inl ⟨by rfl, ?y50⟩) (RB) ?r50
  case y50 =>
    intro w_ hS_
    go_simp
    try with_reducible rfl
  simp only [Act.put, List.getElem_toArray, List.getElem_cons_succ, List.getElem_cons_zero, List.setIfInBounds_toArray, List.set_cons_succ, List.set_cons_zero]
  refine wpAnyH_take (i := 12) (v := ?v51) rfl (by kernel_rfl) (by kernel_rfl) (by kernel_rfl) (fun _ _ _ h => h) (Or.inl ⟨by rfl, ?y51⟩) (RB) ?r51
  case y51 =>
    intro w_ hS_
    go_simp
    try with_reducible rfl
  simp only [Act.put, List.getElem_toArray, List.getElem_cons_succ, List.getElem_cons_zero, List.setIfInBounds_toArray, List.set_cons_succ, List.set_cons_zero]
  refine wpAnyH_one (k := 13) (fuel := 5) (by kernel_rfl) rfl (by kernel_rfl) (fun K_ hK_ => ?_)
  have cX := a_open key nonce (tbn extra) LX hk hno w15d (.slice (some ⟨gE, 0, none⟩) extra.length (extra.length + 80)) (.slice (some ⟨gD, 0, none⟩) LX.length (d.length + 80)) (hS.below hw) (hK.below hw) (head_bysB re (tbn_len _) hel _) (head_bysB rd rfl (by omega) _) (fun a l c h => by cases h; omega) (fun a l c h => by cases h; omega)
  rw [eLT.out, eET.out] at cX
  refine wp_call_ex (f := 18) (by kernel_rfl) (cX) (fun v_ q3 hX_ => ?_)
  obtain ⟨⟨ve_, rfl, hOve_⟩, hb_⟩ := hX_
  have szc_q3 := hb_.size
  replace RB := keep hb_ RB
  replace re := keep hb_ re
  replace rd := keep hb_ rd
  replace rt := keep hb_ rt
  replace hOvx := hOvx.keep hb_
  replace hw := Below.after hw hb_
  clear hb_
  clear cX
  refine hK_ _ _ (RB) ?_
  simp only [Act.put, List.getElem_toArray, List.getElem_cons_succ, List.getElem_cons_zero, List.setIfInBounds_toArray, List.set_cons_succ, List.set_cons_zero]
  clear hK_
  refine wpAnyH_take (i := 14) (v := ?v52) rfl (by kernel_rfl) (by kernel_rfl) (by kernel_rfl) (fun _ _ _ h => h) (Or.inl ⟨by rfl, ?y52⟩) (RB) ?r52
  case y52 =>
    intro w_ hS_
    go_simp
    try with_reducible rfl
  simp only [Act.put, List.getElem_toArray, List.getElem_cons_succ, List.getElem_cons_zero, List.setIfInBounds_toArray, List.set_cons_succ, List.set_cons_zero]
  refine wpAnyH_take (i := 15) (v := ?v53) rfl (by kernel_rfl) (by kernel_rfl) (by kernel_rfl) (fun _ _ _ h => h) (Or.inl ⟨by rfl, ?y53⟩) (RB) ?r53
  case y53 =>
    intro w_ hS_
    go_simp
    try with_reducible rfl
  simp only [Act.put, List.getElem_toArray, List.getElem_cons_succ, List.getElem_cons_zero, List.setIfInBounds_toArray, List.set_cons_succ, List.set_cons_zero]
  refine wpAnyH_take (i := 16) (v := ?v54) rfl (by kernel_rfl) (by kernel_rfl) (by kernel_rfl) (fun _ _ _ h => h) (Or.inl ⟨by rfl, ?y54⟩) (RB) ?r54
  case y54 =>
    intro w_ hS_
    go_simp
    try with_reducible rfl
  simp only [Act.put, List.getElem_toArray, List.getElem_cons_succ, List.getElem_cons_zero, List.setIfInBounds_toArray, List.set_cons_succ, List.set_cons_zero]
  refine wpAnyH_take (i := 17) (v := ?v55) rfl (by kernel_rfl) (by kernel_rfl) (by kernel_rfl) (fun _ _ _ h => h) (Or.inl ⟨by rfl, ?y55⟩) (RB) ?r55
  case y55 =>
    intro w_ hS_
    go_simp
    try with_reducible rfl
  simp only [Act.put, List.getElem_toArray, List.getElem_cons_succ, List.getElem_cons_zero, List.setIfInBounds_toArray, List.set_cons_succ, List.set_cons_zero]
  refine wpAnyH_take (i := 18) (v := ?v56) rfl (by kernel_rfl) (by kernel_rfl) (by kernel_rfl) (fun _ _ _ h => h) (Or.inl ⟨by rfl, ?y56⟩) (RB) ?r56
  case y56 =>
    intro w_ hS_
    go_simp
    try with_reducible rfl
  simp only [Act.put, List.getElem_toArray, List.getElem_cons_succ, List.getElem_cons_zero, List.setIfInBounds_toArray, List.set_cons_succ, List.set_cons_zero]
  refine wpAnyH_done (by kernel_rfl) ?_ _
  refine NoPanic.normal ?_
  obtain ⟨aT, cT, rfl⟩ := slen_own hOve_
  clear re rd slE slD
  have cE_ := (box_cell RB hk hno).1
  have cD_ := (box_cell RB hk hno).2
  go_wp2_with (first | (refine wpList_load_part rfl 23 _ rfl w.heap.size 0 rfl 31 (boxr key nonce (.slice ue extra.length uec) (.slice ud d.length udc)) (0, 0) (irow .u8 (bl key)) _ RB (box_key _ _ _ _) Tryd.underlying23 rfl (infok8 _ hkl) ?_) | (refine wpList_load_part rfl 28 _ rfl w.heap.size 32 rfl 31 (boxr key nonce (.slice ue extra.length uec) (.slice ud d.length udc)) (0, 0) (irow .u8 (bl nonce)) _ RB (box_nonce _ _ _ _ hk) Tryd.underlying28 rfl hiN ?_) | fail)
  clear cE_ cD_
  have cX := q_open key nonce (tbn extra) LX hk hno q3 (.slice (some ⟨gT, 0, none⟩) extra.length extra.length) _ (row_bysB rt (tbn_len _) hel _) (hOvx.bysB (by omega)) (own_capB hOvx)
  rw [eLT.out, eET.out] at cX
  refine cX.mono ?_
  rintro e_ w12 ⟨_, rfl, ⟨vf, rfl, hOvf⟩, hb⟩
  obtain ⟨avf, cvf, rfl⟩ := slen_own hOvf
  clear cX
  replace RB := keep hb RB
  replace rt := keep hb rt
  replace hOvx := hOvx.keep hb
  replace hOve_ := hOve_.keep hb
  replace hw := Below.after hw hb
  have sz_w12 := hb.size
  clear hb
  have cE_ := (box_cell RB hk hno).1
  have cD_ := (box_cell RB hk hno).2
  go_wp2_with (first | (refine wpList_load_part rfl 23 _ rfl w.heap.size 0 rfl 31 (boxr key nonce (.slice ue extra.length uec) (.slice ud d.length udc)) (0, 0) (irow .u8 (bl key)) _ RB (box_key _ _ _ _) Tryd.underlying23 rfl (infok8 _ hkl) ?_) | (refine wpList_load_part rfl 28 _ rfl w.heap.size 32 rfl 31 (boxr key nonce (.slice ue extra.length uec) (.slice ud d.length udc)) (0, 0) (irow .u8 (bl nonce)) _ RB (box_nonce _ _ _ _ hk) Tryd.underlying28 rfl hiN ?_) | fail)
  clear cE_ cD_
  refine (sB_eq LT w12 _ _ hOve_.bys hOvf.bys).mono ?_
  rintro e_ w13 ⟨rfl, hb⟩
  replace RB := keep hb RB
  replace rt := keep hb rt
  replace hOvx := hOvx.keep hb
  replace hOve_ := hOve_.keep hb
  replace hw := Below.after hw hb
  have sz_w13 := hb.size
  clear hb
  go_wp2
  go_ret
  exact ⟨rfl, hw⟩

end Go.Proofs.YtamieopjigjfiaaDoor
