import Derived.Test.YtamieopjigjfiaaDoorProg
import Derived.WalkKit
import Derived.WalkSpells
import Derived.WalkLawsBesides
import Derived.Lib.QuietBelow
import Derived.BigQuiet
import Derived.OrdersHeld
import Derived.OwnWalk
import Derived.Lib.SlBytesConst
import Derived.Deep.RegionHeld3
import Derived.Test.YtamieopjigjfiaaDoorKa
import Derived.Test.YtamieopjigjfiaaDoorSq
import Derived.Test.YtamieopjigjfiaaDoorSj
import Derived.Test.YtamieopjigjfiaaDoorSl
namespace Go.Proofs.YtamieopjigjfiaaDoor
set_option maxRecDepth 100000
open Go Go.RowKit Go.Sort
attribute [local go_sem] setCell_drewN alloc_drewN


theorem oth_bys (W : World) : BysB (W.alloc (.cells #[.int .u8 111, .int .u8 116, .int .u8 104, .int .u8 101, .int .u8 114] 5 (5, 6))) (.slice (some ⟨W.heap.size, 0, none⟩) 5 5) [111#8, 116#8, 104#8, 101#8, 114#8] := ⟨bys_rowF (l := bl [111#8, 116#8, 104#8, 101#8, 114#8]) (hp1_0 W _) (by decide) (bl_bnd _) rfl, by decide, fun a l c h h2 => by cases h; cases h2⟩
theorem nil_bysB (W : World) : BysB W (.slice none 0 0) [] := ⟨bys_nil W, by decide, fun a l c h _ => by cases h; rfl⟩
theorem head_bysB {W : World} {g n : Nat} {e : List B} {m : List Int} {t : TypeId} (hg : W.heap[g]? = some (.cells (irow .u8 (bl e ++ m)) t (0, 0))) (hn : e.length = n) (hl : n ≤ 140737488351232) (cap : Nat) : BysB W (.slice (some ⟨g, 0, none⟩) n cap) e := by
  have h := Bys.of_prefix hg (by rw [bl_len]; omega) (bl_bnd e) cap
  rw [bl_len, hn] at h
  exact ⟨h, by omega, fun a l c h h2 => by cases h; cases h2⟩
theorem row_bysB {W : World} {g n : Nat} {e : List B} {t : TypeId} (hg : W.heap[g]? = some (.cells (irow .u8 (bl e)) t (0, 0))) (hn : e.length = n) (hl : n ≤ 140737488351232) (cap : Nat) : BysB W (.slice (some ⟨g, 0, none⟩) n cap) e := head_bysB (m := []) (by rw [List.append_nil]; exact hg) hn hl cap
/-- The bytes turned about. -/
def tbn (e : List B) : List B := lb (tn4 (bl e))
theorem bl_tbn (e : List B) : bl (tbn e) = tn4 (bl e) := bl_lb (tn4_bd _)
theorem tbn_len (e : List B) : (tbn e).length = e.length := by rw [tbn, lb_len, tn4_len, bl_len]
theorem sB_hand (e : List B) (w : World) (v : Value) (hB : BysB w v e) : Calls Tryd.prog 11 #[v] w fun r w' => r = .returned (.slice (some ⟨w.heap.size, 0, none⟩) (e.length + 80) (e.length + 80)) ∧ w'.heap[w.heap.size]? = some (.cells (irow .u8 (bl e ++ mk4 80)) 5 (0, 0)) ∧ Below w.heap.size w w' := by
  have h := s_hand (bl e) w v hB.1 (by rw [bl_len]; have := hB.2.1; omega)
  rw [bl_len] at h
  exact h
theorem sB_left (e : List B) (g : Nat) (w : World) (v : Value) (hB : BysB w v e) (rg : w.heap[g]? = some (.cells (irow .u8 (bl e ++ mk4 80)) 5 (0, 0))) : Calls Tryd.prog 16 #[.slice (some ⟨g, 0, none⟩) (e.length + 80) (e.length + 80), v] w fun r w' => r = .returned (.bool true) ∧ Below w.heap.size w w' := by
  have h := s_left (bl e) g w v hB.1 (by rw [bl_len]; have := hB.2.1; omega) rg
  rw [bl_len] at h
  exact h
theorem sB_turned (e : List B) (g : Nat) (w : World) (v : Value) (hB : BysB w v e) (rg : w.heap[g]? = some (.cells (irow .u8 (bl e ++ mk4 80)) 5 (0, 0))) : Calls Tryd.prog 17 #[.slice (some ⟨g, 0, none⟩) (e.length + 80) (e.length + 80), v] w fun r w' => r = .returned (.slice (some ⟨w.heap.size, 0, none⟩) e.length e.length) ∧ w'.heap[w.heap.size]? = some (.cells (irow .u8 (bl (tbn e))) 5 (0, 0)) ∧ w'.heap[g]? = some (.cells (irow .u8 (bl (tbn e) ++ mk4 80)) 5 (0, 0)) ∧ w.grownBy w' (some g) := by
  have h := s_turned (bl e) g w v hB.1 (by rw [bl_len]; have := hB.2.1; omega) rg
  rw [bl_len] at h
  rw [bl_tbn]
  exact h
set_option maxRecDepth 100000 in
set_option maxHeartbeats 4000000 in
theorem seals_any (key nonce extra d : List B) (hk : key.length = 32) (hno : nonce.length = 16) (w : World) (ve vd : Value) (hS : Sta w) (hK : Kon w) (hE : BysC w ve extra) (hD : BysC w vd d) : Calls Tryd.prog 4 #[.agg (boxr key nonce ve vd)] w fun e w' => e = .returned (.bool true) ∧ Below w.heap.size w w' := by
  have hkl : (bl key).length = 32 := by rw [bl_len, hk]
  have hiN := info_bl infoN nonce hno
  obtain ⟨hE, qE⟩ := hE
  obtain ⟨hD, qD⟩ := hD
  obtain ⟨ue, uec, rfl⟩ : ∃ ao cap, ve = .slice ao extra.length cap := by
    obtain ⟨⟨ao, cap, h, _⟩, _⟩ := hE
    rw [bl_len] at h
    exact ⟨ao, cap, h⟩
  obtain ⟨ud, udc, rfl⟩ : ∃ ao cap, vd = .slice ao d.length cap := by
    obtain ⟨⟨ao, cap, h, _⟩, _⟩ := hD
    rw [bl_len] at h
    exact ⟨ao, cap, h⟩
  replace qE := qE _ _ _ rfl
  replace qD := qD _ _ _ rfl
  have hel : extra.length ≤ 140737488351232 := hE.2.1
  have hdl : d.length ≤ 140737488351232 := hD.2.1
  have RB := hp1_0 w (.cells (boxr key nonce (.slice ue extra.length uec) (.slice ud d.length udc)) 31)
  have hw : Below w.heap.size w (w.alloc (.cells (boxr key nonce (.slice ue extra.length uec) (.slice ud d.length udc)) 31)) := (Below.refl _ _).alloc (Nat.le_refl _) _
  have hEh : Hid (∀ V, Below w.heap.size w V → BysB V (.slice ue extra.length uec) extra) := hide (fun V h => hE.keep h)
  have hDh : Hid (∀ V, Below w.heap.size w V → BysB V (.slice ud d.length udc) d) := hide (fun V h => hD.keep h)
  clear hE hD
  obtain ⟨LA, eLA⟩ : ∃ L, slr key nonce extra d = L := ⟨_, rfl⟩
  obtain ⟨EA, eEA⟩ : ∃ z, sle extra d = z := ⟨_, rfl⟩
  obtain ⟨LO, eLO⟩ : ∃ L, slr key nonce [] [111#8, 116#8, 104#8, 101#8, 114#8] = L := ⟨_, rfl⟩
  obtain ⟨EO, eEO⟩ : ∃ z, sle [] [111#8, 116#8, 104#8, 101#8, 114#8] = z := ⟨_, rfl⟩
  obtain ⟨LT, eLT⟩ : ∃ L, slr key nonce (tbn extra) (tbn d) = L := ⟨_, rfl⟩
  obtain ⟨ET, eET⟩ : ∃ z, sle (tbn extra) (tbn d) = z := ⟨_, rfl⟩
  have lLA : Hid (LA.length ≤ 2097232) := hide (by rw [← eLA, slr]; split; exact Nat.zero_le _; rw [bx_len]; omega)
  have lLO : Hid (LO.length ≤ 2097232) := hide (by rw [← eLO, slr]; split; exact Nat.zero_le _; rw [bx_len]; simp)
  replace eLA := hide eLA
  replace eEA := hide eEA
  replace eLO := hide eLO
  replace eEO := hide eEO
  replace eLT := hide eLT
  replace eET := hide eET
  go_enter Tryd.func4, Tryd.ntmps4
  go_wp2_with (first | (refine wpList_box rfl 31 _ rfl _ rfl (bBox _) ?_; refine wpList_stay ?_) | fail)
  unfold WpStay
  generalize w.alloc (.cells (boxr key nonce (.slice ue extra.length uec) (.slice ud d.length udc)) 31) = w0 at *
  have lB := lt_of_row RB
  have cE_ := (box_cell RB hk hno).1
  have cD_ := (box_cell RB hk hno).2
  go_wp2_with (first | (refine wpList_load_part rfl 23 _ rfl w.heap.size 0 rfl 31 (boxr key nonce (.slice ue extra.length uec) (.slice ud d.length udc)) (0, 0) (irow .u8 (bl key)) _ RB (box_key _ _ _ _) Tryd.underlying23 rfl (infok8 _ hkl) ?_) | (refine wpList_load_part rfl 28 _ rfl w.heap.size 32 rfl 31 (boxr key nonce (.slice ue extra.length uec) (.slice ud d.length udc)) (0, 0) (irow .u8 (bl nonce)) _ RB (box_nonce _ _ _ _ hk) Tryd.underlying28 rfl hiN ?_) | fail)
  clear cE_ cD_
  refine (sB_hand extra w0 _ (hEh.out _ hw)).mono ?_
  rintro e_ w1 ⟨rfl, re, hb⟩
  replace RB := keep hb RB
  replace hw := Below.after hw hb
  have sz_w1 := hb.size
  clear hb
  generalize w0.heap.size = gE at *
  have lgE := lt_of_row re
  have cE_ := (box_cell RB hk hno).1
  have cD_ := (box_cell RB hk hno).2
  go_wp2_with (first | (refine wpList_load_part rfl 23 _ rfl w.heap.size 0 rfl 31 (boxr key nonce (.slice ue extra.length uec) (.slice ud d.length udc)) (0, 0) (irow .u8 (bl key)) _ RB (box_key _ _ _ _) Tryd.underlying23 rfl (infok8 _ hkl) ?_) | (refine wpList_load_part rfl 28 _ rfl w.heap.size 32 rfl 31 (boxr key nonce (.slice ue extra.length uec) (.slice ud d.length udc)) (0, 0) (irow .u8 (bl nonce)) _ RB (box_nonce _ _ _ _ hk) Tryd.underlying28 rfl hiN ?_) | fail)
  clear cE_ cD_
  refine (sB_hand d w1 _ (hDh.out _ hw)).mono ?_
  rintro e_ w2 ⟨rfl, rd, hb⟩
  replace RB := keep hb RB
  replace re := keep hb re
  replace hw := Below.after hw hb
  have sz_w2 := hb.size
  clear hb
  generalize w1.heap.size = gD at *
  have lgD := lt_of_row rd
  have slE := slice_to (some ⟨gE, 0, none⟩) (extra.length + 80) (extra.length + 80) extra.length (by omega)
  have slD := slice_to (some ⟨gD, 0, none⟩) (d.length + 80) (d.length + 80) d.length (by omega)
  obtain ⟨lo, elo⟩ : ∃ n, n = w2.heap.size := ⟨_, rfl⟩
  have kD : gD < lo := by rw [elo]; exact lgD
  have kE : gE < lo := by omega
  have kB : w.heap.size < lo := by omega
  replace elo := hide elo
  go_wp2_with (fail)
  have hbd : Below w2.heap.size w2 w2.drew := below_drN (Below.refl _ _) 1
  have szd_w3d := hbd.size
  replace RB := keep hbd RB
  replace re := keep hbd re
  replace rd := keep hbd rd
  replace hw := Below.after hw hbd
  clear hbd
  refine wp_region_noPanic ?_
  refine wp_region_held (S := fun W => W.heap[w.heap.size]? = some (.cells (boxr key nonce (.slice ue extra.length uec) (.slice ud d.length udc)) 31 (0, 0))) (by kernel_rfl) ?_
  change wpAnyH _ _ _ _ _ _ _ _ (World.drew _)
  generalize w2.drew = w3d at *
  refine wpAnyH_take (i := 0) (v := ?v1) rfl (by kernel_rfl) (by kernel_rfl) (by kernel_rfl) (fun _ _ _ h => h) (Or.inl ⟨by rfl, ?y1⟩) (RB) ?r1
  case y1 =>
    intro w_ hS_
    go_simp
    try with_reducible rfl
  simp only [Act.put, List.getElem_toArray, List.getElem_cons_zero, List.setIfInBounds_toArray, List.set_cons_succ, List.set_cons_zero]
  refine wpAnyH_take (i := 1) (v := .agg (irow .u8 (bl key))) rfl (by kernel_rfl) (by kernel_rfl) (by kernel_rfl) (fun _ _ _ h => h) (Or.inl ⟨by rfl, ?y2⟩) (RB) ?r2
  case y2 =>
    intro w_ hS_
    simp only [List.getElem_toArray, List.getElem_cons_succ, List.getElem_cons_zero]
    exact run_load_part 23 _ (by rfl) (w.heap.size) 0 (by rfl) 31 (boxr key nonce (.slice ue extra.length uec) (.slice ud d.length udc)) (0, 0) (irow .u8 (bl key)) _ (hS_) (box_key _ _ _ _) Tryd.underlying23 rfl (infok8 _ hkl)
  simp only [Act.put, List.getElem_toArray, List.getElem_cons_succ, List.getElem_cons_zero, List.setIfInBounds_toArray, List.set_cons_succ, List.set_cons_zero]
  refine wpAnyH_take (i := 2) (v := ?v3) rfl (by kernel_rfl) (by kernel_rfl) (by kernel_rfl) (fun _ _ _ h => h) (Or.inl ⟨by rfl, ?y3⟩) (RB) ?r3
  case y3 =>
    intro w_ hS_
    go_simp
    try with_reducible rfl
  simp only [Act.put, List.getElem_toArray, List.getElem_cons_succ, List.getElem_cons_zero, List.setIfInBounds_toArray, List.set_cons_succ, List.set_cons_zero]
  refine wpAnyH_take (i := 3) (v := .agg (irow .u8 (bl nonce))) rfl (by kernel_rfl) (by kernel_rfl) (by kernel_rfl) (fun _ _ _ h => h) (Or.inl ⟨by rfl, ?y4⟩) (RB) ?r4
  case y4 =>
    intro w_ hS_
    simp only [List.getElem_toArray, List.getElem_cons_succ, List.getElem_cons_zero]
    exact run_load_part 28 _ (by rfl) (w.heap.size) 32 (by rfl) 31 (boxr key nonce (.slice ue extra.length uec) (.slice ud d.length udc)) (0, 0) (irow .u8 (bl nonce)) _ (hS_) (box_nonce _ _ _ _ hk) Tryd.underlying28 rfl hiN
  simp only [Act.put, List.getElem_toArray, List.getElem_cons_succ, List.getElem_cons_zero, List.setIfInBounds_toArray, List.set_cons_succ, List.set_cons_zero]
  refine wpAnyH_take (i := 4) (v := ?v5) rfl (by kernel_rfl) (by kernel_rfl) (by kernel_rfl) (fun _ _ _ h => h) (Or.inl ⟨by rfl, ?y5⟩) (RB) ?r5
  case y5 =>
    intro w_ hS_
    go_simp
    try with_reducible rfl
  simp only [Act.put, List.getElem_toArray, List.getElem_cons_succ, List.getElem_cons_zero, List.setIfInBounds_toArray, List.set_cons_succ, List.set_cons_zero]
  refine wpAnyH_take (i := 5) (v := ?v6) rfl (by kernel_rfl) (by kernel_rfl) (by kernel_rfl) (fun _ _ _ h => h) (Or.inl ⟨by rfl, ?y6⟩) (RB) ?r6
  case y6 =>
    intro w_ hS_
    go_simp
    try with_reducible rfl
  simp only [Act.put, List.getElem_toArray, List.getElem_cons_succ, List.getElem_cons_zero, List.setIfInBounds_toArray, List.set_cons_succ, List.set_cons_zero]
  refine wpAnyH_take (i := 6) (v := .slice ue extra.length uec) rfl (by kernel_rfl) (by kernel_rfl) (by kernel_rfl) (fun _ _ _ h => h) (Or.inl ⟨by rfl, ?y7⟩) (RB) ?r7
  case y7 =>
    intro w_ hS_
    have c_ := (box_cell (hS_) hk hno).1
    go_simp
    try with_reducible rfl
  simp only [Act.put, List.getElem_toArray, List.getElem_cons_succ, List.getElem_cons_zero, List.setIfInBounds_toArray, List.set_cons_succ, List.set_cons_zero]
  refine wpAnyH_take (i := 7) (v := ?v8) rfl (by kernel_rfl) (by kernel_rfl) (by kernel_rfl) (fun _ _ _ h => h) (Or.inl ⟨by rfl, ?y8⟩) (RB) ?r8
  case y8 =>
    intro w_ hS_
    go_simp
    try with_reducible rfl
  simp only [Act.put, List.getElem_toArray, List.getElem_cons_succ, List.getElem_cons_zero, List.setIfInBounds_toArray, List.set_cons_succ, List.set_cons_zero]
  refine wpAnyH_take (i := 8) (v := ?v9) rfl (by kernel_rfl) (by kernel_rfl) (by kernel_rfl) (fun _ _ _ h => h) (Or.inl ⟨by rfl, ?y9⟩) (RB) ?r9
  case y9 =>
    intro w_ hS_
    go_simp
    try with_reducible rfl
  simp only [Act.put, List.getElem_toArray, List.getElem_cons_succ, List.getElem_cons_zero, List.setIfInBounds_toArray, List.set_cons_succ, List.set_cons_zero]
  refine wpAnyH_take (i := 9) (v := ?v10) rfl (by kernel_rfl) (by kernel_rfl) (by kernel_rfl) (fun _ _ _ h => h) (Or.inl ⟨by rfl, ?y10⟩) (RB) ?r10
  case y10 =>
    intro w_ hS_
    go_simp
    try with_reducible rfl
  simp only [Act.put, List.getElem_toArray, List.getElem_cons_succ, List.getElem_cons_zero, List.setIfInBounds_toArray, List.set_cons_succ, List.set_cons_zero]
  refine wpAnyH_take (i := 10) (v := ?v11) rfl (by kernel_rfl) (by kernel_rfl) (by kernel_rfl) (fun _ _ _ h => h) (Or.inl ⟨by rfl, ?y11⟩) (RB) ?r11
  case y11 =>
    intro w_ hS_
    go_simp
    try with_reducible rfl
  simp only [Act.put, List.getElem_toArray, List.getElem_cons_succ, List.getElem_cons_zero, List.setIfInBounds_toArray, List.set_cons_succ, List.set_cons_zero]
  refine wpAnyH_take (i := 11) (v := .slice ud d.length udc) rfl (by kernel_rfl) (by kernel_rfl) (by kernel_rfl) (fun _ _ _ h => h) (Or.inl ⟨by rfl, ?y12⟩) (RB) ?r12
  case y12 =>
    intro w_ hS_
    have c_ := (box_cell (hS_) hk hno).2
    go_simp
    try with_reducible rfl
  simp only [Act.put, List.getElem_toArray, List.getElem_cons_succ, List.getElem_cons_zero, List.setIfInBounds_toArray, List.set_cons_succ, List.set_cons_zero]
  refine wpAnyH_take (i := 12) (v := ?v13) rfl (by kernel_rfl) (by kernel_rfl) (by kernel_rfl) (fun _ _ _ h => h) (Or.inl ⟨by rfl, ?y13⟩) (RB) ?r13
  case y13 =>
    intro w_ hS_
    go_simp
    try with_reducible rfl
  simp only [Act.put, List.getElem_toArray, List.getElem_cons_succ, List.getElem_cons_zero, List.setIfInBounds_toArray, List.set_cons_succ, List.set_cons_zero]
  refine wpAnyH_take (i := 13) (v := ?v14) rfl (by kernel_rfl) (by kernel_rfl) (by kernel_rfl) (fun _ _ _ h => h) (Or.inl ⟨by rfl, ?y14⟩) (RB) ?r14
  case y14 =>
    intro w_ hS_
    go_simp
    try with_reducible rfl
  simp only [Act.put, List.getElem_toArray, List.getElem_cons_succ, List.getElem_cons_zero, List.setIfInBounds_toArray, List.set_cons_succ, List.set_cons_zero]
  refine wpAnyH_one (k := 14) (fuel := 5) (by kernel_rfl) rfl (by kernel_rfl) (fun K_ hK_ => ?_)
  have cX := a_seal key nonce extra d hk hno w3d (.slice (some ⟨gE, 0, none⟩) extra.length (extra.length + 80)) (.slice (some ⟨gD, 0, none⟩) d.length (d.length + 80)) (hS.below hw) (hK.below hw) (head_bysB re rfl hel _) (head_bysB rd rfl hdl _) (fun a l c h => by cases h; omega)
  rw [eLA.out, eEA.out] at cX
  refine wp_call_ex (f := 12) (by kernel_rfl) (cX) (fun v_ q1 hX_ => ?_)
  obtain ⟨⟨va, rfl, hOva⟩, hb_⟩ := hX_
  have szc_q1 := hb_.size
  replace RB := keep hb_ RB
  replace re := keep hb_ re
  replace rd := keep hb_ rd
  replace hw := Below.after hw hb_
  clear hb_
  clear cX
  refine hK_ _ _ (RB) ?_
  simp only [Act.put, List.getElem_toArray, List.getElem_cons_succ, List.getElem_cons_zero, List.setIfInBounds_toArray, List.set_cons_succ, List.set_cons_zero]
  clear hK_
  refine wpAnyH_take (i := 15) (v := ?v15) rfl (by kernel_rfl) (by kernel_rfl) (by kernel_rfl) (fun _ _ _ h => h) (Or.inl ⟨by rfl, ?y15⟩) (RB) ?r15
  case y15 =>
    intro w_ hS_
    go_simp
    try with_reducible rfl
  simp only [Act.put, List.getElem_toArray, List.getElem_cons_succ, List.getElem_cons_zero, List.setIfInBounds_toArray, List.set_cons_succ, List.set_cons_zero]
  refine wpAnyH_take (i := 16) (v := ?v16) rfl (by kernel_rfl) (by kernel_rfl) (by kernel_rfl) (fun _ _ _ h => h) (Or.inl ⟨by rfl, ?y16⟩) (RB) ?r16
  case y16 =>
    intro w_ hS_
    go_simp
    try with_reducible rfl
  simp only [Act.put, List.getElem_toArray, List.getElem_cons_succ, List.getElem_cons_zero, List.setIfInBounds_toArray, List.set_cons_succ, List.set_cons_zero]
  refine wpAnyH_take (i := 17) (v := ?v17) rfl (by kernel_rfl) (by kernel_rfl) (by kernel_rfl) (fun _ _ _ h => h) (Or.inl ⟨by rfl, ?y17⟩) (RB) ?r17
  case y17 =>
    intro w_ hS_
    go_simp
    try with_reducible rfl
  simp only [Act.put, List.getElem_toArray, List.getElem_cons_succ, List.getElem_cons_zero, List.setIfInBounds_toArray, List.set_cons_succ, List.set_cons_zero]
  refine wpAnyH_take (i := 18) (v := ?v18) rfl (by kernel_rfl) (by kernel_rfl) (by kernel_rfl) (fun _ _ _ h => h) (Or.inl ⟨by rfl, ?y18⟩) (RB) ?r18
  case y18 =>
    intro w_ hS_
    go_simp
    try with_reducible rfl
  simp only [Act.put, List.getElem_toArray, List.getElem_cons_succ, List.getElem_cons_zero, List.setIfInBounds_toArray, List.set_cons_succ, List.set_cons_zero]
  refine wpAnyH_take (i := 19) (v := ?v19) rfl (by kernel_rfl) (by kernel_rfl) (by kernel_rfl) (fun _ _ _ h => h) (Or.inl ⟨by rfl, ?y19⟩) (RB) ?r19
  case y19 =>
    intro w_ hS_
    go_simp
    try with_reducible rfl
  simp only [Act.put, List.getElem_toArray, List.getElem_cons_succ, List.getElem_cons_zero, List.setIfInBounds_toArray, List.set_cons_succ, List.set_cons_zero]
  refine wpAnyH_done (by kernel_rfl) ?_ _
  refine NoPanic.normal ?_
  obtain ⟨aA, cA, rfl⟩ := slen_own hOva
  obtain ⟨bva, ebva⟩ : ∃ n, n = w3d.heap.size := ⟨_, rfl⟩
  obtain ⟨sva, esva⟩ : ∃ n, n = q1.heap.size := ⟨_, rfl⟩
  have szva : Hid (∀ k, (Value.slice aA LA.length cA).ownBlock = some k → k < sva) := hide (by rw [esva]; exact own_high hOva)
  replace ebva := hide ebva
  replace esva := hide esva
  have lva : lo ≤ bva := by rw [ebva.out, elo.out]; exact szd_w3d
  have kc := fun (W : World) (C : Array Value) (n c : Nat) => Go.Lib.run_convert_bytes_const (P := Tryd.prog) W 29 5 C n c Tryd.underlying29 Tryd.underlying5
  have cE_ := (box_cell RB hk hno).1
  have cD_ := (box_cell RB hk hno).2
  go_wp2_with (first | (refine wpList_load_part rfl 23 _ rfl w.heap.size 0 rfl 31 (boxr key nonce (.slice ue extra.length uec) (.slice ud d.length udc)) (0, 0) (irow .u8 (bl key)) _ RB (box_key _ _ _ _) Tryd.underlying23 rfl (infok8 _ hkl) ?_) | (refine wpList_load_part rfl 28 _ rfl w.heap.size 32 rfl 31 (boxr key nonce (.slice ue extra.length uec) (.slice ud d.length udc)) (0, 0) (irow .u8 (bl nonce)) _ RB (box_nonce _ _ _ _ hk) Tryd.underlying28 rfl hiN ?_) | fail)
  clear cE_ cD_
  have hba : Below q1.heap.size q1 (q1.alloc (.cells #[.int .u8 111, .int .u8 116, .int .u8 104, .int .u8 101, .int .u8 114] 5 (5, 6))) := (Below.refl _ _).alloc (Nat.le_refl _) _
  have hBo := oth_bys q1
  replace RB := keep hba RB
  replace re := keep hba re
  replace rd := keep hba rd
  replace hOva := hOva.keep hba
  replace hw := Below.after hw hba
  have szx_w3x := hba.size
  clear hba
  have cX := a_seal key nonce [] [111#8, 116#8, 104#8, 101#8, 114#8] hk hno (q1.alloc (.cells #[.int .u8 111, .int .u8 116, .int .u8 104, .int .u8 101, .int .u8 114] 5 (5, 6))) _ _ (hS.below hw) (hK.below hw) (nil_bysB _) hBo (fun a l c h => by cases h; exact Nat.le_refl _)
  rw [eLO.out, eEO.out] at cX
  refine cX.mono ?_
  rintro e_ w3 ⟨_, rfl, ⟨vo, rfl, hOvo⟩, hb⟩
  obtain ⟨avo, cvo, rfl⟩ := slen_own hOvo
  clear cX hBo
  have w3xz := size_alloc1 q1 (.cells #[.int .u8 111, .int .u8 116, .int .u8 104, .int .u8 101, .int .u8 114] 5 (5, 6))
  generalize q1.alloc (.cells #[.int .u8 111, .int .u8 116, .int .u8 104, .int .u8 101, .int .u8 114] 5 (5, 6)) = w3x at *
  obtain ⟨bvo, ebvo⟩ : ∃ n, n = w3x.heap.size := ⟨_, rfl⟩
  have kvo : sva ≤ bvo := by rw [esva.out, ebvo, w3xz]; omega
  replace ebvo := hide ebvo
  clear w3xz
  replace RB := keep hb RB
  replace re := keep hb re
  replace rd := keep hb rd
  replace hOva := hOva.keep hb
  replace hw := Below.after hw hb
  have sz_w3 := hb.size
  clear hb
  obtain ⟨svo, esvo⟩ : ∃ n, n = w3.heap.size := ⟨_, rfl⟩
  have szvo : Hid (∀ k, (Value.slice avo LO.length cvo).ownBlock = some k → k < svo) := hide (by rw [esvo]; exact own_high hOvo)
  replace esvo := hide esvo
  go_wp2_with (fail)
  have hbd : Below w3.heap.size w3 w3.drew := below_drN (Below.refl _ _) 1
  have szd_w5d := hbd.size
  replace RB := keep hbd RB
  replace re := keep hbd re
  replace rd := keep hbd rd
  replace hOva := hOva.keep hbd
  replace hOvo := hOvo.keep hbd
  replace hw := Below.after hw hbd
  clear hbd
  refine wp_region_noPanic ?_
  refine wp_region_held (S := fun W => W.heap[w.heap.size]? = some (.cells (boxr key nonce (.slice ue extra.length uec) (.slice ud d.length udc)) 31 (0, 0))) (by kernel_rfl) ?_
  change wpAnyH _ _ _ _ _ _ _ _ (World.drew _)
  generalize w3.drew = w5d at *
  refine wpAnyH_take (i := 0) (v := ?v20) rfl (by kernel_rfl) (by kernel_rfl) (by kernel_rfl) (fun _ _ _ h => h) (Or.inl ⟨by rfl, ?y20⟩) (RB) ?r20
  case y20 =>
    intro w_ hS_
    go_simp
    try with_reducible rfl
  simp only [Act.put, List.getElem_toArray, List.getElem_cons_zero, List.setIfInBounds_toArray, List.set_cons_succ, List.set_cons_zero]
  refine wpAnyH_take (i := 1) (v := .agg (irow .u8 (bl key))) rfl (by kernel_rfl) (by kernel_rfl) (by kernel_rfl) (fun _ _ _ h => h) (Or.inl ⟨by rfl, ?y21⟩) (RB) ?r21
  case y21 =>
    intro w_ hS_
    simp only [List.getElem_toArray, List.getElem_cons_succ, List.getElem_cons_zero]
    exact run_load_part 23 _ (by rfl) (w.heap.size) 0 (by rfl) 31 (boxr key nonce (.slice ue extra.length uec) (.slice ud d.length udc)) (0, 0) (irow .u8 (bl key)) _ (hS_) (box_key _ _ _ _) Tryd.underlying23 rfl (infok8 _ hkl)
  simp only [Act.put, List.getElem_toArray, List.getElem_cons_succ, List.getElem_cons_zero, List.setIfInBounds_toArray, List.set_cons_succ, List.set_cons_zero]
  refine wpAnyH_take (i := 2) (v := ?v22) rfl (by kernel_rfl) (by kernel_rfl) (by kernel_rfl) (fun _ _ _ h => h) (Or.inl ⟨by rfl, ?y22⟩) (RB) ?r22
  case y22 =>
    intro w_ hS_
    go_simp
    try with_reducible rfl
  simp only [Act.put, List.getElem_toArray, List.getElem_cons_succ, List.getElem_cons_zero, List.setIfInBounds_toArray, List.set_cons_succ, List.set_cons_zero]
  refine wpAnyH_take (i := 3) (v := .agg (irow .u8 (bl nonce))) rfl (by kernel_rfl) (by kernel_rfl) (by kernel_rfl) (fun _ _ _ h => h) (Or.inl ⟨by rfl, ?y23⟩) (RB) ?r23
  case y23 =>
    intro w_ hS_
    simp only [List.getElem_toArray, List.getElem_cons_succ, List.getElem_cons_zero]
    exact run_load_part 28 _ (by rfl) (w.heap.size) 32 (by rfl) 31 (boxr key nonce (.slice ue extra.length uec) (.slice ud d.length udc)) (0, 0) (irow .u8 (bl nonce)) _ (hS_) (box_nonce _ _ _ _ hk) Tryd.underlying28 rfl hiN
  simp only [Act.put, List.getElem_toArray, List.getElem_cons_succ, List.getElem_cons_zero, List.setIfInBounds_toArray, List.set_cons_succ, List.set_cons_zero]
  refine wpAnyH_take (i := 4) (v := ?v24) rfl (by kernel_rfl) (by kernel_rfl) (by kernel_rfl) (fun _ _ _ h => h) (Or.inl ⟨by rfl, ?y24⟩) (RB) ?r24
  case y24 =>
    intro w_ hS_
    go_simp
    try with_reducible rfl
  simp only [Act.put, List.getElem_toArray, List.getElem_cons_succ, List.getElem_cons_zero, List.setIfInBounds_toArray, List.set_cons_succ, List.set_cons_zero]
  refine wpAnyH_take (i := 5) (v := ?v25) rfl (by kernel_rfl) (by kernel_rfl) (by kernel_rfl) (fun _ _ _ h => h) (Or.inl ⟨by rfl, ?y25⟩) (RB) ?r25
  case y25 =>
    intro w_ hS_
    go_simp
    try with_reducible rfl
  simp only [Act.put, List.getElem_toArray, List.getElem_cons_succ, List.getElem_cons_zero, List.setIfInBounds_toArray, List.set_cons_succ, List.set_cons_zero]
  refine wpAnyH_take (i := 6) (v := .slice ue extra.length uec) rfl (by kernel_rfl) (by kernel_rfl) (by kernel_rfl) (fun _ _ _ h => h) (Or.inl ⟨by rfl, ?y26⟩) (RB) ?r26
  case y26 =>
    intro w_ hS_
    have c_ := (box_cell (hS_) hk hno).1
    go_simp
    try with_reducible rfl
  simp only [Act.put, List.getElem_toArray, List.getElem_cons_succ, List.getElem_cons_zero, List.setIfInBounds_toArray, List.set_cons_succ, List.set_cons_zero]
  refine wpAnyH_take (i := 7) (v := ?v27) rfl (by kernel_rfl) (by kernel_rfl) (by kernel_rfl) (fun _ _ _ h => h) (Or.inl ⟨by rfl, ?y27⟩) (RB) ?r27
  case y27 =>
    intro w_ hS_
    go_simp
    try with_reducible rfl
  simp only [Act.put, List.getElem_toArray, List.getElem_cons_succ, List.getElem_cons_zero, List.setIfInBounds_toArray, List.set_cons_succ, List.set_cons_zero]
  refine wpAnyH_take (i := 8) (v := ?v28) rfl (by kernel_rfl) (by kernel_rfl) (by kernel_rfl) (fun _ _ _ h => h) (Or.inl ⟨by rfl, ?y28⟩) (RB) ?r28
  case y28 =>
    intro w_ hS_
    go_simp
    try with_reducible rfl
  simp only [Act.put, List.getElem_toArray, List.getElem_cons_succ, List.getElem_cons_zero, List.setIfInBounds_toArray, List.set_cons_succ, List.set_cons_zero]
  refine wpAnyH_take (i := 9) (v := ?v29) rfl (by kernel_rfl) (by kernel_rfl) (by kernel_rfl) (fun _ _ _ h => h) (Or.inl ⟨by rfl, ?y29⟩) (RB) ?r29
  case y29 =>
    intro w_ hS_
    go_simp
    try with_reducible rfl
  simp only [Act.put, List.getElem_toArray, List.getElem_cons_succ, List.getElem_cons_zero, List.setIfInBounds_toArray, List.set_cons_succ, List.set_cons_zero]
  refine wpAnyH_take (i := 10) (v := ?v30) rfl (by kernel_rfl) (by kernel_rfl) (by kernel_rfl) (fun _ _ _ h => h) (Or.inl ⟨by rfl, ?y30⟩) (RB) ?r30
  case y30 =>
    intro w_ hS_
    go_simp
    try with_reducible rfl
  simp only [Act.put, List.getElem_toArray, List.getElem_cons_succ, List.getElem_cons_zero, List.setIfInBounds_toArray, List.set_cons_succ, List.set_cons_zero]
  refine wpAnyH_take (i := 11) (v := .slice ud d.length udc) rfl (by kernel_rfl) (by kernel_rfl) (by kernel_rfl) (fun _ _ _ h => h) (Or.inl ⟨by rfl, ?y31⟩) (RB) ?r31
  case y31 =>
    intro w_ hS_
    have c_ := (box_cell (hS_) hk hno).2
    go_simp
    try with_reducible rfl
  simp only [Act.put, List.getElem_toArray, List.getElem_cons_succ, List.getElem_cons_zero, List.setIfInBounds_toArray, List.set_cons_succ, List.set_cons_zero]
  refine wpAnyH_take (i := 12) (v := ?v32) rfl (by kernel_rfl) (by kernel_rfl) (by kernel_rfl) (fun _ _ _ h => h) (Or.inl ⟨by rfl, ?y32⟩) (RB) ?r32
  case y32 =>
    intro w_ hS_
    go_simp
    try with_reducible rfl
  simp only [Act.put, List.getElem_toArray, List.getElem_cons_succ, List.getElem_cons_zero, List.setIfInBounds_toArray, List.set_cons_succ, List.set_cons_zero]
  refine wpAnyH_take (i := 13) (v := ?v33) rfl (by kernel_rfl) (by kernel_rfl) (by kernel_rfl) (fun _ _ _ h => h) (Or.inl ⟨by rfl, ?y33⟩) (RB) ?r33
  case y33 =>
    intro w_ hS_
    go_simp
    try with_reducible rfl
  simp only [Act.put, List.getElem_toArray, List.getElem_cons_succ, List.getElem_cons_zero, List.setIfInBounds_toArray, List.set_cons_succ, List.set_cons_zero]
  refine wpAnyH_one (k := 14) (fuel := 5) (by kernel_rfl) rfl (by kernel_rfl) (fun K_ hK_ => ?_)
  have cX := a_seal key nonce extra d hk hno w5d (.slice (some ⟨gE, 0, none⟩) extra.length (extra.length + 80)) (.slice (some ⟨gD, 0, none⟩) d.length (d.length + 80)) (hS.below hw) (hK.below hw) (head_bysB re rfl hel _) (head_bysB rd rfl hdl _) (fun a l c h => by cases h; omega)
  rw [eLA.out, eEA.out] at cX
  refine wp_call_ex (f := 12) (by kernel_rfl) (cX) (fun v_ q2 hX_ => ?_)
  obtain ⟨⟨vb, rfl, hOvb⟩, hb_⟩ := hX_
  have szc_q2 := hb_.size
  replace RB := keep hb_ RB
  replace re := keep hb_ re
  replace rd := keep hb_ rd
  replace hOva := hOva.keep hb_
  replace hOvo := hOvo.keep hb_
  replace hw := Below.after hw hb_
  clear hb_
  clear cX
  refine hK_ _ _ (RB) ?_
  simp only [Act.put, List.getElem_toArray, List.getElem_cons_succ, List.getElem_cons_zero, List.setIfInBounds_toArray, List.set_cons_succ, List.set_cons_zero]
  clear hK_
  refine wpAnyH_take (i := 15) (v := ?v34) rfl (by kernel_rfl) (by kernel_rfl) (by kernel_rfl) (fun _ _ _ h => h) (Or.inl ⟨by rfl, ?y34⟩) (RB) ?r34
  case y34 =>
    intro w_ hS_
    go_simp
    try with_reducible rfl
  simp only [Act.put, List.getElem_toArray, List.getElem_cons_succ, List.getElem_cons_zero, List.setIfInBounds_toArray, List.set_cons_succ, List.set_cons_zero]
  refine wpAnyH_take (i := 16) (v := ?v35) rfl (by kernel_rfl) (by kernel_rfl) (by kernel_rfl) (fun _ _ _ h => h) (Or.inl ⟨by rfl, ?y35⟩) (RB) ?r35
  case y35 =>
    intro w_ hS_
    go_simp
    try with_reducible rfl
  simp only [Act.put, List.getElem_toArray, List.getElem_cons_succ, List.getElem_cons_zero, List.setIfInBounds_toArray, List.set_cons_succ, List.set_cons_zero]
  refine wpAnyH_take (i := 17) (v := ?v36) rfl (by kernel_rfl) (by kernel_rfl) (by kernel_rfl) (fun _ _ _ h => h) (Or.inl ⟨by rfl, ?y36⟩) (RB) ?r36
  case y36 =>
    intro w_ hS_
    go_simp
    try with_reducible rfl
  simp only [Act.put, List.getElem_toArray, List.getElem_cons_succ, List.getElem_cons_zero, List.setIfInBounds_toArray, List.set_cons_succ, List.set_cons_zero]
  refine wpAnyH_take (i := 18) (v := ?v37) rfl (by kernel_rfl) (by kernel_rfl) (by kernel_rfl) (fun _ _ _ h => h) (Or.inl ⟨by rfl, ?y37⟩) (RB) ?r37
  case y37 =>
    intro w_ hS_
    go_simp
    try with_reducible rfl
  simp only [Act.put, List.getElem_toArray, List.getElem_cons_succ, List.getElem_cons_zero, List.setIfInBounds_toArray, List.set_cons_succ, List.set_cons_zero]
  refine wpAnyH_take (i := 19) (v := ?v38) rfl (by kernel_rfl) (by kernel_rfl) (by kernel_rfl) (fun _ _ _ h => h) (Or.inl ⟨by rfl, ?y38⟩) (RB) ?r38
  case y38 =>
    intro w_ hS_
    go_simp
    try with_reducible rfl
  simp only [Act.put, List.getElem_toArray, List.getElem_cons_succ, List.getElem_cons_zero, List.setIfInBounds_toArray, List.set_cons_succ, List.set_cons_zero]
  refine wpAnyH_done (by kernel_rfl) ?_ _
  refine NoPanic.normal ?_
  obtain ⟨aB, cB, rfl⟩ := slen_own hOvb
  obtain ⟨bvb, ebvb⟩ : ∃ n, n = w5d.heap.size := ⟨_, rfl⟩
  obtain ⟨svb, esvb⟩ : ∃ n, n = q2.heap.size := ⟨_, rfl⟩
  have szvb : Hid (∀ k, (Value.slice aB LA.length cB).ownBlock = some k → k < svb) := hide (by rw [esvb]; exact own_high hOvb)
  replace ebvb := hide ebvb
  replace esvb := hide esvb
  have kvb : svo ≤ bvb := by rw [esvo.out, ebvb.out]; exact szd_w5d
  have ksb : svb ≤ q2.heap.size := by rw [esvb.out]; exact Nat.le_refl _
  have cE_ := (box_cell RB hk hno).1
  have cD_ := (box_cell RB hk hno).2
  go_wp2_with (first | (refine wpList_load_part rfl 23 _ rfl w.heap.size 0 rfl 31 (boxr key nonce (.slice ue extra.length uec) (.slice ud d.length udc)) (0, 0) (irow .u8 (bl key)) _ RB (box_key _ _ _ _) Tryd.underlying23 rfl (infok8 _ hkl) ?_) | (refine wpList_load_part rfl 28 _ rfl w.heap.size 32 rfl 31 (boxr key nonce (.slice ue extra.length uec) (.slice ud d.length udc)) (0, 0) (irow .u8 (bl nonce)) _ RB (box_nonce _ _ _ _ hk) Tryd.underlying28 rfl hiN ?_) | fail)
  clear cE_ cD_
  have cX := q_seal key nonce extra d hk hno q2 _ _ (hEh.out _ hw) (hDh.out _ hw)
  rw [eLA.out, eEA.out] at cX
  refine cX.mono ?_
  rintro e_ w4 ⟨_, rfl, ⟨vc, rfl, hOvc⟩, hb⟩
  obtain ⟨avc, cvc, rfl⟩ := slen_own hOvc
  clear cX
  replace RB := keep hb RB
  replace re := keep hb re
  replace rd := keep hb rd
  replace hOva := hOva.keep hb
  replace hOvo := hOvo.keep hb
  replace hOvb := hOvb.keep hb
  replace hw := Below.after hw hb
  have sz_w4 := hb.size
  clear hb
  have cE_ := (box_cell RB hk hno).1
  have cD_ := (box_cell RB hk hno).2
  go_wp2_with (first | (refine wpList_load_part rfl 23 _ rfl w.heap.size 0 rfl 31 (boxr key nonce (.slice ue extra.length uec) (.slice ud d.length udc)) (0, 0) (irow .u8 (bl key)) _ RB (box_key _ _ _ _) Tryd.underlying23 rfl (infok8 _ hkl) ?_) | (refine wpList_load_part rfl 28 _ rfl w.heap.size 32 rfl 31 (boxr key nonce (.slice ue extra.length uec) (.slice ud d.length udc)) (0, 0) (irow .u8 (bl nonce)) _ RB (box_nonce _ _ _ _ hk) Tryd.underlying28 rfl hiN ?_) | fail)
  clear cE_ cD_
  have hba : Below w4.heap.size w4 (w4.alloc (.cells #[.int .u8 111, .int .u8 116, .int .u8 104, .int .u8 101, .int .u8 114] 5 (5, 6))) := (Below.refl _ _).alloc (Nat.le_refl _) _
  have hBo := oth_bys w4
  replace RB := keep hba RB
  replace re := keep hba re
  replace rd := keep hba rd
  replace hOva := hOva.keep hba
  replace hOvo := hOvo.keep hba
  replace hOvb := hOvb.keep hba
  replace hOvc := hOvc.keep hba
  replace hw := Below.after hw hba
  have szx_w5x := hba.size
  clear hba
  have cX := q_seal key nonce [] [111#8, 116#8, 104#8, 101#8, 114#8] hk hno (w4.alloc (.cells #[.int .u8 111, .int .u8 116, .int .u8 104, .int .u8 101, .int .u8 114] 5 (5, 6))) _ _ (nil_bysB _) hBo
  rw [eLO.out, eEO.out] at cX
  refine cX.mono ?_
  rintro e_ w5 ⟨_, rfl, ⟨vd_, rfl, hOvd_⟩, hb⟩
  obtain ⟨avd_, cvd_, rfl⟩ := slen_own hOvd_
  clear cX hBo
  generalize w4.alloc (.cells #[.int .u8 111, .int .u8 116, .int .u8 104, .int .u8 101, .int .u8 114] 5 (5, 6)) = w5x at *
  replace RB := keep hb RB
  replace re := keep hb re
  replace rd := keep hb rd
  replace hOva := hOva.keep hb
  replace hOvo := hOvo.keep hb
  replace hOvb := hOvb.keep hb
  replace hOvc := hOvc.keep hb
  replace hw := Below.after hw hb
  have sz_w5 := hb.size
  clear hb
  have cE_ := (box_cell RB hk hno).1
  have cD_ := (box_cell RB hk hno).2
  go_wp2_with (first | (refine wpList_load_part rfl 23 _ rfl w.heap.size 0 rfl 31 (boxr key nonce (.slice ue extra.length uec) (.slice ud d.length udc)) (0, 0) (irow .u8 (bl key)) _ RB (box_key _ _ _ _) Tryd.underlying23 rfl (infok8 _ hkl) ?_) | (refine wpList_load_part rfl 28 _ rfl w.heap.size 32 rfl 31 (boxr key nonce (.slice ue extra.length uec) (.slice ud d.length udc)) (0, 0) (irow .u8 (bl nonce)) _ RB (box_nonce _ _ _ _ hk) Tryd.underlying28 rfl hiN ?_) | fail)
  clear cE_ cD_
  refine (sB_eq LA w5 _ _ hOva.bys hOvc.bys).mono ?_
  rintro e_ w6 ⟨rfl, hb⟩
  replace RB := keep hb RB
  replace re := keep hb re
  replace rd := keep hb rd
  replace hOva := hOva.keep hb
  replace hOvo := hOvo.keep hb
  replace hOvb := hOvb.keep hb
  replace hOvc := hOvc.keep hb
  replace hOvd_ := hOvd_.keep hb
  replace hw := Below.after hw hb
  have sz_w6 := hb.size
  clear hb
  have cE_ := (box_cell RB hk hno).1
  have cD_ := (box_cell RB hk hno).2
  go_wp2_with (first | (refine wpList_load_part rfl 23 _ rfl w.heap.size 0 rfl 31 (boxr key nonce (.slice ue extra.length uec) (.slice ud d.length udc)) (0, 0) (irow .u8 (bl key)) _ RB (box_key _ _ _ _) Tryd.underlying23 rfl (infok8 _ hkl) ?_) | (refine wpList_load_part rfl 28 _ rfl w.heap.size 32 rfl 31 (boxr key nonce (.slice ue extra.length uec) (.slice ud d.length udc)) (0, 0) (irow .u8 (bl nonce)) _ RB (box_nonce _ _ _ _ hk) Tryd.underlying28 rfl hiN ?_) | fail)
  clear cE_ cD_
  refine (sB_eq LA w6 _ _ hOvb.bys hOvc.bys).mono ?_
  rintro e_ w7 ⟨rfl, hb⟩
  replace RB := keep hb RB
  replace re := keep hb re
  replace rd := keep hb rd
  replace hOva := hOva.keep hb
  replace hOvo := hOvo.keep hb
  replace hOvb := hOvb.keep hb
  replace hOvc := hOvc.keep hb
  replace hOvd_ := hOvd_.keep hb
  replace hw := Below.after hw hb
  have sz_w7 := hb.size
  clear hb
  have cE_ := (box_cell RB hk hno).1
  have cD_ := (box_cell RB hk hno).2
  go_wp2_with (first | (refine wpList_load_part rfl 23 _ rfl w.heap.size 0 rfl 31 (boxr key nonce (.slice ue extra.length uec) (.slice ud d.length udc)) (0, 0) (irow .u8 (bl key)) _ RB (box_key _ _ _ _) Tryd.underlying23 rfl (infok8 _ hkl) ?_) | (refine wpList_load_part rfl 28 _ rfl w.heap.size 32 rfl 31 (boxr key nonce (.slice ue extra.length uec) (.slice ud d.length udc)) (0, 0) (irow .u8 (bl nonce)) _ RB (box_nonce _ _ _ _ hk) Tryd.underlying28 rfl hiN ?_) | fail)
  clear cE_ cD_
  refine (sB_eq LO w7 _ _ hOvo.bys hOvd_.bys).mono ?_
  rintro e_ w8 ⟨rfl, hb⟩
  replace RB := keep hb RB
  replace re := keep hb re
  replace rd := keep hb rd
  replace hOva := hOva.keep hb
  replace hOvo := hOvo.keep hb
  replace hOvb := hOvb.keep hb
  replace hOvc := hOvc.keep hb
  replace hOvd_ := hOvd_.keep hb
  replace hw := Below.after hw hb
  have sz_w8 := hb.size
  clear hb
  clear hOvc hOvd_
  have cE_ := (box_cell RB hk hno).1
  have cD_ := (box_cell RB hk hno).2
  go_wp2_with (first | (refine wpList_load_part rfl 23 _ rfl w.heap.size 0 rfl 31 (boxr key nonce (.slice ue extra.length uec) (.slice ud d.length udc)) (0, 0) (irow .u8 (bl key)) _ RB (box_key _ _ _ _) Tryd.underlying23 rfl (infok8 _ hkl) ?_) | (refine wpList_load_part rfl 28 _ rfl w.heap.size 32 rfl 31 (boxr key nonce (.slice ue extra.length uec) (.slice ud d.length udc)) (0, 0) (irow .u8 (bl nonce)) _ RB (box_nonce _ _ _ _ hk) Tryd.underlying28 rfl hiN ?_) | fail)
  clear cE_ cD_
  have hba : Below w8.heap.size w8 (w8.alloc (.cells #[.slice aA LA.length cA, .slice avo LO.length cvo, .slice aB LA.length cB] 29)) := (Below.refl _ _).alloc (Nat.le_refl _) _
  have hsW := size_alloc1 w8 (.cells #[.slice aA LA.length cA, .slice avo LO.length cvo, .slice aB LA.length cB] 29)
  have kkva : bva ≤ sva := by rw [ebva.out, esva.out]; omega
  have kkvo : bvo ≤ svo := by rw [ebvo.out, esvo.out]; omega
  have kkvb : bvb ≤ svb := by rw [ebvb.out, esvb.out]; omega
  obtain ⟨xva, exva, hxva⟩ := own_ap (hOva.keep hba)
  have fva : ∀ g m c, xva = (some g, m, c) → m ≤ 2097232 ∧ g < sva ∧ bva ≤ g := fun g m c e => ⟨by rw [(hxva g m c e).1]; exact lLA.out, szva.out g (by rw [exva, e]; rfl), by rw [ebva.out]; exact (hxva g m c e).2.1⟩
  have rva : ∀ g m c, xva = (some g, m, c) → ∃ l : List Int, l.length = m ∧ (w8.alloc (.cells #[.slice aA LA.length cA, .slice avo LO.length cvo, .slice aB LA.length cB] 29)).ownsRow lo 5 1 (.slice (some ⟨g, 0, none⟩) m c) m (l.map (Value.int .u8)) ∧ True := fun g m c e => ⟨bl LA, by rw [bl_len]; exact ((hxva g m c e).1).symm, or_lower (hxva g m c e).2.2.2 (by rw [← ebva.out]; omega), trivial⟩
  obtain ⟨xvo, exvo, hxvo⟩ := own_ap (hOvo.keep hba)
  have fvo : ∀ g m c, xvo = (some g, m, c) → m ≤ 2097232 ∧ g < svo ∧ bvo ≤ g := fun g m c e => ⟨by rw [(hxvo g m c e).1]; exact lLO.out, szvo.out g (by rw [exvo, e]; rfl), by rw [ebvo.out]; exact (hxvo g m c e).2.1⟩
  have rvo : ∀ g m c, xvo = (some g, m, c) → ∃ l : List Int, l.length = m ∧ (w8.alloc (.cells #[.slice aA LA.length cA, .slice avo LO.length cvo, .slice aB LA.length cB] 29)).ownsRow lo 5 1 (.slice (some ⟨g, 0, none⟩) m c) m (l.map (Value.int .u8)) ∧ True := fun g m c e => ⟨bl LO, by rw [bl_len]; exact ((hxvo g m c e).1).symm, or_lower (hxvo g m c e).2.2.2 (by rw [← ebvo.out]; omega), trivial⟩
  obtain ⟨xvb, exvb, hxvb⟩ := own_ap (hOvb.keep hba)
  have fvb : ∀ g m c, xvb = (some g, m, c) → m ≤ 2097232 ∧ g < svb ∧ bvb ≤ g := fun g m c e => ⟨by rw [(hxvb g m c e).1]; exact lLA.out, szvb.out g (by rw [exvb, e]; rfl), by rw [ebvb.out]; exact (hxvb g m c e).2.1⟩
  have rvb : ∀ g m c, xvb = (some g, m, c) → ∃ l : List Int, l.length = m ∧ (w8.alloc (.cells #[.slice aA LA.length cA, .slice avo LO.length cvo, .slice aB LA.length cB] 29)).ownsRow lo 5 1 (.slice (some ⟨g, 0, none⟩) m c) m (l.map (Value.int .u8)) ∧ True := fun g m c e => ⟨bl LA, by rw [bl_len]; exact ((hxvb g m c e).1).symm, or_lower (hxvb g m c e).2.2.2 (by rw [← ebvb.out]; omega), trivial⟩
  have hgl : (w8.alloc (.cells #[.slice aA LA.length cA, .slice avo LO.length cvo, .slice aB LA.length cB] 29)).heap[w8.heap.size]? = some (.cells (([xva, xvo, xvb] : List (Option Nat × Nat × Nat)).map apV).toArray 29 (0, 0)) := by
    rw [show (([xva, xvo, xvb] : List (Option Nat × Nat × Nat)).map apV).toArray = #[.slice aA LA.length cA, .slice avo LO.length cvo, .slice aB LA.length cB] by simp only [List.map_cons, List.map_nil, ← exva, ← exvo, ← exvb]]
    exact hp1_0 w8 _
  have hR : ApR lo (w8.alloc (.cells #[.slice aA LA.length cA, .slice avo LO.length cvo, .slice aB LA.length cB] 29)) [xva, xvo, xvb] (fun _ _ => True) := by
    intro j g m c hj
    rcases j with _ | _ | _ | i
    · exact rva g m c (by simpa using hj)
    · exact rvo g m c (by simpa using hj)
    · exact rvb g m c (by simpa using hj)
    · simp at hj
  have hDj : ApD [xva, xvo, xvb] := by
    intro i j g m n c d hi hj
    rcases i with _ | _ | _ | i <;> rcases j with _ | _ | _ | j
    · rfl
    · have h1 := fva _ _ _ (by simpa using hi)
      have h2 := fvo _ _ _ (by simpa using hj)
      omega
    · have h1 := fva _ _ _ (by simpa using hi)
      have h2 := fvb _ _ _ (by simpa using hj)
      omega
    · simp at hj
    · have h1 := fvo _ _ _ (by simpa using hi)
      have h2 := fva _ _ _ (by simpa using hj)
      omega
    · rfl
    · have h1 := fvo _ _ _ (by simpa using hi)
      have h2 := fvb _ _ _ (by simpa using hj)
      omega
    · simp at hj
    · have h1 := fvb _ _ _ (by simpa using hi)
      have h2 := fva _ _ _ (by simpa using hj)
      omega
    · have h1 := fvb _ _ _ (by simpa using hi)
      have h2 := fvo _ _ _ (by simpa using hj)
      omega
    · rfl
    · simp at hj
    · simp at hi
    · simp at hi
    · simp at hi
    · simp at hi
  have hLo : ∀ (i : Nat) g m c, ([xva, xvo, xvb] : List (Option Nat × Nat × Nat))[i]? = some (some g, m, c) → g ≠ w8.heap.size ∧ m ≤ 140737488350000 := by
    intro i g m c hi
    rcases i with _ | _ | _ | i
    · have h1 := fva _ _ _ (by simpa using hi)
      omega
    · have h1 := fvo _ _ _ (by simpa using hi)
      omega
    · have h1 := fvb _ _ _ (by simpa using hi)
      omega
    · simp at hi
  replace RB := keep hba RB
  replace re := keep hba re
  replace rd := keep hba rd
  replace hw := Below.after hw hba
  refine (s_apart [xva, xvo, xvb] w8.heap.size lo (w8.alloc (.cells #[.slice aA LA.length cA, .slice avo LO.length cvo, .slice aB LA.length cB] 29)) (by rw [hsW]; omega) (by simp) hgl hR hDj hLo).mono ?_
  rintro e_ w9 ⟨rfl, hb⟩
  replace RB : w9.heap[w.heap.size]? = _ := (hb.block _ (by omega)).trans RB
  replace re : w9.heap[gE]? = _ := (hb.block _ (by omega)).trans re
  replace rd : w9.heap[gD]? = _ := (hb.block _ (by omega)).trans rd
  replace hw := hw.trans (hb.mono (by omega))
  have sz_w9 : lo ≤ w9.heap.size := by have := hb.size; omega
  clear rva fva hxva hOva szva
  clear rvo fvo hxvo hOvo szvo
  clear rvb fvb hxvb hOvb szvb
  clear hb hba hgl hR hDj hLo hsW
  have cE_ := (box_cell RB hk hno).1
  have cD_ := (box_cell RB hk hno).2
  go_wp2_with (first | (refine wpList_load_part rfl 23 _ rfl w.heap.size 0 rfl 31 (boxr key nonce (.slice ue extra.length uec) (.slice ud d.length udc)) (0, 0) (irow .u8 (bl key)) _ RB (box_key _ _ _ _) Tryd.underlying23 rfl (infok8 _ hkl) ?_) | (refine wpList_load_part rfl 28 _ rfl w.heap.size 32 rfl 31 (boxr key nonce (.slice ue extra.length uec) (.slice ud d.length udc)) (0, 0) (irow .u8 (bl nonce)) _ RB (box_nonce _ _ _ _ hk) Tryd.underlying28 rfl hiN ?_) | fail)
  clear cE_ cD_
  refine (sB_left extra gE w9 _ (hEh.out _ hw) re).mono ?_
  rintro e_ w10 ⟨rfl, hb⟩
  replace RB := keep hb RB
  replace re := keep hb re
  replace rd := keep hb rd
  replace hw := Below.after hw hb
  have sz_w10 := hb.size
  clear hb
  have cE_ := (box_cell RB hk hno).1
  have cD_ := (box_cell RB hk hno).2
  go_wp2_with (first | (refine wpList_load_part rfl 23 _ rfl w.heap.size 0 rfl 31 (boxr key nonce (.slice ue extra.length uec) (.slice ud d.length udc)) (0, 0) (irow .u8 (bl key)) _ RB (box_key _ _ _ _) Tryd.underlying23 rfl (infok8 _ hkl) ?_) | (refine wpList_load_part rfl 28 _ rfl w.heap.size 32 rfl 31 (boxr key nonce (.slice ue extra.length uec) (.slice ud d.length udc)) (0, 0) (irow .u8 (bl nonce)) _ RB (box_nonce _ _ _ _ hk) Tryd.underlying28 rfl hiN ?_) | fail)
  clear cE_ cD_
  refine (sB_left d gD w10 _ (hDh.out _ hw) rd).mono ?_
  rintro e_ w11 ⟨rfl, hb⟩
  replace RB := keep hb RB
  replace re := keep hb re
  replace rd := keep hb rd
  replace hw := Below.after hw hb
  have sz_w11 := hb.size
  clear hb
  have cE_ := (box_cell RB hk hno).1
  have cD_ := (box_cell RB hk hno).2
  go_wp2_with (first | (refine wpList_load_part rfl 23 _ rfl w.heap.size 0 rfl 31 (boxr key nonce (.slice ue extra.length uec) (.slice ud d.length udc)) (0, 0) (irow .u8 (bl key)) _ RB (box_key _ _ _ _) Tryd.underlying23 rfl (infok8 _ hkl) ?_) | (refine wpList_load_part rfl 28 _ rfl w.heap.size 32 rfl 31 (boxr key nonce (.slice ue extra.length uec) (.slice ud d.length udc)) (0, 0) (irow .u8 (bl nonce)) _ RB (box_nonce _ _ _ _ hk) Tryd.underlying28 rfl hiN ?_) | fail)
  clear cE_ cD_
  refine (sB_turned extra gE w11 _ (hEh.out _ hw) re).mono ?_
  rintro e_ w12 ⟨rfl, rt, re2, hgr⟩
  have lt_RB := lt_of_row RB
  replace RB : w12.heap[w.heap.size]? = _ := (hgr.block _ lt_RB (by intro e; injection e with e; omega)).trans RB
  clear lt_RB
  have lt_rd := lt_of_row rd
  replace rd : w12.heap[gD]? = _ := (hgr.block _ lt_rd (by intro e; injection e with e; omega)).trans rd
  clear lt_rd
  replace hw := hw.grown hgr hw.size (fun k h => by injection h with h; omega)
  have lr_rt := hgr.size
  clear hgr re
  have re := re2
  clear re2
  have ln_rt : lo ≤ w11.heap.size := by omega
  generalize w11.heap.size = gT at *
  have cE_ := (box_cell RB hk hno).1
  have cD_ := (box_cell RB hk hno).2
  go_wp2_with (first | (refine wpList_load_part rfl 23 _ rfl w.heap.size 0 rfl 31 (boxr key nonce (.slice ue extra.length uec) (.slice ud d.length udc)) (0, 0) (irow .u8 (bl key)) _ RB (box_key _ _ _ _) Tryd.underlying23 rfl (infok8 _ hkl) ?_) | (refine wpList_load_part rfl 28 _ rfl w.heap.size 32 rfl 31 (boxr key nonce (.slice ue extra.length uec) (.slice ud d.length udc)) (0, 0) (irow .u8 (bl nonce)) _ RB (box_nonce _ _ _ _ hk) Tryd.underlying28 rfl hiN ?_) | fail)
  clear cE_ cD_
  refine (sB_turned d gD w12 _ (hDh.out _ hw) rd).mono ?_
  rintro e_ w13 ⟨rfl, ru, rd2, hgr⟩
  have lt_RB := lt_of_row RB
  replace RB : w13.heap[w.heap.size]? = _ := (hgr.block _ lt_RB (by intro e; injection e with e; omega)).trans RB
  clear lt_RB
  have lt_re := lt_of_row re
  replace re : w13.heap[gE]? = _ := (hgr.block _ lt_re (by intro e; injection e with e; omega)).trans re
  clear lt_re
  have lt_rt := lt_of_row rt
  replace rt : w13.heap[gT]? = _ := (hgr.block _ lt_rt (by intro e; injection e with e; omega)).trans rt
  clear lt_rt
  replace hw := hw.grown hgr hw.size (fun k h => by injection h with h; omega)
  have lr_ru := hgr.size
  clear hgr rd
  have rd := rd2
  clear rd2
  have ln_ru : lo ≤ w12.heap.size := by omega
  generalize w12.heap.size = gU at *
  go_wp2_with (fail)
  have hbd : Below w13.heap.size w13 w13.drew := below_drN (Below.refl _ _) 1
  have szd_w14d := hbd.size
  replace RB := keep hbd RB
  replace re := keep hbd re
  replace rd := keep hbd rd
  replace rt := keep hbd rt
  replace ru := keep hbd ru
  replace hw := Below.after hw hbd
  clear hbd
  refine wp_region_noPanic ?_
  refine wp_region_held (S := fun W => W.heap[w.heap.size]? = some (.cells (boxr key nonce (.slice ue extra.length uec) (.slice ud d.length udc)) 31 (0, 0))) (by kernel_rfl) ?_
  change wpAnyH _ _ _ _ _ _ _ _ (World.drew _)
  generalize w13.drew = w14d at *
  refine wpAnyH_take (i := 0) (v := ?v39) rfl (by kernel_rfl) (by kernel_rfl) (by kernel_rfl) (fun _ _ _ h => h) (Or.inl ⟨by rfl, ?y39⟩) (RB) ?r39
  case y39 =>
    intro w_ hS_
    go_simp
    try with_reducible rfl
  simp only [Act.put, List.getElem_toArray, List.getElem_cons_zero, List.setIfInBounds_toArray, List.set_cons_succ, List.set_cons_zero]
  refine wpAnyH_take (i := 1) (v := .agg (irow .u8 (bl key))) rfl (by kernel_rfl) (by kernel_rfl) (by kernel_rfl) (fun _ _ _ h => h) (Or.inl ⟨by rfl, ?y40⟩) (RB) ?r40
  case y40 =>
    intro w_ hS_
    simp only [List.getElem_toArray, List.getElem_cons_succ, List.getElem_cons_zero]
    exact run_load_part 23 _ (by rfl) (w.heap.size) 0 (by rfl) 31 (boxr key nonce (.slice ue extra.length uec) (.slice ud d.length udc)) (0, 0) (irow .u8 (bl key)) _ (hS_) (box_key _ _ _ _) Tryd.underlying23 rfl (infok8 _ hkl)
  simp only [Act.put, List.getElem_toArray, List.getElem_cons_succ, List.getElem_cons_zero, List.setIfInBounds_toArray, List.set_cons_succ, List.set_cons_zero]
  refine wpAnyH_take (i := 2) (v := ?v41) rfl (by kernel_rfl) (by kernel_rfl) (by kernel_rfl) (fun _ _ _ h => h) (Or.inl ⟨by rfl, ?y41⟩) (RB) ?r41
  case y41 =>
    intro w_ hS_
    go_simp
    try with_reducible rfl
  simp only [Act.put, List.getElem_toArray, List.getElem_cons_succ, List.getElem_cons_zero, List.setIfInBounds_toArray, List.set_cons_succ, List.set_cons_zero]
  refine wpAnyH_take (i := 3) (v := .agg (irow .u8 (bl nonce))) rfl (by kernel_rfl) (by kernel_rfl) (by kernel_rfl) (fun _ _ _ h => h) (Or.inl ⟨by rfl, ?y42⟩) (RB) ?r42
  case y42 =>
    intro w_ hS_
    simp only [List.getElem_toArray, List.getElem_cons_succ, List.getElem_cons_zero]
    exact run_load_part 28 _ (by rfl) (w.heap.size) 32 (by rfl) 31 (boxr key nonce (.slice ue extra.length uec) (.slice ud d.length udc)) (0, 0) (irow .u8 (bl nonce)) _ (hS_) (box_nonce _ _ _ _ hk) Tryd.underlying28 rfl hiN
  simp only [Act.put, List.getElem_toArray, List.getElem_cons_succ, List.getElem_cons_zero, List.setIfInBounds_toArray, List.set_cons_succ, List.set_cons_zero]
  refine wpAnyH_take (i := 4) (v := ?v43) rfl (by kernel_rfl) (by kernel_rfl) (by kernel_rfl) (fun _ _ _ h => h) (Or.inl ⟨by rfl, ?y43⟩) (RB) ?r43
  case y43 =>
    intro w_ hS_
    go_simp
    try with_reducible rfl
  simp only [Act.put, List.getElem_toArray, List.getElem_cons_succ, List.getElem_cons_zero, List.setIfInBounds_toArray, List.set_cons_succ, List.set_cons_zero]
  refine wpAnyH_take (i := 5) (v := ?v44) rfl (by kernel_rfl) (by kernel_rfl) (by kernel_rfl) (fun _ _ _ h => h) (Or.inl ⟨by rfl, ?y44⟩) (RB) ?r44
  case y44 =>
    intro w_ hS_
    go_simp
    try with_reducible rfl
  simp only [Act.put, List.getElem_toArray, List.getElem_cons_succ, List.getElem_cons_zero, List.setIfInBounds_toArray, List.set_cons_succ, List.set_cons_zero]
  refine wpAnyH_take (i := 6) (v := .slice ue extra.length uec) rfl (by kernel_rfl) (by kernel_rfl) (by kernel_rfl) (fun _ _ _ h => h) (Or.inl ⟨by rfl, ?y45⟩) (RB) ?r45
  case y45 =>
    intro w_ hS_
    have c_ := (box_cell (hS_) hk hno).1
    go_simp
    try with_reducible rfl
  simp only [Act.put, List.getElem_toArray, List.getElem_cons_succ, List.getElem_cons_zero, List.setIfInBounds_toArray, List.set_cons_succ, List.set_cons_zero]
  refine wpAnyH_take (i := 7) (v := ?v46) rfl (by kernel_rfl) (by kernel_rfl) (by kernel_rfl) (fun _ _ _ h => h) (Or.inl ⟨by rfl, ?y46⟩) (RB) ?r46
  case y46 =>
    intro w_ hS_
    go_simp
    try with_reducible rfl
  simp only [Act.put, List.getElem_toArray, List.getElem_cons_succ, List.getElem_cons_zero, List.setIfInBounds_toArray, List.set_cons_succ, List.set_cons_zero]
  refine wpAnyH_take (i := 8) (v := ?v47) rfl (by kernel_rfl) (by kernel_rfl) (by kernel_rfl) (fun _ _ _ h => h) (Or.inl ⟨by rfl, ?y47⟩) (RB) ?r47
  case y47 =>
    intro w_ hS_
    go_simp
    try with_reducible rfl
  simp only [Act.put, List.getElem_toArray, List.getElem_cons_succ, List.getElem_cons_zero, List.setIfInBounds_toArray, List.set_cons_succ, List.set_cons_zero]
  refine wpAnyH_take (i := 9) (v := ?v48) rfl (by kernel_rfl) (by kernel_rfl) (by kernel_rfl) (fun _ _ _ h => h) (Or.inl ⟨by rfl, ?y48⟩) (RB) ?r48
  case y48 =>
    intro w_ hS_
    go_simp
    try with_reducible rfl
  simp only [Act.put, List.getElem_toArray, List.getElem_cons_succ, List.getElem_cons_zero, List.setIfInBounds_toArray, List.set_cons_succ, List.set_cons_zero]
  refine wpAnyH_take (i := 10) (v := ?v49) rfl (by kernel_rfl) (by kernel_rfl) (by kernel_rfl) (fun _ _ _ h => h) (Or.inl ⟨by rfl, ?y49⟩) (RB) ?r49
  case y49 =>
    intro w_ hS_
    go_simp
    try with_reducible rfl
  simp only [Act.put, List.getElem_toArray, List.getElem_cons_succ, List.getElem_cons_zero, List.setIfInBounds_toArray, List.set_cons_succ, List.set_cons_zero]
  refine wpAnyH_take (i := 11) (v := .slice ud d.length udc) rfl (by kernel_rfl) (by kernel_rfl) (by kernel_rfl) (fun _ _ _ h => h) (Or.inl ⟨by rfl, ?y50⟩) (RB) ?r50
  case y50 =>
    intro w_ hS_
    have c_ := (box_cell (hS_) hk hno).2
    go_simp
    try with_reducible rfl
  simp only [Act.put, List.getElem_toArray, List.getElem_cons_succ, List.getElem_cons_zero, List.setIfInBounds_toArray, List.set_cons_succ, List.set_cons_zero]
  refine wpAnyH_take (i := 12) (v := ?v51) rfl (by kernel_rfl) (by kernel_rfl) (by kernel_rfl) (fun _ _ _ h => h) (Or.inl ⟨by rfl, ?y51⟩) (RB) ?r51
  case y51 =>
    intro w_ hS_
    go_simp
    try with_reducible rfl
  simp only [Act.put, List.getElem_toArray, List.getElem_cons_succ, List.getElem_cons_zero, List.setIfInBounds_toArray, List.set_cons_succ, List.set_cons_zero]
  refine wpAnyH_take (i := 13) (v := ?v52) rfl (by kernel_rfl) (by kernel_rfl) (by kernel_rfl) (fun _ _ _ h => h) (Or.inl ⟨by rfl, ?y52⟩) (RB) ?r52
  case y52 =>
    intro w_ hS_
    go_simp
    try with_reducible rfl
  simp only [Act.put, List.getElem_toArray, List.getElem_cons_succ, List.getElem_cons_zero, List.setIfInBounds_toArray, List.set_cons_succ, List.set_cons_zero]
  refine wpAnyH_one (k := 14) (fuel := 5) (by kernel_rfl) rfl (by kernel_rfl) (fun K_ hK_ => ?_)
  have cX := a_seal key nonce (tbn extra) (tbn d) hk hno w14d (.slice (some ⟨gE, 0, none⟩) extra.length (extra.length + 80)) (.slice (some ⟨gD, 0, none⟩) d.length (d.length + 80)) (hS.below hw) (hK.below hw) (head_bysB re (tbn_len _) hel _) (head_bysB rd (tbn_len _) hdl _) (fun a l c h => by cases h; omega)
  rw [eLT.out, eET.out] at cX
  refine wp_call_ex (f := 12) (by kernel_rfl) (cX) (fun v_ q3 hX_ => ?_)
  obtain ⟨⟨ve_, rfl, hOve_⟩, hb_⟩ := hX_
  have szc_q3 := hb_.size
  replace RB := keep hb_ RB
  replace re := keep hb_ re
  replace rd := keep hb_ rd
  replace rt := keep hb_ rt
  replace ru := keep hb_ ru
  replace hw := Below.after hw hb_
  clear hb_
  clear cX
  refine hK_ _ _ (RB) ?_
  simp only [Act.put, List.getElem_toArray, List.getElem_cons_succ, List.getElem_cons_zero, List.setIfInBounds_toArray, List.set_cons_succ, List.set_cons_zero]
  clear hK_
  refine wpAnyH_take (i := 15) (v := ?v53) rfl (by kernel_rfl) (by kernel_rfl) (by kernel_rfl) (fun _ _ _ h => h) (Or.inl ⟨by rfl, ?y53⟩) (RB) ?r53
  case y53 =>
    intro w_ hS_
    go_simp
    try with_reducible rfl
  simp only [Act.put, List.getElem_toArray, List.getElem_cons_succ, List.getElem_cons_zero, List.setIfInBounds_toArray, List.set_cons_succ, List.set_cons_zero]
  refine wpAnyH_take (i := 16) (v := ?v54) rfl (by kernel_rfl) (by kernel_rfl) (by kernel_rfl) (fun _ _ _ h => h) (Or.inl ⟨by rfl, ?y54⟩) (RB) ?r54
  case y54 =>
    intro w_ hS_
    go_simp
    try with_reducible rfl
  simp only [Act.put, List.getElem_toArray, List.getElem_cons_succ, List.getElem_cons_zero, List.setIfInBounds_toArray, List.set_cons_succ, List.set_cons_zero]
  refine wpAnyH_take (i := 17) (v := ?v55) rfl (by kernel_rfl) (by kernel_rfl) (by kernel_rfl) (fun _ _ _ h => h) (Or.inl ⟨by rfl, ?y55⟩) (RB) ?r55
  case y55 =>
    intro w_ hS_
    go_simp
    try with_reducible rfl
  simp only [Act.put, List.getElem_toArray, List.getElem_cons_succ, List.getElem_cons_zero, List.setIfInBounds_toArray, List.set_cons_succ, List.set_cons_zero]
  refine wpAnyH_take (i := 18) (v := ?v56) rfl (by kernel_rfl) (by kernel_rfl) (by kernel_rfl) (fun _ _ _ h => h) (Or.inl ⟨by rfl, ?y56⟩) (RB) ?r56
  case y56 =>
    intro w_ hS_
    go_simp
    try with_reducible rfl
  simp only [Act.put, List.getElem_toArray, List.getElem_cons_succ, List.getElem_cons_zero, List.setIfInBounds_toArray, List.set_cons_succ, List.set_cons_zero]
  refine wpAnyH_take (i := 19) (v := ?v57) rfl (by kernel_rfl) (by kernel_rfl) (by kernel_rfl) (fun _ _ _ h => h) (Or.inl ⟨by rfl, ?y57⟩) (RB) ?r57
  case y57 =>
    intro w_ hS_
    go_simp
    try with_reducible rfl
  simp only [Act.put, List.getElem_toArray, List.getElem_cons_succ, List.getElem_cons_zero, List.setIfInBounds_toArray, List.set_cons_succ, List.set_cons_zero]
  refine wpAnyH_done (by kernel_rfl) ?_ _
  refine NoPanic.normal ?_
  obtain ⟨aT, cT, rfl⟩ := slen_own hOve_
  clear re rd slE slD
  have cE_ := (box_cell RB hk hno).1
  have cD_ := (box_cell RB hk hno).2
  go_wp2_with (first | (refine wpList_load_part rfl 23 _ rfl w.heap.size 0 rfl 31 (boxr key nonce (.slice ue extra.length uec) (.slice ud d.length udc)) (0, 0) (irow .u8 (bl key)) _ RB (box_key _ _ _ _) Tryd.underlying23 rfl (infok8 _ hkl) ?_) | (refine wpList_load_part rfl 28 _ rfl w.heap.size 32 rfl 31 (boxr key nonce (.slice ue extra.length uec) (.slice ud d.length udc)) (0, 0) (irow .u8 (bl nonce)) _ RB (box_nonce _ _ _ _ hk) Tryd.underlying28 rfl hiN ?_) | fail)
  clear cE_ cD_
  have cX := q_seal key nonce (tbn extra) (tbn d) hk hno q3 (.slice (some ⟨gT, 0, none⟩) extra.length extra.length) (.slice (some ⟨gU, 0, none⟩) d.length d.length) (row_bysB rt (tbn_len _) hel _) (row_bysB ru (tbn_len _) hdl _)
  rw [eLT.out, eET.out] at cX
  refine cX.mono ?_
  rintro e_ w14 ⟨_, rfl, ⟨vf, rfl, hOvf⟩, hb⟩
  obtain ⟨avf, cvf, rfl⟩ := slen_own hOvf
  clear cX
  replace RB := keep hb RB
  replace rt := keep hb rt
  replace ru := keep hb ru
  replace hOve_ := hOve_.keep hb
  replace hw := Below.after hw hb
  have sz_w14 := hb.size
  clear hb
  have cE_ := (box_cell RB hk hno).1
  have cD_ := (box_cell RB hk hno).2
  go_wp2_with (first | (refine wpList_load_part rfl 23 _ rfl w.heap.size 0 rfl 31 (boxr key nonce (.slice ue extra.length uec) (.slice ud d.length udc)) (0, 0) (irow .u8 (bl key)) _ RB (box_key _ _ _ _) Tryd.underlying23 rfl (infok8 _ hkl) ?_) | (refine wpList_load_part rfl 28 _ rfl w.heap.size 32 rfl 31 (boxr key nonce (.slice ue extra.length uec) (.slice ud d.length udc)) (0, 0) (irow .u8 (bl nonce)) _ RB (box_nonce _ _ _ _ hk) Tryd.underlying28 rfl hiN ?_) | fail)
  clear cE_ cD_
  refine (sB_eq LT w14 _ _ hOve_.bys hOvf.bys).mono ?_
  rintro e_ w15 ⟨rfl, hb⟩
  replace RB := keep hb RB
  replace rt := keep hb rt
  replace ru := keep hb ru
  replace hOve_ := hOve_.keep hb
  replace hw := Below.after hw hb
  have sz_w15 := hb.size
  clear hb
  go_wp2
  go_ret
  exact ⟨rfl, hw⟩

end Go.Proofs.YtamieopjigjfiaaDoor
