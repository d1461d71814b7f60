import Derived.Test.YtebgdenfaiinmaaProg
import Derived.WalkKit
import Derived.WalkSpells
import Derived.WalkLawsBesides
import Derived.Lib.QuietBelow
import Derived.BigQuiet
import Derived.OrdersHeld
import Derived.Deep.RegionHeld3
import Derived.OwnWalk
import Derived.Test.YtebgdenfaiinmaaKit
import Derived.Test.YtebgdenfaiinmaaSqb
namespace Go.Proofs.Ytebgdenfaiinmaa
open Go Go.RowKit Go.Sort Go.ChangeMaps Go.MapKept
attribute [local go_sem] setCell_drewN alloc_drewN

theorem grown_frv {w w' : World} {o : Option Nat} (h : w.grownBy w' o) : Fr (fun j => o = some j) w w' := ⟨h.os, h.tape, h.output, h.size, fun k hk hx => h.block k hk (fun e => hx e.symm)⟩
theorem run_bsl0_op {P : Program} {o : Oper} {a : Act} {w w' : World} {v : Value} (t : TypeId) (ho : o.op = .buildSlice t 0 #[]) (hr : (Instr.buildSlice t 0 #[]).run P w = .ok v w') : (execOp a.eval o).run P w = .ok (.value v) w' := by
  simp [execOp, ho, hr, Result.andThen]
theorem own_nilv (W : World) (b : Nat) (t : TypeId) : W.ownsRow b t 1 (.slice none 0 0) ([] : List Value).length [] := ⟨rfl, .inl ⟨rfl, rfl⟩⟩
theorem own_empK (W : World) : OwnK (W.alloc (.cells #[] 40)) W.heap.size (.slice (some ⟨W.heap.size, 0, none⟩) 0 0) [] := ⟨rfl, .inr ⟨W.heap.size, 0, #[], rfl, Nat.le_refl _, hp1_0 _ _, Nat.le_refl _, by decide, rfl, rfl⟩⟩
set_option maxRecDepth 100000 in
set_option maxHeartbeats 4000000 in
theorem l_list (g : Nat) (c d : Value) (u : Value) (w : World) (q : List Sr) (hq : SpL w u q) (hgq : ∀ ao n c b off, u = .slice ao n c → ao = some ⟨b, off, none⟩ → b ≠ g) (R : w.heap[g]? = some (.cells #[(.slice none 0 0), (.slice none 0 0), c, d] 37 (0, 0))) : Calls Try.prog 36 #[.pointer (some ⟨g, 0, none⟩), u] w fun e w' => ∃ a b, e = .returned (.tuple #[]) ∧ w'.heap[g]? = some (.cells #[a, b, c, d] 37 (0, 0)) ∧ Fr (fun j => j = g) w w' := by
  have hql := hq.len
  obtain ⟨ao, n, cap, rfl⟩ : ∃ ao n c, u = .slice ao n c := by obtain ⟨a_, c_, h_⟩ := hq.form; exact ⟨a_, _, c_, h_⟩
  have c0 : w.cell? ⟨g, 0, none⟩ = some (.slice none 0 0) := by rw [cell_of_row _ g 0 _ _ _ R]; rfl
  have hb_ : Below w.heap.size w (w.alloc (.cells #[.slice ao n cap] 38)) := (Below.refl _ _).alloc (Nat.le_refl _) _
  have Rz := hp1_0 w (.cells #[.slice ao n cap] 38)
  have R1 := keep hb_ R
  have hnv := own_nilv (w.alloc (.cells #[.slice ao n cap] 38)) (w.alloc (.cells #[.slice ao n cap] 38)).heap.size 38
  go_enter Try.func36, Try.ntmps36
  go_wp2_with (first | (refine wpList_bslLS rfl _ rfl ao n cap rfl ?_) | (at_builtin; refine wpList_append_A rfl _ _ rfl _ (.slice none 0 0) [] rfl hnv w.heap.size _ rfl Rz rfl (by simp) (Nat.le_refl _) ?_) | fail)
  intro v1 w1 hO hgr hnx
  obtain ⟨ao1, n1, cap1, rfl⟩ : ∃ ao n c, v1 = .slice ao n c := by obtain ⟨a_, c_, h_⟩ := slen_own hO; exact ⟨a_, _, c_, h_⟩
  replace hq := (hq.keep hb_).keep ((Below.refl _ _).grown hgr (Nat.le_refl _) (fun k_ e_ => by cases e_))
  have hf : Fr (fun j => j = g) w w1 := (Fr.of hb_).step (grown_frv hgr) (fun j hj e => by cases e)
  replace R := (hgr.block g (lt_of_row R1) (fun e => by cases e)).trans R1
  clear hO hgr hnx R1 hnv Rz hb_ c0
  have c0 : w1.cell? ⟨g, 0, none⟩ = some (.slice none 0 0) := by rw [cell_of_row _ g 0 _ _ _ R]; rfl
  have fz0 := row_frozen R 0
  go_wp2_with (fail)
  have hsz := hf.size
  have hszw : w.heap.size ≤ (w1.setCell ⟨g, 0, none⟩ (.slice ao1 n1 cap1)).heap.size := by simpa using hsz
  replace hf := Fr.setCell (X := fun j => j = g) hf (b := g) (o := 0) rfl (.slice ao1 n1 cap1)
  have R2 : (w1.setCell ⟨g, 0, none⟩ (.slice ao1 n1 cap1)).heap[g]? = some (.cells #[(.slice ao1 n1 cap1), (.slice none 0 0), c, d] 37 (0, 0)) := by rw [heap_setCell_same _ g 0 _ _ _ R]; rfl
  have hq2 := hq.keepN (V := w1.setCell ⟨g, 0, none⟩ (.slice ao1 n1 cap1)) (by simp) (fun b_ off_ e_ h_ => heap_setCell_other _ _ _ _ (hgq _ _ _ b_ off_ rfl (by injection e_)))
  clear R hq c0 fz0 hsz
  generalize w1.setCell ⟨g, 0, none⟩ (.slice ao1 n1 cap1) = w2 at *
  have hq := hq2
  have R := R2
  clear hq2 R2
  have hbd : Below w2.heap.size w2 w2.drew := below_drN (Below.refl _ _) 1
  replace R := keep hbd R
  replace hq := hq.keep hbd
  replace hf := hf.trans (Fr.of hbd)
  replace hszw := Nat.le_trans hszw hbd.size
  clear hbd
  have c1 : w2.drew.cell? ⟨g, 1, none⟩ = some (.slice none 0 0) := by rw [cell_of_row _ g 1 _ _ _ R]; rfl
  refine wp_region_noPanic ?_
  refine wp_region_last 12 _ rfl rfl rfl (by kernel_rfl) (by kernel_rfl) (by kernel_rfl) ?_
  refine wpAny_of_held (S := fun W => W.cell? ⟨g, 1, none⟩ = some (.slice none 0 0)) _ _ _ _ ?_
  dsimp only [List.set, idle]
  change wpAnyH _ _ _ _ _ _ _ _ (World.drew _)
  generalize w2.drew = w3 at *
  refine wpAnyH_take (i := 0) (v := ?v19) rfl (by kernel_rfl) (by kernel_rfl) (by kernel_rfl) (fun _ _ _ h => h) (Or.inl ⟨by rfl, ?y19⟩) c1 ?r19
  case y19 =>
    intro w_ hS_
    go_simp
    try with_reducible rfl
  simp only [Act.put, List.getElem_toArray, List.getElem_cons_zero, List.setIfInBounds_toArray, List.set_cons_succ, List.set_cons_zero]
  refine wpAnyH_take (i := 1) (v := ?v20) rfl (by kernel_rfl) (by kernel_rfl) (by kernel_rfl) (fun _ _ _ h => h) (Or.inl ⟨by rfl, ?y20⟩) c1 ?r20
  case y20 =>
    intro w_ hS_
    go_simp
    try with_reducible rfl
  simp only [Act.put, List.getElem_toArray, List.getElem_cons_succ, List.getElem_cons_zero, List.setIfInBounds_toArray, List.set_cons_succ, List.set_cons_zero]
  refine wpAnyH_take (i := 2) (v := ?v21) rfl (by kernel_rfl) (by kernel_rfl) (by kernel_rfl) (fun _ _ _ h => h) (Or.inl ⟨by rfl, ?y21⟩) c1 ?r21
  case y21 =>
    intro w_ hS_
    go_simp
    try with_reducible rfl
  simp only [Act.put, List.getElem_toArray, List.getElem_cons_succ, List.getElem_cons_zero, List.setIfInBounds_toArray, List.set_cons_succ, List.set_cons_zero]
  refine wpAnyH_take (i := 3) (v := ?v22) rfl (by kernel_rfl) (by kernel_rfl) (by kernel_rfl) (fun _ _ _ h => h) (Or.inl ⟨by rfl, ?y22⟩) c1 ?r22
  case y22 =>
    intro w_ hS_
    go_simp
    try with_reducible rfl
  simp only [Act.put, List.getElem_toArray, List.getElem_cons_succ, List.getElem_cons_zero, List.setIfInBounds_toArray, List.set_cons_succ, List.set_cons_zero]
  refine wpAnyH_take (i := 4) (v := .slice none 0 0) rfl (by kernel_rfl) (by kernel_rfl) (by kernel_rfl) (fun _ _ _ h => h) (Or.inl ⟨by rfl, ?y23⟩) c1 ?r23
  case y23 =>
    intro w_ hS_
    have c_ := hS_
    go_simp
    try with_reducible rfl
  simp only [Act.put, List.getElem_toArray, List.getElem_cons_succ, List.getElem_cons_zero, List.setIfInBounds_toArray, List.set_cons_succ, List.set_cons_zero]
  refine wpAnyH_take (i := 6) (v := ?v24) rfl (by kernel_rfl) (by kernel_rfl) (by kernel_rfl) (fun _ _ _ h => h) (Or.inl ⟨by rfl, ?y24⟩) c1 ?r24
  case y24 =>
    intro w_ hS_
    go_simp
    try with_reducible rfl
  simp only [Act.put, List.getElem_toArray, List.getElem_cons_succ, List.getElem_cons_zero, List.setIfInBounds_toArray, List.set_cons_succ, List.set_cons_zero]
  refine wpAnyH_one (k := 5) (fuel := 6) (by kernel_rfl) rfl (by kernel_rfl) (fun K_ hK => ?_)
  refine wp_world_op _ _ (run_bsl0_op 38 rfl (run_bsl0 w3)) ?_
  have hb_ : Below w3.heap.size w3 (w3.alloc (.cells #[] 60)) := (Below.refl _ _).alloc (Nat.le_refl _) _
  have hE := own_empS w3
  have ltg := lt_of_row R
  replace R := keep hb_ R
  replace hq := hq.keep hb_
  replace hf := hf.trans (Fr.of hb_)
  have szE := hb_.size
  clear hb_
  replace c1 : (w3.alloc (.cells #[] 60)).cell? ⟨g, 1, none⟩ = some (.slice none 0 0) := by rw [cell_of_row _ g 1 _ _ _ R]; rfl
  refine hK _ _ c1 ?_
  simp only [Act.put, List.getElem_toArray, List.getElem_cons_succ, List.getElem_cons_zero, List.setIfInBounds_toArray, List.set_cons_succ, List.set_cons_zero]
  clear hK
  generalize w3.alloc (.cells #[] 60) = w4 at *
  generalize w3.heap.size = gE at *
  refine wpAnyH_one (k := 7) (fuel := 5) (by kernel_rfl) rfl (by kernel_rfl) (fun K_ hK => ?_)
  refine wp_append_S (.tmp 19) (.tmp 20) rfl gE _ [] rfl hE _ q rfl hq (by simp; omega) (by omega) (fun v2 w5 hO hgr hnx => ?_)
  obtain ⟨ao2, n2, cap2, rfl⟩ : ∃ ao n c, v2 = .slice ao n c := by obtain ⟨a_, c_, h_⟩ := slen_own hO.1; exact ⟨a_, _, c_, h_⟩
  replace R := (hgr.block g (lt_of_row R) (fun e => by have := (hE.1.lt g e.symm).1; omega)).trans R
  have hf9 : Fr (fun j => j = g) w w5 := hf.step (grown_frv hgr) (fun j hj e => by have := (show gE = j from Option.some.inj e); have := hszw; omega)
  clear hf hgr hnx hO hE hq
  replace c1 : w5.cell? ⟨g, 1, none⟩ = some (.slice none 0 0) := by rw [cell_of_row _ g 1 _ _ _ R]; rfl
  refine hK _ _ c1 ?_
  simp only [Act.put, List.getElem_toArray, List.getElem_cons_succ, List.getElem_cons_zero, List.setIfInBounds_toArray, List.set_cons_succ, List.set_cons_zero]
  clear hK
  refine wpAnyH_one (k := 8) (fuel := 4) (by kernel_rfl) rfl (by kernel_rfl) (fun K_ hK => ?_)
  refine wp_world_op _ _ (run_bsl_op 34 _ rfl rfl (run_bslLS ao2 n2 cap2 w5)) ?_
  have hb_ : Below w5.heap.size w5 (w5.alloc (.cells #[.slice ao2 n2 cap2] 38)) := (Below.refl _ _).alloc (Nat.le_refl _) _
  have Rz := hp1_0 w5 (.cells #[.slice ao2 n2 cap2] 38)
  replace R := keep hb_ R
  replace hf9 := hf9.trans (Fr.of hb_)
  clear hb_
  replace c1 : (w5.alloc (.cells #[.slice ao2 n2 cap2] 38)).cell? ⟨g, 1, none⟩ = some (.slice none 0 0) := by rw [cell_of_row _ g 1 _ _ _ R]; rfl
  refine hK _ _ c1 ?_
  simp only [Act.put, List.getElem_toArray, List.getElem_cons_succ, List.getElem_cons_zero, List.setIfInBounds_toArray, List.set_cons_succ, List.set_cons_zero]
  clear hK
  generalize w5.alloc (.cells #[.slice ao2 n2 cap2] 38) = w6 at *
  generalize w5.heap.size = gz at *
  refine wpAnyH_one (k := 9) (fuel := 3) (by kernel_rfl) rfl (by kernel_rfl) (fun K_ hK => ?_)
  refine wp_append_A (.tmp 18) (.tmp 22) rfl w6.heap.size (.slice none 0 0) [] rfl (own_nilv _ _ _) gz _ rfl Rz rfl (by simp) (Nat.le_refl _) (fun v7 w7 hO hgr hnx => ?_)
  obtain ⟨ao7, n7, cap7, rfl⟩ : ∃ ao n c, v7 = .slice ao n c := by obtain ⟨a_, c_, h_⟩ := slen_own hO; exact ⟨a_, _, c_, h_⟩
  replace R := (hgr.block g (lt_of_row R) (fun e => by cases e)).trans R
  have hf8 : Fr (fun j => j = g) w w7 := hf9.step (grown_frv hgr) (fun j hj e => by cases e)
  clear hf9 hgr hnx hO Rz
  replace c1 : w7.cell? ⟨g, 1, none⟩ = some (.slice none 0 0) := by rw [cell_of_row _ g 1 _ _ _ R]; rfl
  refine hK _ _ c1 ?_
  simp only [Act.put, List.getElem_toArray, List.getElem_cons_succ, List.getElem_cons_zero, List.setIfInBounds_toArray, List.set_cons_succ, List.set_cons_zero]
  clear hK
  refine wpAnyH_take (i := 10) (v := ?v25) rfl (by kernel_rfl) (by kernel_rfl) (by kernel_rfl) (fun _ _ _ h => h) (Or.inl ⟨by rfl, ?y25⟩) c1 ?r25
  case y25 =>
    intro w_ hS_
    go_simp
    try with_reducible rfl
  simp only [Act.put, List.getElem_toArray, List.getElem_cons_succ, List.getElem_cons_zero, List.setIfInBounds_toArray, List.set_cons_succ, List.set_cons_zero]
  refine wpAnyH_take (i := 11) (v := ?v26) rfl (by kernel_rfl) (by kernel_rfl) (by kernel_rfl) (fun _ _ _ h => h) (Or.inl ⟨by rfl, ?y26⟩) c1 ?r26
  case y26 =>
    intro w_ hS_
    go_simp
    try with_reducible rfl
  simp only [Act.put, List.getElem_toArray, List.getElem_cons_succ, List.getElem_cons_zero, List.setIfInBounds_toArray, List.set_cons_succ, List.set_cons_zero]
  refine wpAnyH_one (k := 12) (fuel := 0) (by kernel_rfl) rfl (by kernel_rfl) (fun K_ hK => ?_)
  refine wp_pure_op undef (by kernel_rfl) ?_
  refine hK _ _ (c1) ?_
  simp only [Act.put]
  clear hK
  refine wpAnyH_done (by kernel_rfl) ?_ _
  change wpList _ _ _ _ _ _
  have fz1 := row_frozen R 1
  go_wp2_with (fail)
  refine NoPanic.normal ?_
  go_wp2_with (fail)
  go_end0
  refine ⟨.slice ao1 n1 cap1, .slice ao7 n7 cap7, rfl, ?_, Fr.setCell (X := fun j => j = g) hf8 (b := g) (o := 1) rfl _⟩
  rw [heap_setCell_same _ g 1 _ _ _ R]; rfl
set_option maxRecDepth 100000 in
set_option maxHeartbeats 4000000 in
theorem l_keys (g : Nat) (c d : Value) (u : Value) (w : World) (ks : List (List Int)) (hks : ∀ k ∈ ks, k.length = 32) (hlk : ks.length ≤ 100000) (bq : Nat) (hq : OwnK w bq u ks) (hgq : ∀ k, u.ownBlock = some k → k ≠ g) (R : w.heap[g]? = some (.cells #[c, d, (.slice none 0 0), (.slice none 0 0)] 37 (0, 0))) : Calls Try.prog 41 #[.pointer (some ⟨g, 0, none⟩), u] w fun e w' => ∃ a b, e = .returned (.tuple #[]) ∧ w'.heap[g]? = some (.cells #[c, d, a, b] 37 (0, 0)) ∧ Fr (fun j => j = g) w w' := by
  skip
  obtain ⟨ao, n, cap, rfl⟩ : ∃ ao n c, u = .slice ao n c := by obtain ⟨a_, c_, h_⟩ := slen_own hq; exact ⟨a_, _, c_, h_⟩
  have c0 : w.cell? ⟨g, 2, none⟩ = some (.slice none 0 0) := by rw [cell_of_row _ g 2 _ _ _ R]; rfl
  have hb_ : Below w.heap.size w (w.alloc (.cells #[.slice ao n cap] 77)) := (Below.refl _ _).alloc (Nat.le_refl _) _
  have Rz := hp1_0 w (.cells #[.slice ao n cap] 77)
  have R1 := keep hb_ R
  have hnv := own_nilv (w.alloc (.cells #[.slice ao n cap] 77)) (w.alloc (.cells #[.slice ao n cap] 77)).heap.size 77
  go_enter Try.func41, Try.ntmps41
  go_wp2_with (first | (refine wpList_bslLK rfl _ rfl ao n cap rfl ?_) | (at_builtin; refine wpList_append_B rfl _ _ rfl _ (.slice none 0 0) [] rfl hnv w.heap.size _ rfl Rz rfl (by simp) (Nat.le_refl _) ?_) | fail)
  intro v1 w1 hO hgr hnx
  obtain ⟨ao1, n1, cap1, rfl⟩ : ∃ ao n c, v1 = .slice ao n c := by obtain ⟨a_, c_, h_⟩ := slen_own hO; exact ⟨a_, _, c_, h_⟩
  replace hq := (hq.keep hb_).keep ((Below.refl _ _).grown hgr (Nat.le_refl _) (fun k_ e_ => by cases e_))
  have hf : Fr (fun j => j = g) w w1 := (Fr.of hb_).step (grown_frv hgr) (fun j hj e => by cases e)
  replace R := (hgr.block g (lt_of_row R1) (fun e => by cases e)).trans R1
  clear hO hgr hnx R1 hnv Rz hb_ c0
  have c0 : w1.cell? ⟨g, 2, none⟩ = some (.slice none 0 0) := by rw [cell_of_row _ g 2 _ _ _ R]; rfl
  have fz0 := row_frozen R 2
  go_wp2_with (fail)
  have hsz := hf.size
  have hszw : w.heap.size ≤ (w1.setCell ⟨g, 2, none⟩ (.slice ao1 n1 cap1)).heap.size := by simpa using hsz
  replace hf := Fr.setCell (X := fun j => j = g) hf (b := g) (o := 2) rfl (.slice ao1 n1 cap1)
  have R2 : (w1.setCell ⟨g, 2, none⟩ (.slice ao1 n1 cap1)).heap[g]? = some (.cells #[c, d, (.slice ao1 n1 cap1), (.slice none 0 0)] 37 (0, 0)) := by rw [heap_setCell_same _ g 2 _ _ _ R]; rfl
  have hq2 := (show OwnK (w1.setCell ⟨g, 2, none⟩ (.slice ao1 n1 cap1)) bq _ ks from own_move hq (fun k_ e_ => heap_setCell_other _ _ _ _ (hgq k_ e_)))
  clear R hq c0 fz0 hsz
  generalize w1.setCell ⟨g, 2, none⟩ (.slice ao1 n1 cap1) = w2 at *
  have hq := hq2
  have R := R2
  clear hq2 R2
  have hbd : Below w2.heap.size w2 w2.drew := below_drN (Below.refl _ _) 1
  replace R := keep hbd R
  replace hq := hq.keep hbd
  replace hf := hf.trans (Fr.of hbd)
  replace hszw := Nat.le_trans hszw hbd.size
  clear hbd
  have c1 : w2.drew.cell? ⟨g, 3, none⟩ = some (.slice none 0 0) := by rw [cell_of_row _ g 3 _ _ _ R]; rfl
  refine wp_region_noPanic ?_
  refine wp_region_last 12 _ rfl rfl rfl (by kernel_rfl) (by kernel_rfl) (by kernel_rfl) ?_
  refine wpAny_of_held (S := fun W => W.cell? ⟨g, 3, none⟩ = some (.slice none 0 0)) _ _ _ _ ?_
  dsimp only [List.set, idle]
  change wpAnyH _ _ _ _ _ _ _ _ (World.drew _)
  generalize w2.drew = w3 at *
  refine wpAnyH_take (i := 0) (v := ?v27) rfl (by kernel_rfl) (by kernel_rfl) (by kernel_rfl) (fun _ _ _ h => h) (Or.inl ⟨by rfl, ?y27⟩) c1 ?r27
  case y27 =>
    intro w_ hS_
    go_simp
    try with_reducible rfl
  simp only [Act.put, List.getElem_toArray, List.getElem_cons_zero, List.setIfInBounds_toArray, List.set_cons_succ, List.set_cons_zero]
  refine wpAnyH_take (i := 1) (v := ?v28) rfl (by kernel_rfl) (by kernel_rfl) (by kernel_rfl) (fun _ _ _ h => h) (Or.inl ⟨by rfl, ?y28⟩) c1 ?r28
  case y28 =>
    intro w_ hS_
    go_simp
    try with_reducible rfl
  simp only [Act.put, List.getElem_toArray, List.getElem_cons_succ, List.getElem_cons_zero, List.setIfInBounds_toArray, List.set_cons_succ, List.set_cons_zero]
  refine wpAnyH_take (i := 2) (v := ?v29) rfl (by kernel_rfl) (by kernel_rfl) (by kernel_rfl) (fun _ _ _ h => h) (Or.inl ⟨by rfl, ?y29⟩) c1 ?r29
  case y29 =>
    intro w_ hS_
    go_simp
    try with_reducible rfl
  simp only [Act.put, List.getElem_toArray, List.getElem_cons_succ, List.getElem_cons_zero, List.setIfInBounds_toArray, List.set_cons_succ, List.set_cons_zero]
  refine wpAnyH_take (i := 3) (v := ?v30) rfl (by kernel_rfl) (by kernel_rfl) (by kernel_rfl) (fun _ _ _ h => h) (Or.inl ⟨by rfl, ?y30⟩) c1 ?r30
  case y30 =>
    intro w_ hS_
    go_simp
    try with_reducible rfl
  simp only [Act.put, List.getElem_toArray, List.getElem_cons_succ, List.getElem_cons_zero, List.setIfInBounds_toArray, List.set_cons_succ, List.set_cons_zero]
  refine wpAnyH_take (i := 4) (v := .slice none 0 0) rfl (by kernel_rfl) (by kernel_rfl) (by kernel_rfl) (fun _ _ _ h => h) (Or.inl ⟨by rfl, ?y31⟩) c1 ?r31
  case y31 =>
    intro w_ hS_
    have c_ := hS_
    go_simp
    try with_reducible rfl
  simp only [Act.put, List.getElem_toArray, List.getElem_cons_succ, List.getElem_cons_zero, List.setIfInBounds_toArray, List.set_cons_succ, List.set_cons_zero]
  refine wpAnyH_take (i := 6) (v := ?v32) rfl (by kernel_rfl) (by kernel_rfl) (by kernel_rfl) (fun _ _ _ h => h) (Or.inl ⟨by rfl, ?y32⟩) c1 ?r32
  case y32 =>
    intro w_ hS_
    go_simp
    try with_reducible rfl
  simp only [Act.put, List.getElem_toArray, List.getElem_cons_succ, List.getElem_cons_zero, List.setIfInBounds_toArray, List.set_cons_succ, List.set_cons_zero]
  refine wpAnyH_one (k := 5) (fuel := 6) (by kernel_rfl) rfl (by kernel_rfl) (fun K_ hK => ?_)
  refine wp_world_op _ _ (run_bsl0_op 77 rfl (run_bslK0 w3)) ?_
  have hb_ : Below w3.heap.size w3 (w3.alloc (.cells #[] 40)) := (Below.refl _ _).alloc (Nat.le_refl _) _
  have hE := own_empK w3
  have ltg := lt_of_row R
  replace R := keep hb_ R
  replace hq := hq.keep hb_
  replace hf := hf.trans (Fr.of hb_)
  have szE := hb_.size
  clear hb_
  replace c1 : (w3.alloc (.cells #[] 40)).cell? ⟨g, 3, none⟩ = some (.slice none 0 0) := by rw [cell_of_row _ g 3 _ _ _ R]; rfl
  refine hK _ _ c1 ?_
  simp only [Act.put, List.getElem_toArray, List.getElem_cons_succ, List.getElem_cons_zero, List.setIfInBounds_toArray, List.set_cons_succ, List.set_cons_zero]
  clear hK
  generalize w3.alloc (.cells #[] 40) = w4 at *
  generalize w3.heap.size = gE at *
  refine wpAnyH_one (k := 7) (fuel := 5) (by kernel_rfl) rfl (by kernel_rfl) (fun K_ hK => ?_)
  refine wp_append_Ks (.tmp 19) (.tmp 20) rfl gE _ [] rfl hE bq _ ks hks rfl hq (by simp; omega) (by omega) (fun v2 w5 hO hgr hnx => ?_)
  obtain ⟨ao2, n2, cap2, rfl⟩ : ∃ ao n c, v2 = .slice ao n c := by obtain ⟨a_, c_, h_⟩ := slen_own hO; exact ⟨a_, _, c_, h_⟩
  replace R := (hgr.block g (lt_of_row R) (fun e => by have := (hE.lt g e.symm).1; omega)).trans R
  have hf9 : Fr (fun j => j = g) w w5 := hf.step (grown_frv hgr) (fun j hj e => by have := (show gE = j from Option.some.inj e); have := hszw; omega)
  clear hf hgr hnx hO hE hq
  replace c1 : w5.cell? ⟨g, 3, none⟩ = some (.slice none 0 0) := by rw [cell_of_row _ g 3 _ _ _ R]; rfl
  refine hK _ _ c1 ?_
  simp only [Act.put, List.getElem_toArray, List.getElem_cons_succ, List.getElem_cons_zero, List.setIfInBounds_toArray, List.set_cons_succ, List.set_cons_zero]
  clear hK
  refine wpAnyH_one (k := 8) (fuel := 4) (by kernel_rfl) rfl (by kernel_rfl) (fun K_ hK => ?_)
  refine wp_world_op _ _ (run_bsl_op 35 _ rfl rfl (run_bslLK ao2 n2 cap2 w5)) ?_
  have hb_ : Below w5.heap.size w5 (w5.alloc (.cells #[.slice ao2 n2 cap2] 77)) := (Below.refl _ _).alloc (Nat.le_refl _) _
  have Rz := hp1_0 w5 (.cells #[.slice ao2 n2 cap2] 77)
  replace R := keep hb_ R
  replace hf9 := hf9.trans (Fr.of hb_)
  clear hb_
  replace c1 : (w5.alloc (.cells #[.slice ao2 n2 cap2] 77)).cell? ⟨g, 3, none⟩ = some (.slice none 0 0) := by rw [cell_of_row _ g 3 _ _ _ R]; rfl
  refine hK _ _ c1 ?_
  simp only [Act.put, List.getElem_toArray, List.getElem_cons_succ, List.getElem_cons_zero, List.setIfInBounds_toArray, List.set_cons_succ, List.set_cons_zero]
  clear hK
  generalize w5.alloc (.cells #[.slice ao2 n2 cap2] 77) = w6 at *
  generalize w5.heap.size = gz at *
  refine wpAnyH_one (k := 9) (fuel := 3) (by kernel_rfl) rfl (by kernel_rfl) (fun K_ hK => ?_)
  refine wp_append_B (.tmp 18) (.tmp 22) rfl w6.heap.size (.slice none 0 0) [] rfl (own_nilv _ _ _) gz _ rfl Rz rfl (by simp) (Nat.le_refl _) (fun v7 w7 hO hgr hnx => ?_)
  obtain ⟨ao7, n7, cap7, rfl⟩ : ∃ ao n c, v7 = .slice ao n c := by obtain ⟨a_, c_, h_⟩ := slen_own hO; exact ⟨a_, _, c_, h_⟩
  replace R := (hgr.block g (lt_of_row R) (fun e => by cases e)).trans R
  have hf8 : Fr (fun j => j = g) w w7 := hf9.step (grown_frv hgr) (fun j hj e => by cases e)
  clear hf9 hgr hnx hO Rz
  replace c1 : w7.cell? ⟨g, 3, none⟩ = some (.slice none 0 0) := by rw [cell_of_row _ g 3 _ _ _ R]; rfl
  refine hK _ _ c1 ?_
  simp only [Act.put, List.getElem_toArray, List.getElem_cons_succ, List.getElem_cons_zero, List.setIfInBounds_toArray, List.set_cons_succ, List.set_cons_zero]
  clear hK
  refine wpAnyH_take (i := 10) (v := ?v33) rfl (by kernel_rfl) (by kernel_rfl) (by kernel_rfl) (fun _ _ _ h => h) (Or.inl ⟨by rfl, ?y33⟩) c1 ?r33
  case y33 =>
    intro w_ hS_
    go_simp
    try with_reducible rfl
  simp only [Act.put, List.getElem_toArray, List.getElem_cons_succ, List.getElem_cons_zero, List.setIfInBounds_toArray, List.set_cons_succ, List.set_cons_zero]
  refine wpAnyH_take (i := 11) (v := ?v34) rfl (by kernel_rfl) (by kernel_rfl) (by kernel_rfl) (fun _ _ _ h => h) (Or.inl ⟨by rfl, ?y34⟩) c1 ?r34
  case y34 =>
    intro w_ hS_
    go_simp
    try with_reducible rfl
  simp only [Act.put, List.getElem_toArray, List.getElem_cons_succ, List.getElem_cons_zero, List.setIfInBounds_toArray, List.set_cons_succ, List.set_cons_zero]
  refine wpAnyH_one (k := 12) (fuel := 0) (by kernel_rfl) rfl (by kernel_rfl) (fun K_ hK => ?_)
  refine wp_pure_op undef (by kernel_rfl) ?_
  refine hK _ _ (c1) ?_
  simp only [Act.put]
  clear hK
  refine wpAnyH_done (by kernel_rfl) ?_ _
  change wpList _ _ _ _ _ _
  have fz1 := row_frozen R 3
  go_wp2_with (fail)
  refine NoPanic.normal ?_
  go_wp2_with (fail)
  go_end0
  refine ⟨.slice ao1 n1 cap1, .slice ao7 n7 cap7, rfl, ?_, Fr.setCell (X := fun j => j = g) hf8 (b := g) (o := 3) rfl _⟩
  rw [heap_setCell_same _ g 3 _ _ _ R]; rfl

end Go.Proofs.Ytebgdenfaiinmaa
