import Derived.Test.YtebgdenfaiinmaaProg
import Derived.WalkKit
import Derived.WalkSpells
import Derived.WalkLawsBesides
import Derived.Lib.QuietBelow
import Derived.BigQuiet
import Derived.OrdersHeld
import Derived.Deep.RegionHeld3
import Derived.OwnWalk
import Derived.Test.YtebgdenfaiinmaaKit
import Derived.Test.YtebgdenfaiinmaaSqc
namespace Go.Proofs.Ytebgdenfaiinmaa
open Go Go.RowKit Go.Sort Go.ChangeMaps Go.MapKept
attribute [local go_sem] setCell_drewN alloc_drewN

theorem bPr (cs : Array Value) (W : World) : (Instr.box 32 (.agg cs)).run Try.prog W = .ok (.pointer (some ⟨W.heap.size, 0, none⟩)) (W.alloc (.cells cs 32)) := by kernel_rfl
theorem cell_keep0 {W : World} {gp : Nat} {a b : Value} {t : TypeId} (R : W.heap[gp]? = some (.cells #[a, b] t (0, 0))) : W.cell? ⟨gp, 0, none⟩ = some a := by rw [cell_of_row _ _ _ _ _ _ R]; rfl
theorem cell_keep1 {W : World} {gp : Nat} {a b : Value} {t : TypeId} (R : W.heap[gp]? = some (.cells #[a, b] t (0, 0))) : W.cell? ⟨gp, 1, none⟩ = some b := by rw [cell_of_row _ _ _ _ _ _ R]; rfl
theorem own_blk {W : World} {base : Nat} {u : Value} {l : List Sr} (h : OwnS W base u l) : ∀ ao n c b off, u = .slice ao n c → ao = some ⟨b, off, none⟩ → base ≤ b := by
  rintro ao n c b off rfl rfl
  obtain ⟨⟨_, ⟨e, _⟩ | ⟨g1, c1, cur, e, hb, _⟩⟩, _⟩ := h
  · cases e
  · cases e
    exact hb
set_option maxRecDepth 100000 in
set_option maxHeartbeats 4000000 in
theorem l_psame (base g b : Nat) (v : Value) (most : Int) (l : List Sr) (base2 g2 : Nat) (v2 : Value) (gsh : Nat) (w : World) (hS : Sto w base g b v most l) (hR : Rst w base2 g2 v2 most l) (Rs : w.heap[gsh]? = some (.cells #[.slice none 0 0, .slice none 0 0, .slice none 0 0, .slice none 0 0] 37 (0, 0))) : Calls Try.prog 12 #[.agg #[(.pointer (some ⟨g, 0, none⟩)), (.pointer (some ⟨g2, 0, none⟩))], .pointer (some ⟨gsh, 0, none⟩)] w fun e w' => e = .returned (.bool true) ∧ Fr (fun j => j = gsh) w w' := by
  have hm0 := hS.most0
  have hln := hS.len
  have hks := hdn_ok hS.ok l.length (Nat.le_refl _)
  have hkl := hdn_len l l.length
  change ∀ x ∈ hds l, x.length = 32 at hks
  change (hds l).length ≤ _ at hkl
  have lts := lt_of_row Rs
  have hb_ : Below w.heap.size w (w.alloc (.cells #[(.pointer (some ⟨g, 0, none⟩)), (.pointer (some ⟨g2, 0, none⟩))] 32)) := (Below.refl _ _).alloc (Nat.le_refl _) _
  have Rp := hp1_0 w (.cells #[(.pointer (some ⟨g, 0, none⟩)), (.pointer (some ⟨g2, 0, none⟩))] 32)
  have hS1 := hS.keep hb_
  have hR1 := hR.keep hb_
  have Rs1 := keep hb_ Rs
  have q0 := cell_keep0 Rp
  have szb := hb_.size
  go_enter Try.func12, Try.ntmps12
  go_wp2_with (first | (refine wpList_box rfl 32 _ rfl _ rfl (bPr _) ?_) | fail)
  have hS := hS1
  have hR := hR1
  have Rs := Rs1
  have hw : Fr (fun j => j = gsh) w _ := Fr.of hb_
  clear hS1 hR1 Rs1 hb_
  generalize w.alloc (.cells #[(.pointer (some ⟨g, 0, none⟩)), (.pointer (some ⟨g2, 0, none⟩))] 32) = w1 at *
  generalize w.heap.size = gp at *
  refine (a_List base g b v most l w1 hS).mono ?_
  rintro e_ w2 ⟨u1, rfl, hO, hb_⟩
  replace hS := hS.keep hb_
  replace hR := hR.keep hb_
  replace Rs := keep hb_ Rs
  replace Rp := keep hb_ Rp
  have sz2 := hb_.size
  replace hw := hw.trans (Fr.of hb_)
  clear hb_
  replace q0 := cell_keep0 Rp
  obtain ⟨ao1, n1, cap1, rfl⟩ : ∃ ao n c, u1 = .slice ao n c := by obtain ⟨a_, c_, h_⟩ := slen_own hO.1; exact ⟨a_, _, c_, h_⟩
  go_wp2_with (fail)
  refine (a_Headers base g b v most l w2 hS).mono ?_
  rintro e_ w3 ⟨u2, rfl, hH, hb_⟩
  replace hS := hS.keep hb_
  replace hR := hR.keep hb_
  replace hO := hO.keep hb_
  replace Rs := keep hb_ Rs
  replace Rp := keep hb_ Rp
  have sz3 := hb_.size
  replace hw := hw.trans (Fr.of hb_)
  clear hb_
  obtain ⟨ao2, n2, cap2, rfl⟩ : ∃ ao n c, u2 = .slice ao n c := by obtain ⟨a_, c_, h_⟩ := slen_own hH; exact ⟨a_, _, c_, h_⟩
  replace q0 := cell_keep0 Rp
  have q1 := cell_keep1 Rp
  go_wp2_with (fail)
  have hb_ : Below w3.heap.size w3 w3.drew := below_drN (Below.refl _ _) 1
  replace hS := hS.keep hb_
  replace hR := hR.keep hb_
  replace hO := hO.keep hb_
  replace hH := hH.keep hb_
  replace Rp := keep hb_ Rp
  replace Rs := keep hb_ Rs
  replace q0 := cell_keep0 Rp
  replace q1 := cell_keep1 Rp
  replace hw := hw.trans (Fr.of hb_)
  clear hb_
  refine wp_region_noPanic ?_
  refine wp_region_held (S := fun W => W.cell? ⟨gp, 0, none⟩ = some (.pointer (some ⟨g, 0, none⟩)) ∧ W.cell? ⟨gp, 1, none⟩ = some (.pointer (some ⟨g2, 0, none⟩))) (by kernel_rfl) ?_
  change wpAnyH _ _ _ _ _ _ _ _ (World.drew _)
  generalize w3.drew = y0 at *
  refine wpAnyH_take (i := 0) (v := ?v67) rfl (by kernel_rfl) (by kernel_rfl) (by kernel_rfl) (fun _ _ _ h => h) (Or.inl ⟨by rfl, ?y67⟩) ⟨q0, q1⟩ ?r67
  case y67 =>
    intro w_ hS_
    go_simp
    try with_reducible rfl
  simp only [Act.put, List.getElem_toArray, List.getElem_cons_zero, List.setIfInBounds_toArray, List.set_cons_succ, List.set_cons_zero]
  refine wpAnyH_take (i := 1) (v := ?v68) rfl (by kernel_rfl) (by kernel_rfl) (by kernel_rfl) (fun _ _ _ h => h) (Or.inl ⟨by rfl, ?y68⟩) ⟨q0, q1⟩ ?r68
  case y68 =>
    intro w_ hS_
    go_simp
    try with_reducible rfl
  simp only [Act.put, List.getElem_toArray, List.getElem_cons_succ, List.getElem_cons_zero, List.setIfInBounds_toArray, List.set_cons_succ, List.set_cons_zero]
  refine wpAnyH_take (i := 2) (v := .pointer (some ⟨g2, 0, none⟩)) rfl (by kernel_rfl) (by kernel_rfl) (by kernel_rfl) (fun _ _ _ h => h) (Or.inl ⟨by rfl, ?y69⟩) ⟨q0, q1⟩ ?r69
  case y69 =>
    intro w_ hS_
    have c_ := hS_.2
    go_simp
    try with_reducible rfl
  simp only [Act.put, List.getElem_toArray, List.getElem_cons_succ, List.getElem_cons_zero, List.setIfInBounds_toArray, List.set_cons_succ, List.set_cons_zero]
  refine wpAnyH_one (k := 3) (fuel := 27) (by kernel_rfl) rfl (by rfl) (fun K_ hK => ?_)
  refine wp_call_ex (f := 37) (R := fun v_ w_ => OwnS w_ y0.heap.size v_ l ∧ Below y0.heap.size y0 w_) (by kernel_rfl) ((r_List base2 g2 v2 most l y0 hR).mono (fun e_ w_ h_ => by obtain ⟨u_, h1_, h2_, h3_⟩ := h_; exact ⟨u_, h1_, h2_, h3_⟩)) (fun v_ y1 hX_ => ?_)
  obtain ⟨hO2, hb_⟩ := hX_
  replace hS := hS.keep hb_
  replace hR := hR.keep hb_
  replace hO := hO.keep hb_
  replace hH := hH.keep hb_
  replace Rp := keep hb_ Rp
  replace Rs := keep hb_ Rs
  replace q0 := cell_keep0 Rp
  replace q1 := cell_keep1 Rp
  replace hw := hw.trans (Fr.of hb_)
  clear hb_
  refine hK _ _ ⟨q0, q1⟩ ?_
  simp only [Act.put, List.getElem_toArray, List.getElem_cons_succ, List.getElem_cons_zero, List.setIfInBounds_toArray, List.set_cons_succ, List.set_cons_zero]
  clear hK
  refine wpAnyH_one (k := 4) (fuel := 26) (by kernel_rfl) rfl (by rfl) (fun K_ hK => ?_)
  refine wp_call_ex (f := 25) (R := fun v_ w_ => v_ = .bool true ∧ Below y1.heap.size y1 w_) (by kernel_rfl) ((l_same l l y1 _ _ (hO.spl (by omega)) (hO2.spl (by omega))).mono (fun e_ w_ h_ => ⟨_, h_.1, by simp, h_.2⟩)) (fun v_ y2 hX_ => ?_)
  obtain ⟨rfl, hb_⟩ := hX_
  replace hS := hS.keep hb_
  replace hR := hR.keep hb_
  replace hO := hO.keep hb_
  replace hH := hH.keep hb_
  replace Rp := keep hb_ Rp
  replace Rs := keep hb_ Rs
  replace q0 := cell_keep0 Rp
  replace q1 := cell_keep1 Rp
  replace hw := hw.trans (Fr.of hb_)
  clear hb_
  refine hK _ _ ⟨q0, q1⟩ ?_
  simp only [Act.put, List.getElem_toArray, List.getElem_cons_succ, List.getElem_cons_zero, List.setIfInBounds_toArray, List.set_cons_succ, List.set_cons_zero]
  clear hK
  refine wpAnyH_take (i := 5) (v := ?v70) rfl (by kernel_rfl) (by kernel_rfl) (by kernel_rfl) (fun _ _ _ h => h) (Or.inl ⟨by rfl, ?y70⟩) ⟨q0, q1⟩ ?r70
  case y70 =>
    intro w_ hS_
    go_simp
    try with_reducible rfl
  simp only [Act.put, List.getElem_toArray, List.getElem_cons_succ, List.getElem_cons_zero, List.setIfInBounds_toArray, List.set_cons_succ, List.set_cons_zero]
  refine wpAnyH_take (i := 6) (v := ?v71) rfl (by kernel_rfl) (by kernel_rfl) (by kernel_rfl) (fun _ _ _ h => h) (Or.inl ⟨by rfl, ?y71⟩) ⟨q0, q1⟩ ?r71
  case y71 =>
    intro w_ hS_
    go_simp
    try with_reducible rfl
  simp only [Act.put, List.getElem_toArray, List.getElem_cons_succ, List.getElem_cons_zero, List.setIfInBounds_toArray, List.set_cons_succ, List.set_cons_zero]
  refine wpAnyH_take (i := 7) (v := ?v72) rfl (by kernel_rfl) (by kernel_rfl) (by kernel_rfl) (fun _ _ _ h => h) (Or.inl ⟨by rfl, ?y72⟩) ⟨q0, q1⟩ ?r72
  case y72 =>
    intro w_ hS_
    go_simp
    try with_reducible rfl
  simp only [Act.put, List.getElem_toArray, List.getElem_cons_succ, List.getElem_cons_zero, List.setIfInBounds_toArray, List.set_cons_succ, List.set_cons_zero]
  refine wpAnyH_take (i := 8) (v := .pointer (some ⟨g2, 0, none⟩)) rfl (by kernel_rfl) (by kernel_rfl) (by kernel_rfl) (fun _ _ _ h => h) (Or.inl ⟨by rfl, ?y73⟩) ⟨q0, q1⟩ ?r73
  case y73 =>
    intro w_ hS_
    have c_ := hS_.2
    go_simp
    try with_reducible rfl
  simp only [Act.put, List.getElem_toArray, List.getElem_cons_succ, List.getElem_cons_zero, List.setIfInBounds_toArray, List.set_cons_succ, List.set_cons_zero]
  refine wpAnyH_one (k := 9) (fuel := 21) (by kernel_rfl) rfl (by rfl) (fun K_ hK => ?_)
  refine wp_call_ex (f := 43) (R := fun v_ w_ => OwnK w_ y2.heap.size v_ (hds l) ∧ Below y2.heap.size y2 w_) (by kernel_rfl) ((r_Headers base2 g2 v2 most l y2 hR).mono (fun e_ w_ h_ => by obtain ⟨u_, h1_, h2_, h3_⟩ := h_; exact ⟨u_, h1_, h2_, h3_⟩)) (fun v_ y3 hX_ => ?_)
  obtain ⟨hH2, hb_⟩ := hX_
  replace hS := hS.keep hb_
  replace hR := hR.keep hb_
  replace hO := hO.keep hb_
  replace hH := hH.keep hb_
  replace Rp := keep hb_ Rp
  replace Rs := keep hb_ Rs
  replace q0 := cell_keep0 Rp
  replace q1 := cell_keep1 Rp
  replace hw := hw.trans (Fr.of hb_)
  clear hb_
  refine hK _ _ ⟨q0, q1⟩ ?_
  simp only [Act.put, List.getElem_toArray, List.getElem_cons_succ, List.getElem_cons_zero, List.setIfInBounds_toArray, List.set_cons_succ, List.set_cons_zero]
  clear hK
  refine wpAnyH_one (k := 10) (fuel := 20) (by kernel_rfl) rfl (by rfl) (fun K_ hK => ?_)
  refine wp_call_ex (f := 42) (R := fun v_ w_ => v_ = .bool true ∧ Below y3.heap.size y3 w_) (by kernel_rfl) ((l_sameKeys (hds l) hks (by omega) y3 _ _ _ _ hH hH2).mono (fun e_ w_ h_ => ⟨_, h_.1, rfl, h_.2⟩)) (fun v_ y4 hX_ => ?_)
  obtain ⟨rfl, hb_⟩ := hX_
  replace hS := hS.keep hb_
  replace hR := hR.keep hb_
  replace hO := hO.keep hb_
  replace hH := hH.keep hb_
  replace Rp := keep hb_ Rp
  replace Rs := keep hb_ Rs
  replace q0 := cell_keep0 Rp
  replace q1 := cell_keep1 Rp
  replace hw := hw.trans (Fr.of hb_)
  clear hb_
  refine hK _ _ ⟨q0, q1⟩ ?_
  simp only [Act.put, List.getElem_toArray, List.getElem_cons_succ, List.getElem_cons_zero, List.setIfInBounds_toArray, List.set_cons_succ, List.set_cons_zero]
  clear hK
  refine wpAnyH_take (i := 11) (v := ?v74) rfl (by kernel_rfl) (by kernel_rfl) (by kernel_rfl) (fun _ _ _ h => h) (Or.inl ⟨by rfl, ?y74⟩) ⟨q0, q1⟩ ?r74
  case y74 =>
    intro w_ hS_
    go_simp
    try with_reducible rfl
  simp only [Act.put, List.getElem_toArray, List.getElem_cons_succ, List.getElem_cons_zero, List.setIfInBounds_toArray, List.set_cons_succ, List.set_cons_zero]
  refine wpAnyH_take (i := 12) (v := ?v75) rfl (by kernel_rfl) (by kernel_rfl) (by kernel_rfl) (fun _ _ _ h => h) (Or.inl ⟨by rfl, ?y75⟩) ⟨q0, q1⟩ ?r75
  case y75 =>
    intro w_ hS_
    go_simp
    try with_reducible rfl
  simp only [Act.put, List.getElem_toArray, List.getElem_cons_succ, List.getElem_cons_zero, List.setIfInBounds_toArray, List.set_cons_succ, List.set_cons_zero]
  refine wpAnyH_take (i := 13) (v := ?v76) rfl (by kernel_rfl) (by kernel_rfl) (by kernel_rfl) (fun _ _ _ h => h) (Or.inl ⟨by rfl, ?y76⟩) ⟨q0, q1⟩ ?r76
  case y76 =>
    intro w_ hS_
    go_simp
    try with_reducible rfl
  simp only [Act.put, List.getElem_toArray, List.getElem_cons_succ, List.getElem_cons_zero, List.setIfInBounds_toArray, List.set_cons_succ, List.set_cons_zero]
  refine wpAnyH_take (i := 14) (v := .pointer (some ⟨g, 0, none⟩)) rfl (by kernel_rfl) (by kernel_rfl) (by kernel_rfl) (fun _ _ _ h => h) (Or.inl ⟨by rfl, ?y77⟩) ⟨q0, q1⟩ ?r77
  case y77 =>
    intro w_ hS_
    have c_ := hS_.1
    go_simp
    try with_reducible rfl
  simp only [Act.put, List.getElem_toArray, List.getElem_cons_succ, List.getElem_cons_zero, List.setIfInBounds_toArray, List.set_cons_succ, List.set_cons_zero]
  refine wpAnyH_take (i := 16) (v := ?v78) rfl (by kernel_rfl) (by kernel_rfl) (by kernel_rfl) (fun _ _ _ h => h) (Or.inl ⟨by rfl, ?y78⟩) ⟨q0, q1⟩ ?r78
  case y78 =>
    intro w_ hS_
    go_simp
    try with_reducible rfl
  simp only [Act.put, List.getElem_toArray, List.getElem_cons_succ, List.getElem_cons_zero, List.setIfInBounds_toArray, List.set_cons_succ, List.set_cons_zero]
  refine wpAnyH_take (i := 17) (v := .pointer (some ⟨g2, 0, none⟩)) rfl (by kernel_rfl) (by kernel_rfl) (by kernel_rfl) (fun _ _ _ h => h) (Or.inl ⟨by rfl, ?y79⟩) ⟨q0, q1⟩ ?r79
  case y79 =>
    intro w_ hS_
    have c_ := hS_.2
    go_simp
    try with_reducible rfl
  simp only [Act.put, List.getElem_toArray, List.getElem_cons_succ, List.getElem_cons_zero, List.setIfInBounds_toArray, List.set_cons_succ, List.set_cons_zero]
  refine wpAnyH_one (k := 15) (fuel := 13) (by kernel_rfl) rfl (by rfl) (fun K_ hK => ?_)
  refine wp_call_ex (f := 18) (R := fun v_ w_ => v_ = .int .i64 l.length ∧ Below y4.heap.size y4 w_) (by kernel_rfl) ((a_Len base g b v most l y4 hS).mono (fun e_ w_ h_ => ⟨_, h_.1, rfl, by rw [h_.2]; exact Below.refl _ _⟩)) (fun v_ y5 hX_ => ?_)
  obtain ⟨rfl, hb_⟩ := hX_
  replace hS := hS.keep hb_
  replace hR := hR.keep hb_
  replace hO := hO.keep hb_
  replace hH := hH.keep hb_
  replace Rp := keep hb_ Rp
  replace Rs := keep hb_ Rs
  replace q0 := cell_keep0 Rp
  replace q1 := cell_keep1 Rp
  replace hw := hw.trans (Fr.of hb_)
  clear hb_
  refine hK _ _ ⟨q0, q1⟩ ?_
  simp only [Act.put, List.getElem_toArray, List.getElem_cons_succ, List.getElem_cons_zero, List.setIfInBounds_toArray, List.set_cons_succ, List.set_cons_zero]
  clear hK
  refine wpAnyH_one (k := 18) (fuel := 12) (by kernel_rfl) rfl (by rfl) (fun K_ hK => ?_)
  refine wp_call_ex (f := 38) (R := fun v_ w_ => v_ = .int .i64 l.length ∧ Below y5.heap.size y5 w_) (by kernel_rfl) ((r_Len base2 g2 v2 most l y5 hR).mono (fun e_ w_ h_ => ⟨_, h_.1, rfl, by rw [h_.2]; exact Below.refl _ _⟩)) (fun v_ y6 hX_ => ?_)
  obtain ⟨rfl, hb_⟩ := hX_
  replace hS := hS.keep hb_
  replace hR := hR.keep hb_
  replace hO := hO.keep hb_
  replace hH := hH.keep hb_
  replace Rp := keep hb_ Rp
  replace Rs := keep hb_ Rs
  replace q0 := cell_keep0 Rp
  replace q1 := cell_keep1 Rp
  replace hw := hw.trans (Fr.of hb_)
  clear hb_
  refine hK _ _ ⟨q0, q1⟩ ?_
  simp only [Act.put, List.getElem_toArray, List.getElem_cons_succ, List.getElem_cons_zero, List.setIfInBounds_toArray, List.set_cons_succ, List.set_cons_zero]
  clear hK
  refine wpAnyH_take (i := 19) (v := .bool true) rfl (by kernel_rfl) (by kernel_rfl) (by kernel_rfl) (fun _ _ _ h => h) (Or.inl ⟨by rfl, ?y80⟩) ⟨q0, q1⟩ ?r80
  case y80 =>
    intro w_ hS_
    go_simp
    try simp
  simp only [Act.put, List.getElem_toArray, List.getElem_cons_succ, List.getElem_cons_zero, List.setIfInBounds_toArray, List.set_cons_succ, List.set_cons_zero]
  refine wpAnyH_take (i := 20) (v := ?v81) rfl (by kernel_rfl) (by kernel_rfl) (by kernel_rfl) (fun _ _ _ h => h) (Or.inl ⟨by rfl, ?y81⟩) ⟨q0, q1⟩ ?r81
  case y81 =>
    intro w_ hS_
    go_simp
    try with_reducible rfl
  simp only [Act.put, List.getElem_toArray, List.getElem_cons_succ, List.getElem_cons_zero, List.setIfInBounds_toArray, List.set_cons_succ, List.set_cons_zero]
  refine wpAnyH_take (i := 21) (v := ?v82) rfl (by kernel_rfl) (by kernel_rfl) (by kernel_rfl) (fun _ _ _ h => h) (Or.inl ⟨by rfl, ?y82⟩) ⟨q0, q1⟩ ?r82
  case y82 =>
    intro w_ hS_
    go_simp
    try with_reducible rfl
  simp only [Act.put, List.getElem_toArray, List.getElem_cons_succ, List.getElem_cons_zero, List.setIfInBounds_toArray, List.set_cons_succ, List.set_cons_zero]
  refine wpAnyH_take (i := 22) (v := ?v83) rfl (by kernel_rfl) (by kernel_rfl) (by kernel_rfl) (fun _ _ _ h => h) (Or.inl ⟨by rfl, ?y83⟩) ⟨q0, q1⟩ ?r83
  case y83 =>
    intro w_ hS_
    go_simp
    try with_reducible rfl
  simp only [Act.put, List.getElem_toArray, List.getElem_cons_succ, List.getElem_cons_zero, List.setIfInBounds_toArray, List.set_cons_succ, List.set_cons_zero]
  refine wpAnyH_take (i := 23) (v := .pointer (some ⟨g, 0, none⟩)) rfl (by kernel_rfl) (by kernel_rfl) (by kernel_rfl) (fun _ _ _ h => h) (Or.inl ⟨by rfl, ?y84⟩) ⟨q0, q1⟩ ?r84
  case y84 =>
    intro w_ hS_
    have c_ := hS_.1
    go_simp
    try with_reducible rfl
  simp only [Act.put, List.getElem_toArray, List.getElem_cons_succ, List.getElem_cons_zero, List.setIfInBounds_toArray, List.set_cons_succ, List.set_cons_zero]
  refine wpAnyH_take (i := 25) (v := ?v85) rfl (by kernel_rfl) (by kernel_rfl) (by kernel_rfl) (fun _ _ _ h => h) (Or.inl ⟨by rfl, ?y85⟩) ⟨q0, q1⟩ ?r85
  case y85 =>
    intro w_ hS_
    go_simp
    try with_reducible rfl
  simp only [Act.put, List.getElem_toArray, List.getElem_cons_succ, List.getElem_cons_zero, List.setIfInBounds_toArray, List.set_cons_succ, List.set_cons_zero]
  refine wpAnyH_take (i := 26) (v := .pointer (some ⟨g2, 0, none⟩)) rfl (by kernel_rfl) (by kernel_rfl) (by kernel_rfl) (fun _ _ _ h => h) (Or.inl ⟨by rfl, ?y86⟩) ⟨q0, q1⟩ ?r86
  case y86 =>
    intro w_ hS_
    have c_ := hS_.2
    go_simp
    try with_reducible rfl
  simp only [Act.put, List.getElem_toArray, List.getElem_cons_succ, List.getElem_cons_zero, List.setIfInBounds_toArray, List.set_cons_succ, List.set_cons_zero]
  refine wpAnyH_one (k := 24) (fuel := 4) (by kernel_rfl) rfl (by rfl) (fun K_ hK => ?_)
  refine wp_call_ex (f := 28) (R := fun v_ w_ => v_ = .int .i64 (most - l.length) ∧ Below y6.heap.size y6 w_) (by kernel_rfl) ((a_Room base g b v most l y6 hS).mono (fun e_ w_ h_ => ⟨_, h_.1, rfl, h_.2⟩)) (fun v_ y7 hX_ => ?_)
  obtain ⟨rfl, hb_⟩ := hX_
  replace hS := hS.keep hb_
  replace hR := hR.keep hb_
  replace hO := hO.keep hb_
  replace hH := hH.keep hb_
  replace Rp := keep hb_ Rp
  replace Rs := keep hb_ Rs
  replace q0 := cell_keep0 Rp
  replace q1 := cell_keep1 Rp
  replace hw := hw.trans (Fr.of hb_)
  clear hb_
  refine hK _ _ ⟨q0, q1⟩ ?_
  simp only [Act.put, List.getElem_toArray, List.getElem_cons_succ, List.getElem_cons_zero, List.setIfInBounds_toArray, List.set_cons_succ, List.set_cons_zero]
  clear hK
  refine wpAnyH_one (k := 27) (fuel := 3) (by kernel_rfl) rfl (by rfl) (fun K_ hK => ?_)
  refine wp_call_ex (f := 39) (R := fun v_ w_ => v_ = .int .i64 (most - l.length) ∧ Below y7.heap.size y7 w_) (by kernel_rfl) ((r_Room base2 g2 v2 most l y7 hR).mono (fun e_ w_ h_ => ⟨_, h_.1, rfl, h_.2⟩)) (fun v_ y8 hX_ => ?_)
  obtain ⟨rfl, hb_⟩ := hX_
  replace hS := hS.keep hb_
  replace hR := hR.keep hb_
  replace hO := hO.keep hb_
  replace hH := hH.keep hb_
  replace Rp := keep hb_ Rp
  replace Rs := keep hb_ Rs
  replace q0 := cell_keep0 Rp
  replace q1 := cell_keep1 Rp
  replace hw := hw.trans (Fr.of hb_)
  clear hb_
  refine hK _ _ ⟨q0, q1⟩ ?_
  simp only [Act.put, List.getElem_toArray, List.getElem_cons_succ, List.getElem_cons_zero, List.setIfInBounds_toArray, List.set_cons_succ, List.set_cons_zero]
  clear hK
  refine wpAnyH_take (i := 28) (v := .bool true) rfl (by kernel_rfl) (by kernel_rfl) (by kernel_rfl) (fun _ _ _ h => h) (Or.inl ⟨by rfl, ?y87⟩) ⟨q0, q1⟩ ?r87
  case y87 =>
    intro w_ hS_
    go_simp
    try simp
  simp only [Act.put, List.getElem_toArray, List.getElem_cons_succ, List.getElem_cons_zero, List.setIfInBounds_toArray, List.set_cons_succ, List.set_cons_zero]
  refine wpAnyH_take (i := 29) (v := ?v88) rfl (by kernel_rfl) (by kernel_rfl) (by kernel_rfl) (fun _ _ _ h => h) (Or.inl ⟨by rfl, ?y88⟩) ⟨q0, q1⟩ ?r88
  case y88 =>
    intro w_ hS_
    go_simp
    try with_reducible rfl
  simp only [Act.put, List.getElem_toArray, List.getElem_cons_succ, List.getElem_cons_zero, List.setIfInBounds_toArray, List.set_cons_succ, List.set_cons_zero]
  refine wpAnyH_take (i := 30) (v := ?v89) rfl (by kernel_rfl) (by kernel_rfl) (by kernel_rfl) (fun _ _ _ h => h) (Or.inl ⟨by rfl, ?y89⟩) ⟨q0, q1⟩ ?r89
  case y89 =>
    intro w_ hS_
    go_simp
    try with_reducible rfl
  simp only [Act.put, List.getElem_toArray, List.getElem_cons_succ, List.getElem_cons_zero, List.setIfInBounds_toArray, List.set_cons_succ, List.set_cons_zero]
  refine wpAnyH_done (by kernel_rfl) ?_ _
  refine NoPanic.normal ?_
  have hlO := own_blk hO
  have hlH := fun k_ (e_ : (Value.slice ao2 n2 cap2).ownBlock = some k_) => (World.ownsRow.lt hH k_ e_).1
  have hlH2 := fun k_ (e_ : (Value.slice ao2 n2 cap2).ownBlock = some k_) => (World.ownsRow.lt hH k_ e_).2
  clear q0 q1
  go_wp2_with (fail)
  refine (l_list gsh (.slice none 0 0) (.slice none 0 0) _ y8 l (hO.spl (by omega)) (fun a_ n_ c_ b_ o_ e1_ e2_ => by have := hlO a_ n_ c_ b_ o_ e1_ e2_; omega) Rs).mono ?_
  rintro e_ z1 ⟨a1, b1, rfl, Rs2, hf⟩
  have hHz : OwnK z1 _ _ (hds l) := own_move hH (fun k_ e_ => hf.block k_ (hlH2 k_ e_) (fun e2_ => by have := hlH k_ e_; omega))
  go_wp2_with (fail)
  refine (l_keys gsh a1 b1 _ z1 (hds l) hks (by omega) _ hHz (fun k_ e_ => by have := hlH k_ e_; omega) Rs2).mono ?_
  rintro e_ z2 ⟨a2, b2, rfl, _, hf2⟩
  have hfz : Fr (fun j => j = gsh) w z2 := (hw.trans hf).trans hf2
  clear hf hf2 hw
  go_wp2_with (fail)
  go_ret
  exact ⟨rfl, hfz⟩

end Go.Proofs.Ytebgdenfaiinmaa
