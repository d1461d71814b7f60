import Derived.Test.YtebgdenfaiinmaaProg
import Derived.WalkKit
import Derived.WalkSpells
import Derived.WalkLawsBesides
import Derived.Lib.QuietBelow
import Derived.BigQuiet
import Derived.OrdersHeld
import Derived.Deep.RegionHeld3
import Derived.OwnWalk
import Derived.Test.YtebgdenfaiinmaaKit
import Derived.Test.YtebgdenfaiinmaaSqf
import Derived.Test.YtebgdenfaiinmaaSpr
import Derived.Test.YtebgdenfaiinmaaSpk
namespace Go.Proofs.Ytebgdenfaiinmaa
open Go Go.RowKit Go.Sort Go.ChangeMaps Go.MapKept
attribute [local go_sem] setCell_drewN alloc_drewN

theorem own3_nx {w : World} {g b k : Nat} {v v' : Value} (h : Nx w v v') (hk : k < w.heap.size) (hn : ¬ own3 g b v k) : ¬ own3 g b v' k := fun e => hn (own3_new h k hk e)
theorem tk_len {l : List Sr} {x : Lb} : ((fnd l x).isSome = true → (tk l x).length + 1 = l.length) ∧ ((fnd l x).isSome = false → (tk l x).length = l.length) := by
  unfold fnd tk
  cases h : plc x (l.map Sr.lb) with
  | none => exact ⟨(fun e => by cases e), (fun _ => rfl)⟩
  | some i =>
    have hi := (plc_lt x _ i h).1
    rw [List.length_map] at hi
    refine ⟨fun _ => ?_, (fun e => by cases e)⟩
    dsimp only
    rw [List.length_append, List.length_take, List.length_drop]; omega
theorem fgt_one (l : List Sr) (n : Int) : (0 < fgt l n → (fgt l n : Int) ≤ n) ∧ (0 < l.length - fgt l n → 0 < n → (fgt l n : Int) = n) := by
  unfold fgt
  by_cases h1 : n ≤ 0
  · rw [if_pos h1]; exact ⟨fun h => by omega, fun _ h => by omega⟩
  · rw [if_neg h1]
    by_cases h2 : (l.length : Int) ≤ n
    · rw [if_pos h2]; exact ⟨fun _ => h2, fun h _ => by omega⟩
    · rw [if_neg h2]; exact ⟨fun _ => by omega, fun _ _ => by omega⟩
theorem tk_gone {l : List Sr} (nd : (l.map Sr.lb).Nodup) (x : Lb) : (fnd (tk l x) x).isSome = false := by
  rw [fnd_f]
  unfold tk
  cases h : plc x (l.map Sr.lb) with
  | none => exact (plc_none _ _).1 h
  | some i =>
    obtain ⟨hi, he⟩ := plc_lt x _ i h
    rw [List.length_map] at hi
    have hx : (gs l i).lb = x := by
      rw [List.getElem?_map, gs_get hi] at he
      simpa using he
    have hb := not_before nd hi
    rw [split_at hi, List.map_append, List.nodup_append] at nd
    dsimp only
    rw [List.map_append, List.mem_append]
    rintro (hm | hm)
    · exact hb (by rw [hx]; exact hm)
    · have h2 := nd.2.1
      rw [List.map_cons, List.nodup_cons] at h2
      exact h2.1 (by rw [hx]; exact hm)
set_option maxRecDepth 100000 in
set_option maxHeartbeats 4000000 in
theorem bound_any (most : Int) (os : List Opd) (v2 : Value) (w : World) (hos : Ops w v2 os) : Calls Try.prog 5 #[.int .i64 most, v2] w fun e w' => e = .returned (.bool true) ∧ Below w.heap.size w w' := by
  by_cases h : 0 ≤ most ∧ most ≤ 2000
  · obtain ⟨h0, h1⟩ := h
    have d1 : decide (most < 0) = false := by simp; omega
    have d2 : decide (most > 2000) = false := by simp; omega
    go_enter Try.func5, Try.ntmps5
    go_wp2_with (fail)
    refine (l_lives w).mono ?_
    rintro e_ w1 ⟨rfl, hb1⟩
    replace hos := hos.keep hb1
    go_wp2_with (fail)
    refine (a_New most h0 h1 w1).mono ?_
    rintro e_ w2 ⟨g, b, rfl, hS, hw⟩
    obtain ⟨ao, cap, rfl, hol⟩ := hos.form
    go_wp2_with (fail)
    go_loopw [7] (fun u7 wr => ∃ (k : Nat) (lc : List Sr) (v : Value), k ≤ os.length ∧ u7 = .int .i64 k ∧ Sto wr w1.heap.size g b v most lc ∧ Below w1.heap.size w1 wr) (fun u7 _ => os.length - (intOf u7).toNat)
    case atStart => exact ⟨0, [], _, by omega, rfl, hS, hw⟩
    case round =>
      clear hS hw
      obtain ⟨k, lc, v, hk, rfl, hS, hw⟩ := hrel
      by_cases hlt : k < os.length
      · have hd : decide ((k : Int) < (os.length : Int)) = true := by simp; omega
        obtain ⟨bo, off, u, rfl, hbo, hr, hsl, hh⟩ := hos.at hlt
        have hLl := hsl.len
        obtain ⟨au, cu, rfl⟩ := hsl.form
        have hSL : Hid (∀ V, Below w1.heap.size w1 V → SpL V (.slice au (gop os k).L.length cu) (gop os k).L) := hide (fun V h => hsl.keep h)
        have hk1 : 0 ≤ (k : Int) ∧ (k : Int) < (os.length : Int) := by omega
        have hm0 := hS.most0
        have hlc0 : (lc.length : Int) ≤ 2000 := by have := hS.len; omega
        replace hr := rangeAt_keep hr (hw.block bo hbo)
        have n_R8 : ¬ own3 g b v wr.heap.size := fun e => by have := (hS.low _ e).2; omega
        clear hos hsl
        have z_ := hp1_0 wr (.cells (opr zopd (.slice none 0 0)) 43)
        go_wp2_with (first | (refine wpList_load_mid rfl 43 _ rfl bo (off + k * 37) rfl (opc (gop os k) (.slice au (gop os k).L.length cu)) _ hr Try.underlying43 rfl (infoOpl hh _) ?_) | (refine wpList_alloc rfl 43 rfl (opr zopd (.slice none 0 0)) zop ?_) | (refine wpList_store_row rfl 43 _ _ rfl (wr.heap.size) (opr (gop os k) (.slice au (gop os k).L.length cu)) rfl rfl 43 _ z_ (infoOp hh _) (by rw [opr_size rfl, opr_size hh]) (opr_one _ _ _ _) ?_; refine wpList_stay ?_) | fail)
        unfold WpStay
        try simp only [Act.put, List.setIfInBounds_toArray, List.set_cons_succ, List.set_cons_zero]
        have R8 := setRow_heap (wr.alloc (.cells (opr zopd (.slice none 0 0)) 43)) wr.heap.size _ (opr (gop os k) (.slice au (gop os k).L.length cu)) _ _ z_
        have hb_ : Below wr.heap.size wr ((wr.alloc (.cells (opr zopd (.slice none 0 0)) 43)).setRow wr.heap.size (opr (gop os k) (.slice au (gop os k).L.length cu))) := below_setRow ((Below.refl _ _).alloc (Nat.le_refl _) _) (Nat.le_refl _) _
        have sz_g8 := hb_.size
        replace hS := hS.keep hb_
        replace hw := Below.after hw hb_
        clear hb_ z_
        generalize ((wr.alloc (.cells (opr zopd (.slice none 0 0)) 43)).setRow wr.heap.size (opr (gop os k) (.slice au (gop os k).L.length cu))) = wA at *
        generalize wr.heap.size = g8 at *
        clear hr hbo
        go_wp2_with (fail)
        refine (a_Len w1.heap.size g b v most lc wA hS).mono ?_
        rintro e_ w_ ⟨rfl, h_⟩
        subst w_
        have ck_ : wA.cell? ⟨g8, 0, none⟩ = some (.int .i64 (gop os k).kind) := by rw [cell_of_row _ _ _ _ _ _ R8, opr_kind]
        by_cases hk1_ : (gop os k).kind = 1
        · rw [hk1_] at ck_
          have cu_ : wA.cell? ⟨g8, 2, none⟩ = some (.slice au (gop os k).L.length cu) := by rw [cell_of_row _ _ _ _ _ _ R8, opr_u]
          go_wp2_with (fail)
          refine (a_Put w1.heap.size g b v most lc (gop os k).L _ wA hS hw.size (fun V hV => hSL.out V (Below.trans hw (hS.below hV hw.size)))).mono ?_
          rintro e_ wB ⟨vn, rfl, hs_, hf_, hn_⟩
          have lt_R8 := lt_of_row R8
          have m_R8 := n_R8
          replace n_R8 := own3_nx (hn_) lt_R8 n_R8
          replace R8 := hf_.row R8 m_R8
          clear m_R8 lt_R8
          replace hw := Below.trans hw (hS.below hf_ hw.size)
          replace hS := hs_
          clear hs_ hf_ hn_
          clear cu_
          have hpl : Hid (pl lc (gop os k).L most = if pe lc (gop os k).L most = 0 then lc ++ (gop os k).L else lc) := hide rfl
          rcases pe_cases lc (gop os k).L most with ⟨hE, _, hlE⟩ | hE | hE
          · rw [hE] at hpl
            have hE1 : pl lc (gop os k).L most = lc ++ (gop os k).L := hpl.out
            rw [hE]
            generalize pl lc (gop os k).L most = ln at *
            clear hE hpl
            have hwrp : IntKind.i64.wrap ((lc.length : Int) + ((gop os k).L.length : Int)) = (lc.length : Int) + ((gop os k).L.length : Int) := by rw [IntKind.wrap_i64]; omega
            have hln2 : (ln.length : Int) = (lc.length : Int) + ((gop os k).L.length : Int) := by rw [hE1, List.length_append]; omega
            clear hE1
            go_wp2_with (fail)
            have hbd : Below wB.heap.size wB wB.drew := below_drN (Below.refl _ _) 1
            replace R8 := keep hbd R8
            replace hS := hS.keep hbd
            replace hw := Below.after hw hbd
            clear hbd
            have c2_ : wB.drew.cell? ⟨g8, 2, none⟩ = some (.slice au (gop os k).L.length cu) := by rw [cell_of_row _ _ _ _ _ _ R8, opr_u]
            refine wp_region_noPanic ?_
            refine wp_region_held (S := fun W => W.cell? ⟨g8, 2, none⟩ = some (.slice au (gop os k).L.length cu)) (by kernel_rfl) ?_
            change wpAnyH _ _ _ _ _ _ _ _ (World.drew _)
            generalize wB.drew = y0 at *
            refine wpAnyH_take (i := 0) (v := ?v10) rfl (by kernel_rfl) (by kernel_rfl) (by kernel_rfl) (fun _ _ _ h => h) (Or.inl ⟨by rfl, ?y10⟩) c2_ ?r10
            case y10 =>
              intro w_ hS_
              go_simp
              try with_reducible rfl
            simp only [Act.put, List.getElem_toArray, List.getElem_cons_zero, List.setIfInBounds_toArray, List.set_cons_succ, List.set_cons_zero]
            refine wpAnyH_take (i := 1) (v := ?v11) rfl (by kernel_rfl) (by kernel_rfl) (by kernel_rfl) (fun _ _ _ h => h) (Or.inl ⟨by rfl, ?y11⟩) c2_ ?r11
            case y11 =>
              intro w_ hS_
              go_simp
              try with_reducible rfl
            simp only [Act.put, List.getElem_toArray, List.getElem_cons_succ, List.getElem_cons_zero, List.setIfInBounds_toArray, List.set_cons_succ, List.set_cons_zero]
            refine wpAnyH_take (i := 2) (v := ?v12) rfl (by kernel_rfl) (by kernel_rfl) (by kernel_rfl) (fun _ _ _ h => h) (Or.inl ⟨by rfl, ?y12⟩) c2_ ?r12
            case y12 =>
              intro w_ hS_
              go_simp
              try with_reducible rfl
            simp only [Act.put, List.getElem_toArray, List.getElem_cons_succ, List.getElem_cons_zero, List.setIfInBounds_toArray, List.set_cons_succ, List.set_cons_zero]
            refine wpAnyH_take (i := 3) (v := ?v13) rfl (by kernel_rfl) (by kernel_rfl) (by kernel_rfl) (fun _ _ _ h => h) (Or.inl ⟨by rfl, ?y13⟩) c2_ ?r13
            case y13 =>
              intro w_ hS_
              go_simp
              try with_reducible rfl
            simp only [Act.put, List.getElem_toArray, List.getElem_cons_succ, List.getElem_cons_zero, List.setIfInBounds_toArray, List.set_cons_succ, List.set_cons_zero]
            refine wpAnyH_take (i := 5) (v := ?v14) rfl (by kernel_rfl) (by kernel_rfl) (by kernel_rfl) (fun _ _ _ h => h) (Or.inl ⟨by rfl, ?y14⟩) c2_ ?r14
            case y14 =>
              intro w_ hS_
              go_simp
              try with_reducible rfl
            simp only [Act.put, List.getElem_toArray, List.getElem_cons_succ, List.getElem_cons_zero, List.setIfInBounds_toArray, List.set_cons_succ, List.set_cons_zero]
            refine wpAnyH_take (i := 6) (v := ?v15) rfl (by kernel_rfl) (by kernel_rfl) (by kernel_rfl) (fun _ _ _ h => h) (Or.inl ⟨by rfl, ?y15⟩) c2_ ?r15
            case y15 =>
              intro w_ hS_
              go_simp
              try with_reducible rfl
            simp only [Act.put, List.getElem_toArray, List.getElem_cons_succ, List.getElem_cons_zero, List.setIfInBounds_toArray, List.set_cons_succ, List.set_cons_zero]
            refine wpAnyH_take (i := 7) (v := .slice au (gop os k).L.length cu) rfl (by kernel_rfl) (by kernel_rfl) (by kernel_rfl) (fun _ _ _ h => h) (Or.inl ⟨by rfl, ?y16⟩) c2_ ?r16
            case y16 =>
              intro w_ hS_
              have c_ := hS_
              go_simp
              try with_reducible rfl
            simp only [Act.put, List.getElem_toArray, List.getElem_cons_succ, List.getElem_cons_zero, List.setIfInBounds_toArray, List.set_cons_succ, List.set_cons_zero]
            refine wpAnyH_take (i := 8) (v := ?v17) rfl (by kernel_rfl) (by kernel_rfl) (by kernel_rfl) (fun _ _ _ h => h) (Or.inl ⟨by rfl, ?y17⟩) c2_ ?r17
            case y17 =>
              intro w_ hS_
              go_simp
              try with_reducible rfl
            simp only [Act.put, List.getElem_toArray, List.getElem_cons_succ, List.getElem_cons_zero, List.setIfInBounds_toArray, List.set_cons_succ, List.set_cons_zero]
            refine wpAnyH_take (i := 9) (v := .int .i64 ((lc.length : Int) + ((gop os k).L.length : Int))) rfl (by kernel_rfl) (by kernel_rfl) (by kernel_rfl) (fun _ _ _ h => h) (Or.inl ⟨by rfl, ?y18⟩) c2_ ?r18
            case y18 =>
              intro w_ hS_
              go_simp
              try with_reducible rfl
            simp only [Act.put, List.getElem_toArray, List.getElem_cons_succ, List.getElem_cons_zero, List.setIfInBounds_toArray, List.set_cons_succ, List.set_cons_zero]
            refine wpAnyH_one (k := 4) (fuel := 12) (by kernel_rfl) rfl (by rfl) (fun K_ hK => ?_)
            refine wp_call_ex (f := 18) (R := fun v_ w_ => v_ = .int .i64 ln.length ∧ Below y0.heap.size y0 w_) (by kernel_rfl) ((a_Len w1.heap.size g b vn most ln y0 hS).mono (fun e_ w_ h_ => ⟨_, h_.1, rfl, by rw [h_.2]; exact Below.refl _ _⟩)) (fun v_ y1 hX_ => ?_)
            obtain ⟨rfl, hb⟩ := hX_
            replace R8 := keep hb R8
            replace c2_ : y1.cell? ⟨g8, 2, none⟩ = some (.slice au (gop os k).L.length cu) := by rw [cell_of_row _ _ _ _ _ _ R8, opr_u]
            replace hS := hS.keep hb
            replace hw := Below.after hw hb
            clear hb
            refine hK _ _ c2_ ?_
            simp only [Act.put, List.getElem_toArray, List.getElem_cons_succ, List.getElem_cons_zero, List.setIfInBounds_toArray, List.set_cons_succ, List.set_cons_zero]
            clear hK
            refine wpAnyH_take (i := 10) (v := .bool false) rfl (by kernel_rfl) (by kernel_rfl) (by kernel_rfl) (fun _ _ _ h => h) (Or.inl ⟨by rfl, ?y19⟩) c2_ ?r19
            case y19 =>
              intro w_ hS_
              go_simp
              try (simpa using hln2)
            simp only [Act.put, List.getElem_toArray, List.getElem_cons_succ, List.getElem_cons_zero, List.setIfInBounds_toArray, List.set_cons_succ, List.set_cons_zero]
            refine wpAnyH_take (i := 11) (v := ?v20) rfl (by kernel_rfl) (by kernel_rfl) (by kernel_rfl) (fun _ _ _ h => h) (Or.inl ⟨by rfl, ?y20⟩) c2_ ?r20
            case y20 =>
              intro w_ hS_
              go_simp
              try with_reducible rfl
            simp only [Act.put, List.getElem_toArray, List.getElem_cons_succ, List.getElem_cons_zero, List.setIfInBounds_toArray, List.set_cons_succ, List.set_cons_zero]
            refine wpAnyH_take (i := 12) (v := ?v21) rfl (by kernel_rfl) (by kernel_rfl) (by kernel_rfl) (fun _ _ _ h => h) (Or.inl ⟨by rfl, ?y21⟩) c2_ ?r21
            case y21 =>
              intro w_ hS_
              go_simp
              try with_reducible rfl
            simp only [Act.put, List.getElem_toArray, List.getElem_cons_succ, List.getElem_cons_zero, List.setIfInBounds_toArray, List.set_cons_succ, List.set_cons_zero]
            refine wpAnyH_take (i := 13) (v := ?v22) rfl (by kernel_rfl) (by kernel_rfl) (by kernel_rfl) (fun _ _ _ h => h) (Or.inl ⟨by rfl, ?y22⟩) c2_ ?r22
            case y22 =>
              intro w_ hS_
              go_simp
              try with_reducible rfl
            simp only [Act.put, List.getElem_toArray, List.getElem_cons_succ, List.getElem_cons_zero, List.setIfInBounds_toArray, List.set_cons_succ, List.set_cons_zero]
            refine wpAnyH_take (i := 14) (v := ?v23) rfl (by kernel_rfl) (by kernel_rfl) (by kernel_rfl) (fun _ _ _ h => h) (Or.inl ⟨by rfl, ?y23⟩) c2_ ?r23
            case y23 =>
              intro w_ hS_
              go_simp
              try with_reducible rfl
            simp only [Act.put, List.getElem_toArray, List.getElem_cons_succ, List.getElem_cons_zero, List.setIfInBounds_toArray, List.set_cons_succ, List.set_cons_zero]
            refine wpAnyH_take (i := 15) (v := ?v24) rfl (by kernel_rfl) (by kernel_rfl) (by kernel_rfl) (fun _ _ _ h => h) (Or.inl ⟨by rfl, ?y24⟩) c2_ ?r24
            case y24 =>
              intro w_ hS_
              go_simp
              try with_reducible rfl
            simp only [Act.put, List.getElem_toArray, List.getElem_cons_succ, List.getElem_cons_zero, List.setIfInBounds_toArray, List.set_cons_succ, List.set_cons_zero]
            refine wpAnyH_take (i := 16) (v := undef) rfl (by kernel_rfl) (by kernel_rfl) (by kernel_rfl) (fun _ _ _ h => h) (Or.inr ⟨by rfl, rfl⟩) c2_ ?r25
            simp only [Act.put, List.getElem_toArray, List.getElem_cons_succ, List.getElem_cons_zero, List.setIfInBounds_toArray, List.set_cons_succ, List.set_cons_zero]
            refine wpAnyH_take (i := 18) (v := undef) rfl (by kernel_rfl) (by kernel_rfl) (by kernel_rfl) (fun _ _ _ h => h) (Or.inr ⟨by rfl, rfl⟩) c2_ ?r26
            simp only [Act.put, List.getElem_toArray, List.getElem_cons_succ, List.getElem_cons_zero, List.setIfInBounds_toArray, List.set_cons_succ, List.set_cons_zero]
            refine wpAnyH_skip (k := 17) (fuel := 3) (by kernel_rfl) rfl (by rfl) c2_ ?_
            simp only [Act.put, List.getElem_toArray, List.getElem_cons_succ, List.getElem_cons_zero, List.setIfInBounds_toArray, List.set_cons_succ, List.set_cons_zero]
            refine wpAnyH_take (i := 19) (v := undef) rfl (by kernel_rfl) (by kernel_rfl) (by kernel_rfl) (fun _ _ _ h => h) (Or.inr ⟨by rfl, rfl⟩) c2_ ?r27
            simp only [Act.put, List.getElem_toArray, List.getElem_cons_succ, List.getElem_cons_zero, List.setIfInBounds_toArray, List.set_cons_succ, List.set_cons_zero]
            refine wpAnyH_take (i := 20) (v := ?v28) rfl (by kernel_rfl) (by kernel_rfl) (by kernel_rfl) (fun _ _ _ h => h) (Or.inl ⟨by rfl, ?y28⟩) c2_ ?r28
            case y28 =>
              intro w_ hS_
              go_simp
              try with_reducible rfl
            simp only [Act.put, List.getElem_toArray, List.getElem_cons_succ, List.getElem_cons_zero, List.setIfInBounds_toArray, List.set_cons_succ, List.set_cons_zero]
            refine wpAnyH_take (i := 21) (v := ?v29) rfl (by kernel_rfl) (by kernel_rfl) (by kernel_rfl) (fun _ _ _ h => h) (Or.inl ⟨by rfl, ?y29⟩) c2_ ?r29
            case y29 =>
              intro w_ hS_
              go_simp
              try with_reducible rfl
            simp only [Act.put, List.getElem_toArray, List.getElem_cons_succ, List.getElem_cons_zero, List.setIfInBounds_toArray, List.set_cons_succ, List.set_cons_zero]
            refine wpAnyH_done (by kernel_rfl) ?_ _
            refine NoPanic.normal ?_
            go_wp2_with (fail)
            refine (l_plain w1.heap.size g b vn most ln y1 hS).mono ?_
            rintro e_ wZ ⟨rfl, hb⟩
            replace hS := hS.keep hb
            replace hw := Below.after hw hb
            clear hb
            go_wp2_with (fail)
            refine ⟨⟨k + 1, _, _, by omega, by go_num, hS, hw⟩, ?_⟩
            simp [intOf]; omega
          · rw [hE] at hpl
            have hE1 : pl lc (gop os k).L most = lc := hpl.out
            rw [hE]
            generalize pl lc (gop os k).L most = ln at *
            clear hE hpl
            have hln2 : (ln.length : Int) = (lc.length : Int) := by rw [hE1]
            clear hE1
            go_wp2_with (fail)
            have hbd : Below wB.heap.size wB wB.drew := below_drN (Below.refl _ _) 1
            replace R8 := keep hbd R8
            replace hS := hS.keep hbd
            replace hw := Below.after hw hbd
            clear hbd
            have c2_ : wB.drew.cell? ⟨g8, 2, none⟩ = some (.slice au (gop os k).L.length cu) := by rw [cell_of_row _ _ _ _ _ _ R8, opr_u]
            refine wp_region_noPanic ?_
            refine wp_region_held (S := fun W => W.cell? ⟨g8, 2, none⟩ = some (.slice au (gop os k).L.length cu)) (by kernel_rfl) ?_
            change wpAnyH _ _ _ _ _ _ _ _ (World.drew _)
            generalize wB.drew = y0 at *
            refine wpAnyH_take (i := 0) (v := ?v730) rfl (by kernel_rfl) (by kernel_rfl) (by kernel_rfl) (fun _ _ _ h => h) (Or.inl ⟨by rfl, ?y730⟩) c2_ ?r730
            case y730 =>
              intro w_ hS_
              go_simp
              try with_reducible rfl
            simp only [Act.put, List.getElem_toArray, List.getElem_cons_zero, List.setIfInBounds_toArray, List.set_cons_succ, List.set_cons_zero]
            refine wpAnyH_take (i := 1) (v := ?v731) rfl (by kernel_rfl) (by kernel_rfl) (by kernel_rfl) (fun _ _ _ h => h) (Or.inl ⟨by rfl, ?y731⟩) c2_ ?r731
            case y731 =>
              intro w_ hS_
              go_simp
              try with_reducible rfl
            simp only [Act.put, List.getElem_toArray, List.getElem_cons_succ, List.getElem_cons_zero, List.setIfInBounds_toArray, List.set_cons_succ, List.set_cons_zero]
            refine wpAnyH_take (i := 2) (v := ?v732) rfl (by kernel_rfl) (by kernel_rfl) (by kernel_rfl) (fun _ _ _ h => h) (Or.inl ⟨by rfl, ?y732⟩) c2_ ?r732
            case y732 =>
              intro w_ hS_
              go_simp
              try with_reducible rfl
            simp only [Act.put, List.getElem_toArray, List.getElem_cons_succ, List.getElem_cons_zero, List.setIfInBounds_toArray, List.set_cons_succ, List.set_cons_zero]
            refine wpAnyH_take (i := 3) (v := undef) rfl (by kernel_rfl) (by kernel_rfl) (by kernel_rfl) (fun _ _ _ h => h) (Or.inr ⟨by rfl, rfl⟩) c2_ ?r733
            simp only [Act.put, List.getElem_toArray, List.getElem_cons_succ, List.getElem_cons_zero, List.setIfInBounds_toArray, List.set_cons_succ, List.set_cons_zero]
            refine wpAnyH_take (i := 5) (v := undef) rfl (by kernel_rfl) (by kernel_rfl) (by kernel_rfl) (fun _ _ _ h => h) (Or.inr ⟨by rfl, rfl⟩) c2_ ?r734
            simp only [Act.put, List.getElem_toArray, List.getElem_cons_succ, List.getElem_cons_zero, List.setIfInBounds_toArray, List.set_cons_succ, List.set_cons_zero]
            refine wpAnyH_take (i := 6) (v := undef) rfl (by kernel_rfl) (by kernel_rfl) (by kernel_rfl) (fun _ _ _ h => h) (Or.inr ⟨by rfl, rfl⟩) c2_ ?r735
            simp only [Act.put, List.getElem_toArray, List.getElem_cons_succ, List.getElem_cons_zero, List.setIfInBounds_toArray, List.set_cons_succ, List.set_cons_zero]
            refine wpAnyH_take (i := 7) (v := undef) rfl (by kernel_rfl) (by kernel_rfl) (by kernel_rfl) (fun _ _ _ h => h) (Or.inr ⟨by rfl, rfl⟩) c2_ ?r736
            simp only [Act.put, List.getElem_toArray, List.getElem_cons_succ, List.getElem_cons_zero, List.setIfInBounds_toArray, List.set_cons_succ, List.set_cons_zero]
            refine wpAnyH_take (i := 8) (v := undef) rfl (by kernel_rfl) (by kernel_rfl) (by kernel_rfl) (fun _ _ _ h => h) (Or.inr ⟨by rfl, rfl⟩) c2_ ?r737
            simp only [Act.put, List.getElem_toArray, List.getElem_cons_succ, List.getElem_cons_zero, List.setIfInBounds_toArray, List.set_cons_succ, List.set_cons_zero]
            refine wpAnyH_take (i := 9) (v := undef) rfl (by kernel_rfl) (by kernel_rfl) (by kernel_rfl) (fun _ _ _ h => h) (Or.inr ⟨by rfl, rfl⟩) c2_ ?r738
            simp only [Act.put, List.getElem_toArray, List.getElem_cons_succ, List.getElem_cons_zero, List.setIfInBounds_toArray, List.set_cons_succ, List.set_cons_zero]
            refine wpAnyH_skip (k := 4) (fuel := 12) (by kernel_rfl) rfl (by rfl) c2_ ?_
            simp only [Act.put, List.getElem_toArray, List.getElem_cons_succ, List.getElem_cons_zero, List.setIfInBounds_toArray, List.set_cons_succ, List.set_cons_zero]
            refine wpAnyH_take (i := 10) (v := undef) rfl (by kernel_rfl) (by kernel_rfl) (by kernel_rfl) (fun _ _ _ h => h) (Or.inr ⟨by rfl, rfl⟩) c2_ ?r739
            simp only [Act.put, List.getElem_toArray, List.getElem_cons_succ, List.getElem_cons_zero, List.setIfInBounds_toArray, List.set_cons_succ, List.set_cons_zero]
            refine wpAnyH_take (i := 11) (v := ?v740) rfl (by kernel_rfl) (by kernel_rfl) (by kernel_rfl) (fun _ _ _ h => h) (Or.inl ⟨by rfl, ?y740⟩) c2_ ?r740
            case y740 =>
              intro w_ hS_
              go_simp
              try with_reducible rfl
            simp only [Act.put, List.getElem_toArray, List.getElem_cons_succ, List.getElem_cons_zero, List.setIfInBounds_toArray, List.set_cons_succ, List.set_cons_zero]
            refine wpAnyH_take (i := 12) (v := ?v741) rfl (by kernel_rfl) (by kernel_rfl) (by kernel_rfl) (fun _ _ _ h => h) (Or.inl ⟨by rfl, ?y741⟩) c2_ ?r741
            case y741 =>
              intro w_ hS_
              go_simp
              try with_reducible rfl
            simp only [Act.put, List.getElem_toArray, List.getElem_cons_succ, List.getElem_cons_zero, List.setIfInBounds_toArray, List.set_cons_succ, List.set_cons_zero]
            refine wpAnyH_take (i := 13) (v := ?v742) rfl (by kernel_rfl) (by kernel_rfl) (by kernel_rfl) (fun _ _ _ h => h) (Or.inl ⟨by rfl, ?y742⟩) c2_ ?r742
            case y742 =>
              intro w_ hS_
              go_simp
              try with_reducible rfl
            simp only [Act.put, List.getElem_toArray, List.getElem_cons_succ, List.getElem_cons_zero, List.setIfInBounds_toArray, List.set_cons_succ, List.set_cons_zero]
            refine wpAnyH_take (i := 14) (v := ?v743) rfl (by kernel_rfl) (by kernel_rfl) (by kernel_rfl) (fun _ _ _ h => h) (Or.inl ⟨by rfl, ?y743⟩) c2_ ?r743
            case y743 =>
              intro w_ hS_
              go_simp
              try with_reducible rfl
            simp only [Act.put, List.getElem_toArray, List.getElem_cons_succ, List.getElem_cons_zero, List.setIfInBounds_toArray, List.set_cons_succ, List.set_cons_zero]
            refine wpAnyH_take (i := 15) (v := ?v744) rfl (by kernel_rfl) (by kernel_rfl) (by kernel_rfl) (fun _ _ _ h => h) (Or.inl ⟨by rfl, ?y744⟩) c2_ ?r744
            case y744 =>
              intro w_ hS_
              go_simp
              try with_reducible rfl
            simp only [Act.put, List.getElem_toArray, List.getElem_cons_succ, List.getElem_cons_zero, List.setIfInBounds_toArray, List.set_cons_succ, List.set_cons_zero]
            refine wpAnyH_take (i := 16) (v := ?v745) rfl (by kernel_rfl) (by kernel_rfl) (by kernel_rfl) (fun _ _ _ h => h) (Or.inl ⟨by rfl, ?y745⟩) c2_ ?r745
            case y745 =>
              intro w_ hS_
              go_simp
              try with_reducible rfl
            simp only [Act.put, List.getElem_toArray, List.getElem_cons_succ, List.getElem_cons_zero, List.setIfInBounds_toArray, List.set_cons_succ, List.set_cons_zero]
            refine wpAnyH_take (i := 18) (v := ?v746) rfl (by kernel_rfl) (by kernel_rfl) (by kernel_rfl) (fun _ _ _ h => h) (Or.inl ⟨by rfl, ?y746⟩) c2_ ?r746
            case y746 =>
              intro w_ hS_
              go_simp
              try with_reducible rfl
            simp only [Act.put, List.getElem_toArray, List.getElem_cons_succ, List.getElem_cons_zero, List.setIfInBounds_toArray, List.set_cons_succ, List.set_cons_zero]
            refine wpAnyH_one (k := 17) (fuel := 3) (by kernel_rfl) rfl (by rfl) (fun K_ hK => ?_)
            refine wp_call_ex (f := 18) (R := fun v_ w_ => v_ = .int .i64 ln.length ∧ Below y0.heap.size y0 w_) (by kernel_rfl) ((a_Len w1.heap.size g b vn most ln y0 hS).mono (fun e_ w_ h_ => ⟨_, h_.1, rfl, by rw [h_.2]; exact Below.refl _ _⟩)) (fun v_ y1 hX_ => ?_)
            obtain ⟨rfl, hb⟩ := hX_
            replace R8 := keep hb R8
            replace c2_ : y1.cell? ⟨g8, 2, none⟩ = some (.slice au (gop os k).L.length cu) := by rw [cell_of_row _ _ _ _ _ _ R8, opr_u]
            replace hS := hS.keep hb
            replace hw := Below.after hw hb
            clear hb
            refine hK _ _ c2_ ?_
            simp only [Act.put, List.getElem_toArray, List.getElem_cons_succ, List.getElem_cons_zero, List.setIfInBounds_toArray, List.set_cons_succ, List.set_cons_zero]
            clear hK
            refine wpAnyH_take (i := 19) (v := .bool false) rfl (by kernel_rfl) (by kernel_rfl) (by kernel_rfl) (fun _ _ _ h => h) (Or.inl ⟨by rfl, ?y747⟩) c2_ ?r747
            case y747 =>
              intro w_ hS_
              go_simp
              try (simpa using hln2)
            simp only [Act.put, List.getElem_toArray, List.getElem_cons_succ, List.getElem_cons_zero, List.setIfInBounds_toArray, List.set_cons_succ, List.set_cons_zero]
            refine wpAnyH_take (i := 20) (v := ?v748) rfl (by kernel_rfl) (by kernel_rfl) (by kernel_rfl) (fun _ _ _ h => h) (Or.inl ⟨by rfl, ?y748⟩) c2_ ?r748
            case y748 =>
              intro w_ hS_
              go_simp
              try with_reducible rfl
            simp only [Act.put, List.getElem_toArray, List.getElem_cons_succ, List.getElem_cons_zero, List.setIfInBounds_toArray, List.set_cons_succ, List.set_cons_zero]
            refine wpAnyH_take (i := 21) (v := ?v749) rfl (by kernel_rfl) (by kernel_rfl) (by kernel_rfl) (fun _ _ _ h => h) (Or.inl ⟨by rfl, ?y749⟩) c2_ ?r749
            case y749 =>
              intro w_ hS_
              go_simp
              try with_reducible rfl
            simp only [Act.put, List.getElem_toArray, List.getElem_cons_succ, List.getElem_cons_zero, List.setIfInBounds_toArray, List.set_cons_succ, List.set_cons_zero]
            refine wpAnyH_done (by kernel_rfl) ?_ _
            refine NoPanic.normal ?_
            go_wp2_with (fail)
            refine (l_plain w1.heap.size g b vn most ln y1 hS).mono ?_
            rintro e_ wZ ⟨rfl, hb⟩
            replace hS := hS.keep hb
            replace hw := Below.after hw hb
            clear hb
            go_wp2_with (fail)
            refine ⟨⟨k + 1, _, _, by omega, by go_num, hS, hw⟩, ?_⟩
            simp [intOf]; omega
          · rw [hE] at hpl
            have hE1 : pl lc (gop os k).L most = lc := hpl.out
            rw [hE]
            generalize pl lc (gop os k).L most = ln at *
            clear hE hpl
            have hln2 : (ln.length : Int) = (lc.length : Int) := by rw [hE1]
            clear hE1
            go_wp2_with (fail)
            have hbd : Below wB.heap.size wB wB.drew := below_drN (Below.refl _ _) 1
            replace R8 := keep hbd R8
            replace hS := hS.keep hbd
            replace hw := Below.after hw hbd
            clear hbd
            have c2_ : wB.drew.cell? ⟨g8, 2, none⟩ = some (.slice au (gop os k).L.length cu) := by rw [cell_of_row _ _ _ _ _ _ R8, opr_u]
            refine wp_region_noPanic ?_
            refine wp_region_held (S := fun W => W.cell? ⟨g8, 2, none⟩ = some (.slice au (gop os k).L.length cu)) (by kernel_rfl) ?_
            change wpAnyH _ _ _ _ _ _ _ _ (World.drew _)
            generalize wB.drew = y0 at *
            refine wpAnyH_take (i := 0) (v := ?v830) rfl (by kernel_rfl) (by kernel_rfl) (by kernel_rfl) (fun _ _ _ h => h) (Or.inl ⟨by rfl, ?y830⟩) c2_ ?r830
            case y830 =>
              intro w_ hS_
              go_simp
              try with_reducible rfl
            simp only [Act.put, List.getElem_toArray, List.getElem_cons_zero, List.setIfInBounds_toArray, List.set_cons_succ, List.set_cons_zero]
            refine wpAnyH_take (i := 1) (v := ?v831) rfl (by kernel_rfl) (by kernel_rfl) (by kernel_rfl) (fun _ _ _ h => h) (Or.inl ⟨by rfl, ?y831⟩) c2_ ?r831
            case y831 =>
              intro w_ hS_
              go_simp
              try with_reducible rfl
            simp only [Act.put, List.getElem_toArray, List.getElem_cons_succ, List.getElem_cons_zero, List.setIfInBounds_toArray, List.set_cons_succ, List.set_cons_zero]
            refine wpAnyH_take (i := 2) (v := ?v832) rfl (by kernel_rfl) (by kernel_rfl) (by kernel_rfl) (fun _ _ _ h => h) (Or.inl ⟨by rfl, ?y832⟩) c2_ ?r832
            case y832 =>
              intro w_ hS_
              go_simp
              try with_reducible rfl
            simp only [Act.put, List.getElem_toArray, List.getElem_cons_succ, List.getElem_cons_zero, List.setIfInBounds_toArray, List.set_cons_succ, List.set_cons_zero]
            refine wpAnyH_take (i := 3) (v := undef) rfl (by kernel_rfl) (by kernel_rfl) (by kernel_rfl) (fun _ _ _ h => h) (Or.inr ⟨by rfl, rfl⟩) c2_ ?r833
            simp only [Act.put, List.getElem_toArray, List.getElem_cons_succ, List.getElem_cons_zero, List.setIfInBounds_toArray, List.set_cons_succ, List.set_cons_zero]
            refine wpAnyH_take (i := 5) (v := undef) rfl (by kernel_rfl) (by kernel_rfl) (by kernel_rfl) (fun _ _ _ h => h) (Or.inr ⟨by rfl, rfl⟩) c2_ ?r834
            simp only [Act.put, List.getElem_toArray, List.getElem_cons_succ, List.getElem_cons_zero, List.setIfInBounds_toArray, List.set_cons_succ, List.set_cons_zero]
            refine wpAnyH_take (i := 6) (v := undef) rfl (by kernel_rfl) (by kernel_rfl) (by kernel_rfl) (fun _ _ _ h => h) (Or.inr ⟨by rfl, rfl⟩) c2_ ?r835
            simp only [Act.put, List.getElem_toArray, List.getElem_cons_succ, List.getElem_cons_zero, List.setIfInBounds_toArray, List.set_cons_succ, List.set_cons_zero]
            refine wpAnyH_take (i := 7) (v := undef) rfl (by kernel_rfl) (by kernel_rfl) (by kernel_rfl) (fun _ _ _ h => h) (Or.inr ⟨by rfl, rfl⟩) c2_ ?r836
            simp only [Act.put, List.getElem_toArray, List.getElem_cons_succ, List.getElem_cons_zero, List.setIfInBounds_toArray, List.set_cons_succ, List.set_cons_zero]
            refine wpAnyH_take (i := 8) (v := undef) rfl (by kernel_rfl) (by kernel_rfl) (by kernel_rfl) (fun _ _ _ h => h) (Or.inr ⟨by rfl, rfl⟩) c2_ ?r837
            simp only [Act.put, List.getElem_toArray, List.getElem_cons_succ, List.getElem_cons_zero, List.setIfInBounds_toArray, List.set_cons_succ, List.set_cons_zero]
            refine wpAnyH_take (i := 9) (v := undef) rfl (by kernel_rfl) (by kernel_rfl) (by kernel_rfl) (fun _ _ _ h => h) (Or.inr ⟨by rfl, rfl⟩) c2_ ?r838
            simp only [Act.put, List.getElem_toArray, List.getElem_cons_succ, List.getElem_cons_zero, List.setIfInBounds_toArray, List.set_cons_succ, List.set_cons_zero]
            refine wpAnyH_skip (k := 4) (fuel := 12) (by kernel_rfl) rfl (by rfl) c2_ ?_
            simp only [Act.put, List.getElem_toArray, List.getElem_cons_succ, List.getElem_cons_zero, List.setIfInBounds_toArray, List.set_cons_succ, List.set_cons_zero]
            refine wpAnyH_take (i := 10) (v := undef) rfl (by kernel_rfl) (by kernel_rfl) (by kernel_rfl) (fun _ _ _ h => h) (Or.inr ⟨by rfl, rfl⟩) c2_ ?r839
            simp only [Act.put, List.getElem_toArray, List.getElem_cons_succ, List.getElem_cons_zero, List.setIfInBounds_toArray, List.set_cons_succ, List.set_cons_zero]
            refine wpAnyH_take (i := 11) (v := ?v840) rfl (by kernel_rfl) (by kernel_rfl) (by kernel_rfl) (fun _ _ _ h => h) (Or.inl ⟨by rfl, ?y840⟩) c2_ ?r840
            case y840 =>
              intro w_ hS_
              go_simp
              try with_reducible rfl
            simp only [Act.put, List.getElem_toArray, List.getElem_cons_succ, List.getElem_cons_zero, List.setIfInBounds_toArray, List.set_cons_succ, List.set_cons_zero]
            refine wpAnyH_take (i := 12) (v := ?v841) rfl (by kernel_rfl) (by kernel_rfl) (by kernel_rfl) (fun _ _ _ h => h) (Or.inl ⟨by rfl, ?y841⟩) c2_ ?r841
            case y841 =>
              intro w_ hS_
              go_simp
              try with_reducible rfl
            simp only [Act.put, List.getElem_toArray, List.getElem_cons_succ, List.getElem_cons_zero, List.setIfInBounds_toArray, List.set_cons_succ, List.set_cons_zero]
            refine wpAnyH_take (i := 13) (v := ?v842) rfl (by kernel_rfl) (by kernel_rfl) (by kernel_rfl) (fun _ _ _ h => h) (Or.inl ⟨by rfl, ?y842⟩) c2_ ?r842
            case y842 =>
              intro w_ hS_
              go_simp
              try with_reducible rfl
            simp only [Act.put, List.getElem_toArray, List.getElem_cons_succ, List.getElem_cons_zero, List.setIfInBounds_toArray, List.set_cons_succ, List.set_cons_zero]
            refine wpAnyH_take (i := 14) (v := ?v843) rfl (by kernel_rfl) (by kernel_rfl) (by kernel_rfl) (fun _ _ _ h => h) (Or.inl ⟨by rfl, ?y843⟩) c2_ ?r843
            case y843 =>
              intro w_ hS_
              go_simp
              try with_reducible rfl
            simp only [Act.put, List.getElem_toArray, List.getElem_cons_succ, List.getElem_cons_zero, List.setIfInBounds_toArray, List.set_cons_succ, List.set_cons_zero]
            refine wpAnyH_take (i := 15) (v := ?v844) rfl (by kernel_rfl) (by kernel_rfl) (by kernel_rfl) (fun _ _ _ h => h) (Or.inl ⟨by rfl, ?y844⟩) c2_ ?r844
            case y844 =>
              intro w_ hS_
              go_simp
              try with_reducible rfl
            simp only [Act.put, List.getElem_toArray, List.getElem_cons_succ, List.getElem_cons_zero, List.setIfInBounds_toArray, List.set_cons_succ, List.set_cons_zero]
            refine wpAnyH_take (i := 16) (v := ?v845) rfl (by kernel_rfl) (by kernel_rfl) (by kernel_rfl) (fun _ _ _ h => h) (Or.inl ⟨by rfl, ?y845⟩) c2_ ?r845
            case y845 =>
              intro w_ hS_
              go_simp
              try with_reducible rfl
            simp only [Act.put, List.getElem_toArray, List.getElem_cons_succ, List.getElem_cons_zero, List.setIfInBounds_toArray, List.set_cons_succ, List.set_cons_zero]
            refine wpAnyH_take (i := 18) (v := ?v846) rfl (by kernel_rfl) (by kernel_rfl) (by kernel_rfl) (fun _ _ _ h => h) (Or.inl ⟨by rfl, ?y846⟩) c2_ ?r846
            case y846 =>
              intro w_ hS_
              go_simp
              try with_reducible rfl
            simp only [Act.put, List.getElem_toArray, List.getElem_cons_succ, List.getElem_cons_zero, List.setIfInBounds_toArray, List.set_cons_succ, List.set_cons_zero]
            refine wpAnyH_one (k := 17) (fuel := 3) (by kernel_rfl) rfl (by rfl) (fun K_ hK => ?_)
            refine wp_call_ex (f := 18) (R := fun v_ w_ => v_ = .int .i64 ln.length ∧ Below y0.heap.size y0 w_) (by kernel_rfl) ((a_Len w1.heap.size g b vn most ln y0 hS).mono (fun e_ w_ h_ => ⟨_, h_.1, rfl, by rw [h_.2]; exact Below.refl _ _⟩)) (fun v_ y1 hX_ => ?_)
            obtain ⟨rfl, hb⟩ := hX_
            replace R8 := keep hb R8
            replace c2_ : y1.cell? ⟨g8, 2, none⟩ = some (.slice au (gop os k).L.length cu) := by rw [cell_of_row _ _ _ _ _ _ R8, opr_u]
            replace hS := hS.keep hb
            replace hw := Below.after hw hb
            clear hb
            refine hK _ _ c2_ ?_
            simp only [Act.put, List.getElem_toArray, List.getElem_cons_succ, List.getElem_cons_zero, List.setIfInBounds_toArray, List.set_cons_succ, List.set_cons_zero]
            clear hK
            refine wpAnyH_take (i := 19) (v := .bool false) rfl (by kernel_rfl) (by kernel_rfl) (by kernel_rfl) (fun _ _ _ h => h) (Or.inl ⟨by rfl, ?y847⟩) c2_ ?r847
            case y847 =>
              intro w_ hS_
              go_simp
              try (simpa using hln2)
            simp only [Act.put, List.getElem_toArray, List.getElem_cons_succ, List.getElem_cons_zero, List.setIfInBounds_toArray, List.set_cons_succ, List.set_cons_zero]
            refine wpAnyH_take (i := 20) (v := ?v848) rfl (by kernel_rfl) (by kernel_rfl) (by kernel_rfl) (fun _ _ _ h => h) (Or.inl ⟨by rfl, ?y848⟩) c2_ ?r848
            case y848 =>
              intro w_ hS_
              go_simp
              try with_reducible rfl
            simp only [Act.put, List.getElem_toArray, List.getElem_cons_succ, List.getElem_cons_zero, List.setIfInBounds_toArray, List.set_cons_succ, List.set_cons_zero]
            refine wpAnyH_take (i := 21) (v := ?v849) rfl (by kernel_rfl) (by kernel_rfl) (by kernel_rfl) (fun _ _ _ h => h) (Or.inl ⟨by rfl, ?y849⟩) c2_ ?r849
            case y849 =>
              intro w_ hS_
              go_simp
              try with_reducible rfl
            simp only [Act.put, List.getElem_toArray, List.getElem_cons_succ, List.getElem_cons_zero, List.setIfInBounds_toArray, List.set_cons_succ, List.set_cons_zero]
            refine wpAnyH_done (by kernel_rfl) ?_ _
            refine NoPanic.normal ?_
            go_wp2_with (fail)
            refine (l_plain w1.heap.size g b vn most ln y1 hS).mono ?_
            rintro e_ wZ ⟨rfl, hb⟩
            replace hS := hS.keep hb
            replace hw := Below.after hw hb
            clear hb
            go_wp2_with (fail)
            refine ⟨⟨k + 1, _, _, by omega, by go_num, hS, hw⟩, ?_⟩
            simp [intOf]; omega
        · have hdk1 : decide ((gop os k).kind = 1) = false := by simpa using hk1_
          by_cases hk3_ : (gop os k).kind = 3
          · rw [hk3_] at ck_
            clear hdk1 hk1_
            have cn_ : wA.cell? ⟨g8, 35, none⟩ = some (.int .u32 (gop os k).n) := by rw [cell_of_row _ _ _ _ _ _ R8, opr_n hh]
            have cT1 := a_Take w1.heap.size g b v most lc (gop os k).h hh (gop os k).n wA hS
            have la := fky_len hS.ok ((gop os k).h, (gop os k).n)
            have htl := @tk_len lc ((gop os k).h, (gop os k).n)
            have htg := tk_gone hS.nod ((gop os k).h, (gop os k).n)
            generalize fky lc ((gop os k).h, (gop os k).n) = A at *
            generalize (fnd lc ((gop os k).h, (gop os k).n)).isSome = Bs at *
            generalize tk lc ((gop os k).h, (gop os k).n) = ln at *
            go_wp2_with (first | (refine wpList_load_part rfl 40 _ rfl (g8) 3 rfl 43 (opr (gop os k) (.slice au (gop os k).L.length cu)) (0, 0) (irow .u8 (gop os k).h) _ R8 (opr_h hh _) Try.underlying40 rfl (infok8 _ hh) ?_) | fail)
            refine (cT1).mono ?_
            rintro e_ wB ⟨vn, rfl, hs_, hf_, hn_⟩
            have lt_R8 := lt_of_row R8
            have m_R8 := n_R8
            replace n_R8 := own3_nx (.inl hn_) lt_R8 n_R8
            replace R8 := hf_.row R8 m_R8
            clear m_R8 lt_R8
            replace hw := Below.trans hw (hS.below hf_ hw.size)
            replace hS := hs_
            clear hs_ hf_ hn_
            clear cn_ cT1
            have z_ := hp1_0 wB (.cells (irow .u8 (zr 32)) 40)
            go_wp2_with (first | (refine wpList_alloc rfl 40 rfl (irow .u8 (zr 32)) zkey ?_) | (refine wpList_store_row rfl 40 _ _ rfl (wB.heap.size) (irow .u8 A) rfl rfl 40 _ z_ (infok8 _ la) (fit32 _ _ (zr_len 32) la) (irow_one _ _) ?_; refine wpList_stay ?_) | fail)
            unfold WpStay
            try simp only [Act.put, List.setIfInBounds_toArray, List.set_cons_succ, List.set_cons_zero]
            have R11 := setRow_heap (wB.alloc (.cells (irow .u8 (zr 32)) 40)) wB.heap.size _ (irow .u8 A) _ _ z_
            have hb_ : Below wB.heap.size wB ((wB.alloc (.cells (irow .u8 (zr 32)) 40)).setRow wB.heap.size (irow .u8 A)) := below_setRow ((Below.refl _ _).alloc (Nat.le_refl _) _) (Nat.le_refl _) _
            have sz_g11 := hb_.size
            have lt_R8_g11 := lt_of_row R8
            replace R8 := keep hb_ R8
            replace hS := hS.keep hb_
            replace hw := Below.after hw hb_
            clear hb_ z_
            generalize ((wB.alloc (.cells (irow .u8 (zr 32)) 40)).setRow wB.heap.size (irow .u8 A)) = wC at *
            generalize wB.heap.size = g11 at *
            have cn_ : wC.cell? ⟨g8, 35, none⟩ = some (.int .u32 (gop os k).n) := by rw [cell_of_row _ _ _ _ _ _ R8, opr_n hh]
            have cF1 := a_Find w1.heap.size g b vn most ln (gop os k).h hh (gop os k).n wC hS
            have lb := fky_len hS.ok ((gop os k).h, (gop os k).n)
            rw [htg] at cF1
            generalize fky ln ((gop os k).h, (gop os k).n) = A2 at *
            go_wp2_with (first | (refine wpList_load_part rfl 40 _ rfl (g8) 3 rfl 43 (opr (gop os k) (.slice au (gop os k).L.length cu)) (0, 0) (irow .u8 (gop os k).h) _ R8 (opr_h hh _) Try.underlying40 rfl (infok8 _ hh) ?_) | fail)
            refine cF1.mono ?_
            rintro e_ wD ⟨rfl, hb⟩
            replace R8 := keep hb R8
            replace hS := hS.keep hb
            replace hw := Below.after hw hb
            clear hb
            clear cF1 cn_
            have z_ := hp1_0 wD (.cells (irow .u8 (zr 32)) 40)
            go_wp2_with (first | (refine wpList_alloc rfl 40 rfl (irow .u8 (zr 32)) zkey ?_) | (refine wpList_store_row rfl 40 _ _ rfl (wD.heap.size) (irow .u8 A2) rfl rfl 40 _ z_ (infok8 _ lb) (fit32 _ _ (zr_len 32) lb) (irow_one _ _) ?_; refine wpList_stay ?_) | fail)
            unfold WpStay
            try simp only [Act.put, List.setIfInBounds_toArray, List.set_cons_succ, List.set_cons_zero]
            have R13 := setRow_heap (wD.alloc (.cells (irow .u8 (zr 32)) 40)) wD.heap.size _ (irow .u8 A2) _ _ z_
            have hb_ : Below wD.heap.size wD ((wD.alloc (.cells (irow .u8 (zr 32)) 40)).setRow wD.heap.size (irow .u8 A2)) := below_setRow ((Below.refl _ _).alloc (Nat.le_refl _) _) (Nat.le_refl _) _
            have sz_g13 := hb_.size
            have lt_R8_g13 := lt_of_row R8
            replace R8 := keep hb_ R8
            replace hS := hS.keep hb_
            replace hw := Below.after hw hb_
            clear hb_ z_
            generalize ((wD.alloc (.cells (irow .u8 (zr 32)) 40)).setRow wD.heap.size (irow .u8 A2)) = wE at *
            generalize wD.heap.size = g13 at *
            have hlc2 := hS.len
            cases Bs
            · have hl1 := htl.2 rfl
              have de1 : decide ((ln.length : Int) = (lc.length : Int) - 1) = false := by simp; omega
              have de2 : decide ((ln.length : Int) = (lc.length : Int)) = true := by simp; omega
              clear htl
              go_wp2_with (fail)
              refine (a_Len w1.heap.size g b vn most ln wE hS).mono ?_
              rintro e_ w_ ⟨rfl, h_⟩
              subst w_
              go_wp2_with (fail)
              refine (a_Len w1.heap.size g b vn most ln wE hS).mono ?_
              rintro e_ w_ ⟨rfl, h_⟩
              subst w_
              go_wp2_with (fail)
              refine (l_plain w1.heap.size g b vn most ln wE hS).mono ?_
              rintro e_ wZ ⟨rfl, hb⟩
              replace hS := hS.keep hb
              replace hw := Below.after hw hb
              clear hb
              go_wp2_with (fail)
              refine ⟨⟨k + 1, _, _, by omega, by go_num, hS, hw⟩, ?_⟩
              simp [intOf]; omega
            · have hl1 := htl.1 rfl
              have de1 : decide ((ln.length : Int) = (lc.length : Int) - 1) = true := by simp; omega
              have de2 : decide ((ln.length : Int) = (lc.length : Int)) = false := by simp; omega
              clear htl
              go_wp2_with (fail)
              refine (a_Len w1.heap.size g b vn most ln wE hS).mono ?_
              rintro e_ w_ ⟨rfl, h_⟩
              subst w_
              go_wp2_with (fail)
              refine (a_Len w1.heap.size g b vn most ln wE hS).mono ?_
              rintro e_ w_ ⟨rfl, h_⟩
              subst w_
              go_wp2_with (fail)
              refine (l_plain w1.heap.size g b vn most ln wE hS).mono ?_
              rintro e_ wZ ⟨rfl, hb⟩
              replace hS := hS.keep hb
              replace hw := Below.after hw hb
              clear hb
              go_wp2_with (fail)
              refine ⟨⟨k + 1, _, _, by omega, by go_num, hS, hw⟩, ?_⟩
              simp [intOf]; omega
          · have hdk3 : decide ((gop os k).kind = 3) = false := by simpa using hk3_
            by_cases hk4_ : (gop os k).kind = 4
            · rw [hk4_] at ck_
              clear hdk1 hk1_ hdk3 hk3_
              have cc_ : wA.cell? ⟨g8, 36, none⟩ = some (.int .i64 (gop os k).cnt) := by rw [cell_of_row _ _ _ _ _ _ R8, opr_cnt hh]
              have cG1 := a_Forget w1.heap.size g b v most lc (gop os k).cnt wA hS
              have hfl := fgt_le lc (gop os k).cnt
              have hfd : (lc.drop (fgt lc (gop os k).cnt)).length = lc.length - fgt lc (gop os k).cnt := List.length_drop
              have hfc := hide (fgt_one lc (gop os k).cnt)
              generalize fgt lc (gop os k).cnt = f at *
              generalize lc.drop f = ln at *
              go_wp2_with (fail)
              refine (cG1).mono ?_
              rintro e_ wB ⟨vn, rfl, hs_, hf_, hn_⟩
              have lt_R8 := lt_of_row R8
              have m_R8 := n_R8
              replace n_R8 := own3_nx (.inl hn_) lt_R8 n_R8
              replace R8 := hf_.row R8 m_R8
              clear m_R8 lt_R8
              replace hw := Below.trans hw (hS.below hf_ hw.size)
              replace hS := hs_
              clear hs_ hf_ hn_
              clear cc_ cG1
              have cc_ : wB.cell? ⟨g8, 36, none⟩ = some (.int .i64 (gop os k).cnt) := by rw [cell_of_row _ _ _ _ _ _ R8, opr_cnt hh]
              generalize (gop os k).cnt = cnt at *
              have e0 : decide ((f : Int) < 0) = false := decide_eq_false (by omega)
              have e1 : decide ((ln.length : Int) = (lc.length : Int) - (f : Int)) = true := decide_eq_true (by omega)
              have hlc2 := hS.len
              have hln0 : (lc.length : Int) ≤ 2000 := hlc0
              have hfc1 : (f : Int) > 0 → (f : Int) ≤ cnt := fun h => hfc.out.1 (by omega)
              have hfc2 : (ln.length : Int) > 0 → cnt > 0 → (f : Int) = cnt := fun h h2 => hfc.out.2 (by omega) h2
              clear hfc
              by_cases hf0 : (f : Int) > 0
              · have e2 : decide ((f : Int) > 0) = true := by simpa using hf0
                have e3 : decide ((f : Int) > cnt) = false := decide_eq_false (by have := hfc1 hf0; omega)
                by_cases hl0 : (ln.length : Int) > 0
                · have e4 : decide ((ln.length : Int) > 0) = true := by simpa using hl0
                  by_cases hc0 : cnt > 0
                  · have e5 : decide (cnt > 0) = true := by simpa using hc0
                    obtain rfl : cnt = (f : Int) := (hfc2 hl0 hc0).symm
                    have e6 : decide ((f : Int) = (f : Int)) = true := by simp
                    clear hfc1 hfc2
                    go_wp2_with (fail)
                    refine (a_Len w1.heap.size g b vn most ln wB hS).mono ?_
                    rintro e_ w_ ⟨rfl, h_⟩
                    subst w_
                    go_wp2_with (fail)
                    refine (a_Len w1.heap.size g b vn most ln wB hS).mono ?_
                    rintro e_ w_ ⟨rfl, h_⟩
                    subst w_
                    go_wp2_with (fail)
                    refine (l_plain w1.heap.size g b vn most ln wB hS).mono ?_
                    rintro e_ wZ ⟨rfl, hb⟩
                    replace hS := hS.keep hb
                    replace hw := Below.after hw hb
                    clear hb
                    go_wp2_with (fail)
                    refine ⟨⟨k + 1, _, _, by omega, by go_num, hS, hw⟩, ?_⟩
                    simp [intOf]; omega
                  · have e5 : decide (cnt > 0) = false := by simpa using hc0
                    clear hfc1 hfc2
                    go_wp2_with (fail)
                    refine (a_Len w1.heap.size g b vn most ln wB hS).mono ?_
                    rintro e_ w_ ⟨rfl, h_⟩
                    subst w_
                    go_wp2_with (fail)
                    refine (a_Len w1.heap.size g b vn most ln wB hS).mono ?_
                    rintro e_ w_ ⟨rfl, h_⟩
                    subst w_
                    go_wp2_with (fail)
                    refine (l_plain w1.heap.size g b vn most ln wB hS).mono ?_
                    rintro e_ wZ ⟨rfl, hb⟩
                    replace hS := hS.keep hb
                    replace hw := Below.after hw hb
                    clear hb
                    go_wp2_with (fail)
                    refine ⟨⟨k + 1, _, _, by omega, by go_num, hS, hw⟩, ?_⟩
                    simp [intOf]; omega
                · have e4 : decide ((ln.length : Int) > 0) = false := by simp at hl0 ⊢; exact hl0
                  clear hfc1 hfc2
                  go_wp2_with (fail)
                  refine (a_Len w1.heap.size g b vn most ln wB hS).mono ?_
                  rintro e_ w_ ⟨rfl, h_⟩
                  subst w_
                  go_wp2_with (fail)
                  refine (a_Len w1.heap.size g b vn most ln wB hS).mono ?_
                  rintro e_ w_ ⟨rfl, h_⟩
                  subst w_
                  go_wp2_with (fail)
                  refine (l_plain w1.heap.size g b vn most ln wB hS).mono ?_
                  rintro e_ wZ ⟨rfl, hb⟩
                  replace hS := hS.keep hb
                  replace hw := Below.after hw hb
                  clear hb
                  go_wp2_with (fail)
                  refine ⟨⟨k + 1, _, _, by omega, by go_num, hS, hw⟩, ?_⟩
                  simp [intOf]; omega
              · have e2 : decide ((f : Int) > 0) = false := by simpa using hf0
                by_cases hl0 : (ln.length : Int) > 0
                · have e4 : decide ((ln.length : Int) > 0) = true := by simpa using hl0
                  by_cases hc0 : cnt > 0
                  · have e5 : decide (cnt > 0) = true := by simpa using hc0
                    exact absurd (hfc2 hl0 hc0) (by omega)
                  · have e5 : decide (cnt > 0) = false := by simpa using hc0
                    clear hfc1 hfc2
                    go_wp2_with (fail)
                    refine (a_Len w1.heap.size g b vn most ln wB hS).mono ?_
                    rintro e_ w_ ⟨rfl, h_⟩
                    subst w_
                    go_wp2_with (fail)
                    refine (a_Len w1.heap.size g b vn most ln wB hS).mono ?_
                    rintro e_ w_ ⟨rfl, h_⟩
                    subst w_
                    go_wp2_with (fail)
                    refine (l_plain w1.heap.size g b vn most ln wB hS).mono ?_
                    rintro e_ wZ ⟨rfl, hb⟩
                    replace hS := hS.keep hb
                    replace hw := Below.after hw hb
                    clear hb
                    go_wp2_with (fail)
                    refine ⟨⟨k + 1, _, _, by omega, by go_num, hS, hw⟩, ?_⟩
                    simp [intOf]; omega
                · have e4 : decide ((ln.length : Int) > 0) = false := by simp at hl0 ⊢; exact hl0
                  clear hfc1 hfc2
                  go_wp2_with (fail)
                  refine (a_Len w1.heap.size g b vn most ln wB hS).mono ?_
                  rintro e_ w_ ⟨rfl, h_⟩
                  subst w_
                  go_wp2_with (fail)
                  refine (a_Len w1.heap.size g b vn most ln wB hS).mono ?_
                  rintro e_ w_ ⟨rfl, h_⟩
                  subst w_
                  go_wp2_with (fail)
                  refine (l_plain w1.heap.size g b vn most ln wB hS).mono ?_
                  rintro e_ wZ ⟨rfl, hb⟩
                  replace hS := hS.keep hb
                  replace hw := Below.after hw hb
                  clear hb
                  go_wp2_with (fail)
                  refine ⟨⟨k + 1, _, _, by omega, by go_num, hS, hw⟩, ?_⟩
                  simp [intOf]; omega
            · have hdk4 : decide ((gop os k).kind = 4) = false := by simpa using hk4_
              generalize (gop os k).kind = kd at *
              go_wp2_with (fail)
              refine (l_plain w1.heap.size g b v most lc wA hS).mono ?_
              rintro e_ wZ ⟨rfl, hb⟩
              replace hS := hS.keep hb
              replace hw := Below.after hw hb
              clear hb
              go_wp2_with (fail)
              refine ⟨⟨k + 1, _, _, by omega, by go_num, hS, hw⟩, ?_⟩
              simp [intOf]; omega
      · obtain rfl : k = os.length := by omega
        have hd : decide ((os.length : Int) < (os.length : Int)) = false := by simp
        have hwz := Below.after hb1 hw
        clear hw hb1
        go_wp2_with (fail)
        go_ret
        exact ⟨rfl, hwz⟩
  · have hx : most < 0 ∨ 2000 < most := by omega
    rcases hx with hx | hx
    · have d1 : decide (most < 0) = true := by simpa using hx
      go_enter Try.func5, Try.ntmps5
      go_wp2_with (fail)
      refine (l_lives w).mono ?_
      rintro e_ w1 ⟨rfl, hb1⟩
      go_wp2_with (fail)
      refine (a_New_no most (.inl hx) w1).mono ?_
      rintro e_ w2 ⟨rfl, rfl⟩
      go_wp2_with (fail)
      go_ret
      exact ⟨rfl, hb1⟩
    · have d1 : decide (most < 0) = false := by simp; omega
      have d2 : decide (most > 2000) = true := by simp; omega
      go_enter Try.func5, Try.ntmps5
      go_wp2_with (fail)
      refine (l_lives w).mono ?_
      rintro e_ w1 ⟨rfl, hb1⟩
      go_wp2_with (fail)
      refine (a_New_no most (.inr hx) w1).mono ?_
      rintro e_ w2 ⟨rfl, rfl⟩
      go_wp2_with (fail)
      go_ret
      exact ⟨rfl, hb1⟩

end Go.Proofs.Ytebgdenfaiinmaa
