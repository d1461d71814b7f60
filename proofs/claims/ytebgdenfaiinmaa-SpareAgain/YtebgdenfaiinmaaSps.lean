import Derived.Test.YtebgdenfaiinmaaProg
import Derived.WalkKit
import Derived.WalkSpells
import Derived.WalkLawsBesides
import Derived.Lib.QuietBelow
import Derived.BigQuiet
import Derived.OrdersHeld
import Derived.Deep.RegionHeld3
import Derived.OwnWalk
import Derived.Test.YtebgdenfaiinmaaKit
import Derived.Test.YtebgdenfaiinmaaSpr
import Derived.Test.YtebgdenfaiinmaaSpl
namespace Go.Proofs.Ytebgdenfaiinmaa
open Go Go.RowKit Go.Sort Go.ChangeMaps Go.MapKept
attribute [local go_sem] setCell_drewN alloc_drewN

theorem fgt_all {l : List Sr} {most : Int} (h : (l.length : Int) ≤ most) : l.drop (fgt l most) = [] := by
  unfold fgt
  split
  · have : l.length = 0 := by omega
    rw [List.length_eq_zero_iff.1 this]; rfl
  · exact List.drop_length
theorem nx_of {w : World} {v v' : Value} (h : v'.ownBlock = v.ownBlock) : Nx w v v' := .inl h
theorem wpList_neq {P : Program} {ops : Array Oper} {Q : Exit → Act → World → Prop} {w : World} {rest : List Oper} {o : Oper} {a : Act} (hw : Region.wanted o (yielded ops a.tmps) = true) (t u : TypeId) (x y : Operand) (ho : o.op = .binOp .neq t x y u) (X Y : Array Value) (hx : a.eval x = .agg X) (hy : a.eval y = .agg Y) (hg : P.eqGuardType P.depth t = false) (B : Bool) (he : (Op.equalIn 10000 t (.agg X) (.agg Y)).run P w = .ok B w) (h : wpList P ops Q rest (a.put o.dst (.bool (!B))) w) : wpList P ops Q (o :: rest) a w :=
  BigFrame.wpList_want hw fun _ hK => wp_world_op _ _ (run_neq_op t u x y ho X Y hx hy hg B he) (hK _ _ h)
/-- A row of the round's own stays while a store is turned. -/
theorem row_by {w w' : World} {g b : Nat} {v : Value} {k : Nat} {o : Obj} (hf : Fr (own3 g b v) w w') (hr : w.heap[k]? = some o) (hk : ¬ own3 g b v k) : w'.heap[k]? = some o := hf.row hr hk
theorem own3_nx {w : World} {g b k : Nat} {v v' : Value} (h : Nx w v v') (hk : k < w.heap.size) (hn : ¬ own3 g b v k) : ¬ own3 g b v' k := fun e => hn (own3_new h k hk e)
set_option maxRecDepth 100000 in
set_option maxHeartbeats 4000000 in
theorem again_any (most : Int) (l : List Sr) (os : List Opd) (w : World) (vl vo : Value) (hl : SpL w vl l) (hos : Ops w vo os) : Calls Try.prog 8 #[.int .i64 most, vl, vo] w fun e w' => e = .returned (.bool true) ∧ Below w.heap.size w w' := by
  have hlo := hl.ok
  have hll := hl.len
  obtain ⟨ao, co, rfl, hol⟩ := hos.form
  by_cases hb0 : most < 0 ∨ 2000 < most
  · go_enter Try.func8, Try.ntmps8
    go_wp2_with (fail)
    refine (l_lives w).mono ?_
    rintro e_ w1 ⟨rfl, hw⟩
    go_wp2_with (fail)
    refine (a_From_bad most hb0 vl w1).mono ?_
    rintro e_ w2 ⟨rfl, hb⟩
    replace hw := Below.after hw hb
    go_wp2_with (fail)
    go_ret
    exact ⟨rfl, hw⟩
  · have m0 : 0 ≤ most := by omega
    have m1 : most ≤ 2000 := by omega
    rcases pe_cases [] l most with ⟨_, hm, hln⟩ | h
    · have hln2 : (l.length : Int) ≤ most := by simpa using hln
      clear hln
      go_enter Try.func8, Try.ntmps8
      go_wp2_with (fail)
      refine (l_lives w).mono ?_
      rintro e_ w1 ⟨rfl, hw1⟩
      have cF := a_From_go most m0 m1 l _ w1 (hl.keep hw1) hm hln2
      replace hos := hos.keep hw1
      clear hl
      go_wp2_with (fail)
      refine cF.mono ?_
      rintro e_ w2 ⟨g1, b1, v1, rfl, hS1, hw⟩
      clear cF
      go_wp2_with (fail)
      refine (a_Clone _ g1 b1 v1 most l w2 hS1).mono ?_
      rintro e_ w3 ⟨g2, b2, v2, rfl, hS2, hb⟩
      have d12 := dis_new hS1 hS2 (Nat.le_refl _)
      have lw2 := hw.size
      have lw3 := hb.size
      replace hS1 := hS1.keep hb
      replace hw := Below.after hw hb
      clear hb
      go_wp2_with (fail)
      refine (a_List _ g1 b1 v1 most l w3 hS1).mono ?_
      rintro e_ w4 ⟨u4, rfl, hO4, hb⟩
      have lw4 := hb.size
      replace hS1 := hS1.keep hb
      replace hS2 := hS2.keep hb
      replace hw := Below.after hw hb
      clear hb
      have cF := a_From_go most m0 m1 l _ w4 (hO4.spl (by omega)) hm hln2
      obtain ⟨ao4, n4, c4, rfl⟩ : ∃ ao n c, u4 = .slice ao n c := by obtain ⟨a_, c_, h_⟩ := slen_own hO4.1; exact ⟨a_, _, c_, h_⟩
      clear hO4
      go_wp2_with (fail)
      refine cF.mono ?_
      rintro e_ w5 ⟨g3, b3, v3, rfl, hS3, hb⟩
      clear cF
      have d13 := dis_new hS1 hS3 (Nat.le_refl _)
      have d23 := dis_new hS2 hS3 (Nat.le_refl _)
      have lw5 := hb.size
      replace hS1 := hS1.keep hb
      replace hS2 := hS2.keep hb
      replace hw := Below.after hw hb
      clear hb
      go_wp2_with (fail)
      refine (a_Clone _ g1 b1 v1 most l w5 hS1).mono ?_
      rintro e_ w6 ⟨g4, b4, v4, rfl, hS4, hb⟩
      have d14 := dis_new hS1 hS4 (Nat.le_refl _)
      have d24 := dis_new hS2 hS4 (Nat.le_refl _)
      have d34 := dis_new hS3 hS4 (Nat.le_refl _)
      replace hS1 := hS1.keep hb
      replace hS2 := hS2.keep hb
      replace hS3 := hS3.keep hb
      have lw6 := hb.size
      replace hw := Below.after hw hb
      clear hb
      go_wp2_with (fail)
      refine (a_Forget _ g4 b4 v4 most l most w6 hS4).mono ?_
      rintro e_ w7 ⟨v4n, rfl, hS4n, hf, hv⟩
      rw [fgt_all hln2] at hS4n
      have nx4 : Nx w6 v4 v4n := .inl hv
      obtain ⟨a1, e14⟩ := hS1.oth d14.symm hf nx4
      obtain ⟨a2, e24⟩ := hS2.oth d24.symm hf nx4
      obtain ⟨a3, e34⟩ := hS3.oth d34.symm hf nx4
      replace hw := Below.trans hw ((hS4.below hf (by have := hw.size; omega)).mono (by omega))
      have hF : Fou w7 w1.heap.size most g1 b1 v1 l g2 b2 v2 l g3 b3 v3 l g4 b4 v4n [] := ⟨a1, a2.down (by omega), a3.down (by omega), hS4n.down (by omega), d12, d13, e14.symm, d23, e24.symm, e34.symm⟩
      clear a1 a2 a3 e14 e24 e34 d12 d13 d14 d23 d24 d34 hS1 hS2 hS3 hS4 hS4n hf hv nx4 lw2 lw3 lw4 lw5 lw6 hlo
      generalize fgt l most = fg at *
      go_wp2_with (fail)
      go_loopw [13] (fun u13 wr => ∃ (k : Nat) (lc : List Sr) (v1 v2 v3 : Value), k ≤ os.length ∧ u13 = .int .i64 k ∧ Fou wr w1.heap.size most g1 b1 v1 lc g2 b2 v2 lc g3 b3 v3 lc g4 b4 v4n [] ∧ Below w1.heap.size w1 wr) (fun u13 _ => os.length - (intOf u13).toNat)
      case atStart => exact ⟨0, l, v1, v2, v3, by omega, rfl, hF, hw⟩
      case round =>
        clear hF hw v1 v2 v3
        obtain ⟨k, lc, v1, v2, v3, hk, rfl, hF, hw⟩ := hrel
        by_cases hlt : k < os.length
        · have hd : decide ((k : Int) < (os.length : Int)) = true := by simp; omega
          obtain ⟨bo, off, u, rfl, hbo, hr, hsl, hh⟩ := hos.at hlt
          obtain ⟨au, nu, cu, rfl⟩ : ∃ ao n c, u = .slice ao n c := by obtain ⟨a_, c_, h_⟩ := hsl.form; exact ⟨a_, _, c_, h_⟩
          have hSL : Hid (∀ V, Below w1.heap.size w1 V → SpL V (.slice au nu cu) (gop os k).L) := hide (fun V h => hsl.keep h)
          have hk1 : 0 ≤ (k : Int) ∧ (k : Int) < (os.length : Int) := by omega
          replace hr := rangeAt_keep hr (hw.block bo hbo)
          have n1_R14 : ¬ own3 g1 b1 v1 wr.heap.size := fun e => by have := (hF.s1.low _ e).2; omega
          have n2_R14 : ¬ own3 g2 b2 v2 wr.heap.size := fun e => by have := (hF.s2.low _ e).2; omega
          have n3_R14 : ¬ own3 g3 b3 v3 wr.heap.size := fun e => by have := (hF.s3.low _ e).2; omega
          clear hos hsl
          have z_ := hp1_0 wr (.cells (opr zopd (.slice none 0 0)) 43)
          go_wp2_with (first | (refine wpList_load_mid rfl 43 _ rfl bo (off + k * 37) rfl (opc (gop os k) (.slice au nu cu)) _ hr Try.underlying43 rfl (infoOpl hh _) ?_) | (refine wpList_alloc rfl 43 rfl (opr zopd (.slice none 0 0)) zop ?_) | (refine wpList_store_row rfl 43 _ _ rfl (wr.heap.size) (opr (gop os k) (.slice au nu cu)) rfl rfl 43 _ z_ (infoOp hh _) (by rw [opr_size rfl, opr_size hh]) (opr_one _ _ _ _) ?_; refine wpList_stay ?_) | fail)
          unfold WpStay
          try simp only [Act.put, List.setIfInBounds_toArray, List.set_cons_succ, List.set_cons_zero]
          have R14 := setRow_heap (wr.alloc (.cells (opr zopd (.slice none 0 0)) 43)) wr.heap.size _ (opr (gop os k) (.slice au nu cu)) _ _ z_
          have hb_ : Below wr.heap.size wr ((wr.alloc (.cells (opr zopd (.slice none 0 0)) 43)).setRow wr.heap.size (opr (gop os k) (.slice au nu cu))) := below_setRow ((Below.refl _ _).alloc (Nat.le_refl _) _) (Nat.le_refl _) _
          have sz_g14 := hb_.size
          replace hF := hF.keep hb_
          replace hw := Below.after hw hb_
          clear hb_ z_
          generalize ((wr.alloc (.cells (opr zopd (.slice none 0 0)) 43)).setRow wr.heap.size (opr (gop os k) (.slice au nu cu))) = wA at *
          generalize wr.heap.size = g14 at *
          have ck_ : wA.cell? ⟨g14, 0, none⟩ = some (.int .i64 (gop os k).kind) := by rw [cell_of_row _ _ _ _ _ _ R14, opr_kind]
          clear hr hbo
          by_cases hk1_ : (gop os k).kind = 1
          · have hdk : decide ((gop os k).kind = 1) = true := by simpa using hk1_
            rw [hk1_] at ck_
            clear hdk
            have cu_ : wA.cell? ⟨g14, 2, none⟩ = some (.slice au nu cu) := by rw [cell_of_row _ _ _ _ _ _ R14, opr_u]
            go_wp2_with (fail)
            refine (a_Put w1.heap.size g1 b1 v1 most lc (gop os k).L _ wA hF.s1 hw.size (fun V hV => hSL.out V (Below.trans hw (hF.s1.below hV hw.size)))).mono ?_
            rintro e_ wB ⟨v1n, rfl, hs_, hf_, hn_⟩
            have lt_R14 := lt_of_row R14
            have m1_R14 := n1_R14
            replace n1_R14 := own3_nx (hn_) lt_R14 n1_R14
            replace R14 := hf_.row R14 m1_R14
            clear m1_R14 lt_R14
            replace hw := Below.trans hw (hF.s1.below hf_ hw.size)
            replace hF := hF.put1 hs_ hf_ (hn_)
            clear hs_ hf_ hn_
            clear cu_
            have cu_ : wB.cell? ⟨g14, 2, none⟩ = some (.slice au nu cu) := by rw [cell_of_row _ _ _ _ _ _ R14, opr_u]
            have cP2 := a_Put w1.heap.size g2 b2 v2 most lc (gop os k).L _ wB hF.s2 hw.size (fun V hV => hSL.out V (Below.trans hw (hF.s2.below hV hw.size)))
            have cP3 := fun W h3 hbs hsp => a_Put w1.heap.size g3 b3 v3 most lc (gop os k).L (.slice au nu cu) W h3 hbs hsp
            generalize pe lc (gop os k).L most = E at *
            generalize pl lc (gop os k).L most = ln at *
            go_wp2_with (fail)
            refine (cP2).mono ?_
            rintro e_ wC ⟨v2n, rfl, hs_, hf_, hn_⟩
            have lt_R14 := lt_of_row R14
            have m2_R14 := n2_R14
            replace n2_R14 := own3_nx (hn_) lt_R14 n2_R14
            replace R14 := hf_.row R14 m2_R14
            clear m2_R14 lt_R14
            replace hw := Below.trans hw (hF.s2.below hf_ hw.size)
            replace hF := hF.put2 hs_ hf_ (hn_)
            clear hs_ hf_ hn_
            clear cu_ cP2
            have cu_ : wC.cell? ⟨g14, 2, none⟩ = some (.slice au nu cu) := by rw [cell_of_row _ _ _ _ _ _ R14, opr_u]
            have hEE : decide (E = E) = true := by simp
            go_wp2_with (fail)
            refine (cP3 wC hF.s3 hw.size (fun V hV => hSL.out V (Below.trans hw (hF.s3.below hV hw.size)))).mono ?_
            rintro e_ wD ⟨v3n, rfl, hs_, hf_, hn_⟩
            have lt_R14 := lt_of_row R14
            have m3_R14 := n3_R14
            replace n3_R14 := own3_nx (hn_) lt_R14 n3_R14
            replace R14 := hf_.row R14 m3_R14
            clear m3_R14 lt_R14
            replace hw := Below.trans hw (hF.s3.below hf_ hw.size)
            replace hF := hF.put3 hs_ hf_ (hn_)
            clear hs_ hf_ hn_
            clear cu_ cP3
            go_wp2_with (fail)
            refine ⟨⟨k + 1, _, _, _, _, by omega, by go_num, hF, hw⟩, ?_⟩
            simp [intOf]; omega
          · have hdk1 : decide ((gop os k).kind = 1) = false := by simpa using hk1_
            by_cases hk3_ : (gop os k).kind = 3
            · rw [hk3_] at ck_
              clear hdk1 hk1_
              have cn_ : wA.cell? ⟨g14, 35, none⟩ = some (.int .u32 (gop os k).n) := by rw [cell_of_row _ _ _ _ _ _ R14, opr_n hh]
              have cT1 := a_Take w1.heap.size g1 b1 v1 most lc (gop os k).h hh (gop os k).n wA hF.s1
              have cT2 := fun W h2 => a_Take w1.heap.size g2 b2 v2 most lc (gop os k).h hh (gop os k).n W h2
              have cT3 := fun W h3 => a_Take w1.heap.size g3 b3 v3 most lc (gop os k).h hh (gop os k).n W h3
              have la := fky_len hF.s1.ok ((gop os k).h, (gop os k).n)
              generalize fky lc ((gop os k).h, (gop os k).n) = A at *
              generalize (fnd lc ((gop os k).h, (gop os k).n)).isSome = Bs at *
              generalize tk lc ((gop os k).h, (gop os k).n) = ln at *
              go_wp2_with (first | (refine wpList_load_part rfl 40 _ rfl (g14) 3 rfl 43 (opr (gop os k) (.slice au nu cu)) (0, 0) (irow .u8 (gop os k).h) _ R14 (opr_h hh _) Try.underlying40 rfl (infok8 _ hh) ?_) | fail)
              refine (cT1).mono ?_
              rintro e_ wB ⟨v1n, rfl, hs_, hf_, hn_⟩
              have lt_R14 := lt_of_row R14
              have m1_R14 := n1_R14
              replace n1_R14 := own3_nx (.inl hn_) lt_R14 n1_R14
              replace R14 := hf_.row R14 m1_R14
              clear m1_R14 lt_R14
              replace hw := Below.trans hw (hF.s1.below hf_ hw.size)
              replace hF := hF.put1 hs_ hf_ (.inl hn_)
              clear hs_ hf_ hn_
              clear cn_ cT1
              have n2_R16 : ¬ own3 g2 b2 v2 wB.heap.size := fun e => by have := (hF.s2.low _ e).2; omega
              have n3_R16 : ¬ own3 g3 b3 v3 wB.heap.size := fun e => by have := (hF.s3.low _ e).2; omega
              have z_ := hp1_0 wB (.cells (irow .u8 (zr 32)) 40)
              go_wp2_with (first | (refine wpList_alloc rfl 40 rfl (irow .u8 (zr 32)) zkey ?_) | (refine wpList_store_row rfl 40 _ _ rfl (wB.heap.size) (irow .u8 A) rfl rfl 40 _ z_ (infok8 _ la) (fit32 _ _ (zr_len 32) la) (irow_one _ _) ?_; refine wpList_stay ?_) | fail)
              unfold WpStay
              try simp only [Act.put, List.setIfInBounds_toArray, List.set_cons_succ, List.set_cons_zero]
              have R16 := setRow_heap (wB.alloc (.cells (irow .u8 (zr 32)) 40)) wB.heap.size _ (irow .u8 A) _ _ z_
              have hb_ : Below wB.heap.size wB ((wB.alloc (.cells (irow .u8 (zr 32)) 40)).setRow wB.heap.size (irow .u8 A)) := below_setRow ((Below.refl _ _).alloc (Nat.le_refl _) _) (Nat.le_refl _) _
              have sz_g16 := hb_.size
              have lt_R14_g16 := lt_of_row R14
              replace R14 := keep hb_ R14
              replace hF := hF.keep hb_
              replace hw := Below.after hw hb_
              clear hb_ z_
              generalize ((wB.alloc (.cells (irow .u8 (zr 32)) 40)).setRow wB.heap.size (irow .u8 A)) = wC at *
              generalize wB.heap.size = g16 at *
              have cn_ : wC.cell? ⟨g14, 35, none⟩ = some (.int .u32 (gop os k).n) := by rw [cell_of_row _ _ _ _ _ _ R14, opr_n hh]
              go_wp2_with (first | (refine wpList_load_part rfl 40 _ rfl (g14) 3 rfl 43 (opr (gop os k) (.slice au nu cu)) (0, 0) (irow .u8 (gop os k).h) _ R14 (opr_h hh _) Try.underlying40 rfl (infok8 _ hh) ?_) | fail)
              refine (cT2 wC hF.s2).mono ?_
              rintro e_ wD ⟨v2n, rfl, hs_, hf_, hn_⟩
              have lt_R14 := lt_of_row R14
              have m2_R14 := n2_R14
              replace n2_R14 := own3_nx (.inl hn_) lt_R14 n2_R14
              have lt_R16 := lt_of_row R16
              have m2_R16 := n2_R16
              replace n2_R16 := own3_nx (.inl hn_) lt_R16 n2_R16
              replace R14 := hf_.row R14 m2_R14
              clear m2_R14 lt_R14
              replace R16 := hf_.row R16 m2_R16
              clear m2_R16 lt_R16
              replace hw := Below.trans hw (hF.s2.below hf_ hw.size)
              replace hF := hF.put2 hs_ hf_ (.inl hn_)
              clear hs_ hf_ hn_
              clear cn_ cT2
              have n3_R18 : ¬ own3 g3 b3 v3 wD.heap.size := fun e => by have := (hF.s3.low _ e).2; omega
              have z_ := hp1_0 wD (.cells (irow .u8 (zr 32)) 40)
              go_wp2_with (first | (refine wpList_alloc rfl 40 rfl (irow .u8 (zr 32)) zkey ?_) | (refine wpList_store_row rfl 40 _ _ rfl (wD.heap.size) (irow .u8 A) rfl rfl 40 _ z_ (infok8 _ la) (fit32 _ _ (zr_len 32) la) (irow_one _ _) ?_; refine wpList_stay ?_) | fail)
              unfold WpStay
              try simp only [Act.put, List.setIfInBounds_toArray, List.set_cons_succ, List.set_cons_zero]
              have R18 := setRow_heap (wD.alloc (.cells (irow .u8 (zr 32)) 40)) wD.heap.size _ (irow .u8 A) _ _ z_
              have hb_ : Below wD.heap.size wD ((wD.alloc (.cells (irow .u8 (zr 32)) 40)).setRow wD.heap.size (irow .u8 A)) := below_setRow ((Below.refl _ _).alloc (Nat.le_refl _) _) (Nat.le_refl _) _
              have sz_g18 := hb_.size
              have lt_R14_g18 := lt_of_row R14
              have lt_R16_g18 := lt_of_row R16
              replace R14 := keep hb_ R14
              replace R16 := keep hb_ R16
              replace hF := hF.keep hb_
              replace hw := Below.after hw hb_
              clear hb_ z_
              generalize ((wD.alloc (.cells (irow .u8 (zr 32)) 40)).setRow wD.heap.size (irow .u8 A)) = wE at *
              generalize wD.heap.size = g18 at *
              have cn_ : wE.cell? ⟨g14, 35, none⟩ = some (.int .u32 (gop os k).n) := by rw [cell_of_row _ _ _ _ _ _ R14, opr_n hh]
              go_wp2_with (first | (refine wpList_load_part rfl 40 _ rfl (g14) 3 rfl 43 (opr (gop os k) (.slice au nu cu)) (0, 0) (irow .u8 (gop os k).h) _ R14 (opr_h hh _) Try.underlying40 rfl (infok8 _ hh) ?_) | fail)
              refine (cT3 wE hF.s3).mono ?_
              rintro e_ wF ⟨v3n, rfl, hs_, hf_, hn_⟩
              have lt_R14 := lt_of_row R14
              have m3_R14 := n3_R14
              replace n3_R14 := own3_nx (.inl hn_) lt_R14 n3_R14
              have lt_R16 := lt_of_row R16
              have m3_R16 := n3_R16
              replace n3_R16 := own3_nx (.inl hn_) lt_R16 n3_R16
              have lt_R18 := lt_of_row R18
              have m3_R18 := n3_R18
              replace n3_R18 := own3_nx (.inl hn_) lt_R18 n3_R18
              replace R14 := hf_.row R14 m3_R14
              clear m3_R14 lt_R14
              replace R16 := hf_.row R16 m3_R16
              clear m3_R16 lt_R16
              replace R18 := hf_.row R18 m3_R18
              clear m3_R18 lt_R18
              replace hw := Below.trans hw (hF.s3.below hf_ hw.size)
              replace hF := hF.put3 hs_ hf_ (.inl hn_)
              clear hs_ hf_ hn_
              clear cn_ cT3
              have z_ := hp1_0 wF (.cells (irow .u8 (zr 32)) 40)
              go_wp2_with (first | (refine wpList_alloc rfl 40 rfl (irow .u8 (zr 32)) zkey ?_) | (refine wpList_store_row rfl 40 _ _ rfl (wF.heap.size) (irow .u8 A) rfl rfl 40 _ z_ (infok8 _ la) (fit32 _ _ (zr_len 32) la) (irow_one _ _) ?_; refine wpList_stay ?_) | fail)
              unfold WpStay
              try simp only [Act.put, List.setIfInBounds_toArray, List.set_cons_succ, List.set_cons_zero]
              have R20 := setRow_heap (wF.alloc (.cells (irow .u8 (zr 32)) 40)) wF.heap.size _ (irow .u8 A) _ _ z_
              have hb_ : Below wF.heap.size wF ((wF.alloc (.cells (irow .u8 (zr 32)) 40)).setRow wF.heap.size (irow .u8 A)) := below_setRow ((Below.refl _ _).alloc (Nat.le_refl _) _) (Nat.le_refl _) _
              have sz_g20 := hb_.size
              have lt_R14_g20 := lt_of_row R14
              have lt_R16_g20 := lt_of_row R16
              have lt_R18_g20 := lt_of_row R18
              replace R14 := keep hb_ R14
              replace R16 := keep hb_ R16
              replace R18 := keep hb_ R18
              replace hF := hF.keep hb_
              replace hw := Below.after hw hb_
              clear hb_ z_
              generalize ((wF.alloc (.cells (irow .u8 (zr 32)) 40)).setRow wF.heap.size (irow .u8 A)) = wG at *
              generalize wF.heap.size = g20 at *
              have ek : ∀ W, (Op.equalIn 10000 40 (.agg (irow .u8 A)) (.agg (irow .u8 A))).run Try.prog W = .ok true W := fun W => by rw [eq_key 9998 _ _ la la W]; simp
              cases Bs
              all_goals
                go_wp2_with (first | (refine wpList_load_want rfl 40 _ rfl (g16) rfl 40 (irow .u8 A) (0, 0) _ R16 Try.underlying40 rfl (infok8 _ la) ?_) | (refine wpList_load_want rfl 40 _ rfl (g18) rfl 40 (irow .u8 A) (0, 0) _ R18 Try.underlying40 rfl (infok8 _ la) ?_) | (refine wpList_load_want rfl 40 _ rfl (g20) rfl 40 (irow .u8 A) (0, 0) _ R20 Try.underlying40 rfl (infok8 _ la) ?_) | (refine wpList_neq rfl 40 40 _ _ rfl (irow .u8 A) (irow .u8 A) rfl rfl egK _ (ek _) ?_) | fail)
                refine ⟨⟨k + 1, _, _, _, _, by omega, by go_num, hF, hw⟩, ?_⟩
                simp [intOf]; omega
            · have hdk3 : decide ((gop os k).kind = 3) = false := by simpa using hk3_
              by_cases hk4_ : (gop os k).kind = 4
              · rw [hk4_] at ck_
                clear hdk1 hk1_ hdk3 hk3_
                have cc_ : wA.cell? ⟨g14, 36, none⟩ = some (.int .i64 (gop os k).cnt) := by rw [cell_of_row _ _ _ _ _ _ R14, opr_cnt hh]
                have cG1 := a_Forget w1.heap.size g1 b1 v1 most lc (gop os k).cnt wA hF.s1
                have cG2 := fun W h2 => a_Forget w1.heap.size g2 b2 v2 most lc (gop os k).cnt W h2
                have cG3 := fun W h3 => a_Forget w1.heap.size g3 b3 v3 most lc (gop os k).cnt W h3
                generalize fgt lc (gop os k).cnt = fn at *
                generalize lc.drop fn = ln at *
                have hEE : decide ((fn : Int) = (fn : Int)) = true := by simp
                go_wp2_with (fail)
                refine (cG1).mono ?_
                rintro e_ wB ⟨v1n, rfl, hs_, hf_, hn_⟩
                have lt_R14 := lt_of_row R14
                have m1_R14 := n1_R14
                replace n1_R14 := own3_nx (.inl hn_) lt_R14 n1_R14
                replace R14 := hf_.row R14 m1_R14
                clear m1_R14 lt_R14
                replace hw := Below.trans hw (hF.s1.below hf_ hw.size)
                replace hF := hF.put1 hs_ hf_ (.inl hn_)
                clear hs_ hf_ hn_
                clear cc_ cG1
                have cc_ : wB.cell? ⟨g14, 36, none⟩ = some (.int .i64 (gop os k).cnt) := by rw [cell_of_row _ _ _ _ _ _ R14, opr_cnt hh]
                go_wp2_with (fail)
                refine (cG2 wB hF.s2).mono ?_
                rintro e_ wC ⟨v2n, rfl, hs_, hf_, hn_⟩
                have lt_R14 := lt_of_row R14
                have m2_R14 := n2_R14
                replace n2_R14 := own3_nx (.inl hn_) lt_R14 n2_R14
                replace R14 := hf_.row R14 m2_R14
                clear m2_R14 lt_R14
                replace hw := Below.trans hw (hF.s2.below hf_ hw.size)
                replace hF := hF.put2 hs_ hf_ (.inl hn_)
                clear hs_ hf_ hn_
                clear cc_ cG2
                have cc_ : wC.cell? ⟨g14, 36, none⟩ = some (.int .i64 (gop os k).cnt) := by rw [cell_of_row _ _ _ _ _ _ R14, opr_cnt hh]
                go_wp2_with (fail)
                refine (cG3 wC hF.s3).mono ?_
                rintro e_ wD ⟨v3n, rfl, hs_, hf_, hn_⟩
                have lt_R14 := lt_of_row R14
                have m3_R14 := n3_R14
                replace n3_R14 := own3_nx (.inl hn_) lt_R14 n3_R14
                replace R14 := hf_.row R14 m3_R14
                clear m3_R14 lt_R14
                replace hw := Below.trans hw (hF.s3.below hf_ hw.size)
                replace hF := hF.put3 hs_ hf_ (.inl hn_)
                clear hs_ hf_ hn_
                clear cc_ cG3
                go_wp2_with (fail)
                refine ⟨⟨k + 1, _, _, _, _, by omega, by go_num, hF, hw⟩, ?_⟩
                simp [intOf]; omega
              · have hdk4 : decide ((gop os k).kind = 4) = false := by simpa using hk4_
                generalize (gop os k).kind = kd at *
                go_wp2_with (fail)
                refine ⟨⟨k + 1, _, _, _, _, by omega, by go_num, hF, hw⟩, ?_⟩
                simp [intOf]; omega
        · obtain rfl : k = os.length := by omega
          have hd : decide ((os.length : Int) < (os.length : Int)) = false := by simp
          have hdt : decide (lc = lc) = true := by simp
          have hlc : lc.length ≤ 2000 := by have := hF.s1.len; have := hF.s1.most0; omega
          have cS := fun W u u2 h1 h2 => l_same lc lc W u u2 h1 h2
          rw [hdt] at cS
          clear hdt hos
          go_wp2_with (fail)
          refine (a_List _ g1 b1 v1 most lc wr hF.s1).mono ?_
          rintro e_ x1 ⟨u1, rfl, hu1, hb⟩
          replace hF := hF.keep hb
          replace hw := Below.after hw hb
          clear hb
          go_wp2_with (fail)
          refine (a_List _ g2 b2 v2 most lc x1 hF.s2).mono ?_
          rintro e_ x2 ⟨u2, rfl, hu2, hb⟩
          replace hF := hF.keep hb
          replace hu1 := hu1.keep hb
          replace hw := Below.after hw hb
          clear hb
          obtain ⟨a1_, p1_, c1_, rfl⟩ : ∃ ao n c, u1 = .slice ao n c := by obtain ⟨a_, c_, h_⟩ := slen_own hu1.1; exact ⟨a_, _, c_, h_⟩
          obtain ⟨a2_, p2_, c2_, rfl⟩ : ∃ ao n c, u2 = .slice ao n c := by obtain ⟨a_, c_, h_⟩ := slen_own hu2.1; exact ⟨a_, _, c_, h_⟩
          go_wp2_with (fail)
          refine (cS x2 _ _ (hu1.spl (by omega)) (hu2.spl (by omega))).mono ?_
          rintro e_ x3 ⟨rfl, hb⟩
          replace hF := hF.keep hb
          replace hw := Below.after hw hb
          clear hb
          clear hu1 hu2
          go_wp2_with (fail)
          refine (a_List _ g1 b1 v1 most lc x3 hF.s1).mono ?_
          rintro e_ x4 ⟨u3, rfl, hu1, hb⟩
          replace hF := hF.keep hb
          replace hw := Below.after hw hb
          clear hb
          go_wp2_with (fail)
          refine (a_List _ g3 b3 v3 most lc x4 hF.s3).mono ?_
          rintro e_ x5 ⟨u4, rfl, hu2, hb⟩
          replace hF := hF.keep hb
          replace hu1 := hu1.keep hb
          replace hw := Below.after hw hb
          clear hb
          obtain ⟨a3_, p3_, c3_, rfl⟩ : ∃ ao n c, u3 = .slice ao n c := by obtain ⟨a_, c_, h_⟩ := slen_own hu1.1; exact ⟨a_, _, c_, h_⟩
          obtain ⟨a4_, p4_, c4_, rfl⟩ : ∃ ao n c, u4 = .slice ao n c := by obtain ⟨a_, c_, h_⟩ := slen_own hu2.1; exact ⟨a_, _, c_, h_⟩
          go_wp2_with (fail)
          refine (cS x5 _ _ (hu1.spl (by omega)) (hu2.spl (by omega))).mono ?_
          rintro e_ x6 ⟨rfl, hb⟩
          replace hF := hF.keep hb
          replace hw := Below.after hw hb
          clear hb
          clear hu1 hu2 cS
          have hRR : decide ((most - (lc.length : Int)) = (most - (lc.length : Int))) = true := by simp
          go_wp2_with (fail)
          refine (a_Room _ g2 b2 v2 most lc x6 hF.s2).mono ?_
          rintro e_ x7 ⟨rfl, hb⟩
          replace hF := hF.keep hb
          replace hw := Below.after hw hb
          clear hb
          go_wp2_with (fail)
          refine (a_Room _ g1 b1 v1 most lc x7 hF.s1).mono ?_
          rintro e_ x8 ⟨rfl, hb⟩
          replace hF := hF.keep hb
          replace hw := Below.after hw hb
          clear hb
          go_wp2_with (fail)
          refine (a_Room _ g3 b3 v3 most lc x8 hF.s3).mono ?_
          rintro e_ x9 ⟨rfl, hb⟩
          replace hF := hF.keep hb
          replace hw := Below.after hw hb
          clear hb
          go_wp2_with (fail)
          refine (a_Room _ g1 b1 v1 most lc x9 hF.s1).mono ?_
          rintro e_ y1 ⟨rfl, hb⟩
          replace hF := hF.keep hb
          replace hw := Below.after hw hb
          clear hb
          go_wp2_with (fail)
          refine (a_Len _ g4 b4 v4n most [] y1 hF.s4).mono ?_
          rintro e_ y2 ⟨rfl, h_⟩
          subst y2
          have e0_ : (([] : List Sr).length : Int) = 0 := rfl
          rw [e0_]
          go_wp2_with (fail)
          have cR := a_Room _ g4 b4 v4n most [] y1 hF.s4
          have e1_ : most - (([] : List Sr).length : Int) = most := by simp
          rw [e1_] at cR
          clear e1_ e0_
          refine (cR).mono ?_
          rintro e_ y3 ⟨rfl, hb⟩
          replace hF := hF.keep hb
          replace hw := Below.after hw hb
          clear hb
          clear cR
          have hMM : decide (most = most) = true := by simp
          go_wp2_with (fail)
          go_ret
          exact ⟨rfl, Below.after hw1 hw⟩
    · have hne : pe [] l most ≠ 0 := by omega
      have cF := fun W (h : Below w.heap.size w W) => a_From_no most m0 m1 l vl W (hl.keep h) _ rfl hne
      generalize pe [] l most = E at *
      have hd0 : decide (E = 0) = false := by simpa using hne
      clear h
      go_enter Try.func8, Try.ntmps8
      go_wp2_with (fail)
      refine (l_lives w).mono ?_
      rintro e_ w1 ⟨rfl, hw⟩
      go_wp2_with (fail)
      refine (cF w1 hw).mono ?_
      rintro e_ w2 ⟨rfl, hb⟩
      replace hw := Below.after hw hb
      go_wp2_with (fail)
      go_ret
      exact ⟨rfl, hw⟩

end Go.Proofs.Ytebgdenfaiinmaa
