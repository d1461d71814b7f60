import Derived.Test.YtebgdenfaiinmaaProg
import Derived.WalkKit
import Derived.WalkSpells
import Derived.WalkLawsBesides
import Derived.Lib.QuietBelow
import Derived.BigQuiet
import Derived.OrdersHeld
import Derived.Deep.RegionHeld3
import Derived.OwnWalk
import Derived.Deep.Cut
import Derived.Deep.CutRange
import Derived.Test.YtebgdenfaiinmaaKit
import Derived.Test.YtebgdenfaiinmaaSpu
namespace Go.Proofs.Ytebgdenfaiinmaa
open Go Go.RowKit Go.Sort Go.ChangeMaps Go.MapKept
attribute [local go_sem] setCell_drewN alloc_drewN

theorem ecut {G : Prop} {A : Nat → World → Prop} (T : Nat → World → Prop) (h1 : (∀ g W, T g W → A g W) → G) (h2 : ∀ g W, T g W → A g W) : G := h1 h2
def slenV : Value → Nat
  | .slice _ l _ => l
  | _ => 0
theorem tmod_bd (z : Int) (m : Nat) (hm : 0 < m) : -(m : Int) < z.tmod (m : Int) ∧ z.tmod (m : Int) < (m : Int) := by
  have h1 : (z.tmod (m : Int)).natAbs < m := by
    rw [Int.natAbs_tmod]
    exact Nat.mod_lt _ hm
  omega
theorem own3_lt {W : World} {base g b : Nat} {vr v3 : Value} {most : Int} {l : List Sr} (h : Sto W base g b vr most l) (hv : vr.ownBlock = v3.ownBlock) : ∀ k, own3 g b v3 k → k < W.heap.size := by
  rintro k (e | e | e)
  · exact (h.low k (.inl e)).2
  · exact (h.low k (.inr (.inl e))).2
  · exact (h.low k (.inr (.inr (hv.trans e)))).2
theorem own3_eq {g b k : Nat} {vr v3 : Value} (hv : vr.ownBlock = v3.ownBlock) (h : own3 g b vr k) : own3 g b v3 k := by
  rcases h with e | e | e
  · exact .inl e
  · exact .inr (.inl e)
  · exact .inr (.inr (hv.symm.trans e))
theorem own_ofset {W V : World} {B gR n cR : Nat} {r : List Sr} (h : OwnS W B (.slice (some ⟨gR, 0, none⟩) n cR) r) (hv : V.heap[gR]? = W.heap[gR]?) : OwnS V B (.slice (some ⟨gR, 0, none⟩) n cR) r := ⟨own_move h.1 (fun k e => by cases e; exact hv), h.2⟩
theorem own_cap {W : World} {B gR n cR : Nat} {r : List Sr} (h : OwnS W B (.slice (some ⟨gR, 0, none⟩) n cR) r) : r.length ≤ cR ∧ (cR : Int) ≤ 9223372036854775807 := by
  obtain ⟨_, ⟨e, _⟩ | ⟨g, c, cur, e, _, _, h1, h2, _⟩⟩ := h.1
  · cases e
  · cases e
    exact ⟨h1, by unfold maxLen at h2; omega⟩
theorem infoh (h : List Int) (hl : h.length = 32) : (Try.prog.info? 40).map (·.size) = some (h.map (Value.int .u8)).length := by
  rw [List.length_map, hl]; kernel_rfl
theorem range_h {W : World} {g o : Nat} {s : Sr} (h : W.rangeAt g o (srl s)) : W.rangeAt g o (s.h.map (Value.int .u8)) := fun j x hx => h j x (by
  rw [srl, List.getElem?_append_left (List.getElem?_eq_some_iff.1 hx).1]; exact hx)
theorem range_n {W : World} {g o : Nat} {s : Sr} (hs : s.ok) (h : W.rangeAt g o (srl s)) : W.cell? ⟨g, o + 32, none⟩ = some (.int .u32 s.n) := h 32 _ (by simp [srl, hs.1])
theorem range_m {W : World} {g o : Nat} {s : Sr} (hs : s.ok) (h : W.rangeAt g o (srl s)) : W.rangeAt g (o + 33) (s.m.map (Value.int .u8)) := fun j x hx => by
  have e : (srl s)[33 + j]? = some x := by
    rw [srl, List.getElem?_append_right (by simp [hs.1]; omega)]
    rw [show 33 + j - (s.h.map (Value.int .u8)).length = j + 1 by simp [hs.1]; omega, List.getElem?_cons_succ]
    exact hx
  have := h (33 + j) x e
  rw [Nat.add_assoc]
  exact this
set_option maxRecDepth 100000 in
set_option maxHeartbeats 4000000 in
theorem taken_any (most : Int) (l q : List Sr) (zs : List Int) (w : World) (vl vq vz : Value) (hl : SpL w vl l) (hq : SpL w vq q) (hzs : Ins w vz zs) : Calls Try.prog 7 #[.int .i64 most, vl, vq, vz] w fun e w' => e = .returned (.bool true) ∧ Below w.heap.size w w' := by
  have hll := hl.len
  have hql := hq.len
  obtain ⟨az, cz_, rfl, hzl⟩ := hzs.form
  by_cases hb0 : most < 0 ∨ 2000 < most
  · go_enter Try.func7, Try.ntmps7
    go_wp2_with (fail)
    refine (l_lives w).mono ?_
    rintro e_ w1 ⟨rfl, hw⟩
    go_wp2_with (fail)
    refine (a_From_bad most hb0 vl w1).mono ?_
    rintro e_ w2 ⟨rfl, hb⟩
    replace hw := Below.after hw hb
    go_wp2_with (fail)
    go_ret
    exact ⟨rfl, hw⟩
  · have m0 : 0 ≤ most := by omega
    have m1 : most ≤ 2000 := by omega
    rcases pe_cases [] l most with ⟨_, hm, hln⟩ | h
    · have hln2 : (l.length : Int) ≤ most := by simpa using hln
      clear hln
      obtain ⟨al, nl, cl, rfl⟩ : ∃ ao n c, vl = .slice ao n c := by obtain ⟨a_, c_, h_⟩ := hl.form; exact ⟨a_, _, c_, h_⟩
      obtain ⟨aq, nq, cq, rfl⟩ : ∃ ao n c, vq = .slice ao n c := by obtain ⟨a_, c_, h_⟩ := hq.form; exact ⟨a_, _, c_, h_⟩
      go_enter Try.func7, Try.ntmps7
      go_wp2_with (fail)
      refine (l_lives w).mono ?_
      rintro e_ w1 ⟨rfl, hw1⟩
      have cF := a_From_go most m0 m1 l _ w1 (hl.keep hw1) hm hln2
      replace hzs := hzs.keep hw1
      replace hq := hq.keep hw1
      have hl1 : Hid (∀ V, Below w1.heap.size w1 V → SpL V (.slice al nl cl) l) := hide (fun V h => (hl.keep hw1).keep h)
      clear hl
      go_wp2_with (fail)
      refine cF.mono ?_
      rintro e_ w2 ⟨g, b, v, rfl, hS, hw⟩
      clear cF
      rcases pe_cases l q most with ⟨_, hmq, hlq⟩ | h
      · have cP := a_Put_go w1.heap.size g b v most l q _ w2 hS hw.size (fun V hV => hq.keep (Below.trans hw (hS.below hV hw.size))) hmq hlq
        go_wp2_with (fail)
        refine cP.mono ?_
        rintro e_ w3 ⟨v3, rfl, hS3, hf, _⟩
        replace hw := Below.trans hw (hS.below hf hw.size)
        clear cP hS hf
        have hE := own_empS w3
        have hb6 : Below w3.heap.size w3 (w3.alloc (.cells #[] 60)) := (Below.refl _ _).alloc (Nat.le_refl _) _
        have hw7 := Below.after hw hb6
        go_wp2_with (first | (refine wpList_bsl0 rfl 38 rfl (run_bsl0 w3) ?_) | (at_builtin; refine wpList_append_Sw rfl _ _ rfl w3.heap.size _ [] rfl hE _ q rfl (hq.keep hw7) (by simp; omega) hb6.size ?_) | fail)
        intro u7 w7 hO hg7 hx7
        have hb7 : Below w3.heap.size w3 w7 := hb6.grown hg7 hb6.size (fun k e => (hE.1.lt k e).1)
        have hdis0 : ∀ k, u7.ownBlock = some k → ¬ own3 g b v3 k := fun k e h => by have := (hO.1.lt k e).1; have := (hS3.low k h).2; omega
        have hS := hS3.keep hb7
        have lw3 := hw.size
        replace hw := Below.after hw hb7
        clear hg7 hx7 hE hw7 hb6 hb7 hS3 hq
        generalize w3.heap.size = B5 at *
        have hO0 := hO
        obtain ⟨_, ⟨rfl, h0⟩ | ⟨gR, cR, cur, rfl, hbR, _⟩⟩ := hO0.1
        · have hq0 : q = [] := List.length_eq_zero_iff.1 h0
          subst hq0
          have hd : decide (((0 : Nat) : Int) > 0) = false := by simp
          clear hdis0 hO0 hO hzs
          go_wp2_with (fail)
          go_loopw [11, 12] (fun u11 u12 wr => u11 = .slice none 0 0 ∧ u12 = .int .i64 0 ∧ wr = w7) (fun _ _ _ => 0)
          case atStart => exact ⟨rfl, rfl, rfl⟩
          case round =>
            obtain ⟨rfl, rfl, rfl⟩ := hrel
            go_wp2_with (fail)
            go_ret
            exact ⟨rfl, Below.after hw1 hw⟩
        · have hdis : ¬ own3 g b v3 gR := hdis0 gR rfl
          have hgw : w1.heap.size ≤ gR := by omega
          clear hdis0 hO0
          go_wp2_with (fail)
          go_loopw [11, 12] (fun u11 u12 wr => ∃ (n : Nat) (r : List Sr) (vr : Value), u12 = .int .i64 n ∧ n + r.length = q.length ∧ (u11 = .slice (some ⟨gR, 0, none⟩) r.length cR ∧ OwnS wr B5 (.slice (some ⟨gR, 0, none⟩) r.length cR) r) ∧ Sto wr w1.heap.size g b vr most (l ++ r) ∧ vr.ownBlock = v3.ownBlock ∧ Below w1.heap.size w1 wr) (fun u11 _ _ => slenV u11)
          case atStart => exact ⟨0, q, v3, rfl, by omega, ⟨rfl, hO⟩, hS, rfl, hw⟩
          case round =>
            clear hS hO hw
            obtain ⟨n, r, vr, rfl, hnr, ⟨rfl, hO⟩, hS, hvr, hw⟩ := hrel
            have lgR : gR < wr.heap.size := (hO.1.lt gR rfl).2
            have hlr := hS.len
            rw [List.length_append] at hlr
            rcases Nat.eq_zero_or_pos r.length with h0 | hpos
            · obtain rfl : r = [] := List.length_eq_zero_iff.1 h0
              clear h0 hnr hlr
              go_wp2_with (fail)
              go_ret
              exact ⟨rfl, Below.after hw1 hw⟩
            · have hd : decide ((r.length : Int) > 0) = true := by simp; omega
              go_upto_if 45 with fail
              go_cut [13] from 37 to 119 (fun s13 wx => ∃ z : Int, s13 = .int .i64 z ∧ -(r.length : Int) < z ∧ z < (r.length : Int) ∧ wx = wr)
              case first =>
                rcases Nat.lt_or_ge n zs.length with hz | hz
                · have hdz : decide ((n : Int) < (zs.length : Int)) = true := by simp; omega
                  obtain ⟨bz, oz, rfl, hbz, cz⟩ := hzs.at hz
                  replace cz := (hw.cell (p := ⟨bz, oz + n, none⟩) hbz).trans cz
                  have hk0 : 0 ≤ (n : Int) ∧ (n : Int) < (zs.length : Int) := by omega
                  have hr0 : ¬ (r.length : Int) = 0 := by omega
                  clear hzs
                  generalize zs.getD n 0 = z at *
                  have hb1 := tmod_bd z r.length hpos
                  go_wp2_with (fail)
                  go_meet
                  case rel => exact ⟨_, rfl, hb1.1, hb1.2, rfl⟩
                · have hdz : decide ((n : Int) < (zs.length : Int)) = false := by simp; omega
                  go_wp2_with (fail)
                  go_meet
                  case rel => exact ⟨0, rfl, by omega, by omega, rfl⟩
              case rest =>
                obtain ⟨z, rfl, hz1, hz2, hwc⟩ := hcut
                subst wc
                go_upto_if 54 with fail
                go_cut [13] from 37 to 119 (fun s13 wx => ∃ K : Nat, s13 = .int .i64 K ∧ K < r.length ∧ wx = wr)
                case first =>
                  rcases Int.lt_or_le z 0 with hng | hng
                  · have hdz : decide (z < 0) = true := by simp; omega
                    have hzs2 : -9223372036854775808 ≤ z + (r.length : Int) := by omega
                    go_wp2_with (fail)
                    go_meet
                    case rel => exact ⟨(z + r.length).toNat, by rw [Int.toNat_of_nonneg (by omega)], by omega, rfl⟩
                  · have hdz : decide (z < 0) = false := by simp; omega
                    go_wp2_with (fail)
                    go_meet
                    case rel => exact ⟨z.toNat, by rw [Int.toNat_of_nonneg (by omega)], by omega, rfl⟩
                case rest =>
                  obtain ⟨K, rfl, hKr, hwc⟩ := hcut
                  subst wc
                  clear z hz1 hz2 hzs
                  have okX := hO.2.at hKr
                  have hcl_ := own_cap hO
                  have rX : wr.rangeAt gR (K * 65) (srl (gs r K)) := range_own hO.1 (flat_mem (fun s hs => srl_len (hO.2 s hs)) hKr)
                  have cT : ∀ W, Sto W w1.heap.size g b vr most (l ++ r) → Calls Try.prog 20 #[.pointer (some ⟨g, 0, none⟩), .agg (irow .u8 (gs r K).h), .int .u32 (gs r K).n] W fun e w' => ∃ v_, e = .returned v_ ∧ (v_ = .tuple #[.agg (irow .u8 (gs r K).m), .bool true] ∧ ∃ v', Sto w' w1.heap.size g b v' most (l ++ (r.take K ++ r.drop (K + 1))) ∧ Fr (own3 g b vr) W w' ∧ v'.ownBlock = vr.ownBlock) := fun W h => by
                    have c := a_Take_go w1.heap.size g b vr most (l ++ r) (gs r K).h okX.1 (gs r K).n (l.length + K) (plc_second h.nod hKr) (by rw [show ((gs r K).h, (gs r K).n) = (gs r K).lb from rfl, fnd_second h.nod hKr]; rfl) W h
                    have ek_ : fky (l ++ r) ((gs r K).h, (gs r K).n) = (gs r K).m := by unfold fky; rw [show ((gs r K).h, (gs r K).n) = (gs r K).lb from rfl, fnd_second h.nod hKr]
                    rw [ek_, cut_second] at c
                    exact c.mono (fun e w' q => by obtain ⟨v', h1, h2, h3, h4⟩ := q; exact ⟨_, h1, rfl, v', h2, h3, h4⟩)
                  have hnd := hide hS.nod
                  have hk1 : 0 ≤ (K : Int) ∧ (K : Int) < (r.length : Int) := by omega
                  go_wp2_with (fail)
                  apply ecut (fun (g_ : Nat) (W : World) => ∃ v', W.heap[g_]? = some (.cells (irow .u8 (gs r K).m) 40 (0, 0)) ∧ ¬ own3 g b v3 g_ ∧ gR ≠ g_ ∧ Sto W w1.heap.size g b v' most (l ++ (r.take K ++ r.drop (K + 1))) ∧ v'.ownBlock = v3.ownBlock ∧ OwnS W B5 (.slice (some ⟨gR, 0, none⟩) r.length cR) r ∧ gR < W.heap.size ∧ Below w1.heap.size w1 W)
                  · intro hcut_
                    have hbd : Below wr.heap.size wr wr.drew := below_drN (Below.refl _ _) 1
                    replace hS := hS.keep hbd
                    replace hO := hO.keep hbd
                    replace hw := Below.after hw hbd
                    replace rX := rangeAt_keep rX (hbd.block gR lgR)
                    replace lgR := Nat.lt_of_lt_of_le lgR hbd.size
                    clear hbd
                    refine wp_region_noPanic ?_
                    refine wp_region_held (S := fun W => W.rangeAt gR (K * 65) (srl (gs r K))) (by kernel_rfl) ?_
                    change wpAnyH _ _ _ _ _ _ _ _ (World.drew _)
                    generalize wr.drew = xa at *
                    refine wpAnyH_take (i := 0) (v := ?v10) rfl (by kernel_rfl) (by kernel_rfl) (by kernel_rfl) (fun _ _ _ h => h) (Or.inl ⟨by rfl, ?y10⟩) (rX) ?r10
                    case y10 =>
                      intro w_ hS_
                      go_simp
                      try with_reducible rfl
                    simp only [Act.put, List.getElem_toArray, List.getElem_cons_zero, List.setIfInBounds_toArray, List.set_cons_succ, List.set_cons_zero]
                    refine wpAnyH_take (i := 1) (v := ?v11) rfl (by kernel_rfl) (by kernel_rfl) (by kernel_rfl) (fun _ _ _ h => h) (Or.inl ⟨by rfl, ?y11⟩) (rX) ?r11
                    case y11 =>
                      intro w_ hS_
                      go_simp
                      try with_reducible rfl
                    simp only [Act.put, List.getElem_toArray, List.getElem_cons_succ, List.getElem_cons_zero, List.setIfInBounds_toArray, List.set_cons_succ, List.set_cons_zero]
                    refine wpAnyH_take (i := 2) (v := ?v12) rfl (by kernel_rfl) (by kernel_rfl) (by kernel_rfl) (fun _ _ _ h => h) (Or.inl ⟨by rfl, ?y12⟩) (rX) ?r12
                    case y12 =>
                      intro w_ hS_
                      go_simp
                      try with_reducible rfl
                    simp only [Act.put, List.getElem_toArray, List.getElem_cons_succ, List.getElem_cons_zero, List.setIfInBounds_toArray, List.set_cons_succ, List.set_cons_zero]
                    refine wpAnyH_take (i := 3) (v := ?v13) rfl (by kernel_rfl) (by kernel_rfl) (by kernel_rfl) (fun _ _ _ h => h) (Or.inl ⟨by rfl, ?y13⟩) (rX) ?r13
                    case y13 =>
                      intro w_ hS_
                      go_simp
                      try with_reducible rfl
                    simp only [Act.put, List.getElem_toArray, List.getElem_cons_succ, List.getElem_cons_zero, List.setIfInBounds_toArray, List.set_cons_succ, List.set_cons_zero]
                    refine wpAnyH_take (i := 4) (v := ?v14) rfl (by kernel_rfl) (by kernel_rfl) (by kernel_rfl) (fun _ _ _ h => h) (Or.inl ⟨by rfl, ?y14⟩) (rX) ?r14
                    case y14 =>
                      intro w_ hS_
                      go_simp
                      try with_reducible rfl
                    simp only [Act.put, List.getElem_toArray, List.getElem_cons_succ, List.getElem_cons_zero, List.setIfInBounds_toArray, List.set_cons_succ, List.set_cons_zero]
                    refine wpAnyH_take (i := 5) (v := .agg (irow .u8 (gs r K).h)) rfl (by kernel_rfl) (by kernel_rfl) (by kernel_rfl) (fun _ _ _ h => h) (Or.inl ⟨by rfl, ?y15⟩) (rX) ?r15
                    case y15 =>
                      intro w_ hS_
                      simp only [List.getElem_toArray, List.getElem_cons_succ, List.getElem_cons_zero]
                      exact run_load_range 40 _ (by rfl) gR (K * 65) (by rfl) ((gs r K).h.map (Value.int .u8)) _ (range_h hS_) Try.underlying40 rfl (infoh _ okX.1)
                    simp only [Act.put, List.getElem_toArray, List.getElem_cons_succ, List.getElem_cons_zero, List.setIfInBounds_toArray, List.set_cons_succ, List.set_cons_zero]
                    refine wpAnyH_take (i := 6) (v := ?v16) rfl (by kernel_rfl) (by kernel_rfl) (by kernel_rfl) (fun _ _ _ h => h) (Or.inl ⟨by rfl, ?y16⟩) (rX) ?r16
                    case y16 =>
                      intro w_ hS_
                      go_simp
                      try with_reducible rfl
                    simp only [Act.put, List.getElem_toArray, List.getElem_cons_succ, List.getElem_cons_zero, List.setIfInBounds_toArray, List.set_cons_succ, List.set_cons_zero]
                    refine wpAnyH_take (i := 7) (v := ?v17) rfl (by kernel_rfl) (by kernel_rfl) (by kernel_rfl) (fun _ _ _ h => h) (Or.inl ⟨by rfl, ?y17⟩) (rX) ?r17
                    case y17 =>
                      intro w_ hS_
                      go_simp
                      try with_reducible rfl
                    simp only [Act.put, List.getElem_toArray, List.getElem_cons_succ, List.getElem_cons_zero, List.setIfInBounds_toArray, List.set_cons_succ, List.set_cons_zero]
                    refine wpAnyH_take (i := 8) (v := ?v18) rfl (by kernel_rfl) (by kernel_rfl) (by kernel_rfl) (fun _ _ _ h => h) (Or.inl ⟨by rfl, ?y18⟩) (rX) ?r18
                    case y18 =>
                      intro w_ hS_
                      go_simp
                      try with_reducible rfl
                    simp only [Act.put, List.getElem_toArray, List.getElem_cons_succ, List.getElem_cons_zero, List.setIfInBounds_toArray, List.set_cons_succ, List.set_cons_zero]
                    refine wpAnyH_take (i := 9) (v := ?v19) rfl (by kernel_rfl) (by kernel_rfl) (by kernel_rfl) (fun _ _ _ h => h) (Or.inl ⟨by rfl, ?y19⟩) (rX) ?r19
                    case y19 =>
                      intro w_ hS_
                      go_simp
                      try with_reducible rfl
                    simp only [Act.put, List.getElem_toArray, List.getElem_cons_succ, List.getElem_cons_zero, List.setIfInBounds_toArray, List.set_cons_succ, List.set_cons_zero]
                    refine wpAnyH_take (i := 10) (v := .int .u32 (gs r K).n) rfl (by kernel_rfl) (by kernel_rfl) (by kernel_rfl) (fun _ _ _ h => h) (Or.inl ⟨by rfl, ?y20⟩) (rX) ?r20
                    case y20 =>
                      intro w_ hS_
                      have c_ := range_n okX hS_
                      go_simp
                      try with_reducible rfl
                    simp only [Act.put, List.getElem_toArray, List.getElem_cons_succ, List.getElem_cons_zero, List.setIfInBounds_toArray, List.set_cons_succ, List.set_cons_zero]
                    refine wpAnyH_two (j := 11) (k := 15) (fuel := 6) (by kernel_rfl) rfl rfl (by kernel_rfl) (by kernel_rfl) (fun K_ hK_ => ?_) (fun K_ hK_ => ?_)
                    · refine wp_call_ex (f := 20) (R := fun v_ w_ => v_ = .tuple #[.agg (irow .u8 (gs r K).m), .bool true] ∧ ∃ v', Sto w_ w1.heap.size g b v' most (l ++ (r.take K ++ r.drop (K + 1))) ∧ Fr (own3 g b vr) xa w_ ∧ v'.ownBlock = vr.ownBlock) (by kernel_rfl) (cT xa hS) (fun v_ q1 hX_ => ?_)
                      obtain ⟨rfl, v', hs_, hf_, hv_⟩ := hX_
                      replace hO := own_ofset hO (hf_.block gR lgR (fun e_ => hdis (own3_eq hvr e_)))
                      replace rX := rangeAt_keep rX (hf_.block gR lgR (fun e_ => hdis (own3_eq hvr e_)))
                      replace lgR := Nat.lt_of_lt_of_le lgR hf_.size
                      replace hw := Below.trans hw (hS.below hf_ hw.size)
                      replace hS := hs_
                      replace hvr := hv_.trans hvr
                      clear hs_ hf_ hv_
                      refine hK_ _ _ (rX) ?_
                      simp only [Act.put, List.getElem_toArray, List.getElem_cons_succ, List.getElem_cons_zero, List.setIfInBounds_toArray, List.set_cons_succ, List.set_cons_zero]
                      clear hK_
                      refine wpAnyH_take (i := 12) (v := ?v21) rfl (by kernel_rfl) (by kernel_rfl) (by kernel_rfl) (fun _ _ _ h => h) (Or.inl ⟨by rfl, ?y21⟩) (rX) ?r21
                      case y21 =>
                        intro w_ hS_
                        go_simp
                        try with_reducible rfl
                      simp only [Act.put, List.getElem_toArray, List.getElem_cons_succ, List.getElem_cons_zero, List.setIfInBounds_toArray, List.set_cons_succ, List.set_cons_zero]
                      refine wpAnyH_take (i := 13) (v := ?v22) rfl (by kernel_rfl) (by kernel_rfl) (by kernel_rfl) (fun _ _ _ h => h) (Or.inl ⟨by rfl, ?y22⟩) (rX) ?r22
                      case y22 =>
                        intro w_ hS_
                        go_simp
                        try with_reducible rfl
                      simp only [Act.put, List.getElem_toArray, List.getElem_cons_succ, List.getElem_cons_zero, List.setIfInBounds_toArray, List.set_cons_succ, List.set_cons_zero]
                      refine wpAnyH_take (i := 14) (v := ?v23) rfl (by kernel_rfl) (by kernel_rfl) (by kernel_rfl) (fun _ _ _ h => h) (Or.inl ⟨by rfl, ?y23⟩) (rX) ?r23
                      case y23 =>
                        intro w_ hS_
                        go_simp
                        try with_reducible rfl
                      simp only [Act.put, List.getElem_toArray, List.getElem_cons_succ, List.getElem_cons_zero, List.setIfInBounds_toArray, List.set_cons_succ, List.set_cons_zero]
                      refine wpAnyH_one (k := 15) (fuel := 2) (by kernel_rfl) rfl (by kernel_rfl) (fun K_ hK_ => ?_)
                      refine wp_world_op _ _ (run_alloc_op 40 rfl _ zkey) ?_
                      have hb_ : Below q1.heap.size q1 (q1.alloc (.cells (irow .u8 (zr 32)) 40)) := (Below.refl _ _).alloc (Nat.le_refl _) _
                      have R14 := hp1_0 q1 (.cells (irow .u8 (zr 32)) 40)
                      have hge_R14 : w1.heap.size ≤ q1.heap.size := hw.size
                      have nz_R14 : ¬ own3 g b v3 q1.heap.size := fun e => by have := own3_lt hS hvr _ e; omega
                      have ng_R14 : gR ≠ q1.heap.size := fun e => by omega
                      replace hS := hS.keep hb_
                      replace hO := hO.keep hb_
                      replace hw := Below.after hw hb_
                      replace rX := rangeAt_keep rX (hb_.block gR lgR)
                      replace lgR := Nat.lt_of_lt_of_le lgR hb_.size
                      clear hb_
                      refine hK_ _ _ (rX) ?_
                      simp only [Act.put, List.getElem_toArray, List.getElem_cons_succ, List.getElem_cons_zero, List.setIfInBounds_toArray, List.set_cons_succ, List.set_cons_zero]
                      clear hK_
                      generalize q1.alloc (.cells (irow .u8 (zr 32)) 40) = q2 at *
                      generalize q1.heap.size = g3 at *
                      refine wpAnyH_one (k := 16) (fuel := 1) (by kernel_rfl) rfl (by kernel_rfl) (fun K_ hK_ => ?_)
                      refine wp_store_row 40 _ _ rfl g3 (irow .u8 (gs r K).m) rfl rfl 40 _ R14 (infok8 _ okX.2) (fit32 _ _ (zr_len 32) okX.2) (irow_one _ _) ?_
                      replace R14 := setRow_heap q2 g3 _ (irow .u8 (gs r K).m) _ _ R14
                      replace hS := hS.move (V := q2.setRow g3 (irow .u8 (gs r K).m)) (fun j_ hj_ => setRow_other q2 g3 j_ (irow .u8 (gs r K).m) (fun e_ => nz_R14 (by rw [← e_]; exact own3_eq hvr hj_)))
                      replace hO := own_ofset hO (V := q2.setRow g3 (irow .u8 (gs r K).m)) (setRow_other q2 g3 gR (irow .u8 (gs r K).m) ng_R14)
                      replace rX := rangeAt_keep rX (setRow_other q2 g3 gR (irow .u8 (gs r K).m) ng_R14)
                      replace lgR : gR < (q2.setRow g3 (irow .u8 (gs r K).m)).heap.size := by rw [size_setRow]; exact lgR
                      have sw_ := hw.size
                      replace hw := hw.trans (below_setRow (Below.refl _ _) (show w1.heap.size ≤ g3 by have := hge_R14; omega) (irow .u8 (gs r K).m))
                      clear sw_
                      refine hK_ _ _ (rX) ?_
                      simp only [Act.put]
                      clear hK_
                      generalize q2.setRow g3 (irow .u8 (gs r K).m) = q4 at *
                      refine wpAnyH_take (i := 17) (v := ?v24) rfl (by kernel_rfl) (by kernel_rfl) (by kernel_rfl) (fun _ _ _ h => h) (Or.inl ⟨by rfl, ?y24⟩) (rX) ?r24
                      case y24 =>
                        intro w_ hS_
                        go_simp
                        try with_reducible rfl
                      simp only [Act.put, List.getElem_toArray, List.getElem_cons_succ, List.getElem_cons_zero, List.setIfInBounds_toArray, List.set_cons_succ, List.set_cons_zero]
                      refine wpAnyH_done (by kernel_rfl) ?_ _
                      refine NoPanic.normal ?_
                      exact hcut_ _ _ ⟨_, R14, nz_R14, ng_R14, hS, hvr, hO, lgR, hw⟩
                    · refine wp_world_op _ _ (run_alloc_op 40 rfl _ zkey) ?_
                      have hb_ : Below xa.heap.size xa (xa.alloc (.cells (irow .u8 (zr 32)) 40)) := (Below.refl _ _).alloc (Nat.le_refl _) _
                      have R14 := hp1_0 xa (.cells (irow .u8 (zr 32)) 40)
                      have hge_R14 : w1.heap.size ≤ xa.heap.size := hw.size
                      have nz_R14 : ¬ own3 g b v3 xa.heap.size := fun e => by have := own3_lt hS hvr _ e; omega
                      have ng_R14 : gR ≠ xa.heap.size := fun e => by omega
                      replace hS := hS.keep hb_
                      replace hO := hO.keep hb_
                      replace hw := Below.after hw hb_
                      replace rX := rangeAt_keep rX (hb_.block gR lgR)
                      replace lgR := Nat.lt_of_lt_of_le lgR hb_.size
                      clear hb_
                      refine hK_ _ _ (rX) ?_
                      simp only [Act.put, List.getElem_toArray, List.getElem_cons_succ, List.getElem_cons_zero, List.setIfInBounds_toArray, List.set_cons_succ, List.set_cons_zero]
                      clear hK_
                      generalize xa.alloc (.cells (irow .u8 (zr 32)) 40) = q5 at *
                      generalize xa.heap.size = g6 at *
                      refine wpAnyH_one (k := 11) (fuel := 5) (by kernel_rfl) rfl (by kernel_rfl) (fun K_ hK_ => ?_)
                      refine wp_call_ex (f := 20) (R := fun v_ w_ => v_ = .tuple #[.agg (irow .u8 (gs r K).m), .bool true] ∧ ∃ v', Sto w_ w1.heap.size g b v' most (l ++ (r.take K ++ r.drop (K + 1))) ∧ Fr (own3 g b vr) q5 w_ ∧ v'.ownBlock = vr.ownBlock) (by kernel_rfl) (cT q5 hS) (fun v_ q7 hX_ => ?_)
                      obtain ⟨rfl, v', hs_, hf_, hv_⟩ := hX_
                      replace R14 := hf_.row R14 (fun e_ => nz_R14 (own3_eq hvr e_))
                      replace hO := own_ofset hO (hf_.block gR lgR (fun e_ => hdis (own3_eq hvr e_)))
                      replace rX := rangeAt_keep rX (hf_.block gR lgR (fun e_ => hdis (own3_eq hvr e_)))
                      replace lgR := Nat.lt_of_lt_of_le lgR hf_.size
                      replace hw := Below.trans hw (hS.below hf_ hw.size)
                      replace hS := hs_
                      replace hvr := hv_.trans hvr
                      clear hs_ hf_ hv_
                      refine hK_ _ _ (rX) ?_
                      simp only [Act.put, List.getElem_toArray, List.getElem_cons_succ, List.getElem_cons_zero, List.setIfInBounds_toArray, List.set_cons_succ, List.set_cons_zero]
                      clear hK_
                      refine wpAnyH_take (i := 12) (v := ?v25) rfl (by kernel_rfl) (by kernel_rfl) (by kernel_rfl) (fun _ _ _ h => h) (Or.inl ⟨by rfl, ?y25⟩) (rX) ?r25
                      case y25 =>
                        intro w_ hS_
                        go_simp
                        try with_reducible rfl
                      simp only [Act.put, List.getElem_toArray, List.getElem_cons_succ, List.getElem_cons_zero, List.setIfInBounds_toArray, List.set_cons_succ, List.set_cons_zero]
                      refine wpAnyH_take (i := 13) (v := ?v26) rfl (by kernel_rfl) (by kernel_rfl) (by kernel_rfl) (fun _ _ _ h => h) (Or.inl ⟨by rfl, ?y26⟩) (rX) ?r26
                      case y26 =>
                        intro w_ hS_
                        go_simp
                        try with_reducible rfl
                      simp only [Act.put, List.getElem_toArray, List.getElem_cons_succ, List.getElem_cons_zero, List.setIfInBounds_toArray, List.set_cons_succ, List.set_cons_zero]
                      refine wpAnyH_take (i := 14) (v := ?v27) rfl (by kernel_rfl) (by kernel_rfl) (by kernel_rfl) (fun _ _ _ h => h) (Or.inl ⟨by rfl, ?y27⟩) (rX) ?r27
                      case y27 =>
                        intro w_ hS_
                        go_simp
                        try with_reducible rfl
                      simp only [Act.put, List.getElem_toArray, List.getElem_cons_succ, List.getElem_cons_zero, List.setIfInBounds_toArray, List.set_cons_succ, List.set_cons_zero]
                      refine wpAnyH_one (k := 16) (fuel := 1) (by kernel_rfl) rfl (by kernel_rfl) (fun K_ hK_ => ?_)
                      refine wp_store_row 40 _ _ rfl g6 (irow .u8 (gs r K).m) rfl rfl 40 _ R14 (infok8 _ okX.2) (fit32 _ _ (zr_len 32) okX.2) (irow_one _ _) ?_
                      replace R14 := setRow_heap q7 g6 _ (irow .u8 (gs r K).m) _ _ R14
                      replace hS := hS.move (V := q7.setRow g6 (irow .u8 (gs r K).m)) (fun j_ hj_ => setRow_other q7 g6 j_ (irow .u8 (gs r K).m) (fun e_ => nz_R14 (by rw [← e_]; exact own3_eq hvr hj_)))
                      replace hO := own_ofset hO (V := q7.setRow g6 (irow .u8 (gs r K).m)) (setRow_other q7 g6 gR (irow .u8 (gs r K).m) ng_R14)
                      replace rX := rangeAt_keep rX (setRow_other q7 g6 gR (irow .u8 (gs r K).m) ng_R14)
                      replace lgR : gR < (q7.setRow g6 (irow .u8 (gs r K).m)).heap.size := by rw [size_setRow]; exact lgR
                      have sw_ := hw.size
                      replace hw := hw.trans (below_setRow (Below.refl _ _) (show w1.heap.size ≤ g6 by have := hge_R14; omega) (irow .u8 (gs r K).m))
                      clear sw_
                      refine hK_ _ _ (rX) ?_
                      simp only [Act.put]
                      clear hK_
                      generalize q7.setRow g6 (irow .u8 (gs r K).m) = q8 at *
                      refine wpAnyH_take (i := 17) (v := ?v28) rfl (by kernel_rfl) (by kernel_rfl) (by kernel_rfl) (fun _ _ _ h => h) (Or.inl ⟨by rfl, ?y28⟩) (rX) ?r28
                      case y28 =>
                        intro w_ hS_
                        go_simp
                        try with_reducible rfl
                      simp only [Act.put, List.getElem_toArray, List.getElem_cons_succ, List.getElem_cons_zero, List.setIfInBounds_toArray, List.set_cons_succ, List.set_cons_zero]
                      refine wpAnyH_done (by kernel_rfl) ?_ _
                      refine NoPanic.normal ?_
                      exact hcut_ _ _ ⟨_, R14, nz_R14, ng_R14, hS, hvr, hO, lgR, hw⟩
                  rintro gK W5 ⟨vr2, R14, nz14, ngK, hS5, hvr2, hO5, lgR5, hw5⟩
                  clear hS hO hw rX cT hvr lgR vr
                  obtain ⟨vr, hvr⟩ : ∃ vr, vr = vr2 := ⟨_, rfl⟩
                  subst hvr
                  have hvr := hvr2
                  have hS := hS5
                  have hO := hO5
                  have hw := hw5
                  have lgR := lgR5
                  clear hS5 hO5 hw5 lgR5 hvr2
                  have rX : W5.rangeAt gR (K * 65) (srl (gs r K)) := range_own hO.1 (flat_mem (fun s hs => srl_len (hO.2 s hs)) hKr)
                  obtain ⟨A, lA, cT2⟩ : ∃ A : List Int, A.length = 32 ∧ ∀ W, Sto W w1.heap.size g b vr most (l ++ (r.take K ++ r.drop (K + 1))) → Calls Try.prog 20 #[.pointer (some ⟨g, 0, none⟩), .agg (irow .u8 (gs r K).h), .int .u32 (gs r K).n] W fun e w' => ∃ v_, e = .returned v_ ∧ (v_ = .tuple #[.agg (irow .u8 A), .bool false] ∧ Below W.heap.size W w') := by
                    refine ⟨_, fky_len hS.ok ((gs r K).h, (gs r K).n), fun W h => (a_Take_no w1.heap.size g b vr most _ (gs r K).h okX.1 (gs r K).n (gone_second hnd.out hKr) W h).mono (fun e w' q => ⟨_, q.1, rfl, q.2⟩)⟩
                  have nz_R14 := nz14
                  have ng_R14 := ngK
                  clear nz14 ngK
                  go_wp2_with (fail)
                  apply ecut (fun (g_ : Nat) (W : World) => W.heap[gK]? = some (.cells (irow .u8 (gs r K).m) 40 (0, 0)) ∧ Sto W w1.heap.size g b vr most (l ++ (r.take K ++ r.drop (K + 1))) ∧ OwnS W B5 (.slice (some ⟨gR, 0, none⟩) r.length cR) r ∧ gR < W.heap.size ∧ Below w1.heap.size w1 W)
                  · intro hcut_
                    have hbd : Below W5.heap.size W5 W5.drew := below_drN (Below.refl _ _) 1
                    replace R14 := keep hbd R14
                    replace hS := hS.keep hbd
                    replace hO := hO.keep hbd
                    replace hw := Below.after hw hbd
                    replace rX := rangeAt_keep rX (hbd.block gR lgR)
                    replace lgR := Nat.lt_of_lt_of_le lgR hbd.size
                    clear hbd
                    refine wp_region_noPanic ?_
                    refine wp_region_held (S := fun W => W.rangeAt gR (K * 65) (srl (gs r K))) (by kernel_rfl) ?_
                    change wpAnyH _ _ _ _ _ _ _ _ (World.drew _)
                    generalize W5.drew = xb at *
                    refine wpAnyH_take (i := 0) (v := ?v29) rfl (by kernel_rfl) (by kernel_rfl) (by kernel_rfl) (fun _ _ _ h => h) (Or.inl ⟨by rfl, ?y29⟩) (rX) ?r29
                    case y29 =>
                      intro w_ hS_
                      go_simp
                      try with_reducible rfl
                    simp only [Act.put, List.getElem_toArray, List.getElem_cons_zero, List.setIfInBounds_toArray, List.set_cons_succ, List.set_cons_zero]
                    refine wpAnyH_take (i := 1) (v := ?v30) rfl (by kernel_rfl) (by kernel_rfl) (by kernel_rfl) (fun _ _ _ h => h) (Or.inl ⟨by rfl, ?y30⟩) (rX) ?r30
                    case y30 =>
                      intro w_ hS_
                      go_simp
                      try with_reducible rfl
                    simp only [Act.put, List.getElem_toArray, List.getElem_cons_succ, List.getElem_cons_zero, List.setIfInBounds_toArray, List.set_cons_succ, List.set_cons_zero]
                    refine wpAnyH_take (i := 2) (v := ?v31) rfl (by kernel_rfl) (by kernel_rfl) (by kernel_rfl) (fun _ _ _ h => h) (Or.inl ⟨by rfl, ?y31⟩) (rX) ?r31
                    case y31 =>
                      intro w_ hS_
                      go_simp
                      try with_reducible rfl
                    simp only [Act.put, List.getElem_toArray, List.getElem_cons_succ, List.getElem_cons_zero, List.setIfInBounds_toArray, List.set_cons_succ, List.set_cons_zero]
                    refine wpAnyH_take (i := 3) (v := ?v32) rfl (by kernel_rfl) (by kernel_rfl) (by kernel_rfl) (fun _ _ _ h => h) (Or.inl ⟨by rfl, ?y32⟩) (rX) ?r32
                    case y32 =>
                      intro w_ hS_
                      go_simp
                      try with_reducible rfl
                    simp only [Act.put, List.getElem_toArray, List.getElem_cons_succ, List.getElem_cons_zero, List.setIfInBounds_toArray, List.set_cons_succ, List.set_cons_zero]
                    refine wpAnyH_take (i := 4) (v := ?v33) rfl (by kernel_rfl) (by kernel_rfl) (by kernel_rfl) (fun _ _ _ h => h) (Or.inl ⟨by rfl, ?y33⟩) (rX) ?r33
                    case y33 =>
                      intro w_ hS_
                      go_simp
                      try with_reducible rfl
                    simp only [Act.put, List.getElem_toArray, List.getElem_cons_succ, List.getElem_cons_zero, List.setIfInBounds_toArray, List.set_cons_succ, List.set_cons_zero]
                    refine wpAnyH_take (i := 5) (v := .agg (irow .u8 (gs r K).h)) rfl (by kernel_rfl) (by kernel_rfl) (by kernel_rfl) (fun _ _ _ h => h) (Or.inl ⟨by rfl, ?y34⟩) (rX) ?r34
                    case y34 =>
                      intro w_ hS_
                      simp only [List.getElem_toArray, List.getElem_cons_succ, List.getElem_cons_zero]
                      exact run_load_range 40 _ (by rfl) gR (K * 65) (by rfl) ((gs r K).h.map (Value.int .u8)) _ (range_h hS_) Try.underlying40 rfl (infoh _ okX.1)
                    simp only [Act.put, List.getElem_toArray, List.getElem_cons_succ, List.getElem_cons_zero, List.setIfInBounds_toArray, List.set_cons_succ, List.set_cons_zero]
                    refine wpAnyH_take (i := 6) (v := ?v35) rfl (by kernel_rfl) (by kernel_rfl) (by kernel_rfl) (fun _ _ _ h => h) (Or.inl ⟨by rfl, ?y35⟩) (rX) ?r35
                    case y35 =>
                      intro w_ hS_
                      go_simp
                      try with_reducible rfl
                    simp only [Act.put, List.getElem_toArray, List.getElem_cons_succ, List.getElem_cons_zero, List.setIfInBounds_toArray, List.set_cons_succ, List.set_cons_zero]
                    refine wpAnyH_take (i := 7) (v := ?v36) rfl (by kernel_rfl) (by kernel_rfl) (by kernel_rfl) (fun _ _ _ h => h) (Or.inl ⟨by rfl, ?y36⟩) (rX) ?r36
                    case y36 =>
                      intro w_ hS_
                      go_simp
                      try with_reducible rfl
                    simp only [Act.put, List.getElem_toArray, List.getElem_cons_succ, List.getElem_cons_zero, List.setIfInBounds_toArray, List.set_cons_succ, List.set_cons_zero]
                    refine wpAnyH_take (i := 8) (v := ?v37) rfl (by kernel_rfl) (by kernel_rfl) (by kernel_rfl) (fun _ _ _ h => h) (Or.inl ⟨by rfl, ?y37⟩) (rX) ?r37
                    case y37 =>
                      intro w_ hS_
                      go_simp
                      try with_reducible rfl
                    simp only [Act.put, List.getElem_toArray, List.getElem_cons_succ, List.getElem_cons_zero, List.setIfInBounds_toArray, List.set_cons_succ, List.set_cons_zero]
                    refine wpAnyH_take (i := 9) (v := ?v38) rfl (by kernel_rfl) (by kernel_rfl) (by kernel_rfl) (fun _ _ _ h => h) (Or.inl ⟨by rfl, ?y38⟩) (rX) ?r38
                    case y38 =>
                      intro w_ hS_
                      go_simp
                      try with_reducible rfl
                    simp only [Act.put, List.getElem_toArray, List.getElem_cons_succ, List.getElem_cons_zero, List.setIfInBounds_toArray, List.set_cons_succ, List.set_cons_zero]
                    refine wpAnyH_take (i := 10) (v := .int .u32 (gs r K).n) rfl (by kernel_rfl) (by kernel_rfl) (by kernel_rfl) (fun _ _ _ h => h) (Or.inl ⟨by rfl, ?y39⟩) (rX) ?r39
                    case y39 =>
                      intro w_ hS_
                      have c_ := range_n okX hS_
                      go_simp
                      try with_reducible rfl
                    simp only [Act.put, List.getElem_toArray, List.getElem_cons_succ, List.getElem_cons_zero, List.setIfInBounds_toArray, List.set_cons_succ, List.set_cons_zero]
                    refine wpAnyH_two (j := 11) (k := 15) (fuel := 6) (by kernel_rfl) rfl rfl (by kernel_rfl) (by kernel_rfl) (fun K_ hK_ => ?_) (fun K_ hK_ => ?_)
                    · refine wp_call_ex (f := 20) (R := fun v_ w_ => v_ = .tuple #[.agg (irow .u8 A), .bool false] ∧ Below xb.heap.size xb w_) (by kernel_rfl) (cT2 xb hS) (fun v_ q9 hX_ => ?_)
                      obtain ⟨rfl, hb_⟩ := hX_
                      have lt_R14q9 := lt_of_row R14
                      replace R14 := keep hb_ R14
                      replace hS := hS.keep hb_
                      replace hO := hO.keep hb_
                      replace hw := Below.after hw hb_
                      replace rX := rangeAt_keep rX (hb_.block gR lgR)
                      replace lgR := Nat.lt_of_lt_of_le lgR hb_.size
                      clear hb_
                      refine hK_ _ _ (rX) ?_
                      simp only [Act.put, List.getElem_toArray, List.getElem_cons_succ, List.getElem_cons_zero, List.setIfInBounds_toArray, List.set_cons_succ, List.set_cons_zero]
                      clear hK_
                      refine wpAnyH_take (i := 12) (v := ?v40) rfl (by kernel_rfl) (by kernel_rfl) (by kernel_rfl) (fun _ _ _ h => h) (Or.inl ⟨by rfl, ?y40⟩) (rX) ?r40
                      case y40 =>
                        intro w_ hS_
                        go_simp
                        try with_reducible rfl
                      simp only [Act.put, List.getElem_toArray, List.getElem_cons_succ, List.getElem_cons_zero, List.setIfInBounds_toArray, List.set_cons_succ, List.set_cons_zero]
                      refine wpAnyH_take (i := 13) (v := ?v41) rfl (by kernel_rfl) (by kernel_rfl) (by kernel_rfl) (fun _ _ _ h => h) (Or.inl ⟨by rfl, ?y41⟩) (rX) ?r41
                      case y41 =>
                        intro w_ hS_
                        go_simp
                        try with_reducible rfl
                      simp only [Act.put, List.getElem_toArray, List.getElem_cons_succ, List.getElem_cons_zero, List.setIfInBounds_toArray, List.set_cons_succ, List.set_cons_zero]
                      refine wpAnyH_take (i := 14) (v := ?v42) rfl (by kernel_rfl) (by kernel_rfl) (by kernel_rfl) (fun _ _ _ h => h) (Or.inl ⟨by rfl, ?y42⟩) (rX) ?r42
                      case y42 =>
                        intro w_ hS_
                        go_simp
                        try with_reducible rfl
                      simp only [Act.put, List.getElem_toArray, List.getElem_cons_succ, List.getElem_cons_zero, List.setIfInBounds_toArray, List.set_cons_succ, List.set_cons_zero]
                      refine wpAnyH_one (k := 15) (fuel := 2) (by kernel_rfl) rfl (by kernel_rfl) (fun K_ hK_ => ?_)
                      refine wp_world_op _ _ (run_alloc_op 40 rfl _ zkey) ?_
                      have hb_ : Below q9.heap.size q9 (q9.alloc (.cells (irow .u8 (zr 32)) 40)) := (Below.refl _ _).alloc (Nat.le_refl _) _
                      have R16 := hp1_0 q9 (.cells (irow .u8 (zr 32)) 40)
                      have hge_R16 : w1.heap.size ≤ q9.heap.size := hw.size
                      have nz_R16 : ¬ own3 g b v3 q9.heap.size := fun e => by have := own3_lt hS hvr _ e; omega
                      have ng_R16 : gR ≠ q9.heap.size := fun e => by omega
                      have lt_R14g11 := lt_of_row R14
                      replace R14 := keep hb_ R14
                      replace hS := hS.keep hb_
                      replace hO := hO.keep hb_
                      replace hw := Below.after hw hb_
                      replace rX := rangeAt_keep rX (hb_.block gR lgR)
                      replace lgR := Nat.lt_of_lt_of_le lgR hb_.size
                      clear hb_
                      refine hK_ _ _ (rX) ?_
                      simp only [Act.put, List.getElem_toArray, List.getElem_cons_succ, List.getElem_cons_zero, List.setIfInBounds_toArray, List.set_cons_succ, List.set_cons_zero]
                      clear hK_
                      generalize q9.alloc (.cells (irow .u8 (zr 32)) 40) = q10 at *
                      generalize q9.heap.size = g11 at *
                      refine wpAnyH_one (k := 16) (fuel := 1) (by kernel_rfl) rfl (by kernel_rfl) (fun K_ hK_ => ?_)
                      refine wp_store_row 40 _ _ rfl g11 (irow .u8 A) rfl rfl 40 _ R16 (infok8 _ lA) (fit32 _ _ (zr_len 32) lA) (irow_one _ _) ?_
                      replace R14 := (setRow_other q10 g11 gK (irow .u8 A) (by omega)).trans R14
                      replace R16 := setRow_heap q10 g11 _ (irow .u8 A) _ _ R16
                      replace hS := hS.move (V := q10.setRow g11 (irow .u8 A)) (fun j_ hj_ => setRow_other q10 g11 j_ (irow .u8 A) (fun e_ => nz_R16 (by rw [← e_]; exact own3_eq hvr hj_)))
                      replace hO := own_ofset hO (V := q10.setRow g11 (irow .u8 A)) (setRow_other q10 g11 gR (irow .u8 A) ng_R16)
                      replace rX := rangeAt_keep rX (setRow_other q10 g11 gR (irow .u8 A) ng_R16)
                      replace lgR : gR < (q10.setRow g11 (irow .u8 A)).heap.size := by rw [size_setRow]; exact lgR
                      have sw_ := hw.size
                      replace hw := hw.trans (below_setRow (Below.refl _ _) (show w1.heap.size ≤ g11 by have := hge_R16; omega) (irow .u8 A))
                      clear sw_
                      refine hK_ _ _ (rX) ?_
                      simp only [Act.put]
                      clear hK_
                      generalize q10.setRow g11 (irow .u8 A) = q12 at *
                      refine wpAnyH_take (i := 17) (v := ?v43) rfl (by kernel_rfl) (by kernel_rfl) (by kernel_rfl) (fun _ _ _ h => h) (Or.inl ⟨by rfl, ?y43⟩) (rX) ?r43
                      case y43 =>
                        intro w_ hS_
                        go_simp
                        try with_reducible rfl
                      simp only [Act.put, List.getElem_toArray, List.getElem_cons_succ, List.getElem_cons_zero, List.setIfInBounds_toArray, List.set_cons_succ, List.set_cons_zero]
                      refine wpAnyH_done (by kernel_rfl) ?_ _
                      refine NoPanic.normal ?_
                      exact hcut_ g11 _ ⟨R14, hS, hO, lgR, hw⟩
                    · refine wp_world_op _ _ (run_alloc_op 40 rfl _ zkey) ?_
                      have hb_ : Below xb.heap.size xb (xb.alloc (.cells (irow .u8 (zr 32)) 40)) := (Below.refl _ _).alloc (Nat.le_refl _) _
                      have R16 := hp1_0 xb (.cells (irow .u8 (zr 32)) 40)
                      have hge_R16 : w1.heap.size ≤ xb.heap.size := hw.size
                      have nz_R16 : ¬ own3 g b v3 xb.heap.size := fun e => by have := own3_lt hS hvr _ e; omega
                      have ng_R16 : gR ≠ xb.heap.size := fun e => by omega
                      have lt_R14g14 := lt_of_row R14
                      replace R14 := keep hb_ R14
                      replace hS := hS.keep hb_
                      replace hO := hO.keep hb_
                      replace hw := Below.after hw hb_
                      replace rX := rangeAt_keep rX (hb_.block gR lgR)
                      replace lgR := Nat.lt_of_lt_of_le lgR hb_.size
                      clear hb_
                      refine hK_ _ _ (rX) ?_
                      simp only [Act.put, List.getElem_toArray, List.getElem_cons_succ, List.getElem_cons_zero, List.setIfInBounds_toArray, List.set_cons_succ, List.set_cons_zero]
                      clear hK_
                      generalize xb.alloc (.cells (irow .u8 (zr 32)) 40) = q13 at *
                      generalize xb.heap.size = g14 at *
                      refine wpAnyH_one (k := 11) (fuel := 5) (by kernel_rfl) rfl (by kernel_rfl) (fun K_ hK_ => ?_)
                      refine wp_call_ex (f := 20) (R := fun v_ w_ => v_ = .tuple #[.agg (irow .u8 A), .bool false] ∧ Below q13.heap.size q13 w_) (by kernel_rfl) (cT2 q13 hS) (fun v_ q15 hX_ => ?_)
                      obtain ⟨rfl, hb_⟩ := hX_
                      have lt_R14q15 := lt_of_row R14
                      have lt_R16q15 := lt_of_row R16
                      replace R14 := keep hb_ R14
                      replace R16 := keep hb_ R16
                      replace hS := hS.keep hb_
                      replace hO := hO.keep hb_
                      replace hw := Below.after hw hb_
                      replace rX := rangeAt_keep rX (hb_.block gR lgR)
                      replace lgR := Nat.lt_of_lt_of_le lgR hb_.size
                      clear hb_
                      refine hK_ _ _ (rX) ?_
                      simp only [Act.put, List.getElem_toArray, List.getElem_cons_succ, List.getElem_cons_zero, List.setIfInBounds_toArray, List.set_cons_succ, List.set_cons_zero]
                      clear hK_
                      refine wpAnyH_take (i := 12) (v := ?v44) rfl (by kernel_rfl) (by kernel_rfl) (by kernel_rfl) (fun _ _ _ h => h) (Or.inl ⟨by rfl, ?y44⟩) (rX) ?r44
                      case y44 =>
                        intro w_ hS_
                        go_simp
                        try with_reducible rfl
                      simp only [Act.put, List.getElem_toArray, List.getElem_cons_succ, List.getElem_cons_zero, List.setIfInBounds_toArray, List.set_cons_succ, List.set_cons_zero]
                      refine wpAnyH_take (i := 13) (v := ?v45) rfl (by kernel_rfl) (by kernel_rfl) (by kernel_rfl) (fun _ _ _ h => h) (Or.inl ⟨by rfl, ?y45⟩) (rX) ?r45
                      case y45 =>
                        intro w_ hS_
                        go_simp
                        try with_reducible rfl
                      simp only [Act.put, List.getElem_toArray, List.getElem_cons_succ, List.getElem_cons_zero, List.setIfInBounds_toArray, List.set_cons_succ, List.set_cons_zero]
                      refine wpAnyH_take (i := 14) (v := ?v46) rfl (by kernel_rfl) (by kernel_rfl) (by kernel_rfl) (fun _ _ _ h => h) (Or.inl ⟨by rfl, ?y46⟩) (rX) ?r46
                      case y46 =>
                        intro w_ hS_
                        go_simp
                        try with_reducible rfl
                      simp only [Act.put, List.getElem_toArray, List.getElem_cons_succ, List.getElem_cons_zero, List.setIfInBounds_toArray, List.set_cons_succ, List.set_cons_zero]
                      refine wpAnyH_one (k := 16) (fuel := 1) (by kernel_rfl) rfl (by kernel_rfl) (fun K_ hK_ => ?_)
                      refine wp_store_row 40 _ _ rfl g14 (irow .u8 A) rfl rfl 40 _ R16 (infok8 _ lA) (fit32 _ _ (zr_len 32) lA) (irow_one _ _) ?_
                      replace R14 := (setRow_other q15 g14 gK (irow .u8 A) (by omega)).trans R14
                      replace R16 := setRow_heap q15 g14 _ (irow .u8 A) _ _ R16
                      replace hS := hS.move (V := q15.setRow g14 (irow .u8 A)) (fun j_ hj_ => setRow_other q15 g14 j_ (irow .u8 A) (fun e_ => nz_R16 (by rw [← e_]; exact own3_eq hvr hj_)))
                      replace hO := own_ofset hO (V := q15.setRow g14 (irow .u8 A)) (setRow_other q15 g14 gR (irow .u8 A) ng_R16)
                      replace rX := rangeAt_keep rX (setRow_other q15 g14 gR (irow .u8 A) ng_R16)
                      replace lgR : gR < (q15.setRow g14 (irow .u8 A)).heap.size := by rw [size_setRow]; exact lgR
                      have sw_ := hw.size
                      replace hw := hw.trans (below_setRow (Below.refl _ _) (show w1.heap.size ≤ g14 by have := hge_R16; omega) (irow .u8 A))
                      clear sw_
                      refine hK_ _ _ (rX) ?_
                      simp only [Act.put]
                      clear hK_
                      generalize q15.setRow g14 (irow .u8 A) = q16 at *
                      refine wpAnyH_take (i := 17) (v := ?v47) rfl (by kernel_rfl) (by kernel_rfl) (by kernel_rfl) (fun _ _ _ h => h) (Or.inl ⟨by rfl, ?y47⟩) (rX) ?r47
                      case y47 =>
                        intro w_ hS_
                        go_simp
                        try with_reducible rfl
                      simp only [Act.put, List.getElem_toArray, List.getElem_cons_succ, List.getElem_cons_zero, List.setIfInBounds_toArray, List.set_cons_succ, List.set_cons_zero]
                      refine wpAnyH_done (by kernel_rfl) ?_ _
                      refine NoPanic.normal ?_
                      exact hcut_ g14 _ ⟨R14, hS, hO, lgR, hw⟩
                  rintro gK2 W6 ⟨R14b, hS6, hO6, lgR6, hw6⟩
                  clear hS hO hw rX lgR R14
                  have R14 := R14b
                  have hS := hS6
                  have hO := hO6
                  have hw := hw6
                  have lgR := lgR6
                  clear hS6 hO6 hw6 lgR6 R14b
                  have rX : W6.rangeAt gR (K * 65) (srl (gs r K)) := range_own hO.1 (flat_mem (fun s hs => srl_len (hO.2 s hs)) hKr)
                  have ek : ∀ W, (Op.equalIn 10000 40 (.agg (irow .u8 (gs r K).m)) (.agg (irow .u8 (gs r K).m))).run Try.prog W = .ok true W := fun W => by rw [eq_key 9998 _ _ okX.2 okX.2 W]; simp
                  go_wp2_with (fail)
                  have hbd : Below W6.heap.size W6 W6.drew := below_drN (Below.refl _ _) 1
                  replace R14 := keep hbd R14
                  replace hS := hS.keep hbd
                  replace hO := hO.keep hbd
                  replace hw := Below.after hw hbd
                  replace rX := rangeAt_keep rX (hbd.block gR lgR)
                  replace lgR := Nat.lt_of_lt_of_le lgR hbd.size
                  clear hbd
                  refine wp_region_noPanic ?_
                  refine wp_region_held (S := fun W => W.heap[gK]? = some (.cells (irow .u8 (gs r K).m) 40 (0, 0)) ∧ W.rangeAt gR (K * 65) (srl (gs r K))) (by kernel_rfl) ?_
                  change wpAnyH _ _ _ _ _ _ _ _ (World.drew _)
                  generalize W6.drew = xc at *
                  refine wpAnyH_take (i := 0) (v := ?v48) rfl (by kernel_rfl) (by kernel_rfl) (by kernel_rfl) (fun _ _ _ h => h) (Or.inl ⟨by rfl, ?y48⟩) ⟨R14, rX⟩ ?r48
                  case y48 =>
                    intro w_ hS_
                    go_simp
                    try with_reducible rfl
                  simp only [Act.put, List.getElem_toArray, List.getElem_cons_zero, List.setIfInBounds_toArray, List.set_cons_succ, List.set_cons_zero]
                  refine wpAnyH_take (i := 1) (v := ?v49) rfl (by kernel_rfl) (by kernel_rfl) (by kernel_rfl) (fun _ _ _ h => h) (Or.inl ⟨by rfl, ?y49⟩) ⟨R14, rX⟩ ?r49
                  case y49 =>
                    intro w_ hS_
                    go_simp
                    try with_reducible rfl
                  simp only [Act.put, List.getElem_toArray, List.getElem_cons_succ, List.getElem_cons_zero, List.setIfInBounds_toArray, List.set_cons_succ, List.set_cons_zero]
                  refine wpAnyH_take (i := 2) (v := ?v50) rfl (by kernel_rfl) (by kernel_rfl) (by kernel_rfl) (fun _ _ _ h => h) (Or.inl ⟨by rfl, ?y50⟩) ⟨R14, rX⟩ ?r50
                  case y50 =>
                    intro w_ hS_
                    go_simp
                    try with_reducible rfl
                  simp only [Act.put, List.getElem_toArray, List.getElem_cons_succ, List.getElem_cons_zero, List.setIfInBounds_toArray, List.set_cons_succ, List.set_cons_zero]
                  refine wpAnyH_take (i := 3) (v := .agg (irow .u8 (gs r K).m)) rfl (by kernel_rfl) (by kernel_rfl) (by kernel_rfl) (fun _ _ _ h => h) (Or.inl ⟨by rfl, ?y51⟩) ⟨R14, rX⟩ ?r51
                  case y51 =>
                    intro w_ hS_
                    simp only [List.getElem_toArray, List.getElem_cons_succ, List.getElem_cons_zero]
                    exact run_load_part 40 _ (by rfl) (gK) 0 (by rfl) 40 (irow .u8 (gs r K).m) (0, 0) (irow .u8 (gs r K).m) _ (hS_.1) (all_row _) Try.underlying40 rfl (infok8 _ okX.2)
                  simp only [Act.put, List.getElem_toArray, List.getElem_cons_succ, List.getElem_cons_zero, List.setIfInBounds_toArray, List.set_cons_succ, List.set_cons_zero]
                  refine wpAnyH_take (i := 4) (v := ?v52) rfl (by kernel_rfl) (by kernel_rfl) (by kernel_rfl) (fun _ _ _ h => h) (Or.inl ⟨by rfl, ?y52⟩) ⟨R14, rX⟩ ?r52
                  case y52 =>
                    intro w_ hS_
                    go_simp
                    try with_reducible rfl
                  simp only [Act.put, List.getElem_toArray, List.getElem_cons_succ, List.getElem_cons_zero, List.setIfInBounds_toArray, List.set_cons_succ, List.set_cons_zero]
                  refine wpAnyH_take (i := 5) (v := ?v53) rfl (by kernel_rfl) (by kernel_rfl) (by kernel_rfl) (fun _ _ _ h => h) (Or.inl ⟨by rfl, ?y53⟩) ⟨R14, rX⟩ ?r53
                  case y53 =>
                    intro w_ hS_
                    go_simp
                    try with_reducible rfl
                  simp only [Act.put, List.getElem_toArray, List.getElem_cons_succ, List.getElem_cons_zero, List.setIfInBounds_toArray, List.set_cons_succ, List.set_cons_zero]
                  refine wpAnyH_take (i := 6) (v := ?v54) rfl (by kernel_rfl) (by kernel_rfl) (by kernel_rfl) (fun _ _ _ h => h) (Or.inl ⟨by rfl, ?y54⟩) ⟨R14, rX⟩ ?r54
                  case y54 =>
                    intro w_ hS_
                    go_simp
                    try with_reducible rfl
                  simp only [Act.put, List.getElem_toArray, List.getElem_cons_succ, List.getElem_cons_zero, List.setIfInBounds_toArray, List.set_cons_succ, List.set_cons_zero]
                  refine wpAnyH_take (i := 7) (v := ?v55) rfl (by kernel_rfl) (by kernel_rfl) (by kernel_rfl) (fun _ _ _ h => h) (Or.inl ⟨by rfl, ?y55⟩) ⟨R14, rX⟩ ?r55
                  case y55 =>
                    intro w_ hS_
                    go_simp
                    try with_reducible rfl
                  simp only [Act.put, List.getElem_toArray, List.getElem_cons_succ, List.getElem_cons_zero, List.setIfInBounds_toArray, List.set_cons_succ, List.set_cons_zero]
                  refine wpAnyH_take (i := 8) (v := .agg (irow .u8 (gs r K).m)) rfl (by kernel_rfl) (by kernel_rfl) (by kernel_rfl) (fun _ _ _ h => h) (Or.inl ⟨by rfl, ?y56⟩) ⟨R14, rX⟩ ?r56
                  case y56 =>
                    intro w_ hS_
                    simp only [List.getElem_toArray, List.getElem_cons_succ, List.getElem_cons_zero]
                    exact run_load_range 40 _ (by rfl) gR (K * 65 + 33) (by rfl) ((gs r K).m.map (Value.int .u8)) _ (range_m okX hS_.2) Try.underlying40 rfl (infoh _ okX.2)
                  simp only [Act.put, List.getElem_toArray, List.getElem_cons_succ, List.getElem_cons_zero, List.setIfInBounds_toArray, List.set_cons_succ, List.set_cons_zero]
                  refine wpAnyH_take (i := 9) (v := .bool (!true)) rfl (by kernel_rfl) (by kernel_rfl) (by kernel_rfl) (fun _ _ _ h => h) (Or.inl ⟨by rfl, ?y57⟩) ⟨R14, rX⟩ ?r57
                  case y57 =>
                    intro w_ hS_
                    simp only [List.getElem_toArray, List.getElem_cons_succ, List.getElem_cons_zero]
                    exact run_neq_op 40 40 _ _ (by rfl) (irow .u8 (gs r K).m) (irow .u8 (gs r K).m) (by rfl) (by rfl) egK _ (ek w_)
                  simp only [Act.put, List.getElem_toArray, List.getElem_cons_succ, List.getElem_cons_zero, List.setIfInBounds_toArray, List.set_cons_succ, List.set_cons_zero]
                  refine wpAnyH_take (i := 10) (v := ?v58) rfl (by kernel_rfl) (by kernel_rfl) (by kernel_rfl) (fun _ _ _ h => h) (Or.inl ⟨by rfl, ?y58⟩) ⟨R14, rX⟩ ?r58
                  case y58 =>
                    intro w_ hS_
                    go_simp
                    try with_reducible rfl
                  simp only [Act.put, List.getElem_toArray, List.getElem_cons_succ, List.getElem_cons_zero, List.setIfInBounds_toArray, List.set_cons_succ, List.set_cons_zero]
                  refine wpAnyH_take (i := 11) (v := ?v59) rfl (by kernel_rfl) (by kernel_rfl) (by kernel_rfl) (fun _ _ _ h => h) (Or.inl ⟨by rfl, ?y59⟩) ⟨R14, rX⟩ ?r59
                  case y59 =>
                    intro w_ hS_
                    go_simp
                    try with_reducible rfl
                  simp only [Act.put, List.getElem_toArray, List.getElem_cons_succ, List.getElem_cons_zero, List.setIfInBounds_toArray, List.set_cons_succ, List.set_cons_zero]
                  refine wpAnyH_take (i := 12) (v := ?v60) rfl (by kernel_rfl) (by kernel_rfl) (by kernel_rfl) (fun _ _ _ h => h) (Or.inl ⟨by rfl, ?y60⟩) ⟨R14, rX⟩ ?r60
                  case y60 =>
                    intro w_ hS_
                    go_simp
                    try with_reducible rfl
                  simp only [Act.put, List.getElem_toArray, List.getElem_cons_succ, List.getElem_cons_zero, List.setIfInBounds_toArray, List.set_cons_succ, List.set_cons_zero]
                  refine wpAnyH_take (i := 13) (v := ?v61) rfl (by kernel_rfl) (by kernel_rfl) (by kernel_rfl) (fun _ _ _ h => h) (Or.inl ⟨by rfl, ?y61⟩) ⟨R14, rX⟩ ?r61
                  case y61 =>
                    intro w_ hS_
                    go_simp
                    try with_reducible rfl
                  simp only [Act.put, List.getElem_toArray, List.getElem_cons_succ, List.getElem_cons_zero, List.setIfInBounds_toArray, List.set_cons_succ, List.set_cons_zero]
                  refine wpAnyH_done (by kernel_rfl) ?_ _
                  refine NoPanic.normal ?_
                  clear ek R14 rX
                  go_wp2_with (fail)
                  have hbd : Below xc.heap.size xc xc.drew := below_drN (Below.refl _ _) 1
                  replace hS := hS.keep hbd
                  replace hO := hO.keep hbd
                  replace hw := Below.after hw hbd
                  clear hbd
                  obtain ⟨m, hm⟩ : ∃ m, Hid (r.length - (K + 1) = m) := ⟨_, hide rfl⟩
                  obtain ⟨ad, had⟩ : ∃ ad : Addr, Hid (ad = if cR = K + 1 then ⟨gR, 0, none⟩ else ⟨gR, (K + 1) * 65, none⟩) := ⟨_, hide rfl⟩
                  have hKc : K ≤ cR := by omega
                  have hKc1 : K + 1 ≤ r.length := by omega
                  have hKi : (K : Int) + 1 ≤ 9223372036854775807 := by omega
                  have hKj : (K : Int) + 1 ≤ (r.length : Int) := by omega
                  have hwrp : IntKind.i64.wrap ((K : Int) + 1) = (K : Int) + 1 := by rw [IntKind.wrap_i64]; omega
                  have htn : ((K : Int) + 1).toNat = K + 1 := by omega
                  have hK0 : 0 ≤ (K : Int) + 1 := by omega
                  refine wp_region_noPanic ?_
                  refine wp_region_held (S := fun _ => True) (by kernel_rfl) ?_
                  change wpAnyH _ _ _ _ _ _ _ _ (World.drew _)
                  generalize xc.drew = xd at *
                  refine wpAnyH_take (i := 0) (v := ?v62) rfl (by kernel_rfl) (by kernel_rfl) (by kernel_rfl) (fun _ _ _ h => h) (Or.inl ⟨by rfl, ?y62⟩) trivial ?r62
                  case y62 =>
                    intro w_ hS_
                    go_simp
                    try with_reducible rfl
                  simp only [Act.put, List.getElem_toArray, List.getElem_cons_zero, List.setIfInBounds_toArray, List.set_cons_succ, List.set_cons_zero]
                  refine wpAnyH_take (i := 1) (v := ?v63) rfl (by kernel_rfl) (by kernel_rfl) (by kernel_rfl) (fun _ _ _ h => h) (Or.inl ⟨by rfl, ?y63⟩) trivial ?r63
                  case y63 =>
                    intro w_ hS_
                    go_simp
                    try with_reducible rfl
                  simp only [Act.put, List.getElem_toArray, List.getElem_cons_succ, List.getElem_cons_zero, List.setIfInBounds_toArray, List.set_cons_succ, List.set_cons_zero]
                  refine wpAnyH_take (i := 2) (v := ?v64) rfl (by kernel_rfl) (by kernel_rfl) (by kernel_rfl) (fun _ _ _ h => h) (Or.inl ⟨by rfl, ?y64⟩) trivial ?r64
                  case y64 =>
                    intro w_ hS_
                    go_simp
                    try with_reducible rfl
                  simp only [Act.put, List.getElem_toArray, List.getElem_cons_succ, List.getElem_cons_zero, List.setIfInBounds_toArray, List.set_cons_succ, List.set_cons_zero]
                  refine wpAnyH_take (i := 3) (v := ?v65) rfl (by kernel_rfl) (by kernel_rfl) (by kernel_rfl) (fun _ _ _ h => h) (Or.inl ⟨by rfl, ?y65⟩) trivial ?r65
                  case y65 =>
                    intro w_ hS_
                    go_simp
                    try with_reducible rfl
                  simp only [Act.put, List.getElem_toArray, List.getElem_cons_succ, List.getElem_cons_zero, List.setIfInBounds_toArray, List.set_cons_succ, List.set_cons_zero]
                  refine wpAnyH_take (i := 4) (v := ?v66) rfl (by kernel_rfl) (by kernel_rfl) (by kernel_rfl) (fun _ _ _ h => h) (Or.inl ⟨by rfl, ?y66⟩) trivial ?r66
                  case y66 =>
                    intro w_ hS_
                    go_simp
                    try with_reducible rfl
                  simp only [Act.put, List.getElem_toArray, List.getElem_cons_succ, List.getElem_cons_zero, List.setIfInBounds_toArray, List.set_cons_succ, List.set_cons_zero]
                  refine wpAnyH_take (i := 5) (v := .int .i64 ((K : Int) + 1)) rfl (by kernel_rfl) (by kernel_rfl) (by kernel_rfl) (fun _ _ _ h => h) (Or.inl ⟨by rfl, ?y67⟩) trivial ?r67
                  case y67 =>
                    intro w_ hS_
                    go_simp
                    try with_reducible rfl
                  simp only [Act.put, List.getElem_toArray, List.getElem_cons_succ, List.getElem_cons_zero, List.setIfInBounds_toArray, List.set_cons_succ, List.set_cons_zero]
                  refine wpAnyH_take (i := 6) (v := .slice (some ad) m (cR - (K + 1))) rfl (by kernel_rfl) (by kernel_rfl) (by kernel_rfl) (fun _ _ _ h => h) (Or.inl ⟨by rfl, ?y68⟩) trivial ?r68
                  case y68 =>
                    intro w_ hS_
                    rw [had.out, ← hm.out]
                    go_simp
                    try (split <;> rfl)
                  simp only [Act.put, List.getElem_toArray, List.getElem_cons_succ, List.getElem_cons_zero, List.setIfInBounds_toArray, List.set_cons_succ, List.set_cons_zero]
                  refine wpAnyH_one (k := 7) (fuel := 1) (by kernel_rfl) rfl (by kernel_rfl) (fun K_ hK => ?_)
                  refine wp_cutS (.tmp 105) (.tmp 109) rfl B5 gR cR r K m hO hKr hm.out ad had.out rfl rfl (fun xe hO2 hf_ => ?_)
                  replace hS := hS.move (fun k hk => hf_.block k (hS.low k hk).2 (fun e => hdis (by rw [← e]; exact own3_eq hvr hk)))
                  replace hw := Below.trans hw (hf_.below (fun k e => by rw [e]; exact hgw) (by have := hw.size; omega))
                  clear hf_
                  refine hK _ _ trivial ?_
                  simp only [Act.put, List.getElem_toArray, List.getElem_cons_succ, List.getElem_cons_zero, List.setIfInBounds_toArray, List.set_cons_succ, List.set_cons_zero]
                  clear hK
                  refine wpAnyH_take (i := 8) (v := ?v69) rfl (by kernel_rfl) (by kernel_rfl) (by kernel_rfl) (fun _ _ _ h => h) (Or.inl ⟨by rfl, ?y69⟩) trivial ?r69
                  case y69 =>
                    intro w_ hS_
                    go_simp
                    try with_reducible rfl
                  simp only [Act.put, List.getElem_toArray, List.getElem_cons_succ, List.getElem_cons_zero, List.setIfInBounds_toArray, List.set_cons_succ, List.set_cons_zero]
                  refine wpAnyH_done (by kernel_rfl) ?_ _
                  refine NoPanic.normal ?_
                  clear hO had hwrp htn hK0
                  have hmK : K + m < r.length := by have := hm.out; omega
                  go_wp2_with (fail)
                  refine (a_List w1.heap.size g b vr most (l ++ (r.take K ++ r.drop (K + 1))) xe hS).mono ?_
                  rintro e_ xf ⟨u, rfl, hU, hb⟩
                  have sf_ := hb.size
                  replace hS := hS.keep hb
                  replace hO2 := hO2.keep hb
                  replace hw := Below.after hw hb
                  clear hb
                  have hE := own_empS xf
                  have hb6 : Below xf.heap.size xf (xf.alloc (.cells #[] 60)) := (Below.refl _ _).alloc (Nat.le_refl _) _
                  have hw7 := Below.after hw hb6
                  go_wp2_with (first | (refine wpList_bsl0 rfl 38 rfl (run_bsl0 xf) ?_) | (at_builtin; refine wpList_append_Sw rfl _ _ rfl xf.heap.size _ [] rfl hE _ l rfl (hl1.out _ hw7) (by simp; omega) hb6.size ?_) | fail)
                  intro u7 xg hO7 hg7 hx7
                  have hw8 : Below w1.heap.size w1 xg := hw7.grown hg7 hw7.size (fun k e => by have := (hE.1.lt k e).1; have := hw.size; omega)
                  have hb7 : Below xf.heap.size xf xg := hb6.grown hg7 hb6.size (fun k e => (hE.1.lt k e).1)
                  clear hg7 hx7 hE hw7 hb6
                  have hrl : (r.take K ++ r.drop (K + 1)).length ≤ 2000 := by rw [List.length_append, List.length_take, List.length_drop]; omega
                  go_wp2_with (first | (at_builtin; refine wpList_append_Sw rfl _ _ rfl xf.heap.size _ l rfl hO7 _ (r.take K ++ r.drop (K + 1)) rfl ((hO2.keep hb7).spl (by omega)) (by omega) hb7.size ?_) | fail)
                  intro u8 xh hO8 hg8 hx8
                  have hw9 : Below w1.heap.size w1 xh := hw8.grown hg8 hw8.size (fun k e => by have := (hO7.1.lt k e).1; have := hw.size; omega)
                  have hb8 : Below xf.heap.size xf xh := hb7.grown hg8 hb7.size (fun k e => (hO7.1.lt k e).1)
                  have hll2 : (l ++ (r.take K ++ r.drop (K + 1))).length ≤ 4000 := by rw [List.length_append]; omega
                  have cS := l_same (l ++ (r.take K ++ r.drop (K + 1))) (l ++ (r.take K ++ r.drop (K + 1))) xh u u8 ((hU.keep hb8).spl (by omega)) (hO8.spl (by omega))
                  have hdt : decide (l ++ (r.take K ++ r.drop (K + 1)) = l ++ (r.take K ++ r.drop (K + 1))) = true := by simp
                  rw [hdt] at cS
                  replace hS := hS.keep hb8
                  replace hO2 := hO2.keep hb8
                  clear hdt hO7 hb7 hw8 hU hO8 hg8 hx8 hb8
                  go_wp2_with (fail)
                  refine cS.mono ?_
                  rintro e_ xi ⟨rfl, hb⟩
                  replace hS := hS.keep hb
                  replace hO2 := hO2.keep hb
                  replace hw := Below.after hw9 hb
                  clear hb cS hw9
                  have hnn : n + 1 + (r.take K ++ r.drop (K + 1)).length = q.length := by rw [List.length_append, List.length_take, List.length_drop]; omega
                  have hn63 : (n : Int) + 1 ≤ 9223372036854775807 := by omega
                  have hrr : Hid ((r.take K ++ r.drop (K + 1)).length = K + m) := hide (by have := hm.out; rw [List.length_append, List.length_take, List.length_drop]; omega)
                  go_wp2_with (fail)
                  refine ⟨⟨n + 1, r.take K ++ r.drop (K + 1), vr, by go_num, hnn, ⟨by rw [hrr.out], ?_⟩, hS, hvr, hw⟩, ?_⟩
                  · rw [hrr.out]; exact hO2
                  simp [slenV]; omega
      · have hne : pe l q most ≠ 0 := by omega
        have cP := a_Put_no w1.heap.size g b v most l q _ w2 hS (hq.keep hw) _ rfl hne
        generalize pe l q most = E at *
        have hd0 : decide (E = 0) = false := by simpa using hne
        clear h
        go_wp2_with (fail)
        refine cP.mono ?_
        rintro e_ w3 ⟨rfl, hb⟩
        replace hw := Below.after hw hb
        go_wp2_with (fail)
        go_ret
        exact ⟨rfl, Below.after hw1 hw⟩
    · have hne : pe [] l most ≠ 0 := by omega
      have cF := fun W (h : Below w.heap.size w W) => a_From_no most m0 m1 l vl W (hl.keep h) _ rfl hne
      generalize pe [] l most = E at *
      have hd0 : decide (E = 0) = false := by simpa using hne
      clear h
      go_enter Try.func7, Try.ntmps7
      go_wp2_with (fail)
      refine (l_lives w).mono ?_
      rintro e_ w1 ⟨rfl, hw⟩
      go_wp2_with (fail)
      refine (cF w1 hw).mono ?_
      rintro e_ w2 ⟨rfl, hb⟩
      replace hw := Below.after hw hb
      go_wp2_with (fail)
      go_ret
      exact ⟨rfl, hw⟩

end Go.Proofs.Ytebgdenfaiinmaa
