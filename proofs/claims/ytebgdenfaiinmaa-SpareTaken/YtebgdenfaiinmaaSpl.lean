import Derived.Test.YtebgdenfaiinmaaProg
import Derived.WalkKit
import Derived.WalkSpells
import Derived.WalkLawsBesides
import Derived.Lib.QuietBelow
import Derived.BigQuiet
import Derived.OrdersHeld
import Derived.Deep.RegionHeld3
import Derived.OwnWalk
import Derived.Test.YtebgdenfaiinmaaKit
import Derived.Test.YtebgdenfaiinmaaSpk
namespace Go.Proofs.Ytebgdenfaiinmaa
open Go Go.RowKit Go.Sort Go.ChangeMaps Go.MapKept
attribute [local go_sem] setCell_drewN alloc_drewN

theorem wpAnyH_skip {P : Program} {ops : Array Oper} {Q : Exit → Act → World → Prop} {md : Region.Mode} {S : World → Prop} {k : Nat} {o : Oper} {fuel : Nat} {listed : Array Bool} {a : Act} {w : World} (hr : Region.ready md ops listed = [k]) (hi : ops[k]? = some o) (hw : Region.wanted o (yielded ops a.tmps) = false) (hS : S w)
    (h : wpAnyH P md ops Q S fuel (listed.setIfInBounds k true) (a.put o.dst undef) w) : wpAnyH P md ops Q S (fuel + 1) listed a w := by
  refine wpAnyH_all hr (by simp) (fun i hi' => ?_)
  obtain rfl : i = k := by simpa using hi'
  unfold wpOp
  simp only [hi, hw, Bool.false_eq_true, if_false]
  exact ⟨hS, h⟩
/-- Is one of the first k met? -/
def twc (l q : List Sr) : Nat → Bool
  | 0 => false
  | k + 1 => twc l q k || hsm l (gs q k) || hsm (q.take k) (gs q k)
theorem hsm_iff (l : List Sr) (x : Sr) : hsm l x = true ↔ x.lb ∈ l.map Sr.lb := by
  unfold hsm
  rw [List.any_eq_true]
  simp only [mt_lb, decide_eq_true_eq, List.mem_map]
theorem twc_mts {l q : List Sr} (hl : (l.map Sr.lb).Nodup) : ∀ k, k ≤ q.length → twc l q k = mts l (q.take k)
  | 0, _ => by
    have : mts l (q.take 0) = false := mts_false.2 (by simpa using hl)
    rw [this]; rfl
  | k + 1, h => by
    rw [twc, twc_mts hl k (by omega)]
    have e := take_snocS q k (by omega)
    cases h1 : mts l (q.take k)
    · have n1 := mts_false.1 h1
      cases h2 : hsm l (gs q k)
      · cases h3 : hsm (q.take k) (gs q k)
        · symm
          rw [Bool.false_or, Bool.false_or]
          refine mts_false.2 (nod_snoc (by omega) n1 ?_ ?_)
          · rw [fnd_f]
            intro hm
            rw [(hsm_iff _ _).2 hm] at h2; cases h2
          · rw [plc_f]
            intro hm
            rw [(hsm_iff _ _).2 hm] at h3; cases h3
        · symm
          rw [Bool.or_true]
          have := (hsm_iff _ _).1 h3
          cases hm : mts l (q.take (k + 1))
          · exfalso
            have n2 := mts_false.1 hm
            rw [e, List.map_append, List.nodup_append, List.map_append, List.nodup_append] at n2
            exact n2.2.1.2.2 _ this _ (by simp) rfl
          · rfl
      · symm
        rw [Bool.or_true, Bool.true_or]
        have := (hsm_iff _ _).1 h2
        cases hm : mts l (q.take (k + 1))
        · exfalso
          have n2 := mts_false.1 hm
          rw [e, List.map_append, List.nodup_append] at n2
          exact n2.2.2 _ this _ (by simp) rfl
        · rfl
    · symm
      rw [Bool.true_or, Bool.true_or]
      cases hm : mts l (q.take (k + 1))
      · exfalso
        have n2 := mts_false.1 hm
        rw [e, ← List.append_assoc, List.map_append, List.nodup_append] at n2
        rw [mts_false.2 n2.1] at h1; cases h1
      · rfl
theorem run_bsl0 (W : World) : (Instr.buildSlice 38 0 #[]).run Try.prog W = .ok (.slice (some ⟨W.heap.size, 0, none⟩) 0 0) (W.alloc (.cells #[] 60)) := by kernel_rfl
theorem wpList_bsl0 {P : Program} {ops : Array Oper} {Q : Exit → Act → World → Prop} {w w' : World} {rest : List Oper} {o : Oper} {a : Act} {v : Value} (hw : Region.wanted o (yielded ops a.tmps) = true) (t : TypeId) (ho : o.op = .buildSlice t 0 #[]) (hr : (Instr.buildSlice t 0 #[]).run P w = .ok v w') (h : wpList P ops Q rest (a.put o.dst v) w') : wpList P ops Q (o :: rest) a w :=
  BigFrame.wpList_want hw fun _ hK => wp_world_op _ _ (by simp [execOp, ho, hr, Result.andThen]) (hK _ _ h)
theorem wpList_append_Sw {w : World} {ops : Array Oper} {rest : List Oper} {o : Oper} {a : Act} {Q : Exit → Act → World → Prop} (hw : Region.wanted o (yielded ops a.tmps) = true) (s x : Operand) (ho : o.op = .call { callee := .builtin .append, args := #[s, x], argTypes := #[38, 38] })
    (base : Nat) (v : Value) (l : List Sr) (hs : a.eval s = v) (hI : OwnS w base v l) (u : Value) (q : List Sr) (hx : a.eval x = u) (hq : SpL w u q) (hlen : l.length + q.length ≤ 2069668946401) (hbase : base ≤ w.heap.size)
    (h : ∀ v' w', OwnS w' base v' (l ++ q) → w.grownBy w' v.ownBlock → Nx w v v' → wpList Try.prog ops Q rest (a.put o.dst v') w') : wpList Try.prog ops Q (o :: rest) a w :=
  BigFrame.wpList_want hw fun _ hK => wp_append_S s x ho base v l hs hI u q hx hq hlen hbase (fun v' w' h1 h2 h3 => hK _ _ (h v' w' h1 h2 h3))
theorem SpL.head {W : World} {ao : Option Addr} {n cap : Nat} {l : List Sr} (h : SpL W (.slice ao n cap) l) (k : Nat) (hk : k ≤ l.length) : SpL W (.slice ao k cap) (l.take k) := by
  obtain ⟨ao', cap', e, h1, h2, h3, h4, h5⟩ := h
  cases e
  refine ⟨ao, cap, by rw [List.length_take, Nat.min_eq_left hk], by rw [List.length_take]; omega, by rw [List.length_take]; omega, h3, h4.take k, fun i hi => ?_⟩
  rw [List.length_take] at hi
  obtain ⟨b, off, e, hb, hr⟩ := h5 i (by omega)
  refine ⟨b, off, e, hb, ?_⟩
  have : gs (l.take k) i = gs l i := by
    rw [gs, gs, List.getD_eq_getElem?_getD, List.getD_eq_getElem?_getD, List.getElem?_take_of_lt (by omega)]
  rw [this]
  exact hr
set_option maxRecDepth 100000 in
set_option maxHeartbeats 4000000 in
theorem puts_any (most : Int) (l q : List Sr) (w : World) (v1 v2 : Value) (hl : SpL w v1 l) (hq : SpL w v2 q) : Calls Try.prog 6 #[.int .i64 most, v1, v2] w fun e w' => e = .returned (.bool true) ∧ Below w.heap.size w w' := by
  have hlo := hl.ok
  have hqo := hq.ok
  have hll := hl.len
  have hql := hq.len
  by_cases hb0 : most < 0 ∨ 2000 < most
  · go_enter Try.func6, Try.ntmps6
    go_wp2_with (fail)
    refine (l_lives w).mono ?_
    rintro e_ w1 ⟨rfl, hw⟩
    go_wp2_with (fail)
    refine (a_From_bad most hb0 v1 w1).mono ?_
    rintro e_ w2 ⟨rfl, hb⟩
    replace hw := Below.after hw hb
    go_wp2_with (fail)
    go_ret
    exact ⟨rfl, hw⟩
  · have m0 : 0 ≤ most := by omega
    have m1 : most ≤ 2000 := by omega
    rcases pe_cases [] l most with ⟨_, hm, hln⟩ | h
    · have hln2 : (l.length : Int) ≤ most := by simpa using hln
      clear hln
      obtain ⟨aq, cq, rfl⟩ := hq.form
      obtain ⟨al, cl, rfl⟩ := hl.form
      have hcq : q.length ≤ cq := by obtain ⟨_, _, e, _, h, _⟩ := hq; cases e; exact h
      go_enter Try.func6, Try.ntmps6
      go_wp2_with (fail)
      refine (l_lives w).mono ?_
      rintro e_ w1 ⟨rfl, hw⟩
      have cF := a_From_go most m0 m1 l _ w1 (hl.keep hw) hm hln2
      go_wp2_with (fail)
      refine cF.mono ?_
      rintro e_ w2 ⟨g, b, v, rfl, hS, hb⟩
      replace hl := hl.keep hw
      replace hq := hq.keep hw
      have hw1 := hw
      clear hw
      have hw := hb
      clear hb cF
      go_wp2_with (fail)
      go_loopw [9, 10] (fun t i wr => ∃ k : Nat, k ≤ q.length ∧ i = .int .i64 k ∧ t = .bool (twc l q k) ∧ Sto wr w1.heap.size g b v most l ∧ Below w1.heap.size w1 wr) (fun _ i _ => q.length - (intOf i).toNat)
      case atStart => exact ⟨0, by omega, rfl, rfl, hS, hw⟩
      case round =>
        clear hS hw
        obtain ⟨k, hk, rfl, rfl, hS, hw⟩ := hrel
        by_cases hlt : k < q.length
        · have hd : decide ((k : Int) < (q.length : Int)) = true := by simp; omega
          obtain ⟨b1, o1, rfl, hb1, r1⟩ := hq.at hlt
          have ok1 := hqo.at hlt
          have hk1 : 0 ≤ (k : Int) ∧ (k : Int) < (q.length : Int) := by omega
          have htk : Hid (twc l q (k + 1) = (twc l q k || hsm l (gs q k) || hsm (q.take k) (gs q k))) := hide rfl
          have c1 := fun W (h : Below w1.heap.size w1 W) => l_has l (gs q k) ok1 W _ (hl.keep h)
          have c2 := fun W (h : Below w1.heap.size w1 W) => l_has (q.take k) (gs q k) ok1 W _ ((hq.keep h).head k (by omega))
          replace r1 := rangeAt_keep r1 (hw.block b1 hb1)
          have hkc : (k : Int) ≤ (cq : Int) := by omega
          generalize twc l q k = B0 at *
          cases B0
          · cases hB1 : hsm l (gs q k)
            · rw [hB1] at htk
              simp only [hB1] at c1
              clear hB1
              go_wp2_with (fail)
              have hbd : Below wr.heap.size wr wr.drew := below_drN (Below.refl _ _) 1
              have hb9 : b1 < wr.drew.heap.size := Nat.lt_of_lt_of_le (Nat.lt_of_lt_of_le hb1 hw.size) hbd.size
              replace r1 := rangeAt_keep r1 (hbd.block b1 (Nat.lt_of_lt_of_le hb1 hw.size))
              replace hS := hS.keep hbd
              replace hw := Below.after hw hbd
              clear hbd
              refine wp_region_noPanic ?_
              refine wp_region_held (S := fun W => W.rangeAt b1 (o1 + k * 65) (srl (gs q k))) (by kernel_rfl) ?_
              change wpAnyH _ _ _ _ _ _ _ _ (World.drew _)
              generalize wr.drew = w1 at *
              refine wpAnyH_take (i := 0) (v := ?v46) rfl (by kernel_rfl) (by kernel_rfl) (by kernel_rfl) (fun _ _ _ h => h) (Or.inl ⟨by rfl, ?y46⟩) r1 ?r46
              case y46 =>
                intro w_ hS_
                go_simp
                try with_reducible rfl
              simp only [Act.put, List.getElem_toArray, List.getElem_cons_zero, List.setIfInBounds_toArray, List.set_cons_succ, List.set_cons_zero]
              refine wpAnyH_take (i := 1) (v := ?v47) rfl (by kernel_rfl) (by kernel_rfl) (by kernel_rfl) (fun _ _ _ h => h) (Or.inl ⟨by rfl, ?y47⟩) r1 ?r47
              case y47 =>
                intro w_ hS_
                go_simp
                try with_reducible rfl
              simp only [Act.put, List.getElem_toArray, List.getElem_cons_succ, List.getElem_cons_zero, List.setIfInBounds_toArray, List.set_cons_succ, List.set_cons_zero]
              refine wpAnyH_take (i := 2) (v := ?v48) rfl (by kernel_rfl) (by kernel_rfl) (by kernel_rfl) (fun _ _ _ h => h) (Or.inl ⟨by rfl, ?y48⟩) r1 ?r48
              case y48 =>
                intro w_ hS_
                go_simp
                try with_reducible rfl
              simp only [Act.put, List.getElem_toArray, List.getElem_cons_succ, List.getElem_cons_zero, List.setIfInBounds_toArray, List.set_cons_succ, List.set_cons_zero]
              refine wpAnyH_take (i := 3) (v := ?v49) rfl (by kernel_rfl) (by kernel_rfl) (by kernel_rfl) (fun _ _ _ h => h) (Or.inl ⟨by rfl, ?y49⟩) r1 ?r49
              case y49 =>
                intro w_ hS_
                go_simp
                try with_reducible rfl
              simp only [Act.put, List.getElem_toArray, List.getElem_cons_succ, List.getElem_cons_zero, List.setIfInBounds_toArray, List.set_cons_succ, List.set_cons_zero]
              refine wpAnyH_take (i := 4) (v := ?v50) rfl (by kernel_rfl) (by kernel_rfl) (by kernel_rfl) (fun _ _ _ h => h) (Or.inl ⟨by rfl, ?y50⟩) r1 ?r50
              case y50 =>
                intro w_ hS_
                go_simp
                try with_reducible rfl
              simp only [Act.put, List.getElem_toArray, List.getElem_cons_succ, List.getElem_cons_zero, List.setIfInBounds_toArray, List.set_cons_succ, List.set_cons_zero]
              refine wpAnyH_take (i := 5) (v := ?v51) rfl (by kernel_rfl) (by kernel_rfl) (by kernel_rfl) (fun _ _ _ h => h) (Or.inl ⟨by rfl, ?y51⟩) r1 ?r51
              case y51 =>
                intro w_ hS_
                go_simp
                try with_reducible rfl
              simp only [Act.put, List.getElem_toArray, List.getElem_cons_succ, List.getElem_cons_zero, List.setIfInBounds_toArray, List.set_cons_succ, List.set_cons_zero]
              refine wpAnyH_take (i := 6) (v := .agg (srow (gs q k))) rfl (by kernel_rfl) (by kernel_rfl) (by kernel_rfl) (fun _ _ _ h => h) (Or.inl ⟨by rfl, ?y52⟩) r1 ?r52
              case y52 =>
                intro w_ hS_
                simp only [List.getElem_toArray, List.getElem_cons_succ, List.getElem_cons_zero]
                exact run_load_range 60 _ (by rfl) b1 (o1 + k * 65) (by rfl) (srl (gs q k)) _ hS_ Try.underlying60 rfl (infoSl ok1)
              simp only [Act.put, List.getElem_toArray, List.getElem_cons_succ, List.getElem_cons_zero, List.setIfInBounds_toArray, List.set_cons_succ, List.set_cons_zero]
              refine wpAnyH_one (k := 7) (fuel := 12) (by kernel_rfl) rfl (by rfl) (fun K_ hK => ?_)
              refine wp_call_ex (f := 24) (R := fun v_ w_ => v_ = .bool false ∧ Below w1.heap.size w1 w_) (by kernel_rfl) ((c1 w1 hw).mono (fun e_ w_ h_ => ⟨_, h_.1, rfl, h_.2⟩)) (fun v_ w2 hX_ => ?_)
              obtain ⟨rfl, hb_⟩ := hX_
              replace r1 := rangeAt_keep r1 (hb_.block b1 hb9)
              replace hb9 := Nat.lt_of_lt_of_le hb9 hb_.size
              replace hS := hS.keep hb_
              replace hw := Below.after hw hb_
              clear hb_
              refine hK _ _ r1 ?_
              simp only [Act.put, List.getElem_toArray, List.getElem_cons_succ, List.getElem_cons_zero, List.setIfInBounds_toArray, List.set_cons_succ, List.set_cons_zero]
              clear hK
              refine wpAnyH_take (i := 8) (v := ?v53) rfl (by kernel_rfl) (by kernel_rfl) (by kernel_rfl) (fun _ _ _ h => h) (Or.inl ⟨by rfl, ?y53⟩) r1 ?r53
              case y53 =>
                intro w_ hS_
                go_simp
                try with_reducible rfl
              simp only [Act.put, List.getElem_toArray, List.getElem_cons_succ, List.getElem_cons_zero, List.setIfInBounds_toArray, List.set_cons_succ, List.set_cons_zero]
              refine wpAnyH_take (i := 9) (v := ?v54) rfl (by kernel_rfl) (by kernel_rfl) (by kernel_rfl) (fun _ _ _ h => h) (Or.inl ⟨by rfl, ?y54⟩) r1 ?r54
              case y54 =>
                intro w_ hS_
                go_simp
                try with_reducible rfl
              simp only [Act.put, List.getElem_toArray, List.getElem_cons_succ, List.getElem_cons_zero, List.setIfInBounds_toArray, List.set_cons_succ, List.set_cons_zero]
              refine wpAnyH_take (i := 10) (v := ?v55) rfl (by kernel_rfl) (by kernel_rfl) (by kernel_rfl) (fun _ _ _ h => h) (Or.inl ⟨by rfl, ?y55⟩) r1 ?r55
              case y55 =>
                intro w_ hS_
                go_simp
                try with_reducible rfl
              simp only [Act.put, List.getElem_toArray, List.getElem_cons_succ, List.getElem_cons_zero, List.setIfInBounds_toArray, List.set_cons_succ, List.set_cons_zero]
              refine wpAnyH_take (i := 11) (v := ?v56) rfl (by kernel_rfl) (by kernel_rfl) (by kernel_rfl) (fun _ _ _ h => h) (Or.inl ⟨by rfl, ?y56⟩) r1 ?r56
              case y56 =>
                intro w_ hS_
                go_simp
                try with_reducible rfl
              simp only [Act.put, List.getElem_toArray, List.getElem_cons_succ, List.getElem_cons_zero, List.setIfInBounds_toArray, List.set_cons_succ, List.set_cons_zero]
              refine wpAnyH_take (i := 12) (v := ?v57) rfl (by kernel_rfl) (by kernel_rfl) (by kernel_rfl) (fun _ _ _ h => h) (Or.inl ⟨by rfl, ?y57⟩) r1 ?r57
              case y57 =>
                intro w_ hS_
                go_simp
                try with_reducible rfl
              simp only [Act.put, List.getElem_toArray, List.getElem_cons_succ, List.getElem_cons_zero, List.setIfInBounds_toArray, List.set_cons_succ, List.set_cons_zero]
              refine wpAnyH_take (i := 13) (v := ?v58) rfl (by kernel_rfl) (by kernel_rfl) (by kernel_rfl) (fun _ _ _ h => h) (Or.inl ⟨by rfl, ?y58⟩) r1 ?r58
              case y58 =>
                intro w_ hS_
                go_simp
                try with_reducible rfl
              simp only [Act.put, List.getElem_toArray, List.getElem_cons_succ, List.getElem_cons_zero, List.setIfInBounds_toArray, List.set_cons_succ, List.set_cons_zero]
              refine wpAnyH_take (i := 14) (v := ?v59) rfl (by kernel_rfl) (by kernel_rfl) (by kernel_rfl) (fun _ _ _ h => h) (Or.inl ⟨by rfl, ?y59⟩) r1 ?r59
              case y59 =>
                intro w_ hS_
                go_simp
                try with_reducible rfl
              simp only [Act.put, List.getElem_toArray, List.getElem_cons_succ, List.getElem_cons_zero, List.setIfInBounds_toArray, List.set_cons_succ, List.set_cons_zero]
              refine wpAnyH_take (i := 15) (v := ?v60) rfl (by kernel_rfl) (by kernel_rfl) (by kernel_rfl) (fun _ _ _ h => h) (Or.inl ⟨by rfl, ?y60⟩) r1 ?r60
              case y60 =>
                intro w_ hS_
                go_simp
                try with_reducible rfl
              simp only [Act.put, List.getElem_toArray, List.getElem_cons_succ, List.getElem_cons_zero, List.setIfInBounds_toArray, List.set_cons_succ, List.set_cons_zero]
              refine wpAnyH_take (i := 16) (v := .agg (srow (gs q k))) rfl (by kernel_rfl) (by kernel_rfl) (by kernel_rfl) (fun _ _ _ h => h) (Or.inl ⟨by rfl, ?y61⟩) r1 ?r61
              case y61 =>
                intro w_ hS_
                simp only [List.getElem_toArray, List.getElem_cons_succ, List.getElem_cons_zero]
                exact run_load_range 60 _ (by rfl) b1 (o1 + k * 65) (by rfl) (srl (gs q k)) _ hS_ Try.underlying60 rfl (infoSl ok1)
              simp only [Act.put, List.getElem_toArray, List.getElem_cons_succ, List.getElem_cons_zero, List.setIfInBounds_toArray, List.set_cons_succ, List.set_cons_zero]
              refine wpAnyH_one (k := 17) (fuel := 2) (by kernel_rfl) rfl (by rfl) (fun K_ hK => ?_)
              refine wp_call_ex (f := 24) (R := fun v_ w_ => v_ = .bool (hsm (q.take k) (gs q k)) ∧ Below w2.heap.size w2 w_) (by kernel_rfl) ((c2 w2 hw).mono (fun e_ w_ h_ => ⟨_, h_.1, rfl, h_.2⟩)) (fun v_ w3 hX_ => ?_)
              obtain ⟨rfl, hb_⟩ := hX_
              replace r1 := rangeAt_keep r1 (hb_.block b1 hb9)
              replace hb9 := Nat.lt_of_lt_of_le hb9 hb_.size
              replace hS := hS.keep hb_
              replace hw := Below.after hw hb_
              clear hb_
              refine hK _ _ r1 ?_
              simp only [Act.put, List.getElem_toArray, List.getElem_cons_succ, List.getElem_cons_zero, List.setIfInBounds_toArray, List.set_cons_succ, List.set_cons_zero]
              clear hK
              refine wpAnyH_take (i := 18) (v := ?v62) rfl (by kernel_rfl) (by kernel_rfl) (by kernel_rfl) (fun _ _ _ h => h) (Or.inl ⟨by rfl, ?y62⟩) r1 ?r62
              case y62 =>
                intro w_ hS_
                go_simp
                try with_reducible rfl
              simp only [Act.put, List.getElem_toArray, List.getElem_cons_succ, List.getElem_cons_zero, List.setIfInBounds_toArray, List.set_cons_succ, List.set_cons_zero]
              refine wpAnyH_take (i := 19) (v := ?v63) rfl (by kernel_rfl) (by kernel_rfl) (by kernel_rfl) (fun _ _ _ h => h) (Or.inl ⟨by rfl, ?y63⟩) r1 ?r63
              case y63 =>
                intro w_ hS_
                go_simp
                try with_reducible rfl
              simp only [Act.put, List.getElem_toArray, List.getElem_cons_succ, List.getElem_cons_zero, List.setIfInBounds_toArray, List.set_cons_succ, List.set_cons_zero]
              refine wpAnyH_done (by kernel_rfl) ?_ _
              refine NoPanic.normal ?_
              rw [Bool.false_or, Bool.false_or] at htk
              go_wp2_with (fail)
              refine ⟨⟨k + 1, by omega, by go_num, by rw [htk.out], hS, hw⟩, ?_⟩
              simp [intOf]; omega
            · rw [hB1] at htk
              simp only [hB1] at c1
              clear hB1 c2
              go_wp2_with (fail)
              have hbd : Below wr.heap.size wr wr.drew := below_drN (Below.refl _ _) 1
              have hb9 : b1 < wr.drew.heap.size := Nat.lt_of_lt_of_le (Nat.lt_of_lt_of_le hb1 hw.size) hbd.size
              replace r1 := rangeAt_keep r1 (hbd.block b1 (Nat.lt_of_lt_of_le hb1 hw.size))
              replace hS := hS.keep hbd
              replace hw := Below.after hw hbd
              clear hbd
              refine wp_region_noPanic ?_
              refine wp_region_held (S := fun W => W.rangeAt b1 (o1 + k * 65) (srl (gs q k))) (by kernel_rfl) ?_
              change wpAnyH _ _ _ _ _ _ _ _ (World.drew _)
              generalize wr.drew = w1 at *
              refine wpAnyH_take (i := 0) (v := ?v28) rfl (by kernel_rfl) (by kernel_rfl) (by kernel_rfl) (fun _ _ _ h => h) (Or.inl ⟨by rfl, ?y28⟩) r1 ?r28
              case y28 =>
                intro w_ hS_
                go_simp
                try with_reducible rfl
              simp only [Act.put, List.getElem_toArray, List.getElem_cons_zero, List.setIfInBounds_toArray, List.set_cons_succ, List.set_cons_zero]
              refine wpAnyH_take (i := 1) (v := ?v29) rfl (by kernel_rfl) (by kernel_rfl) (by kernel_rfl) (fun _ _ _ h => h) (Or.inl ⟨by rfl, ?y29⟩) r1 ?r29
              case y29 =>
                intro w_ hS_
                go_simp
                try with_reducible rfl
              simp only [Act.put, List.getElem_toArray, List.getElem_cons_succ, List.getElem_cons_zero, List.setIfInBounds_toArray, List.set_cons_succ, List.set_cons_zero]
              refine wpAnyH_take (i := 2) (v := ?v30) rfl (by kernel_rfl) (by kernel_rfl) (by kernel_rfl) (fun _ _ _ h => h) (Or.inl ⟨by rfl, ?y30⟩) r1 ?r30
              case y30 =>
                intro w_ hS_
                go_simp
                try with_reducible rfl
              simp only [Act.put, List.getElem_toArray, List.getElem_cons_succ, List.getElem_cons_zero, List.setIfInBounds_toArray, List.set_cons_succ, List.set_cons_zero]
              refine wpAnyH_take (i := 3) (v := ?v31) rfl (by kernel_rfl) (by kernel_rfl) (by kernel_rfl) (fun _ _ _ h => h) (Or.inl ⟨by rfl, ?y31⟩) r1 ?r31
              case y31 =>
                intro w_ hS_
                go_simp
                try with_reducible rfl
              simp only [Act.put, List.getElem_toArray, List.getElem_cons_succ, List.getElem_cons_zero, List.setIfInBounds_toArray, List.set_cons_succ, List.set_cons_zero]
              refine wpAnyH_take (i := 4) (v := ?v32) rfl (by kernel_rfl) (by kernel_rfl) (by kernel_rfl) (fun _ _ _ h => h) (Or.inl ⟨by rfl, ?y32⟩) r1 ?r32
              case y32 =>
                intro w_ hS_
                go_simp
                try with_reducible rfl
              simp only [Act.put, List.getElem_toArray, List.getElem_cons_succ, List.getElem_cons_zero, List.setIfInBounds_toArray, List.set_cons_succ, List.set_cons_zero]
              refine wpAnyH_take (i := 5) (v := ?v33) rfl (by kernel_rfl) (by kernel_rfl) (by kernel_rfl) (fun _ _ _ h => h) (Or.inl ⟨by rfl, ?y33⟩) r1 ?r33
              case y33 =>
                intro w_ hS_
                go_simp
                try with_reducible rfl
              simp only [Act.put, List.getElem_toArray, List.getElem_cons_succ, List.getElem_cons_zero, List.setIfInBounds_toArray, List.set_cons_succ, List.set_cons_zero]
              refine wpAnyH_take (i := 6) (v := .agg (srow (gs q k))) rfl (by kernel_rfl) (by kernel_rfl) (by kernel_rfl) (fun _ _ _ h => h) (Or.inl ⟨by rfl, ?y34⟩) r1 ?r34
              case y34 =>
                intro w_ hS_
                simp only [List.getElem_toArray, List.getElem_cons_succ, List.getElem_cons_zero]
                exact run_load_range 60 _ (by rfl) b1 (o1 + k * 65) (by rfl) (srl (gs q k)) _ hS_ Try.underlying60 rfl (infoSl ok1)
              simp only [Act.put, List.getElem_toArray, List.getElem_cons_succ, List.getElem_cons_zero, List.setIfInBounds_toArray, List.set_cons_succ, List.set_cons_zero]
              refine wpAnyH_one (k := 7) (fuel := 12) (by kernel_rfl) rfl (by rfl) (fun K_ hK => ?_)
              refine wp_call_ex (f := 24) (R := fun v_ w_ => v_ = .bool true ∧ Below w1.heap.size w1 w_) (by kernel_rfl) ((c1 w1 hw).mono (fun e_ w_ h_ => ⟨_, h_.1, rfl, h_.2⟩)) (fun v_ w2 hX_ => ?_)
              obtain ⟨rfl, hb_⟩ := hX_
              replace r1 := rangeAt_keep r1 (hb_.block b1 hb9)
              replace hb9 := Nat.lt_of_lt_of_le hb9 hb_.size
              replace hS := hS.keep hb_
              replace hw := Below.after hw hb_
              clear hb_
              refine hK _ _ r1 ?_
              simp only [Act.put, List.getElem_toArray, List.getElem_cons_succ, List.getElem_cons_zero, List.setIfInBounds_toArray, List.set_cons_succ, List.set_cons_zero]
              clear hK
              refine wpAnyH_take (i := 8) (v := ?v35) rfl (by kernel_rfl) (by kernel_rfl) (by kernel_rfl) (fun _ _ _ h => h) (Or.inl ⟨by rfl, ?y35⟩) r1 ?r35
              case y35 =>
                intro w_ hS_
                go_simp
                try with_reducible rfl
              simp only [Act.put, List.getElem_toArray, List.getElem_cons_succ, List.getElem_cons_zero, List.setIfInBounds_toArray, List.set_cons_succ, List.set_cons_zero]
              refine wpAnyH_take (i := 9) (v := ?v36) rfl (by kernel_rfl) (by kernel_rfl) (by kernel_rfl) (fun _ _ _ h => h) (Or.inl ⟨by rfl, ?y36⟩) r1 ?r36
              case y36 =>
                intro w_ hS_
                go_simp
                try with_reducible rfl
              simp only [Act.put, List.getElem_toArray, List.getElem_cons_succ, List.getElem_cons_zero, List.setIfInBounds_toArray, List.set_cons_succ, List.set_cons_zero]
              refine wpAnyH_take (i := 10) (v := undef) rfl (by kernel_rfl) (by kernel_rfl) (by kernel_rfl) (fun _ _ _ h => h) (Or.inr ⟨by rfl, rfl⟩) r1 ?r37
              simp only [Act.put, List.getElem_toArray, List.getElem_cons_succ, List.getElem_cons_zero, List.setIfInBounds_toArray, List.set_cons_succ, List.set_cons_zero]
              refine wpAnyH_take (i := 11) (v := undef) rfl (by kernel_rfl) (by kernel_rfl) (by kernel_rfl) (fun _ _ _ h => h) (Or.inr ⟨by rfl, rfl⟩) r1 ?r38
              simp only [Act.put, List.getElem_toArray, List.getElem_cons_succ, List.getElem_cons_zero, List.setIfInBounds_toArray, List.set_cons_succ, List.set_cons_zero]
              refine wpAnyH_take (i := 12) (v := undef) rfl (by kernel_rfl) (by kernel_rfl) (by kernel_rfl) (fun _ _ _ h => h) (Or.inr ⟨by rfl, rfl⟩) r1 ?r39
              simp only [Act.put, List.getElem_toArray, List.getElem_cons_succ, List.getElem_cons_zero, List.setIfInBounds_toArray, List.set_cons_succ, List.set_cons_zero]
              refine wpAnyH_take (i := 13) (v := undef) rfl (by kernel_rfl) (by kernel_rfl) (by kernel_rfl) (fun _ _ _ h => h) (Or.inr ⟨by rfl, rfl⟩) r1 ?r40
              simp only [Act.put, List.getElem_toArray, List.getElem_cons_succ, List.getElem_cons_zero, List.setIfInBounds_toArray, List.set_cons_succ, List.set_cons_zero]
              refine wpAnyH_take (i := 14) (v := undef) rfl (by kernel_rfl) (by kernel_rfl) (by kernel_rfl) (fun _ _ _ h => h) (Or.inr ⟨by rfl, rfl⟩) r1 ?r41
              simp only [Act.put, List.getElem_toArray, List.getElem_cons_succ, List.getElem_cons_zero, List.setIfInBounds_toArray, List.set_cons_succ, List.set_cons_zero]
              refine wpAnyH_take (i := 15) (v := undef) rfl (by kernel_rfl) (by kernel_rfl) (by kernel_rfl) (fun _ _ _ h => h) (Or.inr ⟨by rfl, rfl⟩) r1 ?r42
              simp only [Act.put, List.getElem_toArray, List.getElem_cons_succ, List.getElem_cons_zero, List.setIfInBounds_toArray, List.set_cons_succ, List.set_cons_zero]
              refine wpAnyH_take (i := 16) (v := undef) rfl (by kernel_rfl) (by kernel_rfl) (by kernel_rfl) (fun _ _ _ h => h) (Or.inr ⟨by rfl, rfl⟩) r1 ?r43
              simp only [Act.put, List.getElem_toArray, List.getElem_cons_succ, List.getElem_cons_zero, List.setIfInBounds_toArray, List.set_cons_succ, List.set_cons_zero]
              refine wpAnyH_skip (k := 17) (fuel := 2) (by kernel_rfl) rfl (by rfl) r1 ?_
              simp only [Act.put, List.getElem_toArray, List.getElem_cons_succ, List.getElem_cons_zero, List.setIfInBounds_toArray, List.set_cons_succ, List.set_cons_zero]
              refine wpAnyH_take (i := 18) (v := ?v44) rfl (by kernel_rfl) (by kernel_rfl) (by kernel_rfl) (fun _ _ _ h => h) (Or.inl ⟨by rfl, ?y44⟩) r1 ?r44
              case y44 =>
                intro w_ hS_
                go_simp
                try with_reducible rfl
              simp only [Act.put, List.getElem_toArray, List.getElem_cons_succ, List.getElem_cons_zero, List.setIfInBounds_toArray, List.set_cons_succ, List.set_cons_zero]
              refine wpAnyH_take (i := 19) (v := ?v45) rfl (by kernel_rfl) (by kernel_rfl) (by kernel_rfl) (fun _ _ _ h => h) (Or.inl ⟨by rfl, ?y45⟩) r1 ?r45
              case y45 =>
                intro w_ hS_
                go_simp
                try with_reducible rfl
              simp only [Act.put, List.getElem_toArray, List.getElem_cons_succ, List.getElem_cons_zero, List.setIfInBounds_toArray, List.set_cons_succ, List.set_cons_zero]
              refine wpAnyH_done (by kernel_rfl) ?_ _
              refine NoPanic.normal ?_
              rw [Bool.or_true, Bool.true_or] at htk
              go_wp2_with (fail)
              refine ⟨⟨k + 1, by omega, by go_num, by rw [htk.out], hS, hw⟩, ?_⟩
              simp [intOf]; omega
          · clear c1 c2
            go_wp2_with (fail)
            have hbd : Below wr.heap.size wr wr.drew := below_drN (Below.refl _ _) 1
            replace r1 := rangeAt_keep r1 (hbd.block b1 (Nat.lt_of_lt_of_le hb1 hw.size))
            replace hS := hS.keep hbd
            replace hw := Below.after hw hbd
            clear hbd
            refine wp_region_noPanic ?_
            refine wp_region_held (S := fun W => W.rangeAt b1 (o1 + k * 65) (srl (gs q k))) (by kernel_rfl) ?_
            change wpAnyH _ _ _ _ _ _ _ _ (World.drew _)
            generalize wr.drew = w1 at *
            refine wpAnyH_take (i := 0) (v := ?v10) rfl (by kernel_rfl) (by kernel_rfl) (by kernel_rfl) (fun _ _ _ h => h) (Or.inl ⟨by rfl, ?y10⟩) r1 ?r10
            case y10 =>
              intro w_ hS_
              go_simp
              try with_reducible rfl
            simp only [Act.put, List.getElem_toArray, List.getElem_cons_zero, List.setIfInBounds_toArray, List.set_cons_succ, List.set_cons_zero]
            refine wpAnyH_take (i := 1) (v := ?v11) rfl (by kernel_rfl) (by kernel_rfl) (by kernel_rfl) (fun _ _ _ h => h) (Or.inl ⟨by rfl, ?y11⟩) r1 ?r11
            case y11 =>
              intro w_ hS_
              go_simp
              try with_reducible rfl
            simp only [Act.put, List.getElem_toArray, List.getElem_cons_succ, List.getElem_cons_zero, List.setIfInBounds_toArray, List.set_cons_succ, List.set_cons_zero]
            refine wpAnyH_take (i := 2) (v := undef) rfl (by kernel_rfl) (by kernel_rfl) (by kernel_rfl) (fun _ _ _ h => h) (Or.inr ⟨by rfl, rfl⟩) r1 ?r12
            simp only [Act.put, List.getElem_toArray, List.getElem_cons_succ, List.getElem_cons_zero, List.setIfInBounds_toArray, List.set_cons_succ, List.set_cons_zero]
            refine wpAnyH_take (i := 3) (v := undef) rfl (by kernel_rfl) (by kernel_rfl) (by kernel_rfl) (fun _ _ _ h => h) (Or.inr ⟨by rfl, rfl⟩) r1 ?r13
            simp only [Act.put, List.getElem_toArray, List.getElem_cons_succ, List.getElem_cons_zero, List.setIfInBounds_toArray, List.set_cons_succ, List.set_cons_zero]
            refine wpAnyH_take (i := 4) (v := undef) rfl (by kernel_rfl) (by kernel_rfl) (by kernel_rfl) (fun _ _ _ h => h) (Or.inr ⟨by rfl, rfl⟩) r1 ?r14
            simp only [Act.put, List.getElem_toArray, List.getElem_cons_succ, List.getElem_cons_zero, List.setIfInBounds_toArray, List.set_cons_succ, List.set_cons_zero]
            refine wpAnyH_take (i := 5) (v := undef) rfl (by kernel_rfl) (by kernel_rfl) (by kernel_rfl) (fun _ _ _ h => h) (Or.inr ⟨by rfl, rfl⟩) r1 ?r15
            simp only [Act.put, List.getElem_toArray, List.getElem_cons_succ, List.getElem_cons_zero, List.setIfInBounds_toArray, List.set_cons_succ, List.set_cons_zero]
            refine wpAnyH_take (i := 6) (v := undef) rfl (by kernel_rfl) (by kernel_rfl) (by kernel_rfl) (fun _ _ _ h => h) (Or.inr ⟨by rfl, rfl⟩) r1 ?r16
            simp only [Act.put, List.getElem_toArray, List.getElem_cons_succ, List.getElem_cons_zero, List.setIfInBounds_toArray, List.set_cons_succ, List.set_cons_zero]
            refine wpAnyH_skip (k := 7) (fuel := 12) (by kernel_rfl) rfl (by rfl) r1 ?_
            simp only [Act.put, List.getElem_toArray, List.getElem_cons_succ, List.getElem_cons_zero, List.setIfInBounds_toArray, List.set_cons_succ, List.set_cons_zero]
            refine wpAnyH_take (i := 8) (v := ?v17) rfl (by kernel_rfl) (by kernel_rfl) (by kernel_rfl) (fun _ _ _ h => h) (Or.inl ⟨by rfl, ?y17⟩) r1 ?r17
            case y17 =>
              intro w_ hS_
              go_simp
              try with_reducible rfl
            simp only [Act.put, List.getElem_toArray, List.getElem_cons_succ, List.getElem_cons_zero, List.setIfInBounds_toArray, List.set_cons_succ, List.set_cons_zero]
            refine wpAnyH_take (i := 9) (v := ?v18) rfl (by kernel_rfl) (by kernel_rfl) (by kernel_rfl) (fun _ _ _ h => h) (Or.inl ⟨by rfl, ?y18⟩) r1 ?r18
            case y18 =>
              intro w_ hS_
              go_simp
              try with_reducible rfl
            simp only [Act.put, List.getElem_toArray, List.getElem_cons_succ, List.getElem_cons_zero, List.setIfInBounds_toArray, List.set_cons_succ, List.set_cons_zero]
            refine wpAnyH_take (i := 10) (v := undef) rfl (by kernel_rfl) (by kernel_rfl) (by kernel_rfl) (fun _ _ _ h => h) (Or.inr ⟨by rfl, rfl⟩) r1 ?r19
            simp only [Act.put, List.getElem_toArray, List.getElem_cons_succ, List.getElem_cons_zero, List.setIfInBounds_toArray, List.set_cons_succ, List.set_cons_zero]
            refine wpAnyH_take (i := 11) (v := undef) rfl (by kernel_rfl) (by kernel_rfl) (by kernel_rfl) (fun _ _ _ h => h) (Or.inr ⟨by rfl, rfl⟩) r1 ?r20
            simp only [Act.put, List.getElem_toArray, List.getElem_cons_succ, List.getElem_cons_zero, List.setIfInBounds_toArray, List.set_cons_succ, List.set_cons_zero]
            refine wpAnyH_take (i := 12) (v := undef) rfl (by kernel_rfl) (by kernel_rfl) (by kernel_rfl) (fun _ _ _ h => h) (Or.inr ⟨by rfl, rfl⟩) r1 ?r21
            simp only [Act.put, List.getElem_toArray, List.getElem_cons_succ, List.getElem_cons_zero, List.setIfInBounds_toArray, List.set_cons_succ, List.set_cons_zero]
            refine wpAnyH_take (i := 13) (v := undef) rfl (by kernel_rfl) (by kernel_rfl) (by kernel_rfl) (fun _ _ _ h => h) (Or.inr ⟨by rfl, rfl⟩) r1 ?r22
            simp only [Act.put, List.getElem_toArray, List.getElem_cons_succ, List.getElem_cons_zero, List.setIfInBounds_toArray, List.set_cons_succ, List.set_cons_zero]
            refine wpAnyH_take (i := 14) (v := undef) rfl (by kernel_rfl) (by kernel_rfl) (by kernel_rfl) (fun _ _ _ h => h) (Or.inr ⟨by rfl, rfl⟩) r1 ?r23
            simp only [Act.put, List.getElem_toArray, List.getElem_cons_succ, List.getElem_cons_zero, List.setIfInBounds_toArray, List.set_cons_succ, List.set_cons_zero]
            refine wpAnyH_take (i := 15) (v := undef) rfl (by kernel_rfl) (by kernel_rfl) (by kernel_rfl) (fun _ _ _ h => h) (Or.inr ⟨by rfl, rfl⟩) r1 ?r24
            simp only [Act.put, List.getElem_toArray, List.getElem_cons_succ, List.getElem_cons_zero, List.setIfInBounds_toArray, List.set_cons_succ, List.set_cons_zero]
            refine wpAnyH_take (i := 16) (v := undef) rfl (by kernel_rfl) (by kernel_rfl) (by kernel_rfl) (fun _ _ _ h => h) (Or.inr ⟨by rfl, rfl⟩) r1 ?r25
            simp only [Act.put, List.getElem_toArray, List.getElem_cons_succ, List.getElem_cons_zero, List.setIfInBounds_toArray, List.set_cons_succ, List.set_cons_zero]
            refine wpAnyH_skip (k := 17) (fuel := 2) (by kernel_rfl) rfl (by rfl) r1 ?_
            simp only [Act.put, List.getElem_toArray, List.getElem_cons_succ, List.getElem_cons_zero, List.setIfInBounds_toArray, List.set_cons_succ, List.set_cons_zero]
            refine wpAnyH_take (i := 18) (v := ?v26) rfl (by kernel_rfl) (by kernel_rfl) (by kernel_rfl) (fun _ _ _ h => h) (Or.inl ⟨by rfl, ?y26⟩) r1 ?r26
            case y26 =>
              intro w_ hS_
              go_simp
              try with_reducible rfl
            simp only [Act.put, List.getElem_toArray, List.getElem_cons_succ, List.getElem_cons_zero, List.setIfInBounds_toArray, List.set_cons_succ, List.set_cons_zero]
            refine wpAnyH_take (i := 19) (v := ?v27) rfl (by kernel_rfl) (by kernel_rfl) (by kernel_rfl) (fun _ _ _ h => h) (Or.inl ⟨by rfl, ?y27⟩) r1 ?r27
            case y27 =>
              intro w_ hS_
              go_simp
              try with_reducible rfl
            simp only [Act.put, List.getElem_toArray, List.getElem_cons_succ, List.getElem_cons_zero, List.setIfInBounds_toArray, List.set_cons_succ, List.set_cons_zero]
            refine wpAnyH_done (by kernel_rfl) ?_ _
            refine NoPanic.normal ?_
            rw [Bool.true_or, Bool.true_or] at htk
            go_wp2_with (fail)
            refine ⟨⟨k + 1, by omega, by go_num, by rw [htk.out], hS, hw⟩, ?_⟩
            simp [intOf]; omega
        · obtain rfl : k = q.length := by omega
          have hd : decide ((q.length : Int) < (q.length : Int)) = false := by simp
          rw [twc_mts hS.nod q.length (Nat.le_refl _), List.take_length]
          have cP := a_Put w1.heap.size g b v most l q _ wr hS hw.size (fun V hV => hq.keep (Below.trans hw (hS.below hV hw.size)))
          have hl1 : Hid (∀ V, Below w1.heap.size w1 V → SpL V (.slice al l.length cl) l) := hide (fun V h => hl.keep h)
          have hq1 : Hid (∀ V, Below w1.heap.size w1 V → SpL V (.slice aq q.length cq) q) := hide (fun V h => hq.keep h)
          unfold pl at cP
          cases hmm : mts l q
          · rcases Int.lt_or_le (most - l.length) q.length with hlt2 | hlt2
            · have hpe : pe l q most = 120 := by unfold pe; rw [if_neg (by rw [hmm]; decide), if_pos hlt2]
              rw [hpe, if_neg (by decide)] at cP
              clear hpe hmm
              have hds : decide ((l.length : Int) + (q.length : Int) > most) = true := by simp; omega
              have hsm2 : (l.length : Int) + (q.length : Int) ≤ 9223372036854775807 := by omega
              go_wp2_with (fail)
              refine cP.mono ?_
              rintro e_ w5 ⟨v', rfl, hS2, hf, _⟩
              replace hw := Below.trans hw (hS.below hf hw.size)
              clear cP hf hS hq
              go_wp2_with (fail)
              refine (a_List w1.heap.size g b v' most l w5 hS2).mono ?_
              rintro e_ w6 ⟨u, rfl, hO, hb⟩
              replace hw := Below.after hw hb
              clear hb hS2
              have cS := l_same l l w6 u _ (hO.spl (by omega)) (hl.keep hw)
              have hdt : decide (l = l) = true := by simp
              rw [hdt] at cS
              clear hdt
              go_wp2_with (fail)
              refine cS.mono ?_
              rintro e_ w7 ⟨rfl, hb⟩
              replace hw := Below.after hw hb
              clear hb cS
              go_wp2_with (fail)
              go_ret
              exact ⟨rfl, Below.after hw1 hw⟩
            · have hpe : pe l q most = 0 := by unfold pe; rw [if_neg (by rw [hmm]; decide), if_neg (by omega)]
              rw [hpe, if_pos rfl] at cP
              clear hpe hmm
              have hds : decide ((l.length : Int) + (q.length : Int) > most) = false := by simp; omega
              have hsm2 : (l.length : Int) + (q.length : Int) ≤ 9223372036854775807 := by omega
              go_wp2_with (fail)
              refine cP.mono ?_
              rintro e_ w5 ⟨v', rfl, hS2, hf, _⟩
              replace hw := Below.trans hw (hS.below hf hw.size)
              clear cP hf hS hq hl
              go_wp2_with (fail)
              refine (a_List w1.heap.size g b v' most (l ++ q) w5 hS2).mono ?_
              rintro e_ w6 ⟨u, rfl, hO, hb⟩
              replace hw := Below.after hw hb
              clear hb hS2
              have hE := own_empS w6
              have hb6 : Below w6.heap.size w6 (w6.alloc (.cells #[] 60)) := (Below.refl _ _).alloc (Nat.le_refl _) _
              have hw7 := Below.after hw hb6
              go_wp2_with (first | (refine wpList_bsl0 rfl 38 rfl (run_bsl0 w6) ?_) | (at_builtin; refine wpList_append_Sw rfl _ _ rfl w6.heap.size _ [] rfl hE _ l rfl (hl1.out _ hw7) (by simp; omega) hb6.size ?_) | fail)
              intro u7 w7 hO7 hg7 hx7
              have hw8 : Below w1.heap.size w1 w7 := hw7.grown hg7 hw7.size (fun k e => by have := (hE.1.lt k e).1; have := hw.size; omega)
              have hb7 : Below w6.heap.size w6 w7 := hb6.grown hg7 hb6.size (fun k e => (hE.1.lt k e).1)
              clear hg7 hx7 hE hw7 hb6
              go_wp2_with (first | (at_builtin; refine wpList_append_Sw rfl _ _ rfl w6.heap.size _ l rfl hO7 _ q rfl (hq1.out _ hw8) (by omega) hb7.size ?_) | fail)
              intro u8 w8 hO8 hg8 hx8
              have hw9 : Below w1.heap.size w1 w8 := hw8.grown hg8 hw8.size (fun k e => by have := (hO7.1.lt k e).1; have := hw.size; omega)
              have hb8 : Below w6.heap.size w6 w8 := hb7.grown hg8 hb7.size (fun k e => (hO7.1.lt k e).1)
              have cS := l_same (l ++ q) (l ++ q) w8 u u8 ((hO.keep hb8).spl (by rw [List.length_append]; omega)) (hO8.spl (by rw [List.length_append]; omega))
              have hdt : decide (l ++ q = l ++ q) = true := by simp
              rw [hdt] at cS
              clear hdt hO7 hb7 hw8 hO hO8 hg8 hx8 hb8
              go_wp2_with (fail)
              refine cS.mono ?_
              rintro e_ w9 ⟨rfl, hb⟩
              replace hw := Below.after hw9 hb
              clear hb cS hw9
              go_wp2_with (fail)
              go_ret
              exact ⟨rfl, Below.after hw1 hw⟩
          · have hpe : pe l q most = 121 := by unfold pe; rw [if_pos hmm]
            rw [hpe, if_neg (by decide)] at cP
            clear hpe hmm
            go_wp2_with (fail)
            refine cP.mono ?_
            rintro e_ w5 ⟨v', rfl, hS2, hf, _⟩
            replace hw := Below.trans hw (hS.below hf hw.size)
            clear cP hf hS hq
            go_wp2_with (fail)
            refine (a_List w1.heap.size g b v' most l w5 hS2).mono ?_
            rintro e_ w6 ⟨u, rfl, hO, hb⟩
            replace hw := Below.after hw hb
            clear hb hS2
            have cS := l_same l l w6 u _ (hO.spl (by omega)) (hl.keep hw)
            have hdt : decide (l = l) = true := by simp
            rw [hdt] at cS
            clear hdt
            go_wp2_with (fail)
            refine cS.mono ?_
            rintro e_ w7 ⟨rfl, hb⟩
            replace hw := Below.after hw hb
            clear hb cS
            go_wp2_with (fail)
            go_ret
            exact ⟨rfl, Below.after hw1 hw⟩
    · have hne : pe [] l most ≠ 0 := by omega
      have cF := fun W (h : Below w.heap.size w W) => a_From_no most m0 m1 l v1 W (hl.keep h) _ rfl hne
      generalize pe [] l most = E at *
      have hd0 : decide (E = 0) = false := by simpa using hne
      clear h
      go_enter Try.func6, Try.ntmps6
      go_wp2_with (fail)
      refine (l_lives w).mono ?_
      rintro e_ w1 ⟨rfl, hw⟩
      go_wp2_with (fail)
      refine (cF w1 hw).mono ?_
      rintro e_ w2 ⟨rfl, hb⟩
      replace hw := Below.after hw hb
      go_wp2_with (fail)
      go_ret
      exact ⟨rfl, hw⟩

end Go.Proofs.Ytebgdenfaiinmaa
