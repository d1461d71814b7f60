import Derived.Test.YtebgdenfaiinmaaProg
import Derived.WalkKit
import Derived.WalkSpells
import Derived.WalkLawsBesides
import Derived.Lib.QuietBelow
import Derived.BigQuiet
import Derived.OrdersHeld
import Derived.Deep.RegionHeld3
import Derived.OwnWalk
import Derived.Test.YtebgdenfaiinmaaKit
import Derived.Test.YtebgdenfaiinmaaSqb
namespace Go.Proofs.Ytebgdenfaiinmaa
open Go Go.RowKit Go.Sort Go.ChangeMaps Go.MapKept
attribute [local go_sem] setCell_drewN alloc_drewN

theorem ecut {G : Prop} {A : Nat → World → Prop} (T : Nat → World → Prop) (h1 : (∀ g W, T g W → A g W) → G) (h2 : ∀ g W, T g W → A g W) : G := h1 h2
theorem split_at {l : List Sr} {k : Nat} (hk : k < l.length) : l = l.take k ++ (gs l k :: l.drop (k + 1)) := by
  have h1 : l.take (k + 1) ++ l.drop (k + 1) = l := List.take_append_drop _ _
  rw [take_snocS l k hk, List.append_assoc] at h1
  exact h1.symm
theorem not_before {l : List Sr} (nd : (l.map Sr.lb).Nodup) {k : Nat} (hk : k < l.length) : (gs l k).lb ∉ (l.take k).map Sr.lb := by
  intro hm
  have e := split_at hk
  rw [e, List.map_append, List.nodup_append] at nd
  have hx : (gs (l.take k ++ (gs l k :: l.drop (k + 1))) k) = gs l k := by rw [← e]
  exact nd.2.2 _ hm _ (by rw [List.map_cons]; exact List.mem_cons_self) rfl
theorem gs_mem_take {l : List Sr} {j k : Nat} (hj : j < k) (hk : k < l.length) : gs l j ∈ l.take k := by
  have h : gs (l.take k) j = gs l j := by simp [gs, List.getD_eq_getElem?_getD, hj]
  rw [← h]
  exact gs_mem (by rw [List.length_take]; omega)
theorem mt_before {l : List Sr} (nd : (l.map Sr.lb).Nodup) {j k : Nat} (hj : j < k) (hk : k < l.length) : mt (gs l k) (gs l j) = false := by
  rw [mt_lb, decide_eq_false_iff_not]
  intro e
  exact not_before nd hk (by rw [e]; exact List.mem_map.2 ⟨_, gs_mem_take hj hk, rfl⟩)
theorem fnd_self {l : List Sr} (nd : (l.map Sr.lb).Nodup) {k : Nat} (hk : k < l.length) : fnd l ((gs l k).h, (gs l k).n) = some (gs l k) := by
  have h : plc ((gs l k).h, (gs l k).n) (l.map Sr.lb) = some k := plc_here hk ((plc_none _ _).2 (not_before nd hk)) rfl
  rw [fnd, h]; rfl
set_option maxRecDepth 100000 in
set_option maxHeartbeats 4000000 in
theorem l_plain (base g b : Nat) (v : Value) (most : Int) (l : List Sr) (w : World) (hS : Sto w base g b v most l) : Calls Try.prog 23 #[.pointer (some ⟨g, 0, none⟩), .int .i64 most] w fun e w' => e = .returned (.bool true) ∧ Below w.heap.size w w' := by
  have hok := hS.ok
  have hm0 := hS.most0
  have hln := hS.len
  have nd := hS.nod
  have hd1 : decide ((l.length : Int) > most) = false := by simp; omega
  go_enter Try.func23, Try.ntmps23
  go_wp2_with (fail)
  refine (a_List base g b v most l w hS).mono ?_
  rintro e_ w1 ⟨u1, rfl, hO, hb0⟩
  replace hS := hS.keep hb0
  obtain ⟨ao, cap, rfl⟩ := slen_own hO.1
  go_wp2_with (fail)
  refine (a_Len base g b v most l w1 hS).mono ?_
  rintro e_ w_ ⟨rfl, h_⟩
  subst w_
  go_wp2_with (fail)
  refine (a_Len base g b v most l w1 hS).mono ?_
  rintro e_ w_ ⟨rfl, h_⟩
  subst w_
  go_wp2_with (fail)
  refine (a_Room base g b v most l w1 hS).mono ?_
  rintro e_ w2 ⟨rfl, hb⟩
  replace hS := hS.keep hb
  replace hO := hO.keep hb
  replace hb0 := Below.after hb0 hb
  clear hb
  go_wp2_with (fail)
  refine (a_Len base g b v most l w2 hS).mono ?_
  rintro e_ w_ ⟨rfl, h_⟩
  subst w_
  go_wp2_with (fail)
  have hspl := hO.spl (by omega)
  go_loopw [6, 7] (fun u6 i wr => ∃ k : Nat, k ≤ l.length ∧ i = .int .i64 k ∧ OwnK wr w2.heap.size u6 (hdn l k) ∧ Below w2.heap.size w2 wr) (fun _ i _ => l.length - (intOf i).toNat)
  case atStart => exact ⟨0, by omega, rfl, ⟨rfl, .inl ⟨rfl, rfl⟩⟩, Below.refl _ _⟩
  case round =>
    obtain ⟨k, hk, rfl, hO6, hw⟩ := hrel
    by_cases hlt : k < l.length
    · have hd : decide ((k : Int) < (l.length : Int)) = true := by simp; omega
      obtain ⟨b1, o1, rfl, hb1, r0⟩ := hspl.at hlt
      have ok1 := hok.at hlt
      have hk1 : 0 ≤ (k : Int) ∧ (k : Int) < (l.length : Int) := by omega
      have ek : ∀ W, (Op.equalIn 10000 40 (.agg (irow .u8 (gs l k).m)) (.agg (irow .u8 (gs l k).m))).run Try.prog W = .ok true W := fun W => by rw [eq_key 9998 _ _ ok1.2 ok1.2 W]; simp
      have cF : ∀ W, Below w2.heap.size w2 W → Calls Try.prog 21 #[.pointer (some ⟨g, 0, none⟩), .agg (irow .u8 (gs l k).h), .int .u32 (gs l k).n] W fun e w' => ∃ v_, e = .returned v_ ∧ (v_ = .tuple #[.agg (irow .u8 (gs l k).m), .bool true] ∧ Below W.heap.size W w') := fun W h => by
        have c := a_Find base g b v most l (gs l k).h ok1.1 (gs l k).n W (hS.keep h)
        rw [fky, fnd_self nd hlt] at c
        exact c.mono (fun e w' q => ⟨_, q.1, rfl, q.2⟩)
      go_wp2_with (fail)
      go_loopw [8, 9] (fun sb ji wi => ∃ j : Nat, j ≤ k ∧ ji = .int .i64 j ∧ sb = .bool (shd l (gs l k).h j) ∧ OwnK wi w2.heap.size u6 (hdn l k) ∧ Below w2.heap.size w2 wi) (fun _ ji _ => k - (intOf ji).toNat)
      case atStart => exact ⟨0, by omega, rfl, rfl, hO6, hw⟩
      case round =>
        clear hO6 hw
        obtain ⟨j, hj, rfl, rfl, hO6, hw⟩ := hrel
        by_cases hlj : j < k
        · have hd2 : decide ((j : Int) < (k : Int)) = true := by simp; omega
          have okj := hok.at (show j < l.length by omega)
          have hj1 : 0 ≤ (j : Int) ∧ (j : Int) < (l.length : Int) := by omega
          have hmf := mt_before nd hlj hlt
          obtain ⟨b_, o_, e_, _, rj0⟩ := hspl.at (show j < l.length by omega)
          cases e_
          have htk : Hid (shd l (gs l k).h (j + 1) = (shd l (gs l k).h j || decide ((gs l j).h = (gs l k).h))) := hide rfl
          go_wp2_with (fail)
          have hbd : Below wr.heap.size wr wr.drew := below_drN (Below.refl _ _) 1
          replace hO6 := hO6.keep hbd
          replace hw := Below.after hw hbd
          clear hbd
          refine wp_region_noPanic ?_
          refine wp_region_held (S := fun W => W.rangeAt b1 (o1 + k * 65) (srl (gs l k)) ∧ W.rangeAt b1 (o1 + j * 65) (srl (gs l j))) (by kernel_rfl) ?_
          change wpAnyH _ _ _ _ _ _ _ _ (World.drew _)
          generalize wr.drew = x1 at *
          refine wpAnyH_take (i := 0) (v := ?v10) rfl (by kernel_rfl) (by kernel_rfl) (by kernel_rfl) (fun _ _ _ h => h) (Or.inl ⟨by rfl, ?y10⟩) ⟨rangeAt_keep r0 (hw.block b1 hb1), rangeAt_keep rj0 (hw.block b1 hb1)⟩ ?r10
          case y10 =>
            intro w_ hS_
            go_simp
            try with_reducible rfl
          simp only [Act.put, List.getElem_toArray, List.getElem_cons_zero, List.setIfInBounds_toArray, List.set_cons_succ, List.set_cons_zero]
          refine wpAnyH_take (i := 1) (v := ?v11) rfl (by kernel_rfl) (by kernel_rfl) (by kernel_rfl) (fun _ _ _ h => h) (Or.inl ⟨by rfl, ?y11⟩) ⟨rangeAt_keep r0 (hw.block b1 hb1), rangeAt_keep rj0 (hw.block b1 hb1)⟩ ?r11
          case y11 =>
            intro w_ hS_
            go_simp
            try with_reducible rfl
          simp only [Act.put, List.getElem_toArray, List.getElem_cons_succ, List.getElem_cons_zero, List.setIfInBounds_toArray, List.set_cons_succ, List.set_cons_zero]
          refine wpAnyH_take (i := 2) (v := ?v12) rfl (by kernel_rfl) (by kernel_rfl) (by kernel_rfl) (fun _ _ _ h => h) (Or.inl ⟨by rfl, ?y12⟩) ⟨rangeAt_keep r0 (hw.block b1 hb1), rangeAt_keep rj0 (hw.block b1 hb1)⟩ ?r12
          case y12 =>
            intro w_ hS_
            go_simp
            try with_reducible rfl
          simp only [Act.put, List.getElem_toArray, List.getElem_cons_succ, List.getElem_cons_zero, List.setIfInBounds_toArray, List.set_cons_succ, List.set_cons_zero]
          refine wpAnyH_take (i := 3) (v := .agg (srow (gs l k))) rfl (by kernel_rfl) (by kernel_rfl) (by kernel_rfl) (fun _ _ _ h => h) (Or.inl ⟨by rfl, ?y13⟩) ⟨rangeAt_keep r0 (hw.block b1 hb1), rangeAt_keep rj0 (hw.block b1 hb1)⟩ ?r13
          case y13 =>
            intro w_ hS_
            simp only [List.getElem_toArray, List.getElem_cons_succ, List.getElem_cons_zero]
            exact run_load_range 60 _ (by rfl) b1 (o1 + k * 65) (by rfl) (srl (gs l k)) _ hS_.1 Try.underlying60 rfl (infoSl ok1)
          simp only [Act.put, List.getElem_toArray, List.getElem_cons_succ, List.getElem_cons_zero, List.setIfInBounds_toArray, List.set_cons_succ, List.set_cons_zero]
          refine wpAnyH_take (i := 4) (v := ?v14) rfl (by kernel_rfl) (by kernel_rfl) (by kernel_rfl) (fun _ _ _ h => h) (Or.inl ⟨by rfl, ?y14⟩) ⟨rangeAt_keep r0 (hw.block b1 hb1), rangeAt_keep rj0 (hw.block b1 hb1)⟩ ?r14
          case y14 =>
            intro w_ hS_
            go_simp
            try with_reducible rfl
          simp only [Act.put, List.getElem_toArray, List.getElem_cons_succ, List.getElem_cons_zero, List.setIfInBounds_toArray, List.set_cons_succ, List.set_cons_zero]
          refine wpAnyH_take (i := 5) (v := ?v15) rfl (by kernel_rfl) (by kernel_rfl) (by kernel_rfl) (fun _ _ _ h => h) (Or.inl ⟨by rfl, ?y15⟩) ⟨rangeAt_keep r0 (hw.block b1 hb1), rangeAt_keep rj0 (hw.block b1 hb1)⟩ ?r15
          case y15 =>
            intro w_ hS_
            go_simp
            try with_reducible rfl
          simp only [Act.put, List.getElem_toArray, List.getElem_cons_succ, List.getElem_cons_zero, List.setIfInBounds_toArray, List.set_cons_succ, List.set_cons_zero]
          refine wpAnyH_take (i := 6) (v := ?v16) rfl (by kernel_rfl) (by kernel_rfl) (by kernel_rfl) (fun _ _ _ h => h) (Or.inl ⟨by rfl, ?y16⟩) ⟨rangeAt_keep r0 (hw.block b1 hb1), rangeAt_keep rj0 (hw.block b1 hb1)⟩ ?r16
          case y16 =>
            intro w_ hS_
            go_simp
            try with_reducible rfl
          simp only [Act.put, List.getElem_toArray, List.getElem_cons_succ, List.getElem_cons_zero, List.setIfInBounds_toArray, List.set_cons_succ, List.set_cons_zero]
          refine wpAnyH_take (i := 7) (v := .agg (srow (gs l j))) rfl (by kernel_rfl) (by kernel_rfl) (by kernel_rfl) (fun _ _ _ h => h) (Or.inl ⟨by rfl, ?y17⟩) ⟨rangeAt_keep r0 (hw.block b1 hb1), rangeAt_keep rj0 (hw.block b1 hb1)⟩ ?r17
          case y17 =>
            intro w_ hS_
            simp only [List.getElem_toArray, List.getElem_cons_succ, List.getElem_cons_zero]
            exact run_load_range 60 _ (by rfl) b1 (o1 + j * 65) (by rfl) (srl (gs l j)) _ hS_.2 Try.underlying60 rfl (infoSl okj)
          simp only [Act.put, List.getElem_toArray, List.getElem_cons_succ, List.getElem_cons_zero, List.setIfInBounds_toArray, List.set_cons_succ, List.set_cons_zero]
          refine wpAnyH_one (k := 8) (fuel := 0) (by kernel_rfl) rfl (by kernel_rfl) (fun K_ hK => ?_)
          refine wp_call_ex (f := 51) (R := fun v_ w_ => v_ = .bool false ∧ Below x1.heap.size x1 w_) (by kernel_rfl) ((l_meet (gs l k) (gs l j) ok1 okj x1).mono (fun e_ w_ h_ => ⟨_, h_.1, by rw [hmf], h_.2⟩)) (fun v_ x2 hX_ => ?_)
          obtain ⟨rfl, hb_⟩ := hX_
          replace hO6 := hO6.keep hb_
          replace hw := Below.after hw hb_
          clear hb_
          refine hK _ _ ⟨rangeAt_keep r0 (hw.block b1 hb1), rangeAt_keep rj0 (hw.block b1 hb1)⟩ ?_
          simp only [Act.put, List.getElem_toArray, List.getElem_cons_succ, List.getElem_cons_zero, List.setIfInBounds_toArray, List.set_cons_succ, List.set_cons_zero]
          clear hK
          refine wpAnyH_done (by kernel_rfl) ?_ _
          refine NoPanic.normal ?_
          go_wp2_with (fail)
          have hbd : Below x2.heap.size x2 x2.drew := below_drN (Below.refl _ _) 1
          replace hO6 := hO6.keep hbd
          replace hw := Below.after hw hbd
          clear hbd
          cases hsb : shd l (gs l k).h j
          · rw [hsb, Bool.false_or] at htk
            refine wp_region_noPanic ?_
            refine wp_region_held (S := fun W => W.rangeAt b1 (o1 + k * 65) (srl (gs l k)) ∧ W.rangeAt b1 (o1 + j * 65) (srl (gs l j))) (by kernel_rfl) ?_
            change wpAnyH _ _ _ _ _ _ _ _ (World.drew _)
            generalize x2.drew = x3 at *
            refine wpAnyH_take (i := 0) (v := ?v33) rfl (by kernel_rfl) (by kernel_rfl) (by kernel_rfl) (fun _ _ _ h => h) (Or.inl ⟨by rfl, ?y33⟩) ⟨rangeAt_keep r0 (hw.block b1 hb1), rangeAt_keep rj0 (hw.block b1 hb1)⟩ ?r33
            case y33 =>
              intro w_ hS_
              go_simp
              try with_reducible rfl
            simp only [Act.put, List.getElem_toArray, List.getElem_cons_zero, List.setIfInBounds_toArray, List.set_cons_succ, List.set_cons_zero]
            refine wpAnyH_take (i := 1) (v := ?v34) rfl (by kernel_rfl) (by kernel_rfl) (by kernel_rfl) (fun _ _ _ h => h) (Or.inl ⟨by rfl, ?y34⟩) ⟨rangeAt_keep r0 (hw.block b1 hb1), rangeAt_keep rj0 (hw.block b1 hb1)⟩ ?r34
            case y34 =>
              intro w_ hS_
              go_simp
              try with_reducible rfl
            simp only [Act.put, List.getElem_toArray, List.getElem_cons_succ, List.getElem_cons_zero, List.setIfInBounds_toArray, List.set_cons_succ, List.set_cons_zero]
            refine wpAnyH_take (i := 2) (v := ?v35) rfl (by kernel_rfl) (by kernel_rfl) (by kernel_rfl) (fun _ _ _ h => h) (Or.inl ⟨by rfl, ?y35⟩) ⟨rangeAt_keep r0 (hw.block b1 hb1), rangeAt_keep rj0 (hw.block b1 hb1)⟩ ?r35
            case y35 =>
              intro w_ hS_
              go_simp
              try with_reducible rfl
            simp only [Act.put, List.getElem_toArray, List.getElem_cons_succ, List.getElem_cons_zero, List.setIfInBounds_toArray, List.set_cons_succ, List.set_cons_zero]
            refine wpAnyH_take (i := 3) (v := ?v36) rfl (by kernel_rfl) (by kernel_rfl) (by kernel_rfl) (fun _ _ _ h => h) (Or.inl ⟨by rfl, ?y36⟩) ⟨rangeAt_keep r0 (hw.block b1 hb1), rangeAt_keep rj0 (hw.block b1 hb1)⟩ ?r36
            case y36 =>
              intro w_ hS_
              go_simp
              try with_reducible rfl
            simp only [Act.put, List.getElem_toArray, List.getElem_cons_succ, List.getElem_cons_zero, List.setIfInBounds_toArray, List.set_cons_succ, List.set_cons_zero]
            refine wpAnyH_take (i := 4) (v := ?v37) rfl (by kernel_rfl) (by kernel_rfl) (by kernel_rfl) (fun _ _ _ h => h) (Or.inl ⟨by rfl, ?y37⟩) ⟨rangeAt_keep r0 (hw.block b1 hb1), rangeAt_keep rj0 (hw.block b1 hb1)⟩ ?r37
            case y37 =>
              intro w_ hS_
              go_simp
              try with_reducible rfl
            simp only [Act.put, List.getElem_toArray, List.getElem_cons_succ, List.getElem_cons_zero, List.setIfInBounds_toArray, List.set_cons_succ, List.set_cons_zero]
            refine wpAnyH_take (i := 5) (v := ?v38) rfl (by kernel_rfl) (by kernel_rfl) (by kernel_rfl) (fun _ _ _ h => h) (Or.inl ⟨by rfl, ?y38⟩) ⟨rangeAt_keep r0 (hw.block b1 hb1), rangeAt_keep rj0 (hw.block b1 hb1)⟩ ?r38
            case y38 =>
              intro w_ hS_
              go_simp
              try with_reducible rfl
            simp only [Act.put, List.getElem_toArray, List.getElem_cons_succ, List.getElem_cons_zero, List.setIfInBounds_toArray, List.set_cons_succ, List.set_cons_zero]
            refine wpAnyH_take (i := 6) (v := .agg (irow .u8 (gs l j).h)) rfl (by kernel_rfl) (by kernel_rfl) (by kernel_rfl) (fun _ _ _ h => h) (Or.inl ⟨by rfl, ?y39⟩) ⟨rangeAt_keep r0 (hw.block b1 hb1), rangeAt_keep rj0 (hw.block b1 hb1)⟩ ?r39
            case y39 =>
              intro w_ hS_
              simp only [List.getElem_toArray, List.getElem_cons_succ, List.getElem_cons_zero]
              exact run_load_range 40 _ (by rfl) b1 (o1 + j * 65) (by rfl) ((gs l j).h.map (Value.int .u8)) _ (range_h hS_.2) Try.underlying40 rfl (infoh _ okj.1)
            simp only [Act.put, List.getElem_toArray, List.getElem_cons_succ, List.getElem_cons_zero, List.setIfInBounds_toArray, List.set_cons_succ, List.set_cons_zero]
            refine wpAnyH_take (i := 7) (v := ?v40) rfl (by kernel_rfl) (by kernel_rfl) (by kernel_rfl) (fun _ _ _ h => h) (Or.inl ⟨by rfl, ?y40⟩) ⟨rangeAt_keep r0 (hw.block b1 hb1), rangeAt_keep rj0 (hw.block b1 hb1)⟩ ?r40
            case y40 =>
              intro w_ hS_
              go_simp
              try with_reducible rfl
            simp only [Act.put, List.getElem_toArray, List.getElem_cons_succ, List.getElem_cons_zero, List.setIfInBounds_toArray, List.set_cons_succ, List.set_cons_zero]
            refine wpAnyH_take (i := 8) (v := ?v41) rfl (by kernel_rfl) (by kernel_rfl) (by kernel_rfl) (fun _ _ _ h => h) (Or.inl ⟨by rfl, ?y41⟩) ⟨rangeAt_keep r0 (hw.block b1 hb1), rangeAt_keep rj0 (hw.block b1 hb1)⟩ ?r41
            case y41 =>
              intro w_ hS_
              go_simp
              try with_reducible rfl
            simp only [Act.put, List.getElem_toArray, List.getElem_cons_succ, List.getElem_cons_zero, List.setIfInBounds_toArray, List.set_cons_succ, List.set_cons_zero]
            refine wpAnyH_take (i := 9) (v := ?v42) rfl (by kernel_rfl) (by kernel_rfl) (by kernel_rfl) (fun _ _ _ h => h) (Or.inl ⟨by rfl, ?y42⟩) ⟨rangeAt_keep r0 (hw.block b1 hb1), rangeAt_keep rj0 (hw.block b1 hb1)⟩ ?r42
            case y42 =>
              intro w_ hS_
              go_simp
              try with_reducible rfl
            simp only [Act.put, List.getElem_toArray, List.getElem_cons_succ, List.getElem_cons_zero, List.setIfInBounds_toArray, List.set_cons_succ, List.set_cons_zero]
            refine wpAnyH_take (i := 10) (v := ?v43) rfl (by kernel_rfl) (by kernel_rfl) (by kernel_rfl) (fun _ _ _ h => h) (Or.inl ⟨by rfl, ?y43⟩) ⟨rangeAt_keep r0 (hw.block b1 hb1), rangeAt_keep rj0 (hw.block b1 hb1)⟩ ?r43
            case y43 =>
              intro w_ hS_
              go_simp
              try with_reducible rfl
            simp only [Act.put, List.getElem_toArray, List.getElem_cons_succ, List.getElem_cons_zero, List.setIfInBounds_toArray, List.set_cons_succ, List.set_cons_zero]
            refine wpAnyH_take (i := 11) (v := .agg (irow .u8 (gs l k).h)) rfl (by kernel_rfl) (by kernel_rfl) (by kernel_rfl) (fun _ _ _ h => h) (Or.inl ⟨by rfl, ?y44⟩) ⟨rangeAt_keep r0 (hw.block b1 hb1), rangeAt_keep rj0 (hw.block b1 hb1)⟩ ?r44
            case y44 =>
              intro w_ hS_
              simp only [List.getElem_toArray, List.getElem_cons_succ, List.getElem_cons_zero]
              exact run_load_range 40 _ (by rfl) b1 (o1 + k * 65) (by rfl) ((gs l k).h.map (Value.int .u8)) _ (range_h hS_.1) Try.underlying40 rfl (infoh _ ok1.1)
            simp only [Act.put, List.getElem_toArray, List.getElem_cons_succ, List.getElem_cons_zero, List.setIfInBounds_toArray, List.set_cons_succ, List.set_cons_zero]
            refine wpAnyH_take (i := 12) (v := .bool (decide ((gs l j).h = (gs l k).h))) rfl (by kernel_rfl) (by kernel_rfl) (by kernel_rfl) (fun _ _ _ h => h) (Or.inl ⟨by rfl, ?y45⟩) ⟨rangeAt_keep r0 (hw.block b1 hb1), rangeAt_keep rj0 (hw.block b1 hb1)⟩ ?r45
            case y45 =>
              intro w_ hS_
              simp only [List.getElem_toArray, List.getElem_cons_succ, List.getElem_cons_zero]
              exact run_eql_op 40 40 _ _ (by rfl) (irow .u8 (gs l j).h) (irow .u8 (gs l k).h) (by rfl) (by rfl) egK _ (eq_key 9998 (gs l j).h (gs l k).h okj.1 ok1.1 w_)
            simp only [Act.put, List.getElem_toArray, List.getElem_cons_succ, List.getElem_cons_zero, List.setIfInBounds_toArray, List.set_cons_succ, List.set_cons_zero]
            refine wpAnyH_take (i := 13) (v := ?v46) rfl (by kernel_rfl) (by kernel_rfl) (by kernel_rfl) (fun _ _ _ h => h) (Or.inl ⟨by rfl, ?y46⟩) ⟨rangeAt_keep r0 (hw.block b1 hb1), rangeAt_keep rj0 (hw.block b1 hb1)⟩ ?r46
            case y46 =>
              intro w_ hS_
              go_simp
              try with_reducible rfl
            simp only [Act.put, List.getElem_toArray, List.getElem_cons_succ, List.getElem_cons_zero, List.setIfInBounds_toArray, List.set_cons_succ, List.set_cons_zero]
            refine wpAnyH_take (i := 14) (v := ?v47) rfl (by kernel_rfl) (by kernel_rfl) (by kernel_rfl) (fun _ _ _ h => h) (Or.inl ⟨by rfl, ?y47⟩) ⟨rangeAt_keep r0 (hw.block b1 hb1), rangeAt_keep rj0 (hw.block b1 hb1)⟩ ?r47
            case y47 =>
              intro w_ hS_
              go_simp
              try with_reducible rfl
            simp only [Act.put, List.getElem_toArray, List.getElem_cons_succ, List.getElem_cons_zero, List.setIfInBounds_toArray, List.set_cons_succ, List.set_cons_zero]
            refine wpAnyH_done (by kernel_rfl) ?_ _
            refine NoPanic.normal ?_
            go_wp2_with (fail)
            refine ⟨⟨j + 1, by omega, by go_num, by rw [htk.out], hO6, hw⟩, ?_⟩
            simp [intOf]; omega
          · rw [hsb, Bool.true_or] at htk
            refine wp_region_noPanic ?_
            refine wp_region_held (S := fun W => W.rangeAt b1 (o1 + k * 65) (srl (gs l k)) ∧ W.rangeAt b1 (o1 + j * 65) (srl (gs l j))) (by kernel_rfl) ?_
            change wpAnyH _ _ _ _ _ _ _ _ (World.drew _)
            generalize x2.drew = x3 at *
            refine wpAnyH_take (i := 0) (v := ?v18) rfl (by kernel_rfl) (by kernel_rfl) (by kernel_rfl) (fun _ _ _ h => h) (Or.inl ⟨by rfl, ?y18⟩) ⟨rangeAt_keep r0 (hw.block b1 hb1), rangeAt_keep rj0 (hw.block b1 hb1)⟩ ?r18
            case y18 =>
              intro w_ hS_
              go_simp
              try with_reducible rfl
            simp only [Act.put, List.getElem_toArray, List.getElem_cons_zero, List.setIfInBounds_toArray, List.set_cons_succ, List.set_cons_zero]
            refine wpAnyH_take (i := 1) (v := ?v19) rfl (by kernel_rfl) (by kernel_rfl) (by kernel_rfl) (fun _ _ _ h => h) (Or.inl ⟨by rfl, ?y19⟩) ⟨rangeAt_keep r0 (hw.block b1 hb1), rangeAt_keep rj0 (hw.block b1 hb1)⟩ ?r19
            case y19 =>
              intro w_ hS_
              go_simp
              try with_reducible rfl
            simp only [Act.put, List.getElem_toArray, List.getElem_cons_succ, List.getElem_cons_zero, List.setIfInBounds_toArray, List.set_cons_succ, List.set_cons_zero]
            refine wpAnyH_take (i := 2) (v := undef) rfl (by kernel_rfl) (by kernel_rfl) (by kernel_rfl) (fun _ _ _ h => h) (Or.inr ⟨by rfl, rfl⟩) ⟨rangeAt_keep r0 (hw.block b1 hb1), rangeAt_keep rj0 (hw.block b1 hb1)⟩ ?r20
            simp only [Act.put, List.getElem_toArray, List.getElem_cons_succ, List.getElem_cons_zero, List.setIfInBounds_toArray, List.set_cons_succ, List.set_cons_zero]
            refine wpAnyH_take (i := 3) (v := undef) rfl (by kernel_rfl) (by kernel_rfl) (by kernel_rfl) (fun _ _ _ h => h) (Or.inr ⟨by rfl, rfl⟩) ⟨rangeAt_keep r0 (hw.block b1 hb1), rangeAt_keep rj0 (hw.block b1 hb1)⟩ ?r21
            simp only [Act.put, List.getElem_toArray, List.getElem_cons_succ, List.getElem_cons_zero, List.setIfInBounds_toArray, List.set_cons_succ, List.set_cons_zero]
            refine wpAnyH_take (i := 4) (v := undef) rfl (by kernel_rfl) (by kernel_rfl) (by kernel_rfl) (fun _ _ _ h => h) (Or.inr ⟨by rfl, rfl⟩) ⟨rangeAt_keep r0 (hw.block b1 hb1), rangeAt_keep rj0 (hw.block b1 hb1)⟩ ?r22
            simp only [Act.put, List.getElem_toArray, List.getElem_cons_succ, List.getElem_cons_zero, List.setIfInBounds_toArray, List.set_cons_succ, List.set_cons_zero]
            refine wpAnyH_take (i := 5) (v := undef) rfl (by kernel_rfl) (by kernel_rfl) (by kernel_rfl) (fun _ _ _ h => h) (Or.inr ⟨by rfl, rfl⟩) ⟨rangeAt_keep r0 (hw.block b1 hb1), rangeAt_keep rj0 (hw.block b1 hb1)⟩ ?r23
            simp only [Act.put, List.getElem_toArray, List.getElem_cons_succ, List.getElem_cons_zero, List.setIfInBounds_toArray, List.set_cons_succ, List.set_cons_zero]
            refine wpAnyH_take (i := 6) (v := undef) rfl (by kernel_rfl) (by kernel_rfl) (by kernel_rfl) (fun _ _ _ h => h) (Or.inr ⟨by rfl, rfl⟩) ⟨rangeAt_keep r0 (hw.block b1 hb1), rangeAt_keep rj0 (hw.block b1 hb1)⟩ ?r24
            simp only [Act.put, List.getElem_toArray, List.getElem_cons_succ, List.getElem_cons_zero, List.setIfInBounds_toArray, List.set_cons_succ, List.set_cons_zero]
            refine wpAnyH_take (i := 7) (v := undef) rfl (by kernel_rfl) (by kernel_rfl) (by kernel_rfl) (fun _ _ _ h => h) (Or.inr ⟨by rfl, rfl⟩) ⟨rangeAt_keep r0 (hw.block b1 hb1), rangeAt_keep rj0 (hw.block b1 hb1)⟩ ?r25
            simp only [Act.put, List.getElem_toArray, List.getElem_cons_succ, List.getElem_cons_zero, List.setIfInBounds_toArray, List.set_cons_succ, List.set_cons_zero]
            refine wpAnyH_take (i := 8) (v := undef) rfl (by kernel_rfl) (by kernel_rfl) (by kernel_rfl) (fun _ _ _ h => h) (Or.inr ⟨by rfl, rfl⟩) ⟨rangeAt_keep r0 (hw.block b1 hb1), rangeAt_keep rj0 (hw.block b1 hb1)⟩ ?r26
            simp only [Act.put, List.getElem_toArray, List.getElem_cons_succ, List.getElem_cons_zero, List.setIfInBounds_toArray, List.set_cons_succ, List.set_cons_zero]
            refine wpAnyH_take (i := 9) (v := undef) rfl (by kernel_rfl) (by kernel_rfl) (by kernel_rfl) (fun _ _ _ h => h) (Or.inr ⟨by rfl, rfl⟩) ⟨rangeAt_keep r0 (hw.block b1 hb1), rangeAt_keep rj0 (hw.block b1 hb1)⟩ ?r27
            simp only [Act.put, List.getElem_toArray, List.getElem_cons_succ, List.getElem_cons_zero, List.setIfInBounds_toArray, List.set_cons_succ, List.set_cons_zero]
            refine wpAnyH_take (i := 10) (v := undef) rfl (by kernel_rfl) (by kernel_rfl) (by kernel_rfl) (fun _ _ _ h => h) (Or.inr ⟨by rfl, rfl⟩) ⟨rangeAt_keep r0 (hw.block b1 hb1), rangeAt_keep rj0 (hw.block b1 hb1)⟩ ?r28
            simp only [Act.put, List.getElem_toArray, List.getElem_cons_succ, List.getElem_cons_zero, List.setIfInBounds_toArray, List.set_cons_succ, List.set_cons_zero]
            refine wpAnyH_take (i := 11) (v := undef) rfl (by kernel_rfl) (by kernel_rfl) (by kernel_rfl) (fun _ _ _ h => h) (Or.inr ⟨by rfl, rfl⟩) ⟨rangeAt_keep r0 (hw.block b1 hb1), rangeAt_keep rj0 (hw.block b1 hb1)⟩ ?r29
            simp only [Act.put, List.getElem_toArray, List.getElem_cons_succ, List.getElem_cons_zero, List.setIfInBounds_toArray, List.set_cons_succ, List.set_cons_zero]
            refine wpAnyH_take (i := 12) (v := undef) rfl (by kernel_rfl) (by kernel_rfl) (by kernel_rfl) (fun _ _ _ h => h) (Or.inr ⟨by rfl, rfl⟩) ⟨rangeAt_keep r0 (hw.block b1 hb1), rangeAt_keep rj0 (hw.block b1 hb1)⟩ ?r30
            simp only [Act.put, List.getElem_toArray, List.getElem_cons_succ, List.getElem_cons_zero, List.setIfInBounds_toArray, List.set_cons_succ, List.set_cons_zero]
            refine wpAnyH_take (i := 13) (v := ?v31) rfl (by kernel_rfl) (by kernel_rfl) (by kernel_rfl) (fun _ _ _ h => h) (Or.inl ⟨by rfl, ?y31⟩) ⟨rangeAt_keep r0 (hw.block b1 hb1), rangeAt_keep rj0 (hw.block b1 hb1)⟩ ?r31
            case y31 =>
              intro w_ hS_
              go_simp
              try with_reducible rfl
            simp only [Act.put, List.getElem_toArray, List.getElem_cons_succ, List.getElem_cons_zero, List.setIfInBounds_toArray, List.set_cons_succ, List.set_cons_zero]
            refine wpAnyH_take (i := 14) (v := ?v32) rfl (by kernel_rfl) (by kernel_rfl) (by kernel_rfl) (fun _ _ _ h => h) (Or.inl ⟨by rfl, ?y32⟩) ⟨rangeAt_keep r0 (hw.block b1 hb1), rangeAt_keep rj0 (hw.block b1 hb1)⟩ ?r32
            case y32 =>
              intro w_ hS_
              go_simp
              try with_reducible rfl
            simp only [Act.put, List.getElem_toArray, List.getElem_cons_succ, List.getElem_cons_zero, List.setIfInBounds_toArray, List.set_cons_succ, List.set_cons_zero]
            refine wpAnyH_done (by kernel_rfl) ?_ _
            refine NoPanic.normal ?_
            go_wp2_with (fail)
            refine ⟨⟨j + 1, by omega, by go_num, by rw [htk.out], hO6, hw⟩, ?_⟩
            simp [intOf]; omega
        · obtain rfl : j = k := by omega
          have hd2 : decide ((j : Int) < (j : Int)) = false := by simp
          have hlk1 := hdn_len l j
          cases hsb : shd l (gs l j).h j
          · have hn := hide (hdn_n hsb)
            clear hsb
            have hbx : Below wr.heap.size wr (wr.alloc (.cells (irow .u8 (gs l j).h) 40)) := (Below.refl _ _).alloc (Nat.le_refl _) _
            have hOx := hO6.keep hbx
            have hwx := Below.after hw hbx
            have Rx := hp1_0 wr (.cells (irow .u8 (gs l j).h) 40)
            have rr := range_h (rangeAt_keep r0 (hw.block b1 hb1))
            have swx := hw.size
            go_wp2_with (first | (refine wpList_load_mid rfl 40 _ rfl b1 (o1 + j * 65) rfl ((gs l j).h.map (Value.int .u8)) _ rr Try.underlying40 rfl (infoh _ ok1.1) ?_) | (refine wpList_bslK rfl _ rfl (gs l j).h ok1.1 rfl ?_) | (at_builtin; refine wpList_append_K rfl _ _ rfl w2.heap.size u6 (hdn l j) rfl hOx wr.heap.size (gs l j).h ok1.1 rfl Rx (by omega) (by have := hbx.size; omega) ?_) | fail)
            intro uN wT hON hgN hxN
            have hwN : Below w2.heap.size w2 wT := hwx.grown hgN hwx.size (fun k_ e_ => by have := (World.ownsRow.lt hOx k_ e_).1; omega)
            rw [← hn.out] at hON
            obtain ⟨aoN, nN, cN, rfl⟩ : ∃ ao n c, uN = .slice ao n c := by obtain ⟨a_, c_, h_⟩ := slen_own hON; exact ⟨a_, _, c_, h_⟩
            clear hgN hxN hOx hwx Rx hbx hO6 hw rr
            have hw := hwN
            clear hwN
            go_wp2_with (fail)
            apply ecut (fun (g_ : Nat) (W : World) => W.heap[g_]? = some (.cells (irow .u8 (gs l j).m) 40 (0, 0)) ∧ OwnK W w2.heap.size (Value.slice aoN nN cN) (hdn l (j + 1)) ∧ Below w2.heap.size w2 W)
            · intro hcut_
              have hbd : Below wT.heap.size wT wT.drew := below_drN (Below.refl _ _) 1
              replace hON := hON.keep hbd
              replace hw := Below.after hw hbd
              clear hbd
              refine wp_region_noPanic ?_
              refine wp_region_held (S := fun W => W.rangeAt b1 (o1 + j * 65) (srl (gs l j))) (by kernel_rfl) ?_
              change wpAnyH _ _ _ _ _ _ _ _ (World.drew _)
              generalize wT.drew = xa at *
              refine wpAnyH_take (i := 0) (v := ?v48) rfl (by kernel_rfl) (by kernel_rfl) (by kernel_rfl) (fun _ _ _ h => h) (Or.inl ⟨by rfl, ?y48⟩) ((rangeAt_keep r0 (hw.block b1 hb1))) ?r48
              case y48 =>
                intro w_ hS_
                go_simp
                try with_reducible rfl
              simp only [Act.put, List.getElem_toArray, List.getElem_cons_zero, List.setIfInBounds_toArray, List.set_cons_succ, List.set_cons_zero]
              refine wpAnyH_take (i := 1) (v := ?v49) rfl (by kernel_rfl) (by kernel_rfl) (by kernel_rfl) (fun _ _ _ h => h) (Or.inl ⟨by rfl, ?y49⟩) ((rangeAt_keep r0 (hw.block b1 hb1))) ?r49
              case y49 =>
                intro w_ hS_
                go_simp
                try with_reducible rfl
              simp only [Act.put, List.getElem_toArray, List.getElem_cons_succ, List.getElem_cons_zero, List.setIfInBounds_toArray, List.set_cons_succ, List.set_cons_zero]
              refine wpAnyH_take (i := 2) (v := ?v50) rfl (by kernel_rfl) (by kernel_rfl) (by kernel_rfl) (fun _ _ _ h => h) (Or.inl ⟨by rfl, ?y50⟩) ((rangeAt_keep r0 (hw.block b1 hb1))) ?r50
              case y50 =>
                intro w_ hS_
                go_simp
                try with_reducible rfl
              simp only [Act.put, List.getElem_toArray, List.getElem_cons_succ, List.getElem_cons_zero, List.setIfInBounds_toArray, List.set_cons_succ, List.set_cons_zero]
              refine wpAnyH_take (i := 3) (v := ?v51) rfl (by kernel_rfl) (by kernel_rfl) (by kernel_rfl) (fun _ _ _ h => h) (Or.inl ⟨by rfl, ?y51⟩) ((rangeAt_keep r0 (hw.block b1 hb1))) ?r51
              case y51 =>
                intro w_ hS_
                go_simp
                try with_reducible rfl
              simp only [Act.put, List.getElem_toArray, List.getElem_cons_succ, List.getElem_cons_zero, List.setIfInBounds_toArray, List.set_cons_succ, List.set_cons_zero]
              refine wpAnyH_take (i := 4) (v := ?v52) rfl (by kernel_rfl) (by kernel_rfl) (by kernel_rfl) (fun _ _ _ h => h) (Or.inl ⟨by rfl, ?y52⟩) ((rangeAt_keep r0 (hw.block b1 hb1))) ?r52
              case y52 =>
                intro w_ hS_
                go_simp
                try with_reducible rfl
              simp only [Act.put, List.getElem_toArray, List.getElem_cons_succ, List.getElem_cons_zero, List.setIfInBounds_toArray, List.set_cons_succ, List.set_cons_zero]
              refine wpAnyH_take (i := 5) (v := .agg (irow .u8 (gs l j).h)) rfl (by kernel_rfl) (by kernel_rfl) (by kernel_rfl) (fun _ _ _ h => h) (Or.inl ⟨by rfl, ?y53⟩) ((rangeAt_keep r0 (hw.block b1 hb1))) ?r53
              case y53 =>
                intro w_ hS_
                simp only [List.getElem_toArray, List.getElem_cons_succ, List.getElem_cons_zero]
                exact run_load_range 40 _ (by rfl) b1 (o1 + j * 65) (by rfl) ((gs l j).h.map (Value.int .u8)) _ (range_h hS_) Try.underlying40 rfl (infoh _ ok1.1)
              simp only [Act.put, List.getElem_toArray, List.getElem_cons_succ, List.getElem_cons_zero, List.setIfInBounds_toArray, List.set_cons_succ, List.set_cons_zero]
              refine wpAnyH_take (i := 6) (v := ?v54) rfl (by kernel_rfl) (by kernel_rfl) (by kernel_rfl) (fun _ _ _ h => h) (Or.inl ⟨by rfl, ?y54⟩) ((rangeAt_keep r0 (hw.block b1 hb1))) ?r54
              case y54 =>
                intro w_ hS_
                go_simp
                try with_reducible rfl
              simp only [Act.put, List.getElem_toArray, List.getElem_cons_succ, List.getElem_cons_zero, List.setIfInBounds_toArray, List.set_cons_succ, List.set_cons_zero]
              refine wpAnyH_take (i := 7) (v := ?v55) rfl (by kernel_rfl) (by kernel_rfl) (by kernel_rfl) (fun _ _ _ h => h) (Or.inl ⟨by rfl, ?y55⟩) ((rangeAt_keep r0 (hw.block b1 hb1))) ?r55
              case y55 =>
                intro w_ hS_
                go_simp
                try with_reducible rfl
              simp only [Act.put, List.getElem_toArray, List.getElem_cons_succ, List.getElem_cons_zero, List.setIfInBounds_toArray, List.set_cons_succ, List.set_cons_zero]
              refine wpAnyH_take (i := 8) (v := ?v56) rfl (by kernel_rfl) (by kernel_rfl) (by kernel_rfl) (fun _ _ _ h => h) (Or.inl ⟨by rfl, ?y56⟩) ((rangeAt_keep r0 (hw.block b1 hb1))) ?r56
              case y56 =>
                intro w_ hS_
                go_simp
                try with_reducible rfl
              simp only [Act.put, List.getElem_toArray, List.getElem_cons_succ, List.getElem_cons_zero, List.setIfInBounds_toArray, List.set_cons_succ, List.set_cons_zero]
              refine wpAnyH_take (i := 9) (v := ?v57) rfl (by kernel_rfl) (by kernel_rfl) (by kernel_rfl) (fun _ _ _ h => h) (Or.inl ⟨by rfl, ?y57⟩) ((rangeAt_keep r0 (hw.block b1 hb1))) ?r57
              case y57 =>
                intro w_ hS_
                go_simp
                try with_reducible rfl
              simp only [Act.put, List.getElem_toArray, List.getElem_cons_succ, List.getElem_cons_zero, List.setIfInBounds_toArray, List.set_cons_succ, List.set_cons_zero]
              refine wpAnyH_take (i := 10) (v := .int .u32 (gs l j).n) rfl (by kernel_rfl) (by kernel_rfl) (by kernel_rfl) (fun _ _ _ h => h) (Or.inl ⟨by rfl, ?y58⟩) ((rangeAt_keep r0 (hw.block b1 hb1))) ?r58
              case y58 =>
                intro w_ hS_
                have c_ := range_n ok1 hS_
                go_simp
                try with_reducible rfl
              simp only [Act.put, List.getElem_toArray, List.getElem_cons_succ, List.getElem_cons_zero, List.setIfInBounds_toArray, List.set_cons_succ, List.set_cons_zero]
              refine wpAnyH_two (j := 11) (k := 15) (fuel := 6) (by kernel_rfl) rfl rfl (by kernel_rfl) (by kernel_rfl) (fun K_ hK_ => ?_) (fun K_ hK_ => ?_)
              · refine wp_call_ex (f := 21) (R := fun v_ w_ => v_ = .tuple #[.agg (irow .u8 (gs l j).m), .bool true] ∧ Below xa.heap.size xa w_) (by kernel_rfl) (cF xa hw) (fun v_ q1 hX_ => ?_)
                obtain ⟨rfl, hb_⟩ := hX_
                replace hON := hON.keep hb_
                replace hw := Below.after hw hb_
                clear hb_
                refine hK_ _ _ (rangeAt_keep r0 (hw.block b1 hb1)) ?_
                simp only [Act.put, List.getElem_toArray, List.getElem_cons_succ, List.getElem_cons_zero, List.setIfInBounds_toArray, List.set_cons_succ, List.set_cons_zero]
                clear hK_
                refine wpAnyH_take (i := 12) (v := ?v59) rfl (by kernel_rfl) (by kernel_rfl) (by kernel_rfl) (fun _ _ _ h => h) (Or.inl ⟨by rfl, ?y59⟩) ((rangeAt_keep r0 (hw.block b1 hb1))) ?r59
                case y59 =>
                  intro w_ hS_
                  go_simp
                  try with_reducible rfl
                simp only [Act.put, List.getElem_toArray, List.getElem_cons_succ, List.getElem_cons_zero, List.setIfInBounds_toArray, List.set_cons_succ, List.set_cons_zero]
                refine wpAnyH_take (i := 13) (v := ?v60) rfl (by kernel_rfl) (by kernel_rfl) (by kernel_rfl) (fun _ _ _ h => h) (Or.inl ⟨by rfl, ?y60⟩) ((rangeAt_keep r0 (hw.block b1 hb1))) ?r60
                case y60 =>
                  intro w_ hS_
                  go_simp
                  try with_reducible rfl
                simp only [Act.put, List.getElem_toArray, List.getElem_cons_succ, List.getElem_cons_zero, List.setIfInBounds_toArray, List.set_cons_succ, List.set_cons_zero]
                refine wpAnyH_take (i := 14) (v := ?v61) rfl (by kernel_rfl) (by kernel_rfl) (by kernel_rfl) (fun _ _ _ h => h) (Or.inl ⟨by rfl, ?y61⟩) ((rangeAt_keep r0 (hw.block b1 hb1))) ?r61
                case y61 =>
                  intro w_ hS_
                  go_simp
                  try with_reducible rfl
                simp only [Act.put, List.getElem_toArray, List.getElem_cons_succ, List.getElem_cons_zero, List.setIfInBounds_toArray, List.set_cons_succ, List.set_cons_zero]
                refine wpAnyH_one (k := 15) (fuel := 2) (by kernel_rfl) rfl (by kernel_rfl) (fun K_ hK_ => ?_)
                refine wp_world_op _ _ (run_alloc_op 40 rfl _ zkey) ?_
                have hb_ : Below q1.heap.size q1 (q1.alloc (.cells (irow .u8 (zr 32)) 40)) := (Below.refl _ _).alloc (Nat.le_refl _) _
                have R10 := hp1_0 q1 (.cells (irow .u8 (zr 32)) 40)
                have ge10 : w2.heap.size ≤ q1.heap.size := hw.size
                have ngk : ∀ k_, (Value.slice aoN nN cN).ownBlock = some k_ → k_ ≠ q1.heap.size := fun k_ e_ => by have := (World.ownsRow.lt hON k_ e_).2; omega
                replace hON := hON.keep hb_
                replace hw := Below.after hw hb_
                clear hb_
                refine hK_ _ _ (rangeAt_keep r0 (hw.block b1 hb1)) ?_
                simp only [Act.put, List.getElem_toArray, List.getElem_cons_succ, List.getElem_cons_zero, List.setIfInBounds_toArray, List.set_cons_succ, List.set_cons_zero]
                clear hK_
                generalize q1.alloc (.cells (irow .u8 (zr 32)) 40) = q2 at *
                generalize q1.heap.size = g3 at *
                refine wpAnyH_one (k := 16) (fuel := 1) (by kernel_rfl) rfl (by kernel_rfl) (fun K_ hK_ => ?_)
                refine wp_store_row 40 _ _ rfl g3 (irow .u8 (gs l j).m) rfl rfl 40 _ R10 (infok8 _ ok1.2) (fit32 _ _ (zr_len 32) ok1.2) (irow_one _ _) ?_
                replace hON : OwnK (q2.setRow g3 (irow .u8 (gs l j).m)) w2.heap.size (Value.slice aoN nN cN) (hdn l (j + 1)) := own_move hON (fun k_ e_ => setRow_other q2 g3 k_ (irow .u8 (gs l j).m) (ngk k_ e_))
                replace R10 := setRow_heap q2 g3 _ (irow .u8 (gs l j).m) _ _ R10
                replace hw := below_setRow hw ge10 (irow .u8 (gs l j).m)
                refine hK_ _ _ (rangeAt_keep r0 (hw.block b1 hb1)) ?_
                simp only [Act.put]
                clear hK_
                generalize q2.setRow g3 (irow .u8 (gs l j).m) = q4 at *
                refine wpAnyH_take (i := 17) (v := ?v62) rfl (by kernel_rfl) (by kernel_rfl) (by kernel_rfl) (fun _ _ _ h => h) (Or.inl ⟨by rfl, ?y62⟩) ((rangeAt_keep r0 (hw.block b1 hb1))) ?r62
                case y62 =>
                  intro w_ hS_
                  go_simp
                  try with_reducible rfl
                simp only [Act.put, List.getElem_toArray, List.getElem_cons_succ, List.getElem_cons_zero, List.setIfInBounds_toArray, List.set_cons_succ, List.set_cons_zero]
                refine wpAnyH_done (by kernel_rfl) ?_ _
                refine NoPanic.normal ?_
                exact hcut_ g3 _ ⟨R10, hON, hw⟩
              · refine wp_world_op _ _ (run_alloc_op 40 rfl _ zkey) ?_
                have hb_ : Below xa.heap.size xa (xa.alloc (.cells (irow .u8 (zr 32)) 40)) := (Below.refl _ _).alloc (Nat.le_refl _) _
                have R10 := hp1_0 xa (.cells (irow .u8 (zr 32)) 40)
                have ge10 : w2.heap.size ≤ xa.heap.size := hw.size
                have ngk : ∀ k_, (Value.slice aoN nN cN).ownBlock = some k_ → k_ ≠ xa.heap.size := fun k_ e_ => by have := (World.ownsRow.lt hON k_ e_).2; omega
                replace hON := hON.keep hb_
                replace hw := Below.after hw hb_
                clear hb_
                refine hK_ _ _ (rangeAt_keep r0 (hw.block b1 hb1)) ?_
                simp only [Act.put, List.getElem_toArray, List.getElem_cons_succ, List.getElem_cons_zero, List.setIfInBounds_toArray, List.set_cons_succ, List.set_cons_zero]
                clear hK_
                generalize xa.alloc (.cells (irow .u8 (zr 32)) 40) = q5 at *
                generalize xa.heap.size = g6 at *
                refine wpAnyH_one (k := 11) (fuel := 5) (by kernel_rfl) rfl (by kernel_rfl) (fun K_ hK_ => ?_)
                refine wp_call_ex (f := 21) (R := fun v_ w_ => v_ = .tuple #[.agg (irow .u8 (gs l j).m), .bool true] ∧ Below q5.heap.size q5 w_) (by kernel_rfl) (cF q5 hw) (fun v_ q7 hX_ => ?_)
                obtain ⟨rfl, hb_⟩ := hX_
                replace R10 := keep hb_ R10
                replace hON := hON.keep hb_
                replace hw := Below.after hw hb_
                clear hb_
                refine hK_ _ _ (rangeAt_keep r0 (hw.block b1 hb1)) ?_
                simp only [Act.put, List.getElem_toArray, List.getElem_cons_succ, List.getElem_cons_zero, List.setIfInBounds_toArray, List.set_cons_succ, List.set_cons_zero]
                clear hK_
                refine wpAnyH_take (i := 12) (v := ?v63) rfl (by kernel_rfl) (by kernel_rfl) (by kernel_rfl) (fun _ _ _ h => h) (Or.inl ⟨by rfl, ?y63⟩) ((rangeAt_keep r0 (hw.block b1 hb1))) ?r63
                case y63 =>
                  intro w_ hS_
                  go_simp
                  try with_reducible rfl
                simp only [Act.put, List.getElem_toArray, List.getElem_cons_succ, List.getElem_cons_zero, List.setIfInBounds_toArray, List.set_cons_succ, List.set_cons_zero]
                refine wpAnyH_take (i := 13) (v := ?v64) rfl (by kernel_rfl) (by kernel_rfl) (by kernel_rfl) (fun _ _ _ h => h) (Or.inl ⟨by rfl, ?y64⟩) ((rangeAt_keep r0 (hw.block b1 hb1))) ?r64
                case y64 =>
                  intro w_ hS_
                  go_simp
                  try with_reducible rfl
                simp only [Act.put, List.getElem_toArray, List.getElem_cons_succ, List.getElem_cons_zero, List.setIfInBounds_toArray, List.set_cons_succ, List.set_cons_zero]
                refine wpAnyH_take (i := 14) (v := ?v65) rfl (by kernel_rfl) (by kernel_rfl) (by kernel_rfl) (fun _ _ _ h => h) (Or.inl ⟨by rfl, ?y65⟩) ((rangeAt_keep r0 (hw.block b1 hb1))) ?r65
                case y65 =>
                  intro w_ hS_
                  go_simp
                  try with_reducible rfl
                simp only [Act.put, List.getElem_toArray, List.getElem_cons_succ, List.getElem_cons_zero, List.setIfInBounds_toArray, List.set_cons_succ, List.set_cons_zero]
                refine wpAnyH_one (k := 16) (fuel := 1) (by kernel_rfl) rfl (by kernel_rfl) (fun K_ hK_ => ?_)
                refine wp_store_row 40 _ _ rfl g6 (irow .u8 (gs l j).m) rfl rfl 40 _ R10 (infok8 _ ok1.2) (fit32 _ _ (zr_len 32) ok1.2) (irow_one _ _) ?_
                replace hON : OwnK (q7.setRow g6 (irow .u8 (gs l j).m)) w2.heap.size (Value.slice aoN nN cN) (hdn l (j + 1)) := own_move hON (fun k_ e_ => setRow_other q7 g6 k_ (irow .u8 (gs l j).m) (ngk k_ e_))
                replace R10 := setRow_heap q7 g6 _ (irow .u8 (gs l j).m) _ _ R10
                replace hw := below_setRow hw ge10 (irow .u8 (gs l j).m)
                refine hK_ _ _ (rangeAt_keep r0 (hw.block b1 hb1)) ?_
                simp only [Act.put]
                clear hK_
                generalize q7.setRow g6 (irow .u8 (gs l j).m) = q8 at *
                refine wpAnyH_take (i := 17) (v := ?v66) rfl (by kernel_rfl) (by kernel_rfl) (by kernel_rfl) (fun _ _ _ h => h) (Or.inl ⟨by rfl, ?y66⟩) ((rangeAt_keep r0 (hw.block b1 hb1))) ?r66
                case y66 =>
                  intro w_ hS_
                  go_simp
                  try with_reducible rfl
                simp only [Act.put, List.getElem_toArray, List.getElem_cons_succ, List.getElem_cons_zero, List.setIfInBounds_toArray, List.set_cons_succ, List.set_cons_zero]
                refine wpAnyH_done (by kernel_rfl) ?_ _
                refine NoPanic.normal ?_
                exact hcut_ g6 _ ⟨R10, hON, hw⟩
            rintro gK W5 ⟨R14, hON5, hw5⟩
            clear hON hw
            have hON := hON5
            have hw := hw5
            clear hON5 hw5
            go_wp2_with (fail)
            have hbd : Below W5.heap.size W5 W5.drew := below_drN (Below.refl _ _) 1
            replace R14 := keep hbd R14
            replace hON := hON.keep hbd
            replace hw := Below.after hw hbd
            clear hbd
            refine wp_region_noPanic ?_
            refine wp_region_held (S := fun W => W.heap[gK]? = some (.cells (irow .u8 (gs l j).m) 40 (0, 0)) ∧ W.rangeAt b1 (o1 + j * 65) (srl (gs l j))) (by kernel_rfl) ?_
            change wpAnyH _ _ _ _ _ _ _ _ (World.drew _)
            generalize W5.drew = xc at *
            refine wpAnyH_take (i := 0) (v := ?v67) rfl (by kernel_rfl) (by kernel_rfl) (by kernel_rfl) (fun _ _ _ h => h) (Or.inl ⟨by rfl, ?y67⟩) ⟨R14, rangeAt_keep r0 (hw.block b1 hb1)⟩ ?r67
            case y67 =>
              intro w_ hS_
              go_simp
              try with_reducible rfl
            simp only [Act.put, List.getElem_toArray, List.getElem_cons_zero, List.setIfInBounds_toArray, List.set_cons_succ, List.set_cons_zero]
            refine wpAnyH_take (i := 1) (v := ?v68) rfl (by kernel_rfl) (by kernel_rfl) (by kernel_rfl) (fun _ _ _ h => h) (Or.inl ⟨by rfl, ?y68⟩) ⟨R14, rangeAt_keep r0 (hw.block b1 hb1)⟩ ?r68
            case y68 =>
              intro w_ hS_
              go_simp
              try with_reducible rfl
            simp only [Act.put, List.getElem_toArray, List.getElem_cons_succ, List.getElem_cons_zero, List.setIfInBounds_toArray, List.set_cons_succ, List.set_cons_zero]
            refine wpAnyH_take (i := 2) (v := ?v69) rfl (by kernel_rfl) (by kernel_rfl) (by kernel_rfl) (fun _ _ _ h => h) (Or.inl ⟨by rfl, ?y69⟩) ⟨R14, rangeAt_keep r0 (hw.block b1 hb1)⟩ ?r69
            case y69 =>
              intro w_ hS_
              go_simp
              try with_reducible rfl
            simp only [Act.put, List.getElem_toArray, List.getElem_cons_succ, List.getElem_cons_zero, List.setIfInBounds_toArray, List.set_cons_succ, List.set_cons_zero]
            refine wpAnyH_take (i := 3) (v := .agg (irow .u8 (gs l j).m)) rfl (by kernel_rfl) (by kernel_rfl) (by kernel_rfl) (fun _ _ _ h => h) (Or.inl ⟨by rfl, ?y70⟩) ⟨R14, rangeAt_keep r0 (hw.block b1 hb1)⟩ ?r70
            case y70 =>
              intro w_ hS_
              simp only [List.getElem_toArray, List.getElem_cons_succ, List.getElem_cons_zero]
              exact run_load_part 40 _ (by rfl) (gK) 0 (by rfl) 40 (irow .u8 (gs l j).m) (0, 0) (irow .u8 (gs l j).m) _ (hS_.1) (all_row _) Try.underlying40 rfl (infok8 _ ok1.2)
            simp only [Act.put, List.getElem_toArray, List.getElem_cons_succ, List.getElem_cons_zero, List.setIfInBounds_toArray, List.set_cons_succ, List.set_cons_zero]
            refine wpAnyH_take (i := 4) (v := ?v71) rfl (by kernel_rfl) (by kernel_rfl) (by kernel_rfl) (fun _ _ _ h => h) (Or.inl ⟨by rfl, ?y71⟩) ⟨R14, rangeAt_keep r0 (hw.block b1 hb1)⟩ ?r71
            case y71 =>
              intro w_ hS_
              go_simp
              try with_reducible rfl
            simp only [Act.put, List.getElem_toArray, List.getElem_cons_succ, List.getElem_cons_zero, List.setIfInBounds_toArray, List.set_cons_succ, List.set_cons_zero]
            refine wpAnyH_take (i := 5) (v := ?v72) rfl (by kernel_rfl) (by kernel_rfl) (by kernel_rfl) (fun _ _ _ h => h) (Or.inl ⟨by rfl, ?y72⟩) ⟨R14, rangeAt_keep r0 (hw.block b1 hb1)⟩ ?r72
            case y72 =>
              intro w_ hS_
              go_simp
              try with_reducible rfl
            simp only [Act.put, List.getElem_toArray, List.getElem_cons_succ, List.getElem_cons_zero, List.setIfInBounds_toArray, List.set_cons_succ, List.set_cons_zero]
            refine wpAnyH_take (i := 6) (v := ?v73) rfl (by kernel_rfl) (by kernel_rfl) (by kernel_rfl) (fun _ _ _ h => h) (Or.inl ⟨by rfl, ?y73⟩) ⟨R14, rangeAt_keep r0 (hw.block b1 hb1)⟩ ?r73
            case y73 =>
              intro w_ hS_
              go_simp
              try with_reducible rfl
            simp only [Act.put, List.getElem_toArray, List.getElem_cons_succ, List.getElem_cons_zero, List.setIfInBounds_toArray, List.set_cons_succ, List.set_cons_zero]
            refine wpAnyH_take (i := 7) (v := ?v74) rfl (by kernel_rfl) (by kernel_rfl) (by kernel_rfl) (fun _ _ _ h => h) (Or.inl ⟨by rfl, ?y74⟩) ⟨R14, rangeAt_keep r0 (hw.block b1 hb1)⟩ ?r74
            case y74 =>
              intro w_ hS_
              go_simp
              try with_reducible rfl
            simp only [Act.put, List.getElem_toArray, List.getElem_cons_succ, List.getElem_cons_zero, List.setIfInBounds_toArray, List.set_cons_succ, List.set_cons_zero]
            refine wpAnyH_take (i := 8) (v := .agg (irow .u8 (gs l j).m)) rfl (by kernel_rfl) (by kernel_rfl) (by kernel_rfl) (fun _ _ _ h => h) (Or.inl ⟨by rfl, ?y75⟩) ⟨R14, rangeAt_keep r0 (hw.block b1 hb1)⟩ ?r75
            case y75 =>
              intro w_ hS_
              simp only [List.getElem_toArray, List.getElem_cons_succ, List.getElem_cons_zero]
              exact run_load_range 40 _ (by rfl) b1 (o1 + j * 65 + 33) (by rfl) ((gs l j).m.map (Value.int .u8)) _ (range_m ok1 hS_.2) Try.underlying40 rfl (infoh _ ok1.2)
            simp only [Act.put, List.getElem_toArray, List.getElem_cons_succ, List.getElem_cons_zero, List.setIfInBounds_toArray, List.set_cons_succ, List.set_cons_zero]
            refine wpAnyH_take (i := 9) (v := .bool (!true)) rfl (by kernel_rfl) (by kernel_rfl) (by kernel_rfl) (fun _ _ _ h => h) (Or.inl ⟨by rfl, ?y76⟩) ⟨R14, rangeAt_keep r0 (hw.block b1 hb1)⟩ ?r76
            case y76 =>
              intro w_ hS_
              simp only [List.getElem_toArray, List.getElem_cons_succ, List.getElem_cons_zero]
              exact run_neq_op 40 40 _ _ (by rfl) (irow .u8 (gs l j).m) (irow .u8 (gs l j).m) (by rfl) (by rfl) egK _ (ek w_)
            simp only [Act.put, List.getElem_toArray, List.getElem_cons_succ, List.getElem_cons_zero, List.setIfInBounds_toArray, List.set_cons_succ, List.set_cons_zero]
            refine wpAnyH_take (i := 10) (v := ?v77) rfl (by kernel_rfl) (by kernel_rfl) (by kernel_rfl) (fun _ _ _ h => h) (Or.inl ⟨by rfl, ?y77⟩) ⟨R14, rangeAt_keep r0 (hw.block b1 hb1)⟩ ?r77
            case y77 =>
              intro w_ hS_
              go_simp
              try with_reducible rfl
            simp only [Act.put, List.getElem_toArray, List.getElem_cons_succ, List.getElem_cons_zero, List.setIfInBounds_toArray, List.set_cons_succ, List.set_cons_zero]
            refine wpAnyH_done (by kernel_rfl) ?_ _
            refine NoPanic.normal ?_
            go_wp2_with (fail)
            refine ⟨⟨j + 1, by omega, by go_num, hON, hw⟩, ?_⟩
            simp [intOf]; omega
          · have hn := hide (hdn_y hsb)
            clear hsb
            rw [← hn.out] at hO6
            obtain ⟨aoN, nN, cN, rfl⟩ : ∃ ao n c, u6 = .slice ao n c := by obtain ⟨a_, c_, h_⟩ := slen_own hO6; exact ⟨a_, _, c_, h_⟩
            have hON := hO6
            clear hO6
            go_wp2_with (fail)
            apply ecut (fun (g_ : Nat) (W : World) => W.heap[g_]? = some (.cells (irow .u8 (gs l j).m) 40 (0, 0)) ∧ OwnK W w2.heap.size (Value.slice aoN nN cN) (hdn l (j + 1)) ∧ Below w2.heap.size w2 W)
            · intro hcut_
              have hbd : Below wr.heap.size wr wr.drew := below_drN (Below.refl _ _) 1
              replace hON := hON.keep hbd
              replace hw := Below.after hw hbd
              clear hbd
              refine wp_region_noPanic ?_
              refine wp_region_held (S := fun W => W.rangeAt b1 (o1 + j * 65) (srl (gs l j))) (by kernel_rfl) ?_
              change wpAnyH _ _ _ _ _ _ _ _ (World.drew _)
              generalize wr.drew = xa at *
              refine wpAnyH_take (i := 0) (v := ?v948) rfl (by kernel_rfl) (by kernel_rfl) (by kernel_rfl) (fun _ _ _ h => h) (Or.inl ⟨by rfl, ?y948⟩) ((rangeAt_keep r0 (hw.block b1 hb1))) ?r948
              case y948 =>
                intro w_ hS_
                go_simp
                try with_reducible rfl
              simp only [Act.put, List.getElem_toArray, List.getElem_cons_zero, List.setIfInBounds_toArray, List.set_cons_succ, List.set_cons_zero]
              refine wpAnyH_take (i := 1) (v := ?v949) rfl (by kernel_rfl) (by kernel_rfl) (by kernel_rfl) (fun _ _ _ h => h) (Or.inl ⟨by rfl, ?y949⟩) ((rangeAt_keep r0 (hw.block b1 hb1))) ?r949
              case y949 =>
                intro w_ hS_
                go_simp
                try with_reducible rfl
              simp only [Act.put, List.getElem_toArray, List.getElem_cons_succ, List.getElem_cons_zero, List.setIfInBounds_toArray, List.set_cons_succ, List.set_cons_zero]
              refine wpAnyH_take (i := 2) (v := ?v950) rfl (by kernel_rfl) (by kernel_rfl) (by kernel_rfl) (fun _ _ _ h => h) (Or.inl ⟨by rfl, ?y950⟩) ((rangeAt_keep r0 (hw.block b1 hb1))) ?r950
              case y950 =>
                intro w_ hS_
                go_simp
                try with_reducible rfl
              simp only [Act.put, List.getElem_toArray, List.getElem_cons_succ, List.getElem_cons_zero, List.setIfInBounds_toArray, List.set_cons_succ, List.set_cons_zero]
              refine wpAnyH_take (i := 3) (v := ?v951) rfl (by kernel_rfl) (by kernel_rfl) (by kernel_rfl) (fun _ _ _ h => h) (Or.inl ⟨by rfl, ?y951⟩) ((rangeAt_keep r0 (hw.block b1 hb1))) ?r951
              case y951 =>
                intro w_ hS_
                go_simp
                try with_reducible rfl
              simp only [Act.put, List.getElem_toArray, List.getElem_cons_succ, List.getElem_cons_zero, List.setIfInBounds_toArray, List.set_cons_succ, List.set_cons_zero]
              refine wpAnyH_take (i := 4) (v := ?v952) rfl (by kernel_rfl) (by kernel_rfl) (by kernel_rfl) (fun _ _ _ h => h) (Or.inl ⟨by rfl, ?y952⟩) ((rangeAt_keep r0 (hw.block b1 hb1))) ?r952
              case y952 =>
                intro w_ hS_
                go_simp
                try with_reducible rfl
              simp only [Act.put, List.getElem_toArray, List.getElem_cons_succ, List.getElem_cons_zero, List.setIfInBounds_toArray, List.set_cons_succ, List.set_cons_zero]
              refine wpAnyH_take (i := 5) (v := .agg (irow .u8 (gs l j).h)) rfl (by kernel_rfl) (by kernel_rfl) (by kernel_rfl) (fun _ _ _ h => h) (Or.inl ⟨by rfl, ?y953⟩) ((rangeAt_keep r0 (hw.block b1 hb1))) ?r953
              case y953 =>
                intro w_ hS_
                simp only [List.getElem_toArray, List.getElem_cons_succ, List.getElem_cons_zero]
                exact run_load_range 40 _ (by rfl) b1 (o1 + j * 65) (by rfl) ((gs l j).h.map (Value.int .u8)) _ (range_h hS_) Try.underlying40 rfl (infoh _ ok1.1)
              simp only [Act.put, List.getElem_toArray, List.getElem_cons_succ, List.getElem_cons_zero, List.setIfInBounds_toArray, List.set_cons_succ, List.set_cons_zero]
              refine wpAnyH_take (i := 6) (v := ?v954) rfl (by kernel_rfl) (by kernel_rfl) (by kernel_rfl) (fun _ _ _ h => h) (Or.inl ⟨by rfl, ?y954⟩) ((rangeAt_keep r0 (hw.block b1 hb1))) ?r954
              case y954 =>
                intro w_ hS_
                go_simp
                try with_reducible rfl
              simp only [Act.put, List.getElem_toArray, List.getElem_cons_succ, List.getElem_cons_zero, List.setIfInBounds_toArray, List.set_cons_succ, List.set_cons_zero]
              refine wpAnyH_take (i := 7) (v := ?v955) rfl (by kernel_rfl) (by kernel_rfl) (by kernel_rfl) (fun _ _ _ h => h) (Or.inl ⟨by rfl, ?y955⟩) ((rangeAt_keep r0 (hw.block b1 hb1))) ?r955
              case y955 =>
                intro w_ hS_
                go_simp
                try with_reducible rfl
              simp only [Act.put, List.getElem_toArray, List.getElem_cons_succ, List.getElem_cons_zero, List.setIfInBounds_toArray, List.set_cons_succ, List.set_cons_zero]
              refine wpAnyH_take (i := 8) (v := ?v956) rfl (by kernel_rfl) (by kernel_rfl) (by kernel_rfl) (fun _ _ _ h => h) (Or.inl ⟨by rfl, ?y956⟩) ((rangeAt_keep r0 (hw.block b1 hb1))) ?r956
              case y956 =>
                intro w_ hS_
                go_simp
                try with_reducible rfl
              simp only [Act.put, List.getElem_toArray, List.getElem_cons_succ, List.getElem_cons_zero, List.setIfInBounds_toArray, List.set_cons_succ, List.set_cons_zero]
              refine wpAnyH_take (i := 9) (v := ?v957) rfl (by kernel_rfl) (by kernel_rfl) (by kernel_rfl) (fun _ _ _ h => h) (Or.inl ⟨by rfl, ?y957⟩) ((rangeAt_keep r0 (hw.block b1 hb1))) ?r957
              case y957 =>
                intro w_ hS_
                go_simp
                try with_reducible rfl
              simp only [Act.put, List.getElem_toArray, List.getElem_cons_succ, List.getElem_cons_zero, List.setIfInBounds_toArray, List.set_cons_succ, List.set_cons_zero]
              refine wpAnyH_take (i := 10) (v := .int .u32 (gs l j).n) rfl (by kernel_rfl) (by kernel_rfl) (by kernel_rfl) (fun _ _ _ h => h) (Or.inl ⟨by rfl, ?y958⟩) ((rangeAt_keep r0 (hw.block b1 hb1))) ?r958
              case y958 =>
                intro w_ hS_
                have c_ := range_n ok1 hS_
                go_simp
                try with_reducible rfl
              simp only [Act.put, List.getElem_toArray, List.getElem_cons_succ, List.getElem_cons_zero, List.setIfInBounds_toArray, List.set_cons_succ, List.set_cons_zero]
              refine wpAnyH_two (j := 11) (k := 15) (fuel := 6) (by kernel_rfl) rfl rfl (by kernel_rfl) (by kernel_rfl) (fun K_ hK_ => ?_) (fun K_ hK_ => ?_)
              · refine wp_call_ex (f := 21) (R := fun v_ w_ => v_ = .tuple #[.agg (irow .u8 (gs l j).m), .bool true] ∧ Below xa.heap.size xa w_) (by kernel_rfl) (cF xa hw) (fun v_ q1 hX_ => ?_)
                obtain ⟨rfl, hb_⟩ := hX_
                replace hON := hON.keep hb_
                replace hw := Below.after hw hb_
                clear hb_
                refine hK_ _ _ (rangeAt_keep r0 (hw.block b1 hb1)) ?_
                simp only [Act.put, List.getElem_toArray, List.getElem_cons_succ, List.getElem_cons_zero, List.setIfInBounds_toArray, List.set_cons_succ, List.set_cons_zero]
                clear hK_
                refine wpAnyH_take (i := 12) (v := ?v959) rfl (by kernel_rfl) (by kernel_rfl) (by kernel_rfl) (fun _ _ _ h => h) (Or.inl ⟨by rfl, ?y959⟩) ((rangeAt_keep r0 (hw.block b1 hb1))) ?r959
                case y959 =>
                  intro w_ hS_
                  go_simp
                  try with_reducible rfl
                simp only [Act.put, List.getElem_toArray, List.getElem_cons_succ, List.getElem_cons_zero, List.setIfInBounds_toArray, List.set_cons_succ, List.set_cons_zero]
                refine wpAnyH_take (i := 13) (v := ?v960) rfl (by kernel_rfl) (by kernel_rfl) (by kernel_rfl) (fun _ _ _ h => h) (Or.inl ⟨by rfl, ?y960⟩) ((rangeAt_keep r0 (hw.block b1 hb1))) ?r960
                case y960 =>
                  intro w_ hS_
                  go_simp
                  try with_reducible rfl
                simp only [Act.put, List.getElem_toArray, List.getElem_cons_succ, List.getElem_cons_zero, List.setIfInBounds_toArray, List.set_cons_succ, List.set_cons_zero]
                refine wpAnyH_take (i := 14) (v := ?v961) rfl (by kernel_rfl) (by kernel_rfl) (by kernel_rfl) (fun _ _ _ h => h) (Or.inl ⟨by rfl, ?y961⟩) ((rangeAt_keep r0 (hw.block b1 hb1))) ?r961
                case y961 =>
                  intro w_ hS_
                  go_simp
                  try with_reducible rfl
                simp only [Act.put, List.getElem_toArray, List.getElem_cons_succ, List.getElem_cons_zero, List.setIfInBounds_toArray, List.set_cons_succ, List.set_cons_zero]
                refine wpAnyH_one (k := 15) (fuel := 2) (by kernel_rfl) rfl (by kernel_rfl) (fun K_ hK_ => ?_)
                refine wp_world_op _ _ (run_alloc_op 40 rfl _ zkey) ?_
                have hb_ : Below q1.heap.size q1 (q1.alloc (.cells (irow .u8 (zr 32)) 40)) := (Below.refl _ _).alloc (Nat.le_refl _) _
                have R10 := hp1_0 q1 (.cells (irow .u8 (zr 32)) 40)
                have ge10 : w2.heap.size ≤ q1.heap.size := hw.size
                have ngk : ∀ k_, (Value.slice aoN nN cN).ownBlock = some k_ → k_ ≠ q1.heap.size := fun k_ e_ => by have := (World.ownsRow.lt hON k_ e_).2; omega
                replace hON := hON.keep hb_
                replace hw := Below.after hw hb_
                clear hb_
                refine hK_ _ _ (rangeAt_keep r0 (hw.block b1 hb1)) ?_
                simp only [Act.put, List.getElem_toArray, List.getElem_cons_succ, List.getElem_cons_zero, List.setIfInBounds_toArray, List.set_cons_succ, List.set_cons_zero]
                clear hK_
                generalize q1.alloc (.cells (irow .u8 (zr 32)) 40) = q2 at *
                generalize q1.heap.size = g3 at *
                refine wpAnyH_one (k := 16) (fuel := 1) (by kernel_rfl) rfl (by kernel_rfl) (fun K_ hK_ => ?_)
                refine wp_store_row 40 _ _ rfl g3 (irow .u8 (gs l j).m) rfl rfl 40 _ R10 (infok8 _ ok1.2) (fit32 _ _ (zr_len 32) ok1.2) (irow_one _ _) ?_
                replace hON : OwnK (q2.setRow g3 (irow .u8 (gs l j).m)) w2.heap.size (Value.slice aoN nN cN) (hdn l (j + 1)) := own_move hON (fun k_ e_ => setRow_other q2 g3 k_ (irow .u8 (gs l j).m) (ngk k_ e_))
                replace R10 := setRow_heap q2 g3 _ (irow .u8 (gs l j).m) _ _ R10
                replace hw := below_setRow hw ge10 (irow .u8 (gs l j).m)
                refine hK_ _ _ (rangeAt_keep r0 (hw.block b1 hb1)) ?_
                simp only [Act.put]
                clear hK_
                generalize q2.setRow g3 (irow .u8 (gs l j).m) = q4 at *
                refine wpAnyH_take (i := 17) (v := ?v962) rfl (by kernel_rfl) (by kernel_rfl) (by kernel_rfl) (fun _ _ _ h => h) (Or.inl ⟨by rfl, ?y962⟩) ((rangeAt_keep r0 (hw.block b1 hb1))) ?r962
                case y962 =>
                  intro w_ hS_
                  go_simp
                  try with_reducible rfl
                simp only [Act.put, List.getElem_toArray, List.getElem_cons_succ, List.getElem_cons_zero, List.setIfInBounds_toArray, List.set_cons_succ, List.set_cons_zero]
                refine wpAnyH_done (by kernel_rfl) ?_ _
                refine NoPanic.normal ?_
                exact hcut_ g3 _ ⟨R10, hON, hw⟩
              · refine wp_world_op _ _ (run_alloc_op 40 rfl _ zkey) ?_
                have hb_ : Below xa.heap.size xa (xa.alloc (.cells (irow .u8 (zr 32)) 40)) := (Below.refl _ _).alloc (Nat.le_refl _) _
                have R10 := hp1_0 xa (.cells (irow .u8 (zr 32)) 40)
                have ge10 : w2.heap.size ≤ xa.heap.size := hw.size
                have ngk : ∀ k_, (Value.slice aoN nN cN).ownBlock = some k_ → k_ ≠ xa.heap.size := fun k_ e_ => by have := (World.ownsRow.lt hON k_ e_).2; omega
                replace hON := hON.keep hb_
                replace hw := Below.after hw hb_
                clear hb_
                refine hK_ _ _ (rangeAt_keep r0 (hw.block b1 hb1)) ?_
                simp only [Act.put, List.getElem_toArray, List.getElem_cons_succ, List.getElem_cons_zero, List.setIfInBounds_toArray, List.set_cons_succ, List.set_cons_zero]
                clear hK_
                generalize xa.alloc (.cells (irow .u8 (zr 32)) 40) = q5 at *
                generalize xa.heap.size = g6 at *
                refine wpAnyH_one (k := 11) (fuel := 5) (by kernel_rfl) rfl (by kernel_rfl) (fun K_ hK_ => ?_)
                refine wp_call_ex (f := 21) (R := fun v_ w_ => v_ = .tuple #[.agg (irow .u8 (gs l j).m), .bool true] ∧ Below q5.heap.size q5 w_) (by kernel_rfl) (cF q5 hw) (fun v_ q7 hX_ => ?_)
                obtain ⟨rfl, hb_⟩ := hX_
                replace R10 := keep hb_ R10
                replace hON := hON.keep hb_
                replace hw := Below.after hw hb_
                clear hb_
                refine hK_ _ _ (rangeAt_keep r0 (hw.block b1 hb1)) ?_
                simp only [Act.put, List.getElem_toArray, List.getElem_cons_succ, List.getElem_cons_zero, List.setIfInBounds_toArray, List.set_cons_succ, List.set_cons_zero]
                clear hK_
                refine wpAnyH_take (i := 12) (v := ?v963) rfl (by kernel_rfl) (by kernel_rfl) (by kernel_rfl) (fun _ _ _ h => h) (Or.inl ⟨by rfl, ?y963⟩) ((rangeAt_keep r0 (hw.block b1 hb1))) ?r963
                case y963 =>
                  intro w_ hS_
                  go_simp
                  try with_reducible rfl
                simp only [Act.put, List.getElem_toArray, List.getElem_cons_succ, List.getElem_cons_zero, List.setIfInBounds_toArray, List.set_cons_succ, List.set_cons_zero]
                refine wpAnyH_take (i := 13) (v := ?v964) rfl (by kernel_rfl) (by kernel_rfl) (by kernel_rfl) (fun _ _ _ h => h) (Or.inl ⟨by rfl, ?y964⟩) ((rangeAt_keep r0 (hw.block b1 hb1))) ?r964
                case y964 =>
                  intro w_ hS_
                  go_simp
                  try with_reducible rfl
                simp only [Act.put, List.getElem_toArray, List.getElem_cons_succ, List.getElem_cons_zero, List.setIfInBounds_toArray, List.set_cons_succ, List.set_cons_zero]
                refine wpAnyH_take (i := 14) (v := ?v965) rfl (by kernel_rfl) (by kernel_rfl) (by kernel_rfl) (fun _ _ _ h => h) (Or.inl ⟨by rfl, ?y965⟩) ((rangeAt_keep r0 (hw.block b1 hb1))) ?r965
                case y965 =>
                  intro w_ hS_
                  go_simp
                  try with_reducible rfl
                simp only [Act.put, List.getElem_toArray, List.getElem_cons_succ, List.getElem_cons_zero, List.setIfInBounds_toArray, List.set_cons_succ, List.set_cons_zero]
                refine wpAnyH_one (k := 16) (fuel := 1) (by kernel_rfl) rfl (by kernel_rfl) (fun K_ hK_ => ?_)
                refine wp_store_row 40 _ _ rfl g6 (irow .u8 (gs l j).m) rfl rfl 40 _ R10 (infok8 _ ok1.2) (fit32 _ _ (zr_len 32) ok1.2) (irow_one _ _) ?_
                replace hON : OwnK (q7.setRow g6 (irow .u8 (gs l j).m)) w2.heap.size (Value.slice aoN nN cN) (hdn l (j + 1)) := own_move hON (fun k_ e_ => setRow_other q7 g6 k_ (irow .u8 (gs l j).m) (ngk k_ e_))
                replace R10 := setRow_heap q7 g6 _ (irow .u8 (gs l j).m) _ _ R10
                replace hw := below_setRow hw ge10 (irow .u8 (gs l j).m)
                refine hK_ _ _ (rangeAt_keep r0 (hw.block b1 hb1)) ?_
                simp only [Act.put]
                clear hK_
                generalize q7.setRow g6 (irow .u8 (gs l j).m) = q8 at *
                refine wpAnyH_take (i := 17) (v := ?v966) rfl (by kernel_rfl) (by kernel_rfl) (by kernel_rfl) (fun _ _ _ h => h) (Or.inl ⟨by rfl, ?y966⟩) ((rangeAt_keep r0 (hw.block b1 hb1))) ?r966
                case y966 =>
                  intro w_ hS_
                  go_simp
                  try with_reducible rfl
                simp only [Act.put, List.getElem_toArray, List.getElem_cons_succ, List.getElem_cons_zero, List.setIfInBounds_toArray, List.set_cons_succ, List.set_cons_zero]
                refine wpAnyH_done (by kernel_rfl) ?_ _
                refine NoPanic.normal ?_
                exact hcut_ g6 _ ⟨R10, hON, hw⟩
            rintro gK W5 ⟨R14, hON5, hw5⟩
            clear hON hw
            have hON := hON5
            have hw := hw5
            clear hON5 hw5
            go_wp2_with (fail)
            have hbd : Below W5.heap.size W5 W5.drew := below_drN (Below.refl _ _) 1
            replace R14 := keep hbd R14
            replace hON := hON.keep hbd
            replace hw := Below.after hw hbd
            clear hbd
            refine wp_region_noPanic ?_
            refine wp_region_held (S := fun W => W.heap[gK]? = some (.cells (irow .u8 (gs l j).m) 40 (0, 0)) ∧ W.rangeAt b1 (o1 + j * 65) (srl (gs l j))) (by kernel_rfl) ?_
            change wpAnyH _ _ _ _ _ _ _ _ (World.drew _)
            generalize W5.drew = xc at *
            refine wpAnyH_take (i := 0) (v := ?v967) rfl (by kernel_rfl) (by kernel_rfl) (by kernel_rfl) (fun _ _ _ h => h) (Or.inl ⟨by rfl, ?y967⟩) ⟨R14, rangeAt_keep r0 (hw.block b1 hb1)⟩ ?r967
            case y967 =>
              intro w_ hS_
              go_simp
              try with_reducible rfl
            simp only [Act.put, List.getElem_toArray, List.getElem_cons_zero, List.setIfInBounds_toArray, List.set_cons_succ, List.set_cons_zero]
            refine wpAnyH_take (i := 1) (v := ?v968) rfl (by kernel_rfl) (by kernel_rfl) (by kernel_rfl) (fun _ _ _ h => h) (Or.inl ⟨by rfl, ?y968⟩) ⟨R14, rangeAt_keep r0 (hw.block b1 hb1)⟩ ?r968
            case y968 =>
              intro w_ hS_
              go_simp
              try with_reducible rfl
            simp only [Act.put, List.getElem_toArray, List.getElem_cons_succ, List.getElem_cons_zero, List.setIfInBounds_toArray, List.set_cons_succ, List.set_cons_zero]
            refine wpAnyH_take (i := 2) (v := ?v969) rfl (by kernel_rfl) (by kernel_rfl) (by kernel_rfl) (fun _ _ _ h => h) (Or.inl ⟨by rfl, ?y969⟩) ⟨R14, rangeAt_keep r0 (hw.block b1 hb1)⟩ ?r969
            case y969 =>
              intro w_ hS_
              go_simp
              try with_reducible rfl
            simp only [Act.put, List.getElem_toArray, List.getElem_cons_succ, List.getElem_cons_zero, List.setIfInBounds_toArray, List.set_cons_succ, List.set_cons_zero]
            refine wpAnyH_take (i := 3) (v := .agg (irow .u8 (gs l j).m)) rfl (by kernel_rfl) (by kernel_rfl) (by kernel_rfl) (fun _ _ _ h => h) (Or.inl ⟨by rfl, ?y970⟩) ⟨R14, rangeAt_keep r0 (hw.block b1 hb1)⟩ ?r970
            case y970 =>
              intro w_ hS_
              simp only [List.getElem_toArray, List.getElem_cons_succ, List.getElem_cons_zero]
              exact run_load_part 40 _ (by rfl) (gK) 0 (by rfl) 40 (irow .u8 (gs l j).m) (0, 0) (irow .u8 (gs l j).m) _ (hS_.1) (all_row _) Try.underlying40 rfl (infok8 _ ok1.2)
            simp only [Act.put, List.getElem_toArray, List.getElem_cons_succ, List.getElem_cons_zero, List.setIfInBounds_toArray, List.set_cons_succ, List.set_cons_zero]
            refine wpAnyH_take (i := 4) (v := ?v971) rfl (by kernel_rfl) (by kernel_rfl) (by kernel_rfl) (fun _ _ _ h => h) (Or.inl ⟨by rfl, ?y971⟩) ⟨R14, rangeAt_keep r0 (hw.block b1 hb1)⟩ ?r971
            case y971 =>
              intro w_ hS_
              go_simp
              try with_reducible rfl
            simp only [Act.put, List.getElem_toArray, List.getElem_cons_succ, List.getElem_cons_zero, List.setIfInBounds_toArray, List.set_cons_succ, List.set_cons_zero]
            refine wpAnyH_take (i := 5) (v := ?v972) rfl (by kernel_rfl) (by kernel_rfl) (by kernel_rfl) (fun _ _ _ h => h) (Or.inl ⟨by rfl, ?y972⟩) ⟨R14, rangeAt_keep r0 (hw.block b1 hb1)⟩ ?r972
            case y972 =>
              intro w_ hS_
              go_simp
              try with_reducible rfl
            simp only [Act.put, List.getElem_toArray, List.getElem_cons_succ, List.getElem_cons_zero, List.setIfInBounds_toArray, List.set_cons_succ, List.set_cons_zero]
            refine wpAnyH_take (i := 6) (v := ?v973) rfl (by kernel_rfl) (by kernel_rfl) (by kernel_rfl) (fun _ _ _ h => h) (Or.inl ⟨by rfl, ?y973⟩) ⟨R14, rangeAt_keep r0 (hw.block b1 hb1)⟩ ?r973
            case y973 =>
              intro w_ hS_
              go_simp
              try with_reducible rfl
            simp only [Act.put, List.getElem_toArray, List.getElem_cons_succ, List.getElem_cons_zero, List.setIfInBounds_toArray, List.set_cons_succ, List.set_cons_zero]
            refine wpAnyH_take (i := 7) (v := ?v974) rfl (by kernel_rfl) (by kernel_rfl) (by kernel_rfl) (fun _ _ _ h => h) (Or.inl ⟨by rfl, ?y974⟩) ⟨R14, rangeAt_keep r0 (hw.block b1 hb1)⟩ ?r974
            case y974 =>
              intro w_ hS_
              go_simp
              try with_reducible rfl
            simp only [Act.put, List.getElem_toArray, List.getElem_cons_succ, List.getElem_cons_zero, List.setIfInBounds_toArray, List.set_cons_succ, List.set_cons_zero]
            refine wpAnyH_take (i := 8) (v := .agg (irow .u8 (gs l j).m)) rfl (by kernel_rfl) (by kernel_rfl) (by kernel_rfl) (fun _ _ _ h => h) (Or.inl ⟨by rfl, ?y975⟩) ⟨R14, rangeAt_keep r0 (hw.block b1 hb1)⟩ ?r975
            case y975 =>
              intro w_ hS_
              simp only [List.getElem_toArray, List.getElem_cons_succ, List.getElem_cons_zero]
              exact run_load_range 40 _ (by rfl) b1 (o1 + j * 65 + 33) (by rfl) ((gs l j).m.map (Value.int .u8)) _ (range_m ok1 hS_.2) Try.underlying40 rfl (infoh _ ok1.2)
            simp only [Act.put, List.getElem_toArray, List.getElem_cons_succ, List.getElem_cons_zero, List.setIfInBounds_toArray, List.set_cons_succ, List.set_cons_zero]
            refine wpAnyH_take (i := 9) (v := .bool (!true)) rfl (by kernel_rfl) (by kernel_rfl) (by kernel_rfl) (fun _ _ _ h => h) (Or.inl ⟨by rfl, ?y976⟩) ⟨R14, rangeAt_keep r0 (hw.block b1 hb1)⟩ ?r976
            case y976 =>
              intro w_ hS_
              simp only [List.getElem_toArray, List.getElem_cons_succ, List.getElem_cons_zero]
              exact run_neq_op 40 40 _ _ (by rfl) (irow .u8 (gs l j).m) (irow .u8 (gs l j).m) (by rfl) (by rfl) egK _ (ek w_)
            simp only [Act.put, List.getElem_toArray, List.getElem_cons_succ, List.getElem_cons_zero, List.setIfInBounds_toArray, List.set_cons_succ, List.set_cons_zero]
            refine wpAnyH_take (i := 10) (v := ?v977) rfl (by kernel_rfl) (by kernel_rfl) (by kernel_rfl) (fun _ _ _ h => h) (Or.inl ⟨by rfl, ?y977⟩) ⟨R14, rangeAt_keep r0 (hw.block b1 hb1)⟩ ?r977
            case y977 =>
              intro w_ hS_
              go_simp
              try with_reducible rfl
            simp only [Act.put, List.getElem_toArray, List.getElem_cons_succ, List.getElem_cons_zero, List.setIfInBounds_toArray, List.set_cons_succ, List.set_cons_zero]
            refine wpAnyH_done (by kernel_rfl) ?_ _
            refine NoPanic.normal ?_
            go_wp2_with (fail)
            refine ⟨⟨j + 1, by omega, by go_num, hON, hw⟩, ?_⟩
            simp [intOf]; omega
    · obtain rfl : k = l.length := by omega
      have hd : decide ((l.length : Int) < (l.length : Int)) = false := by simp
      have hks := hdn_ok hok l.length (Nat.le_refl _)
      have hkl := hdn_len l l.length
      obtain ⟨aoN, nN, cN, rfl⟩ : ∃ ao n c, u6 = .slice ao n c := by obtain ⟨a_, c_, h_⟩ := slen_own hO6; exact ⟨a_, _, c_, h_⟩
      go_wp2_with (fail)
      refine (a_Headers base g b v most l wr (hS.keep hw)).mono ?_
      rintro e_ w5 ⟨u5, rfl, hH, hb5⟩
      have cS := l_sameKeys (hdn l l.length) hks (by omega) w5 _ _ _ _ (hO6.keep hb5) hH
      replace hw := Below.after hw hb5
      clear hb5 hO6
      obtain ⟨ao5, n5, c5, rfl⟩ : ∃ ao n c, u5 = .slice ao n c := by obtain ⟨a_, c_, h_⟩ := slen_own hH; exact ⟨a_, _, c_, h_⟩
      go_wp2_with (fail)
      refine cS.mono ?_
      rintro e_ w6 ⟨rfl, hb6⟩
      replace hw := Below.after hw hb6
      have hwz := Below.after hb0 hw
      clear hb6 hw hb0 cS
      go_wp2_with (fail)
      go_ret
      exact ⟨rfl, hwz⟩

end Go.Proofs.Ytebgdenfaiinmaa
