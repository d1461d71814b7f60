import Derived.Test.YtgfeacnhdlgpoaaDoorProg
import Derived.WalkKit
import Derived.WalkSpells
import Derived.WalkLawsBesides
import Derived.Lib.QuietBelow
import Derived.BigQuiet
import Derived.OrdersHeld
import Derived.OwnWalk
import Derived.Deep.RegionHeld3
import Derived.Deep.Cut
import Derived.Deep.CutRange
import Derived.Test.YtgfeacnhdlgpoaaDoorTrs
namespace Go.Proofs.YtgfeacnhdlgpoaaDoor
set_option maxRecDepth 100000
open Go Go.RowKit Go.Sort
attribute [local go_sem] setCell_drewN alloc_drewN
set_option maxRecDepth 100000 in
set_option maxHeartbeats 8000000 in
theorem r_texts0 (w : World) (ao : Option Addr) (n cap : Nat) (hn : n < 2) : Calls Tryd.prog 38 #[.slice ao n cap] w fun e w' => ∃ v, e = .returned v ∧ OwnT w' w.heap.size v [] ∧ Below w.heap.size w w' := by
  have d1 : decide ((n : Int) < 2) = true := by simp; omega
  have hw : Below w.heap.size w w := Below.refl _ _
  go_enter Tryd.func38, Tryd.ntmps38
  go_wp2_with (fail)
  go_ret
  exact ⟨_, rfl, OwnT.nil _ _, hw⟩
set_option maxRecDepth 100000 in
set_option maxHeartbeats 8000000 in
theorem r_texts2 {P Q X : List Int} {A B : List (List Int)} (hAl : A.length ≤ 400000) (hBl : B.length ≤ 400000) (w : World) (ao : Option Addr) (n cap k : Nat) (hn : 2 ≤ n) (_hm : n ≤ 4398046511000) (hc : n ≤ cap) (hk : k < n) (hz : ao = none → cap = 0) (cC : Gives 45 #[.int .i64 (n : Int)] (.int .i64 (k : Int))) (cA : (∀ W, Below w.heap.size w W → Calls Tryd.prog 38 #[.slice ao k cap] W fun e w' => ∃ v, e = .returned v ∧ OwnT w' W.heap.size v A ∧ Below W.heap.size W w')) (cB : (∀ W, Below w.heap.size w W → Calls Tryd.prog 38 #[sltl ao n cap k] W fun e w' => ∃ v, e = .returned v ∧ OwnT w' W.heap.size v B ∧ Below W.heap.size W w')) (cR1 : (∀ W, Below w.heap.size w W → Calls Tryd.prog 19 #[.slice ao k cap] W fun e w' => e = .returned (.agg (irow .u8 P)) ∧ Below W.heap.size W w')) (cR2 : (∀ W, Below w.heap.size w W → Calls Tryd.prog 19 #[sltl ao n cap k] W fun e w' => e = .returned (.agg (irow .u8 Q)) ∧ Below W.heap.size W w')) (cX : ∀ W, Below w.heap.size w W → Calls Tryd.prog 43 #[.agg (irow .u8 P), .agg (irow .u8 Q)] W fun e w' => ∃ v, e = .returned v ∧ OwnI w' w.heap.size v X ∧ Below W.heap.size W w') : Calls Tryd.prog 38 #[.slice ao n cap] w fun e w' => ∃ v, e = .returned v ∧ OwnT w' w.heap.size v (A ++ B ++ [X]) ∧ Below w.heap.size w w' := by
  have d1 : decide ((n : Int) < 2) = false := by simp; omega
  have hw : Below w.heap.size w w := Below.refl _ _
  go_enter Tryd.func38, Tryd.ntmps38
  go_wp2_with (fail)
  refine (cC.at _).mono ?_
  rintro e_ w1 ⟨rfl, hb⟩
  replace hw := Below.after hw hb
  clear hb
  clear cC
  go_wp2_with (fail)
  have hb : Below w1.heap.size w1 w1.drew := below_drN (Below.refl _ _) 1
  replace hw := Below.after hw hb
  clear hb
  refine wp_region_noPanic ?_
  refine wp_region_held (S := fun _ => True) (by kernel_rfl) ?_
  change wpAnyH _ _ _ _ _ _ _ _ (World.drew _)
  generalize w1.drew = wd237 at *
  refine wpAnyH_take (i := 0) (v := ?v238) rfl (by kernel_rfl) (by kernel_rfl) (by kernel_rfl) (fun _ _ _ h => h) (Or.inl ⟨by rfl, ?y238⟩) (trivial) ?r238
  case y238 =>
    intro w_ hS_
    go_simp
    try with_reducible rfl
  simp only [Act.put, List.getElem_toArray, List.getElem_cons_zero, List.setIfInBounds_toArray, List.set_cons_succ, List.set_cons_zero]
  refine wpAnyH_take (i := 1) (v := ?v239) rfl (by kernel_rfl) (by kernel_rfl) (by kernel_rfl) (fun _ _ _ h => h) (Or.inl ⟨by rfl, ?y239⟩) (trivial) ?r239
  case y239 =>
    intro w_ hS_
    go_simp
    try with_reducible rfl
  simp only [Act.put, List.getElem_toArray, List.getElem_cons_succ, List.getElem_cons_zero, List.setIfInBounds_toArray, List.set_cons_succ, List.set_cons_zero]
  refine wpAnyH_take (i := 2) (v := .slice ao k cap) rfl (by kernel_rfl) (by kernel_rfl) (by kernel_rfl) (fun _ _ _ h => h) (Or.inl ⟨by rfl, ?y240⟩) (trivial) ?r240
  case y240 =>
    intro w_ hS_
    simp only [List.getElem_toArray, List.getElem_cons_succ, List.getElem_cons_zero]
    exact e_slice _ _ _ _ rfl _ (slk_head ao n cap k (by omega) hz _)
  simp only [Act.put, List.getElem_toArray, List.getElem_cons_succ, List.getElem_cons_zero, List.setIfInBounds_toArray, List.set_cons_succ, List.set_cons_zero]
  refine wpAnyH_take (i := 4) (v := ?v241) rfl (by kernel_rfl) (by kernel_rfl) (by kernel_rfl) (fun _ _ _ h => h) (Or.inl ⟨by rfl, ?y241⟩) (trivial) ?r241
  case y241 =>
    intro w_ hS_
    go_simp
    try with_reducible rfl
  simp only [Act.put, List.getElem_toArray, List.getElem_cons_succ, List.getElem_cons_zero, List.setIfInBounds_toArray, List.set_cons_succ, List.set_cons_zero]
  refine wpAnyH_take (i := 5) (v := ?v242) rfl (by kernel_rfl) (by kernel_rfl) (by kernel_rfl) (fun _ _ _ h => h) (Or.inl ⟨by rfl, ?y242⟩) (trivial) ?r242
  case y242 =>
    intro w_ hS_
    go_simp
    try with_reducible rfl
  simp only [Act.put, List.getElem_toArray, List.getElem_cons_succ, List.getElem_cons_zero, List.setIfInBounds_toArray, List.set_cons_succ, List.set_cons_zero]
  refine wpAnyH_take (i := 6) (v := sltl ao n cap k) rfl (by kernel_rfl) (by kernel_rfl) (by kernel_rfl) (fun _ _ _ h => h) (Or.inl ⟨by rfl, ?y243⟩) (trivial) ?r243
  case y243 =>
    intro w_ hS_
    simp only [List.getElem_toArray, List.getElem_cons_succ, List.getElem_cons_zero]
    exact e_slice _ _ _ _ rfl _ (slk_tail ao n cap k (by omega) _)
  simp only [Act.put, List.getElem_toArray, List.getElem_cons_succ, List.getElem_cons_zero, List.setIfInBounds_toArray, List.set_cons_succ, List.set_cons_zero]
  refine eH_one (k := 3) (fuel := 3) (by kernel_rfl) rfl (by kernel_rfl) (fun K_ hK_ => ?_)
  have hsr := hw.size
  refine wp_call_ex (f := 38) (by kernel_rfl) (cA _ hw) (fun vhTa wq244 hX_ => ?_)
  obtain ⟨hTa, hb⟩ := hX_
  replace hw := Below.after hw hb
  clear hb
  refine hK_ _ _ (trivial) ?_
  simp only [Act.put, List.getElem_toArray, List.getElem_cons_succ, List.getElem_cons_zero, List.setIfInBounds_toArray, List.set_cons_succ, List.set_cons_zero]
  clear hK_
  replace hTa := hTa.down hsr
  clear hsr
  refine eH_one (k := 7) (fuel := 2) (by kernel_rfl) rfl (by kernel_rfl) (fun K_ hK_ => ?_)
  have hsr := hw.size
  refine wp_call_ex (f := 38) (by kernel_rfl) (cB _ hw) (fun vhTb wq245 hX_ => ?_)
  obtain ⟨hTb, hb⟩ := hX_
  replace hTa := hTa.keep hb
  replace hw := Below.after hw hb
  clear hb
  refine hK_ _ _ (trivial) ?_
  simp only [Act.put, List.getElem_toArray, List.getElem_cons_succ, List.getElem_cons_zero, List.setIfInBounds_toArray, List.set_cons_succ, List.set_cons_zero]
  clear hK_
  replace hTb := hTb.down hsr
  clear hsr
  refine eH_one (k := 8) (fuel := 1) (by kernel_rfl) rfl (by kernel_rfl) (fun K_ hK_ => ?_)
  refine wp_append_T _ _ rfl w.heap.size _ A rfl hTa _ B rfl hTb (by omega) hw.size (fun va_ wa246 hA_ hG_ => ?_)
  replace hw := hw.grown hG_ hw.size (fun k e => (hTa.lt k e).1)
  clear hTa hTb hG_
  have hT := hA_
  clear hA_
  refine hK_ _ _ (trivial) ?_
  simp only [Act.put, List.getElem_toArray, List.getElem_cons_succ, List.getElem_cons_zero, List.setIfInBounds_toArray, List.set_cons_succ, List.set_cons_zero]
  clear hK_
  refine wpAnyH_take (i := 9) (v := ?v247) rfl (by kernel_rfl) (by kernel_rfl) (by kernel_rfl) (fun _ _ _ h => h) (Or.inl ⟨by rfl, ?y247⟩) (trivial) ?r247
  case y247 =>
    intro w_ hS_
    go_simp
    try with_reducible rfl
  simp only [Act.put, List.getElem_toArray, List.getElem_cons_succ, List.getElem_cons_zero, List.setIfInBounds_toArray, List.set_cons_succ, List.set_cons_zero]
  refine wpAnyH_done (by kernel_rfl) ?_ _
  refine NoPanic.normal ?_
  go_wp2_with (fail)
  have hb : Below wa246.heap.size wa246 wa246.drew := below_drN (Below.refl _ _) 1
  replace hT := hT.keep hb
  replace hw := Below.after hw hb
  clear hb
  refine wp_region_noPanic ?_
  refine wp_region_held (S := fun _ => True) (by kernel_rfl) ?_
  change wpAnyH _ _ _ _ _ _ _ _ (World.drew _)
  generalize wa246.drew = wd248 at *
  refine wpAnyH_take (i := 0) (v := ?v249) rfl (by kernel_rfl) (by kernel_rfl) (by kernel_rfl) (fun _ _ _ h => h) (Or.inl ⟨by rfl, ?y249⟩) (trivial) ?r249
  case y249 =>
    intro w_ hS_
    go_simp
    try with_reducible rfl
  simp only [Act.put, List.getElem_toArray, List.getElem_cons_zero, List.setIfInBounds_toArray, List.set_cons_succ, List.set_cons_zero]
  refine wpAnyH_take (i := 1) (v := ?v250) rfl (by kernel_rfl) (by kernel_rfl) (by kernel_rfl) (fun _ _ _ h => h) (Or.inl ⟨by rfl, ?y250⟩) (trivial) ?r250
  case y250 =>
    intro w_ hS_
    go_simp
    try with_reducible rfl
  simp only [Act.put, List.getElem_toArray, List.getElem_cons_succ, List.getElem_cons_zero, List.setIfInBounds_toArray, List.set_cons_succ, List.set_cons_zero]
  refine wpAnyH_take (i := 2) (v := ?v251) rfl (by kernel_rfl) (by kernel_rfl) (by kernel_rfl) (fun _ _ _ h => h) (Or.inl ⟨by rfl, ?y251⟩) (trivial) ?r251
  case y251 =>
    intro w_ hS_
    go_simp
    try with_reducible rfl
  simp only [Act.put, List.getElem_toArray, List.getElem_cons_succ, List.getElem_cons_zero, List.setIfInBounds_toArray, List.set_cons_succ, List.set_cons_zero]
  refine wpAnyH_take (i := 3) (v := .slice ao k cap) rfl (by kernel_rfl) (by kernel_rfl) (by kernel_rfl) (fun _ _ _ h => h) (Or.inl ⟨by rfl, ?y252⟩) (trivial) ?r252
  case y252 =>
    intro w_ hS_
    simp only [List.getElem_toArray, List.getElem_cons_succ, List.getElem_cons_zero]
    exact e_slice _ _ _ _ rfl _ (slk_head ao n cap k (by omega) hz _)
  simp only [Act.put, List.getElem_toArray, List.getElem_cons_succ, List.getElem_cons_zero, List.setIfInBounds_toArray, List.set_cons_succ, List.set_cons_zero]
  refine wpAnyH_take (i := 5) (v := ?v253) rfl (by kernel_rfl) (by kernel_rfl) (by kernel_rfl) (fun _ _ _ h => h) (Or.inl ⟨by rfl, ?y253⟩) (trivial) ?r253
  case y253 =>
    intro w_ hS_
    go_simp
    try with_reducible rfl
  simp only [Act.put, List.getElem_toArray, List.getElem_cons_succ, List.getElem_cons_zero, List.setIfInBounds_toArray, List.set_cons_succ, List.set_cons_zero]
  refine wpAnyH_take (i := 6) (v := ?v254) rfl (by kernel_rfl) (by kernel_rfl) (by kernel_rfl) (fun _ _ _ h => h) (Or.inl ⟨by rfl, ?y254⟩) (trivial) ?r254
  case y254 =>
    intro w_ hS_
    go_simp
    try with_reducible rfl
  simp only [Act.put, List.getElem_toArray, List.getElem_cons_succ, List.getElem_cons_zero, List.setIfInBounds_toArray, List.set_cons_succ, List.set_cons_zero]
  refine wpAnyH_take (i := 7) (v := sltl ao n cap k) rfl (by kernel_rfl) (by kernel_rfl) (by kernel_rfl) (fun _ _ _ h => h) (Or.inl ⟨by rfl, ?y255⟩) (trivial) ?r255
  case y255 =>
    intro w_ hS_
    simp only [List.getElem_toArray, List.getElem_cons_succ, List.getElem_cons_zero]
    exact e_slice _ _ _ _ rfl _ (slk_tail ao n cap k (by omega) _)
  simp only [Act.put, List.getElem_toArray, List.getElem_cons_succ, List.getElem_cons_zero, List.setIfInBounds_toArray, List.set_cons_succ, List.set_cons_zero]
  refine eH_one (k := 4) (fuel := 5) (by kernel_rfl) rfl (by kernel_rfl) (fun K_ hK_ => ?_)
  refine wp_call_ex (f := 19) (by kernel_rfl) (ex1e (cR1 _ hw)) (fun v_ wq256 hX_ => ?_)
  obtain ⟨rfl, hb⟩ := hX_
  replace hT := hT.keep hb
  replace hw := Below.after hw hb
  clear hb
  refine hK_ _ _ (trivial) ?_
  simp only [Act.put, List.getElem_toArray, List.getElem_cons_succ, List.getElem_cons_zero, List.setIfInBounds_toArray, List.set_cons_succ, List.set_cons_zero]
  clear hK_
  refine eH_one (k := 8) (fuel := 4) (by kernel_rfl) rfl (by kernel_rfl) (fun K_ hK_ => ?_)
  refine wp_call_ex (f := 19) (by kernel_rfl) (ex1e (cR2 _ hw)) (fun v_ wq257 hX_ => ?_)
  obtain ⟨rfl, hb⟩ := hX_
  replace hT := hT.keep hb
  replace hw := Below.after hw hb
  clear hb
  refine hK_ _ _ (trivial) ?_
  simp only [Act.put, List.getElem_toArray, List.getElem_cons_succ, List.getElem_cons_zero, List.setIfInBounds_toArray, List.set_cons_succ, List.set_cons_zero]
  clear hK_
  refine eH_one (k := 9) (fuel := 3) (by kernel_rfl) rfl (by kernel_rfl) (fun K_ hK_ => ?_)
  refine wp_call_ex (f := 43) (by kernel_rfl) (cX _ hw) (fun vX wq258 hX_ => ?_)
  obtain ⟨hx_, hb⟩ := hX_
  replace hT := hT.keep hb
  replace hw := Below.after hw hb
  clear hb
  refine hK_ _ _ (trivial) ?_
  simp only [Act.put, List.getElem_toArray, List.getElem_cons_succ, List.getElem_cons_zero, List.setIfInBounds_toArray, List.set_cons_succ, List.set_cons_zero]
  clear hK_
  refine eH_one (k := 10) (fuel := 2) (by kernel_rfl) rfl (by kernel_rfl) (fun K_ hK_ => ?_)
  refine e_world_op (.slice (some ⟨wq258.heap.size, 0, none⟩) 1 1) (wq258.alloc (.cells #[vX] 22)) (e_bslT _ rfl vX rfl hx_ _) ?_
  have hb : Below wq258.heap.size wq258 (wq258.alloc (.cells #[vX] 22)) := (Below.refl _ _).alloc (Nat.le_refl _) _
  have rg259 := hp1_0 wq258 (.cells #[vX] 22)
  have szg259 := hw.size
  replace hT := hT.keep hb
  replace hx_ := hx_.keep hb
  replace hw := Below.after hw hb
  clear hb
  refine hK_ _ _ (trivial) ?_
  simp only [Act.put, List.getElem_toArray, List.getElem_cons_succ, List.getElem_cons_zero, List.setIfInBounds_toArray, List.set_cons_succ, List.set_cons_zero]
  clear hK_
  generalize (wq258.alloc (.cells #[vX] 22)) = wq259 at *
  generalize wq258.heap.size = g259 at *
  refine eH_one (k := 11) (fuel := 1) (by kernel_rfl) rfl (by kernel_rfl) (fun K_ hK_ => ?_)
  refine wp_append_T _ _ rfl w.heap.size _ (A ++ B) rfl hT _ [X] rfl (OwnT.single szg259 rg259 hx_) (by simp only [List.length_append, List.length_singleton]; omega) hw.size (fun va_ wa260 hA_ hG_ => ?_)
  replace hw := hw.grown hG_ hw.size (fun k e => (hT.lt k e).1)
  clear hT hx_ hG_ rg259
  refine hK_ _ _ (trivial) ?_
  simp only [Act.put, List.getElem_toArray, List.getElem_cons_succ, List.getElem_cons_zero, List.setIfInBounds_toArray, List.set_cons_succ, List.set_cons_zero]
  clear hK_
  refine wpAnyH_take (i := 12) (v := ?v261) rfl (by kernel_rfl) (by kernel_rfl) (by kernel_rfl) (fun _ _ _ h => h) (Or.inl ⟨by rfl, ?y261⟩) (trivial) ?r261
  case y261 =>
    intro w_ hS_
    go_simp
    try with_reducible rfl
  simp only [Act.put, List.getElem_toArray, List.getElem_cons_succ, List.getElem_cons_zero, List.setIfInBounds_toArray, List.set_cons_succ, List.set_cons_zero]
  refine wpAnyH_done (by kernel_rfl) ?_ _
  refine NoPanic.normal ?_
  go_wp2_with (fail)
  go_ret
  exact ⟨_, rfl, hA_, hw⟩
theorem txs_len (H : List Int → List Int) : ∀ (n : Nat) (l : List (List Int)), l.length = n → (txs H l).length ≤ n := by
  intro n
  induction n using Nat.strongRecOn with
  | ind n ih =>
    rintro l rfl
    by_cases h : l.length < 2
    · rw [txs_one H h]; simp
    · have a := ct_lt h
      have b := ct_pos l.length
      have q1 : ∀ n' (l' : List (List Int)), l'.length = n' → 1 ≤ n' → n' < l.length → (txs H l').length + 1 ≤ n' := by
        intro n'
        induction n' using Nat.strongRecOn with
        | ind n' ih' =>
          rintro l' rfl h1 h2
          by_cases h' : l'.length < 2
          · rw [txs_one H h']; simp; omega
          · have a' := ct_lt h'
            have b' := ct_pos l'.length
            have := ih' (ctN l'.length) a' (l'.take (ctN l'.length)) (by rw [List.length_take]; omega) b' (by omega)
            have := ih' (l'.length - ctN l'.length) (by omega) (l'.drop (ctN l'.length)) (by rw [List.length_drop]) (by omega) (by omega)
            rw [txs_two H h']; simp; omega
      have := q1 (ctN l.length) (l.take (ctN l.length)) (by rw [List.length_take]; omega) b a
      have := q1 (l.length - ctN l.length) (l.drop (ctN l.length)) (by rw [List.length_drop]) (by omega) (by omega)
      rw [txs_two H h]; simp; omega
theorem r_Texts : ∀ (n : Nat) (l : List (List Int)) (w : World) (v : Value), l.length = n → n ≤ 65536 → Ksl w v l → Calls Tryd.prog 38 #[v] w fun e w' => ∃ v, e = .returned v ∧ OwnT w' w.heap.size v (txs sumL l) ∧ Below w.heap.size w w' := by
  intro n
  induction n using Nat.strongRecOn with
  | ind n ih =>
    rintro l w v rfl hn hL
    obtain ⟨ao, cap, rfl, hc, hz⟩ := hL.slc
    by_cases h2 : l.length < 2
    · rw [txs_one sumL h2]
      exact r_texts0 w ao l.length cap h2
    · have a := ct_lt h2
      have b := ct_pos l.length
      have l1 : (l.take (ctN l.length)).length = ctN l.length := by rw [List.length_take]; omega
      have l2 : (l.drop (ctN l.length)).length = l.length - ctN l.length := by rw [List.length_drop]
      have kA := Ky.rt (hL.ok.take (ctN l.length))
      have kB := Ky.rt (hL.ok.drop (ctN l.length))
      rw [txs_two sumL h2]
      exact r_texts2 (Nat.le_trans (txs_len sumL _ _ l1) (by omega)) (Nat.le_trans (txs_len sumL _ _ l2) (by omega)) w ao l.length cap (ctN l.length) (by omega) hL.le hc a hz (r_cut _ h2 hL.le) (fun W hW => ih _ a _ _ _ l1 (by omega) ((hL.keep hW).head (by omega))) (fun W hW => ih (l.length - ctN l.length) (by omega) _ _ _ l2 (by omega) ((hL.keep hW).tail (by omega))) (fun W hW => r_Root _ _ _ _ l1 ((hL.keep hW).head (by omega))) (fun W hW => r_Root _ _ _ _ l2 ((hL.keep hW).tail (by omega))) (fun W hW => r_textD hW _ _ kA kB)
end Go.Proofs.YtgfeacnhdlgpoaaDoor
