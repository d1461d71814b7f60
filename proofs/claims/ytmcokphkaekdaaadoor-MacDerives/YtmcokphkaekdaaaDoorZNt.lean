import Derived.Test.YtmcokphkaekdaaaDoorProg
import Derived.WalkKit
import Derived.WalkSpells
import Derived.WalkLawsBesides
import Derived.Lib.QuietBelow
import Derived.BigQuiet
import Derived.Test.YtmcokphkaekdaaaDoorS0
import Derived.Test.YtmcokphkaekdaaaDoorS4
import Derived.Deep.RegionLaw
import Derived.Deep.RegionHeld3
namespace Go.Proofs.YtmcokphkaekdaaaDoor
open Go Go.RowKit Go.Sort
attribute [local go_sem] setCell_drewN alloc_drewN

theorem ad_yes (salt sec info : List Int) (n : Nat) (w : World) (vs vc vi : Value) (hS : Sta w) (hK : Kon w) (hA : Bys w vs salt) (hca : ∀ a l c, vs = .slice a l c → l ≤ c) (hal : salt.length ≤ 4611686018427370000) (hC : Bys w vc sec) (hcc : ∀ a l c, vc = .slice a l c → l ≤ c) (hcl : sec.length ≤ 4611686018427370000) (hI : Bys w vi info) (hci : ∀ a l c, vi = .slice a l c → l ≤ c) (hil : info.length ≤ 4611686018427370000) (hn : n ≤ 8160) :
    Calls Tryd.prog 28 #[vs, vc, vi, .int .i64 (n : Int)] w fun e w' => ∃ v, e = .returned v ∧ ∃ g, v = .tuple #[.slice (some ⟨g, 0, none⟩) n n, .int .i64 0] ∧ w.heap.size ≤ g ∧ w'.heap[g]? = some (.cells (irow .u8 (xpd (hm salt sec) info n)) 5 (0, 0)) ∧ Below w.heap.size w w' := by
  refine (a_derive salt sec info (n : Int) w vs vc vi hS hK hA hca hal hC hcc hcl hI hci hil).mono ?_
  rintro e_ w' ⟨v, rfl, ⟨m, g, e1, hm, rfl, hg, r⟩ | ⟨hn', _⟩, hb⟩
  · obtain rfl : n = m := by omega
    exact ⟨_, rfl, g, rfl, hg, r, hb⟩
  · omega
theorem ad_no (salt sec info : List Int) (n : Int) (w : World) (vs vc vi : Value) (hS : Sta w) (hK : Kon w) (hA : Bys w vs salt) (hca : ∀ a l c, vs = .slice a l c → l ≤ c) (hal : salt.length ≤ 4611686018427370000) (hC : Bys w vc sec) (hcc : ∀ a l c, vc = .slice a l c → l ≤ c) (hcl : sec.length ≤ 4611686018427370000) (hI : Bys w vi info) (hci : ∀ a l c, vi = .slice a l c → l ≤ c) (hil : info.length ≤ 4611686018427370000) (hn : n < 0 ∨ 8160 < n) :
    Calls Tryd.prog 28 #[vs, vc, vi, .int .i64 n] w fun e w' => ∃ v, e = .returned v ∧ v = .tuple #[.slice none 0 0, .int .i64 (if n < 0 then 1 else 2)] ∧ Below w.heap.size w w' := by
  refine (a_derive salt sec info n w vs vc vi hS hK hA hca hal hC hcc hcl hI hci hil).mono ?_
  rintro e_ w' ⟨v, rfl, ⟨m, g, rfl, hm, rfl, hg, r⟩ | ⟨hn', rfl⟩, hb⟩
  · omega
  · exact ⟨_, rfl, rfl, hb⟩
theorem rd_yes (salt sec info : List Int) (n : Nat) (w : World) (vs vc vi : Value) (hA : BysM w vs salt) (hC : BysM w vc sec) (hcl : sec.length ≤ 140737488355200) (hI : BysM w vi info) (hil : info.length ≤ 140737488355200) (hn : n ≤ 8160) :
    Calls Tryd.prog 29 #[vs, vc, vi, .int .i64 (n : Int)] w fun e w' => ∃ u, e = .returned (.tuple #[u, .int .i64 0]) ∧ NB w' u (xpd (hm salt sec) info n) ∧ Below w.heap.size w w' := by
  refine (r_derive4 salt sec info (n : Int) w vs vc vi hA hC hcl hI hil).mono ?_
  rintro e_ w' ⟨v, rfl, ⟨m, u, e1, hm, rfl, r⟩ | ⟨hn', _⟩, hb⟩
  · obtain rfl : n = m := by omega
    exact ⟨u, rfl, r, hb⟩
  · omega
theorem rd_no (salt sec info : List Int) (n : Int) (w : World) (vs vc vi : Value) (hA : BysM w vs salt) (hC : BysM w vc sec) (hcl : sec.length ≤ 140737488355200) (hI : BysM w vi info) (hil : info.length ≤ 140737488355200) (hn : n < 0 ∨ 8160 < n) :
    Calls Tryd.prog 29 #[vs, vc, vi, .int .i64 n] w fun e w' => e = .returned (.tuple #[.slice none 0 0, .int .i64 (if n < 0 then 1 else 2)]) ∧ Below w.heap.size w w' := by
  refine (r_derive4 salt sec info n w vs vc vi hA hC hcl hI hil).mono ?_
  rintro e_ w' ⟨v, rfl, ⟨m, u, rfl, hm, rfl, r⟩ | ⟨hn', rfl⟩, hb⟩
  · omega
  · exact ⟨rfl, hb⟩
set_option maxRecDepth 100000 in
set_option maxHeartbeats 4000000 in
theorem macDerives_A (salt sec info : List Int) (n : Nat) (w : World) (vs vc vi : Value) (hS : Sta w) (hK : Kon w) (hA : BysN w vs salt) (hC : BysN w vc sec) (hI : BysN w vi info) (hn : n ≤ 8160) : Calls Tryd.prog 7 #[vs, vc, vi, .int .i64 (n : Int)] w fun e w' => e = .returned (.bool true) ∧ Below w.heap.size w w' := by
  have zhA := bys_bd hA.1
  have lhA : salt.length ≤ 140737488351232 := hA.2.1
  replace hA := hA.toM
  have shA : ∀ g W, _ := fun g W => slice_to (some ⟨g, 0, none⟩) (salt.length + 80) (salt.length + 80) salt.length (by omega) W
  have zhC := bys_bd hC.1
  have lhC : sec.length ≤ 140737488351232 := hC.2.1
  replace hC := hC.toM
  have shC : ∀ g W, _ := fun g W => slice_to (some ⟨g, 0, none⟩) (sec.length + 80) (sec.length + 80) sec.length (by omega) W
  have zhI := bys_bd hI.1
  have lhI : info.length ≤ 140737488351232 := hI.2.1
  replace hI := hI.toM
  have shI : ∀ g W, _ := fun g W => slice_to (some ⟨g, 0, none⟩) (info.length + 80) (info.length + 80) info.length (by omega) W
  obtain ⟨us, usc, rfl, _⟩ := id hA.1
  obtain ⟨uc, ucc, rfl, _⟩ := id hC.1
  obtain ⟨ui, uic, rfl, _⟩ := id hI.1
  have hw := Below.refl w.heap.size w
  go_enter Tryd.func7, Tryd.ntmps7
  go_wp2_with (fail)
  refine (l_hand salt w _ (hA.1.keep hw) (by omega)).mono ?_
  rintro e_ w1 ⟨rfl, rA, hb⟩
  have s0 := hb.size
  replace hw := Below.after hw hb
  clear hb
  generalize ega_ : w.heap.size = ga_ at rA ⊢
  have ltga_ := lt_of_row rA
  go_wp2_with (fail)
  refine (l_hand sec w1 _ (hC.1.keep hw) (by omega)).mono ?_
  rintro e_ w2 ⟨rfl, rC, hb⟩
  have s1 := hb.size
  replace rA := keep hb rA
  replace hw := Below.after hw hb
  clear hb
  generalize egc_ : w1.heap.size = gc_ at rC ⊢
  have ltgc_ := lt_of_row rC
  go_wp2_with (fail)
  refine (l_hand info w2 _ (hI.1.keep hw) (by omega)).mono ?_
  rintro e_ w3 ⟨rfl, rI, hb⟩
  have s2 := hb.size
  replace rA := keep hb rA
  replace rC := keep hb rC
  replace hw := Below.after hw hb
  clear hb
  generalize egi_ : w2.heap.size = gi_ at rI ⊢
  have ltgi_ := lt_of_row rI
  go_wp2_with (fail)
  have hbd : Below w3.heap.size w3 w3.drew := below_drN (Below.refl _ _) 1
  have bhA : Bys w3.drew (.slice (some ⟨ga_, 0, none⟩) salt.length (salt.length + 80)) salt := Bys.of_prefix (keep hbd rA) (by omega) zhA _
  have bhC : Bys w3.drew (.slice (some ⟨gc_, 0, none⟩) sec.length (sec.length + 80)) sec := Bys.of_prefix (keep hbd rC) (by omega) zhC _
  have bhI : Bys w3.drew (.slice (some ⟨gi_, 0, none⟩) info.length (info.length + 80)) info := Bys.of_prefix (keep hbd rI) (by omega) zhI _
  have cX := ad_yes salt sec info n w3.drew _ _ _ ((hS.below hw).below hbd) ((hK.below hw).below hbd) bhA (fun a l c h => by cases h; omega) (by omega) bhC (fun a l c h => by cases h; omega) (by omega) bhI (fun a l c h => by cases h; omega) (by omega) hn
  refine wp_region_noPanic ?_
  refine wp_region_any (by kernel_rfl) ?_
  change wpAny _ _ _ _ _ _ _ (World.drew _)
  refine wpAny_take (i := 0) (v := ?v1) rfl (by kernel_rfl) (by kernel_rfl) (by kernel_rfl) (fun _ _ _ h => h) (Or.inl ⟨by rfl, ?y1⟩) ?r1
  case y1 =>
    intro w_
    go_simp
    try with_reducible rfl
  simp only [Act.put, List.getElem_toArray, List.getElem_cons_zero, List.setIfInBounds_toArray, List.set_cons_succ, List.set_cons_zero]
  refine wpAny_take (i := 1) (v := ?v2) rfl (by kernel_rfl) (by kernel_rfl) (by kernel_rfl) (fun _ _ _ h => h) (Or.inl ⟨by rfl, ?y2⟩) ?r2
  case y2 =>
    intro w_
    go_simp
    try with_reducible rfl
  simp only [Act.put, List.getElem_toArray, List.getElem_cons_succ, List.getElem_cons_zero, List.setIfInBounds_toArray, List.set_cons_succ, List.set_cons_zero]
  refine wpAny_take (i := 2) (v := ?v3) rfl (by kernel_rfl) (by kernel_rfl) (by kernel_rfl) (fun _ _ _ h => h) (Or.inl ⟨by rfl, ?y3⟩) ?r3
  case y3 =>
    intro w_
    go_simp
    try with_reducible rfl
  simp only [Act.put, List.getElem_toArray, List.getElem_cons_succ, List.getElem_cons_zero, List.setIfInBounds_toArray, List.set_cons_succ, List.set_cons_zero]
  refine wpAny_take (i := 3) (v := ?v4) rfl (by kernel_rfl) (by kernel_rfl) (by kernel_rfl) (fun _ _ _ h => h) (Or.inl ⟨by rfl, ?y4⟩) ?r4
  case y4 =>
    intro w_
    go_simp
    try with_reducible rfl
  simp only [Act.put, List.getElem_toArray, List.getElem_cons_succ, List.getElem_cons_zero, List.setIfInBounds_toArray, List.set_cons_succ, List.set_cons_zero]
  refine wpAny_take (i := 4) (v := ?v5) rfl (by kernel_rfl) (by kernel_rfl) (by kernel_rfl) (fun _ _ _ h => h) (Or.inl ⟨by rfl, ?y5⟩) ?r5
  case y5 =>
    intro w_
    go_simp
    try with_reducible rfl
  simp only [Act.put, List.getElem_toArray, List.getElem_cons_succ, List.getElem_cons_zero, List.setIfInBounds_toArray, List.set_cons_succ, List.set_cons_zero]
  refine wpAny_take (i := 5) (v := ?v6) rfl (by kernel_rfl) (by kernel_rfl) (by kernel_rfl) (fun _ _ _ h => h) (Or.inl ⟨by rfl, ?y6⟩) ?r6
  case y6 =>
    intro w_
    go_simp
    try with_reducible rfl
  simp only [Act.put, List.getElem_toArray, List.getElem_cons_succ, List.getElem_cons_zero, List.setIfInBounds_toArray, List.set_cons_succ, List.set_cons_zero]
  refine wpAny_take (i := 6) (v := ?v7) rfl (by kernel_rfl) (by kernel_rfl) (by kernel_rfl) (fun _ _ _ h => h) (Or.inl ⟨by rfl, ?y7⟩) ?r7
  case y7 =>
    intro w_
    go_simp
    try with_reducible rfl
  simp only [Act.put, List.getElem_toArray, List.getElem_cons_succ, List.getElem_cons_zero, List.setIfInBounds_toArray, List.set_cons_succ, List.set_cons_zero]
  refine wpAny_take (i := 7) (v := ?v8) rfl (by kernel_rfl) (by kernel_rfl) (by kernel_rfl) (fun _ _ _ h => h) (Or.inl ⟨by rfl, ?y8⟩) ?r8
  case y8 =>
    intro w_
    go_simp
    try with_reducible rfl
  simp only [Act.put, List.getElem_toArray, List.getElem_cons_succ, List.getElem_cons_zero, List.setIfInBounds_toArray, List.set_cons_succ, List.set_cons_zero]
  refine wpAny_take (i := 8) (v := ?v9) rfl (by kernel_rfl) (by kernel_rfl) (by kernel_rfl) (fun _ _ _ h => h) (Or.inl ⟨by rfl, ?y9⟩) ?r9
  case y9 =>
    intro w_
    go_simp
    try with_reducible rfl
  simp only [Act.put, List.getElem_toArray, List.getElem_cons_succ, List.getElem_cons_zero, List.setIfInBounds_toArray, List.set_cons_succ, List.set_cons_zero]
  refine wpAny_take (i := 9) (v := ?v10) rfl (by kernel_rfl) (by kernel_rfl) (by kernel_rfl) (fun _ _ _ h => h) (Or.inl ⟨by rfl, ?y10⟩) ?r10
  case y10 =>
    intro w_
    go_simp
    try with_reducible rfl
  simp only [Act.put, List.getElem_toArray, List.getElem_cons_succ, List.getElem_cons_zero, List.setIfInBounds_toArray, List.set_cons_succ, List.set_cons_zero]
  refine wpAny_take (i := 10) (v := ?v11) rfl (by kernel_rfl) (by kernel_rfl) (by kernel_rfl) (fun _ _ _ h => h) (Or.inl ⟨by rfl, ?y11⟩) ?r11
  case y11 =>
    intro w_
    go_simp
    try with_reducible rfl
  simp only [Act.put, List.getElem_toArray, List.getElem_cons_succ, List.getElem_cons_zero, List.setIfInBounds_toArray, List.set_cons_succ, List.set_cons_zero]
  refine wpAny_take (i := 11) (v := ?v12) rfl (by kernel_rfl) (by kernel_rfl) (by kernel_rfl) (fun _ _ _ h => h) (Or.inl ⟨by rfl, ?y12⟩) ?r12
  case y12 =>
    intro w_
    go_simp
    try with_reducible rfl
  simp only [Act.put, List.getElem_toArray, List.getElem_cons_succ, List.getElem_cons_zero, List.setIfInBounds_toArray, List.set_cons_succ, List.set_cons_zero]
  refine wpAny_take (i := 12) (v := ?v13) rfl (by kernel_rfl) (by kernel_rfl) (by kernel_rfl) (fun _ _ _ h => h) (Or.inl ⟨by rfl, ?y13⟩) ?r13
  case y13 =>
    intro w_
    go_simp
    try with_reducible rfl
  simp only [Act.put, List.getElem_toArray, List.getElem_cons_succ, List.getElem_cons_zero, List.setIfInBounds_toArray, List.set_cons_succ, List.set_cons_zero]
  refine wpAny_ready (rs := [13]) (fuel := 5) (by kernel_rfl) (by simp) (AllReady.cons rfl (fun K' hK => ?_) AllReady.nil)
  rw [if_pos (by kernel_rfl)]
  simp only [List.getElem_toArray, List.getElem_cons_succ, List.getElem_cons_zero]
  refine wp_call_ex (f := 28) (by kernel_rfl) (cX) (fun v_ w4 hX => hK _ _ ?_)
  simp only [Act.put, List.setIfInBounds_toArray, List.set_cons_succ, List.set_cons_zero]
  clear hK
  obtain ⟨ga, rfl, lga, ra, hb⟩ := hX
  refine wpAny_take (i := 14) (v := ?v14) rfl (by kernel_rfl) (by kernel_rfl) (by kernel_rfl) (fun _ _ _ h => h) (Or.inl ⟨by rfl, ?y14⟩) ?r14
  case y14 =>
    intro w_
    go_simp
    try with_reducible rfl
  simp only [Act.put, List.getElem_toArray, List.getElem_cons_succ, List.getElem_cons_zero, List.setIfInBounds_toArray, List.set_cons_succ, List.set_cons_zero]
  refine wpAny_take (i := 15) (v := ?v15) rfl (by kernel_rfl) (by kernel_rfl) (by kernel_rfl) (fun _ _ _ h => h) (Or.inl ⟨by rfl, ?y15⟩) ?r15
  case y15 =>
    intro w_
    go_simp
    try with_reducible rfl
  simp only [Act.put, List.getElem_toArray, List.getElem_cons_succ, List.getElem_cons_zero, List.setIfInBounds_toArray, List.set_cons_succ, List.set_cons_zero]
  refine wpAny_take (i := 16) (v := ?v16) rfl (by kernel_rfl) (by kernel_rfl) (by kernel_rfl) (fun _ _ _ h => h) (Or.inl ⟨by rfl, ?y16⟩) ?r16
  case y16 =>
    intro w_
    go_simp
    try with_reducible rfl
  simp only [Act.put, List.getElem_toArray, List.getElem_cons_succ, List.getElem_cons_zero, List.setIfInBounds_toArray, List.set_cons_succ, List.set_cons_zero]
  refine wpAny_take (i := 17) (v := ?v17) rfl (by kernel_rfl) (by kernel_rfl) (by kernel_rfl) (fun _ _ _ h => h) (Or.inl ⟨by rfl, ?y17⟩) ?r17
  case y17 =>
    intro w_
    go_simp
    try with_reducible rfl
  simp only [Act.put, List.getElem_toArray, List.getElem_cons_succ, List.getElem_cons_zero, List.setIfInBounds_toArray, List.set_cons_succ, List.set_cons_zero]
  refine wpAny_take (i := 18) (v := ?v18) rfl (by kernel_rfl) (by kernel_rfl) (by kernel_rfl) (fun _ _ _ h => h) (Or.inl ⟨by rfl, ?y18⟩) ?r18
  case y18 =>
    intro w_
    go_simp
    try with_reducible rfl
  simp only [Act.put, List.getElem_toArray, List.getElem_cons_succ, List.getElem_cons_zero, List.setIfInBounds_toArray, List.set_cons_succ, List.set_cons_zero]
  refine wpAny_done (by kernel_rfl) ?_ _
  refine NoPanic.normal ?_
  replace hb : Below w3.heap.size w3 w4 := Below.after hbd hb
  replace lga : w3.heap.size ≤ ga := lga
  clear hbd cX bhA bhC bhI
  have s34 := hb.size
  replace rA := keep hb rA
  replace rC := keep hb rC
  replace rI := keep hb rI
  replace hw := Below.after hw hb
  clear hb
  have la := lt_of_row ra
  go_wp2_with (fail)
  have hbd : Below w4.heap.size w4 w4.drew := below_drN (Below.refl _ _) 1
  have bhA : Bys w4.drew (.slice (some ⟨ga_, 0, none⟩) salt.length (salt.length + 80)) salt := Bys.of_prefix (keep hbd rA) (by omega) zhA _
  have bhC : Bys w4.drew (.slice (some ⟨gc_, 0, none⟩) sec.length (sec.length + 80)) sec := Bys.of_prefix (keep hbd rC) (by omega) zhC _
  have bhI : Bys w4.drew (.slice (some ⟨gi_, 0, none⟩) info.length (info.length + 80)) info := Bys.of_prefix (keep hbd rI) (by omega) zhI _
  have cX := ad_yes salt sec info n w4.drew _ _ _ ((hS.below hw).below hbd) ((hK.below hw).below hbd) bhA (fun a l c h => by cases h; omega) (by omega) bhC (fun a l c h => by cases h; omega) (by omega) bhI (fun a l c h => by cases h; omega) (by omega) hn
  refine wp_region_noPanic ?_
  refine wp_region_any (by kernel_rfl) ?_
  change wpAny _ _ _ _ _ _ _ (World.drew _)
  refine wpAny_take (i := 0) (v := ?v19) rfl (by kernel_rfl) (by kernel_rfl) (by kernel_rfl) (fun _ _ _ h => h) (Or.inl ⟨by rfl, ?y19⟩) ?r19
  case y19 =>
    intro w_
    go_simp
    try with_reducible rfl
  simp only [Act.put, List.getElem_toArray, List.getElem_cons_zero, List.setIfInBounds_toArray, List.set_cons_succ, List.set_cons_zero]
  refine wpAny_take (i := 1) (v := ?v20) rfl (by kernel_rfl) (by kernel_rfl) (by kernel_rfl) (fun _ _ _ h => h) (Or.inl ⟨by rfl, ?y20⟩) ?r20
  case y20 =>
    intro w_
    go_simp
    try with_reducible rfl
  simp only [Act.put, List.getElem_toArray, List.getElem_cons_succ, List.getElem_cons_zero, List.setIfInBounds_toArray, List.set_cons_succ, List.set_cons_zero]
  refine wpAny_take (i := 2) (v := ?v21) rfl (by kernel_rfl) (by kernel_rfl) (by kernel_rfl) (fun _ _ _ h => h) (Or.inl ⟨by rfl, ?y21⟩) ?r21
  case y21 =>
    intro w_
    go_simp
    try with_reducible rfl
  simp only [Act.put, List.getElem_toArray, List.getElem_cons_succ, List.getElem_cons_zero, List.setIfInBounds_toArray, List.set_cons_succ, List.set_cons_zero]
  refine wpAny_take (i := 3) (v := ?v22) rfl (by kernel_rfl) (by kernel_rfl) (by kernel_rfl) (fun _ _ _ h => h) (Or.inl ⟨by rfl, ?y22⟩) ?r22
  case y22 =>
    intro w_
    go_simp
    try with_reducible rfl
  simp only [Act.put, List.getElem_toArray, List.getElem_cons_succ, List.getElem_cons_zero, List.setIfInBounds_toArray, List.set_cons_succ, List.set_cons_zero]
  refine wpAny_take (i := 4) (v := ?v23) rfl (by kernel_rfl) (by kernel_rfl) (by kernel_rfl) (fun _ _ _ h => h) (Or.inl ⟨by rfl, ?y23⟩) ?r23
  case y23 =>
    intro w_
    go_simp
    try with_reducible rfl
  simp only [Act.put, List.getElem_toArray, List.getElem_cons_succ, List.getElem_cons_zero, List.setIfInBounds_toArray, List.set_cons_succ, List.set_cons_zero]
  refine wpAny_take (i := 5) (v := ?v24) rfl (by kernel_rfl) (by kernel_rfl) (by kernel_rfl) (fun _ _ _ h => h) (Or.inl ⟨by rfl, ?y24⟩) ?r24
  case y24 =>
    intro w_
    go_simp
    try with_reducible rfl
  simp only [Act.put, List.getElem_toArray, List.getElem_cons_succ, List.getElem_cons_zero, List.setIfInBounds_toArray, List.set_cons_succ, List.set_cons_zero]
  refine wpAny_take (i := 6) (v := ?v25) rfl (by kernel_rfl) (by kernel_rfl) (by kernel_rfl) (fun _ _ _ h => h) (Or.inl ⟨by rfl, ?y25⟩) ?r25
  case y25 =>
    intro w_
    go_simp
    try with_reducible rfl
  simp only [Act.put, List.getElem_toArray, List.getElem_cons_succ, List.getElem_cons_zero, List.setIfInBounds_toArray, List.set_cons_succ, List.set_cons_zero]
  refine wpAny_take (i := 7) (v := ?v26) rfl (by kernel_rfl) (by kernel_rfl) (by kernel_rfl) (fun _ _ _ h => h) (Or.inl ⟨by rfl, ?y26⟩) ?r26
  case y26 =>
    intro w_
    go_simp
    try with_reducible rfl
  simp only [Act.put, List.getElem_toArray, List.getElem_cons_succ, List.getElem_cons_zero, List.setIfInBounds_toArray, List.set_cons_succ, List.set_cons_zero]
  refine wpAny_take (i := 8) (v := ?v27) rfl (by kernel_rfl) (by kernel_rfl) (by kernel_rfl) (fun _ _ _ h => h) (Or.inl ⟨by rfl, ?y27⟩) ?r27
  case y27 =>
    intro w_
    go_simp
    try with_reducible rfl
  simp only [Act.put, List.getElem_toArray, List.getElem_cons_succ, List.getElem_cons_zero, List.setIfInBounds_toArray, List.set_cons_succ, List.set_cons_zero]
  refine wpAny_take (i := 9) (v := ?v28) rfl (by kernel_rfl) (by kernel_rfl) (by kernel_rfl) (fun _ _ _ h => h) (Or.inl ⟨by rfl, ?y28⟩) ?r28
  case y28 =>
    intro w_
    go_simp
    try with_reducible rfl
  simp only [Act.put, List.getElem_toArray, List.getElem_cons_succ, List.getElem_cons_zero, List.setIfInBounds_toArray, List.set_cons_succ, List.set_cons_zero]
  refine wpAny_take (i := 10) (v := ?v29) rfl (by kernel_rfl) (by kernel_rfl) (by kernel_rfl) (fun _ _ _ h => h) (Or.inl ⟨by rfl, ?y29⟩) ?r29
  case y29 =>
    intro w_
    go_simp
    try with_reducible rfl
  simp only [Act.put, List.getElem_toArray, List.getElem_cons_succ, List.getElem_cons_zero, List.setIfInBounds_toArray, List.set_cons_succ, List.set_cons_zero]
  refine wpAny_take (i := 11) (v := ?v30) rfl (by kernel_rfl) (by kernel_rfl) (by kernel_rfl) (fun _ _ _ h => h) (Or.inl ⟨by rfl, ?y30⟩) ?r30
  case y30 =>
    intro w_
    go_simp
    try with_reducible rfl
  simp only [Act.put, List.getElem_toArray, List.getElem_cons_succ, List.getElem_cons_zero, List.setIfInBounds_toArray, List.set_cons_succ, List.set_cons_zero]
  refine wpAny_take (i := 12) (v := ?v31) rfl (by kernel_rfl) (by kernel_rfl) (by kernel_rfl) (fun _ _ _ h => h) (Or.inl ⟨by rfl, ?y31⟩) ?r31
  case y31 =>
    intro w_
    go_simp
    try with_reducible rfl
  simp only [Act.put, List.getElem_toArray, List.getElem_cons_succ, List.getElem_cons_zero, List.setIfInBounds_toArray, List.set_cons_succ, List.set_cons_zero]
  refine wpAny_ready (rs := [13]) (fuel := 5) (by kernel_rfl) (by simp) (AllReady.cons rfl (fun K' hK => ?_) AllReady.nil)
  rw [if_pos (by kernel_rfl)]
  simp only [List.getElem_toArray, List.getElem_cons_succ, List.getElem_cons_zero]
  refine wp_call_ex (f := 28) (by kernel_rfl) (cX) (fun v_ w5 hX => hK _ _ ?_)
  simp only [Act.put, List.setIfInBounds_toArray, List.set_cons_succ, List.set_cons_zero]
  clear hK
  obtain ⟨gb, rfl, lgb, rb, hb⟩ := hX
  refine wpAny_take (i := 14) (v := ?v32) rfl (by kernel_rfl) (by kernel_rfl) (by kernel_rfl) (fun _ _ _ h => h) (Or.inl ⟨by rfl, ?y32⟩) ?r32
  case y32 =>
    intro w_
    go_simp
    try with_reducible rfl
  simp only [Act.put, List.getElem_toArray, List.getElem_cons_succ, List.getElem_cons_zero, List.setIfInBounds_toArray, List.set_cons_succ, List.set_cons_zero]
  refine wpAny_take (i := 15) (v := ?v33) rfl (by kernel_rfl) (by kernel_rfl) (by kernel_rfl) (fun _ _ _ h => h) (Or.inl ⟨by rfl, ?y33⟩) ?r33
  case y33 =>
    intro w_
    go_simp
    try with_reducible rfl
  simp only [Act.put, List.getElem_toArray, List.getElem_cons_succ, List.getElem_cons_zero, List.setIfInBounds_toArray, List.set_cons_succ, List.set_cons_zero]
  refine wpAny_take (i := 16) (v := ?v34) rfl (by kernel_rfl) (by kernel_rfl) (by kernel_rfl) (fun _ _ _ h => h) (Or.inl ⟨by rfl, ?y34⟩) ?r34
  case y34 =>
    intro w_
    go_simp
    try with_reducible rfl
  simp only [Act.put, List.getElem_toArray, List.getElem_cons_succ, List.getElem_cons_zero, List.setIfInBounds_toArray, List.set_cons_succ, List.set_cons_zero]
  refine wpAny_take (i := 17) (v := ?v35) rfl (by kernel_rfl) (by kernel_rfl) (by kernel_rfl) (fun _ _ _ h => h) (Or.inl ⟨by rfl, ?y35⟩) ?r35
  case y35 =>
    intro w_
    go_simp
    try with_reducible rfl
  simp only [Act.put, List.getElem_toArray, List.getElem_cons_succ, List.getElem_cons_zero, List.setIfInBounds_toArray, List.set_cons_succ, List.set_cons_zero]
  refine wpAny_take (i := 18) (v := ?v36) rfl (by kernel_rfl) (by kernel_rfl) (by kernel_rfl) (fun _ _ _ h => h) (Or.inl ⟨by rfl, ?y36⟩) ?r36
  case y36 =>
    intro w_
    go_simp
    try with_reducible rfl
  simp only [Act.put, List.getElem_toArray, List.getElem_cons_succ, List.getElem_cons_zero, List.setIfInBounds_toArray, List.set_cons_succ, List.set_cons_zero]
  refine wpAny_done (by kernel_rfl) ?_ _
  refine NoPanic.normal ?_
  replace hb : Below w4.heap.size w4 w5 := Below.after hbd hb
  replace lgb : w4.heap.size ≤ gb := lgb
  clear hbd cX bhA bhC bhI
  have s45 := hb.size
  replace rA := keep hb rA
  replace rC := keep hb rC
  replace rI := keep hb rI
  replace ra := keep hb ra
  replace hw := Below.after hw hb
  clear hb
  have lb := lt_of_row rb
  go_wp2_with (fail)
  refine (rd_yes salt sec info n w5 _ _ _ (hA.keep hw) (hC.keep hw) (by omega) (hI.keep hw) (by omega) hn).mono ?_
  rintro e_ w6 ⟨x, rfl, hx, hb⟩
  have s56 := hb.size
  replace rA := keep hb rA
  replace rC := keep hb rC
  replace rI := keep hb rI
  replace ra := keep hb ra
  replace rb := keep hb rb
  replace hw := Below.after hw hb
  clear hb
  go_wp2_with (fail)
  refine (l_same_eq (xpd (hm salt sec) info n) w6 _ _ (Bys.of_rowN ra (by rw [xpd_len]; omega) (xpd_bd _ _ _) (xpd_len _ _ _)) hx.1).mono ?_
  rintro e_ w7 ⟨rfl, hb⟩
  have s67 := hb.size
  replace rA := keep hb rA
  replace rC := keep hb rC
  replace rI := keep hb rI
  replace ra := keep hb ra
  replace rb := keep hb rb
  replace hx := hx.keep hb
  replace hw := Below.after hw hb
  clear hb
  go_wp2_with (fail)
  refine (l_same_eq (xpd (hm salt sec) info n) w7 _ _ (Bys.of_rowN rb (by rw [xpd_len]; omega) (xpd_bd _ _ _) (xpd_len _ _ _)) hx.1).mono ?_
  rintro e_ wa ⟨rfl, hb⟩
  have s78 := hb.size
  replace rA := keep hb rA
  replace rC := keep hb rC
  replace rI := keep hb rI
  replace ra := keep hb ra
  replace rb := keep hb rb
  replace hw := Below.after hw hb
  clear hb hx
  go_wp2_with (fail)
  have hba : Below wa.heap.size wa (wa.alloc (.cells #[.slice (some ⟨ga, 0, none⟩) n n, .slice (some ⟨gb, 0, none⟩) n n] 22)) := (Below.refl _ _).alloc (Nat.le_refl _) _
  have rgl := hp1_0 wa (.cells #[.slice (some ⟨ga, 0, none⟩) n n, .slice (some ⟨gb, 0, none⟩) n n] 22)
  have hT : AptR (wa.alloc (.cells #[.slice (some ⟨ga, 0, none⟩) n n, .slice (some ⟨gb, 0, none⟩) n n] 22)) [(some ga, n), (some gb, n)] fun _ _ => True := aptT_some (keep hba ra) (xpd_len _ _ _) (aptT_some (keep hba rb) (xpd_len _ _ _) (aptT_nil _))
  have hD : AptD [(some ga, n), (some gb, n)] := by
    intro i j g m n hi hj
    rcases i with _ | _ | i <;> rcases j with _ | _ | j <;> simp at hi hj <;> omega
  have hlo : ∀ (i : Nat) g m, ([(some ga, n), (some gb, n)] : List (Option Nat × Nat))[i]? = some (some g, m) → w3.heap.size ≤ g ∧ g ≠ wa.heap.size ∧ m ≤ 140737488350000 := by
    intro i g m hi
    have lwb := lt_of_row rb
    have lwc := lt_of_row ra
    rcases i with _ | _ | i <;> simp at hi <;> omega
  have s1a : w3.heap.size ≤ wa.heap.size := by omega
  replace rA := keep hba rA
  replace rC := keep hba rC
  replace rI := keep hba rI
  replace hw := Below.after hw hba
  refine (l_apart [(some ga, n), (some gb, n)] wa.heap.size w3.heap.size _ (by rw [size_alloc1]; omega) (by simp) rgl hT hD hlo).mono ?_
  rintro e_ wb ⟨rfl, hb⟩
  replace rA : wb.heap[ga_]? = some (.cells (irow .u8 (salt ++ mk4 80)) 5 (0, 0)) := (hb.block _ (by omega)).trans rA
  replace rC : wb.heap[gc_]? = some (.cells (irow .u8 (sec ++ mk4 80)) 5 (0, 0)) := (hb.block _ (by omega)).trans rC
  replace rI : wb.heap[gi_]? = some (.cells (irow .u8 (info ++ mk4 80)) 5 (0, 0)) := (hb.block _ (by omega)).trans rI
  replace hw := hw.trans (hb.mono (show w.heap.size ≤ w3.heap.size by omega))
  clear hb hba rgl hT hD hlo ra rb
  go_wp2_with (fail)
  refine (l_left salt ga_ wb _ (hA.1.keep hw) (by omega) rA).mono ?_
  rintro e_ wc ⟨rfl, hb⟩
  replace rC := keep hb rC
  replace rI := keep hb rI
  replace hw := Below.after hw hb
  clear hb
  go_wp2_with (fail)
  refine (l_left sec gc_ wc _ (hC.1.keep hw) (by omega) rC).mono ?_
  rintro e_ wd ⟨rfl, hb⟩
  replace rI := keep hb rI
  replace hw := Below.after hw hb
  clear hb
  go_wp2_with (fail)
  refine (l_left info gi_ wd _ (hI.1.keep hw) (by omega) rI).mono ?_
  rintro e_ we ⟨rfl, hb⟩
  replace hw := Below.after hw hb
  clear hb
  go_wp2
  go_ret
  exact ⟨rfl, hw⟩
set_option maxRecDepth 100000 in
set_option maxHeartbeats 4000000 in
theorem macDerives_B (salt sec info : List Int) (n : Int) (w : World) (vs vc vi : Value) (hS : Sta w) (hK : Kon w) (hA : BysN w vs salt) (hC : BysN w vc sec) (hI : BysN w vi info) (hn : n < 0 ∨ 8160 < n) : Calls Tryd.prog 7 #[vs, vc, vi, .int .i64 n] w fun e w' => e = .returned (.bool true) ∧ Below w.heap.size w w' := by
  have zhA := bys_bd hA.1
  have lhA : salt.length ≤ 140737488351232 := hA.2.1
  replace hA := hA.toM
  have shA : ∀ g W, _ := fun g W => slice_to (some ⟨g, 0, none⟩) (salt.length + 80) (salt.length + 80) salt.length (by omega) W
  have zhC := bys_bd hC.1
  have lhC : sec.length ≤ 140737488351232 := hC.2.1
  replace hC := hC.toM
  have shC : ∀ g W, _ := fun g W => slice_to (some ⟨g, 0, none⟩) (sec.length + 80) (sec.length + 80) sec.length (by omega) W
  have zhI := bys_bd hI.1
  have lhI : info.length ≤ 140737488351232 := hI.2.1
  replace hI := hI.toM
  have shI : ∀ g W, _ := fun g W => slice_to (some ⟨g, 0, none⟩) (info.length + 80) (info.length + 80) info.length (by omega) W
  obtain ⟨us, usc, rfl, _⟩ := id hA.1
  obtain ⟨uc, ucc, rfl, _⟩ := id hC.1
  obtain ⟨ui, uic, rfl, _⟩ := id hI.1
  generalize hq : (if n < 0 then (1 : Int) else 2) = q
  have hw := Below.refl w.heap.size w
  go_enter Tryd.func7, Tryd.ntmps7
  go_wp2_with (fail)
  refine (l_hand salt w _ (hA.1.keep hw) (by omega)).mono ?_
  rintro e_ w1 ⟨rfl, rA, hb⟩
  have s0 := hb.size
  replace hw := Below.after hw hb
  clear hb
  generalize ega_ : w.heap.size = ga_ at rA ⊢
  have ltga_ := lt_of_row rA
  go_wp2_with (fail)
  refine (l_hand sec w1 _ (hC.1.keep hw) (by omega)).mono ?_
  rintro e_ w2 ⟨rfl, rC, hb⟩
  have s1 := hb.size
  replace rA := keep hb rA
  replace hw := Below.after hw hb
  clear hb
  generalize egc_ : w1.heap.size = gc_ at rC ⊢
  have ltgc_ := lt_of_row rC
  go_wp2_with (fail)
  refine (l_hand info w2 _ (hI.1.keep hw) (by omega)).mono ?_
  rintro e_ w3 ⟨rfl, rI, hb⟩
  have s2 := hb.size
  replace rA := keep hb rA
  replace rC := keep hb rC
  replace hw := Below.after hw hb
  clear hb
  generalize egi_ : w2.heap.size = gi_ at rI ⊢
  have ltgi_ := lt_of_row rI
  go_wp2_with (fail)
  have hbd : Below w3.heap.size w3 w3.drew := below_drN (Below.refl _ _) 1
  have bhA : Bys w3.drew (.slice (some ⟨ga_, 0, none⟩) salt.length (salt.length + 80)) salt := Bys.of_prefix (keep hbd rA) (by omega) zhA _
  have bhC : Bys w3.drew (.slice (some ⟨gc_, 0, none⟩) sec.length (sec.length + 80)) sec := Bys.of_prefix (keep hbd rC) (by omega) zhC _
  have bhI : Bys w3.drew (.slice (some ⟨gi_, 0, none⟩) info.length (info.length + 80)) info := Bys.of_prefix (keep hbd rI) (by omega) zhI _
  have cX := ad_no salt sec info n w3.drew _ _ _ ((hS.below hw).below hbd) ((hK.below hw).below hbd) bhA (fun a l c h => by cases h; omega) (by omega) bhC (fun a l c h => by cases h; omega) (by omega) bhI (fun a l c h => by cases h; omega) (by omega) hn
  rw [hq] at cX
  refine wp_region_noPanic ?_
  refine wp_region_any (by kernel_rfl) ?_
  change wpAny _ _ _ _ _ _ _ (World.drew _)
  refine wpAny_take (i := 0) (v := ?v37) rfl (by kernel_rfl) (by kernel_rfl) (by kernel_rfl) (fun _ _ _ h => h) (Or.inl ⟨by rfl, ?y37⟩) ?r37
  case y37 =>
    intro w_
    go_simp
    try with_reducible rfl
  simp only [Act.put, List.getElem_toArray, List.getElem_cons_zero, List.setIfInBounds_toArray, List.set_cons_succ, List.set_cons_zero]
  refine wpAny_take (i := 1) (v := ?v38) rfl (by kernel_rfl) (by kernel_rfl) (by kernel_rfl) (fun _ _ _ h => h) (Or.inl ⟨by rfl, ?y38⟩) ?r38
  case y38 =>
    intro w_
    go_simp
    try with_reducible rfl
  simp only [Act.put, List.getElem_toArray, List.getElem_cons_succ, List.getElem_cons_zero, List.setIfInBounds_toArray, List.set_cons_succ, List.set_cons_zero]
  refine wpAny_take (i := 2) (v := ?v39) rfl (by kernel_rfl) (by kernel_rfl) (by kernel_rfl) (fun _ _ _ h => h) (Or.inl ⟨by rfl, ?y39⟩) ?r39
  case y39 =>
    intro w_
    go_simp
    try with_reducible rfl
  simp only [Act.put, List.getElem_toArray, List.getElem_cons_succ, List.getElem_cons_zero, List.setIfInBounds_toArray, List.set_cons_succ, List.set_cons_zero]
  refine wpAny_take (i := 3) (v := ?v40) rfl (by kernel_rfl) (by kernel_rfl) (by kernel_rfl) (fun _ _ _ h => h) (Or.inl ⟨by rfl, ?y40⟩) ?r40
  case y40 =>
    intro w_
    go_simp
    try with_reducible rfl
  simp only [Act.put, List.getElem_toArray, List.getElem_cons_succ, List.getElem_cons_zero, List.setIfInBounds_toArray, List.set_cons_succ, List.set_cons_zero]
  refine wpAny_take (i := 4) (v := ?v41) rfl (by kernel_rfl) (by kernel_rfl) (by kernel_rfl) (fun _ _ _ h => h) (Or.inl ⟨by rfl, ?y41⟩) ?r41
  case y41 =>
    intro w_
    go_simp
    try with_reducible rfl
  simp only [Act.put, List.getElem_toArray, List.getElem_cons_succ, List.getElem_cons_zero, List.setIfInBounds_toArray, List.set_cons_succ, List.set_cons_zero]
  refine wpAny_take (i := 5) (v := ?v42) rfl (by kernel_rfl) (by kernel_rfl) (by kernel_rfl) (fun _ _ _ h => h) (Or.inl ⟨by rfl, ?y42⟩) ?r42
  case y42 =>
    intro w_
    go_simp
    try with_reducible rfl
  simp only [Act.put, List.getElem_toArray, List.getElem_cons_succ, List.getElem_cons_zero, List.setIfInBounds_toArray, List.set_cons_succ, List.set_cons_zero]
  refine wpAny_take (i := 6) (v := ?v43) rfl (by kernel_rfl) (by kernel_rfl) (by kernel_rfl) (fun _ _ _ h => h) (Or.inl ⟨by rfl, ?y43⟩) ?r43
  case y43 =>
    intro w_
    go_simp
    try with_reducible rfl
  simp only [Act.put, List.getElem_toArray, List.getElem_cons_succ, List.getElem_cons_zero, List.setIfInBounds_toArray, List.set_cons_succ, List.set_cons_zero]
  refine wpAny_take (i := 7) (v := ?v44) rfl (by kernel_rfl) (by kernel_rfl) (by kernel_rfl) (fun _ _ _ h => h) (Or.inl ⟨by rfl, ?y44⟩) ?r44
  case y44 =>
    intro w_
    go_simp
    try with_reducible rfl
  simp only [Act.put, List.getElem_toArray, List.getElem_cons_succ, List.getElem_cons_zero, List.setIfInBounds_toArray, List.set_cons_succ, List.set_cons_zero]
  refine wpAny_take (i := 8) (v := ?v45) rfl (by kernel_rfl) (by kernel_rfl) (by kernel_rfl) (fun _ _ _ h => h) (Or.inl ⟨by rfl, ?y45⟩) ?r45
  case y45 =>
    intro w_
    go_simp
    try with_reducible rfl
  simp only [Act.put, List.getElem_toArray, List.getElem_cons_succ, List.getElem_cons_zero, List.setIfInBounds_toArray, List.set_cons_succ, List.set_cons_zero]
  refine wpAny_take (i := 9) (v := ?v46) rfl (by kernel_rfl) (by kernel_rfl) (by kernel_rfl) (fun _ _ _ h => h) (Or.inl ⟨by rfl, ?y46⟩) ?r46
  case y46 =>
    intro w_
    go_simp
    try with_reducible rfl
  simp only [Act.put, List.getElem_toArray, List.getElem_cons_succ, List.getElem_cons_zero, List.setIfInBounds_toArray, List.set_cons_succ, List.set_cons_zero]
  refine wpAny_take (i := 10) (v := ?v47) rfl (by kernel_rfl) (by kernel_rfl) (by kernel_rfl) (fun _ _ _ h => h) (Or.inl ⟨by rfl, ?y47⟩) ?r47
  case y47 =>
    intro w_
    go_simp
    try with_reducible rfl
  simp only [Act.put, List.getElem_toArray, List.getElem_cons_succ, List.getElem_cons_zero, List.setIfInBounds_toArray, List.set_cons_succ, List.set_cons_zero]
  refine wpAny_take (i := 11) (v := ?v48) rfl (by kernel_rfl) (by kernel_rfl) (by kernel_rfl) (fun _ _ _ h => h) (Or.inl ⟨by rfl, ?y48⟩) ?r48
  case y48 =>
    intro w_
    go_simp
    try with_reducible rfl
  simp only [Act.put, List.getElem_toArray, List.getElem_cons_succ, List.getElem_cons_zero, List.setIfInBounds_toArray, List.set_cons_succ, List.set_cons_zero]
  refine wpAny_take (i := 12) (v := ?v49) rfl (by kernel_rfl) (by kernel_rfl) (by kernel_rfl) (fun _ _ _ h => h) (Or.inl ⟨by rfl, ?y49⟩) ?r49
  case y49 =>
    intro w_
    go_simp
    try with_reducible rfl
  simp only [Act.put, List.getElem_toArray, List.getElem_cons_succ, List.getElem_cons_zero, List.setIfInBounds_toArray, List.set_cons_succ, List.set_cons_zero]
  refine wpAny_ready (rs := [13]) (fuel := 5) (by kernel_rfl) (by simp) (AllReady.cons rfl (fun K' hK => ?_) AllReady.nil)
  rw [if_pos (by kernel_rfl)]
  simp only [List.getElem_toArray, List.getElem_cons_succ, List.getElem_cons_zero]
  refine wp_call_ex (f := 28) (by kernel_rfl) (cX) (fun v_ w4 hX => hK _ _ ?_)
  simp only [Act.put, List.setIfInBounds_toArray, List.set_cons_succ, List.set_cons_zero]
  clear hK
  obtain ⟨rfl, hb⟩ := hX
  refine wpAny_take (i := 14) (v := ?v50) rfl (by kernel_rfl) (by kernel_rfl) (by kernel_rfl) (fun _ _ _ h => h) (Or.inl ⟨by rfl, ?y50⟩) ?r50
  case y50 =>
    intro w_
    go_simp
    try with_reducible rfl
  simp only [Act.put, List.getElem_toArray, List.getElem_cons_succ, List.getElem_cons_zero, List.setIfInBounds_toArray, List.set_cons_succ, List.set_cons_zero]
  refine wpAny_take (i := 15) (v := ?v51) rfl (by kernel_rfl) (by kernel_rfl) (by kernel_rfl) (fun _ _ _ h => h) (Or.inl ⟨by rfl, ?y51⟩) ?r51
  case y51 =>
    intro w_
    go_simp
    try with_reducible rfl
  simp only [Act.put, List.getElem_toArray, List.getElem_cons_succ, List.getElem_cons_zero, List.setIfInBounds_toArray, List.set_cons_succ, List.set_cons_zero]
  refine wpAny_take (i := 16) (v := ?v52) rfl (by kernel_rfl) (by kernel_rfl) (by kernel_rfl) (fun _ _ _ h => h) (Or.inl ⟨by rfl, ?y52⟩) ?r52
  case y52 =>
    intro w_
    go_simp
    try with_reducible rfl
  simp only [Act.put, List.getElem_toArray, List.getElem_cons_succ, List.getElem_cons_zero, List.setIfInBounds_toArray, List.set_cons_succ, List.set_cons_zero]
  refine wpAny_take (i := 17) (v := ?v53) rfl (by kernel_rfl) (by kernel_rfl) (by kernel_rfl) (fun _ _ _ h => h) (Or.inl ⟨by rfl, ?y53⟩) ?r53
  case y53 =>
    intro w_
    go_simp
    try with_reducible rfl
  simp only [Act.put, List.getElem_toArray, List.getElem_cons_succ, List.getElem_cons_zero, List.setIfInBounds_toArray, List.set_cons_succ, List.set_cons_zero]
  refine wpAny_take (i := 18) (v := ?v54) rfl (by kernel_rfl) (by kernel_rfl) (by kernel_rfl) (fun _ _ _ h => h) (Or.inl ⟨by rfl, ?y54⟩) ?r54
  case y54 =>
    intro w_
    go_simp
    try with_reducible rfl
  simp only [Act.put, List.getElem_toArray, List.getElem_cons_succ, List.getElem_cons_zero, List.setIfInBounds_toArray, List.set_cons_succ, List.set_cons_zero]
  refine wpAny_done (by kernel_rfl) ?_ _
  refine NoPanic.normal ?_
  replace hb : Below w3.heap.size w3 w4 := Below.after hbd hb
  skip
  clear hbd cX bhA bhC bhI
  have s34 := hb.size
  replace rA := keep hb rA
  replace rC := keep hb rC
  replace rI := keep hb rI
  replace hw := Below.after hw hb
  clear hb
  go_wp2_with (fail)
  have hbd : Below w4.heap.size w4 w4.drew := below_drN (Below.refl _ _) 1
  have bhA : Bys w4.drew (.slice (some ⟨ga_, 0, none⟩) salt.length (salt.length + 80)) salt := Bys.of_prefix (keep hbd rA) (by omega) zhA _
  have bhC : Bys w4.drew (.slice (some ⟨gc_, 0, none⟩) sec.length (sec.length + 80)) sec := Bys.of_prefix (keep hbd rC) (by omega) zhC _
  have bhI : Bys w4.drew (.slice (some ⟨gi_, 0, none⟩) info.length (info.length + 80)) info := Bys.of_prefix (keep hbd rI) (by omega) zhI _
  have cX := ad_no salt sec info n w4.drew _ _ _ ((hS.below hw).below hbd) ((hK.below hw).below hbd) bhA (fun a l c h => by cases h; omega) (by omega) bhC (fun a l c h => by cases h; omega) (by omega) bhI (fun a l c h => by cases h; omega) (by omega) hn
  rw [hq] at cX
  refine wp_region_noPanic ?_
  refine wp_region_any (by kernel_rfl) ?_
  change wpAny _ _ _ _ _ _ _ (World.drew _)
  refine wpAny_take (i := 0) (v := ?v55) rfl (by kernel_rfl) (by kernel_rfl) (by kernel_rfl) (fun _ _ _ h => h) (Or.inl ⟨by rfl, ?y55⟩) ?r55
  case y55 =>
    intro w_
    go_simp
    try with_reducible rfl
  simp only [Act.put, List.getElem_toArray, List.getElem_cons_zero, List.setIfInBounds_toArray, List.set_cons_succ, List.set_cons_zero]
  refine wpAny_take (i := 1) (v := ?v56) rfl (by kernel_rfl) (by kernel_rfl) (by kernel_rfl) (fun _ _ _ h => h) (Or.inl ⟨by rfl, ?y56⟩) ?r56
  case y56 =>
    intro w_
    go_simp
    try with_reducible rfl
  simp only [Act.put, List.getElem_toArray, List.getElem_cons_succ, List.getElem_cons_zero, List.setIfInBounds_toArray, List.set_cons_succ, List.set_cons_zero]
  refine wpAny_take (i := 2) (v := ?v57) rfl (by kernel_rfl) (by kernel_rfl) (by kernel_rfl) (fun _ _ _ h => h) (Or.inl ⟨by rfl, ?y57⟩) ?r57
  case y57 =>
    intro w_
    go_simp
    try with_reducible rfl
  simp only [Act.put, List.getElem_toArray, List.getElem_cons_succ, List.getElem_cons_zero, List.setIfInBounds_toArray, List.set_cons_succ, List.set_cons_zero]
  refine wpAny_take (i := 3) (v := ?v58) rfl (by kernel_rfl) (by kernel_rfl) (by kernel_rfl) (fun _ _ _ h => h) (Or.inl ⟨by rfl, ?y58⟩) ?r58
  case y58 =>
    intro w_
    go_simp
    try with_reducible rfl
  simp only [Act.put, List.getElem_toArray, List.getElem_cons_succ, List.getElem_cons_zero, List.setIfInBounds_toArray, List.set_cons_succ, List.set_cons_zero]
  refine wpAny_take (i := 4) (v := ?v59) rfl (by kernel_rfl) (by kernel_rfl) (by kernel_rfl) (fun _ _ _ h => h) (Or.inl ⟨by rfl, ?y59⟩) ?r59
  case y59 =>
    intro w_
    go_simp
    try with_reducible rfl
  simp only [Act.put, List.getElem_toArray, List.getElem_cons_succ, List.getElem_cons_zero, List.setIfInBounds_toArray, List.set_cons_succ, List.set_cons_zero]
  refine wpAny_take (i := 5) (v := ?v60) rfl (by kernel_rfl) (by kernel_rfl) (by kernel_rfl) (fun _ _ _ h => h) (Or.inl ⟨by rfl, ?y60⟩) ?r60
  case y60 =>
    intro w_
    go_simp
    try with_reducible rfl
  simp only [Act.put, List.getElem_toArray, List.getElem_cons_succ, List.getElem_cons_zero, List.setIfInBounds_toArray, List.set_cons_succ, List.set_cons_zero]
  refine wpAny_take (i := 6) (v := ?v61) rfl (by kernel_rfl) (by kernel_rfl) (by kernel_rfl) (fun _ _ _ h => h) (Or.inl ⟨by rfl, ?y61⟩) ?r61
  case y61 =>
    intro w_
    go_simp
    try with_reducible rfl
  simp only [Act.put, List.getElem_toArray, List.getElem_cons_succ, List.getElem_cons_zero, List.setIfInBounds_toArray, List.set_cons_succ, List.set_cons_zero]
  refine wpAny_take (i := 7) (v := ?v62) rfl (by kernel_rfl) (by kernel_rfl) (by kernel_rfl) (fun _ _ _ h => h) (Or.inl ⟨by rfl, ?y62⟩) ?r62
  case y62 =>
    intro w_
    go_simp
    try with_reducible rfl
  simp only [Act.put, List.getElem_toArray, List.getElem_cons_succ, List.getElem_cons_zero, List.setIfInBounds_toArray, List.set_cons_succ, List.set_cons_zero]
  refine wpAny_take (i := 8) (v := ?v63) rfl (by kernel_rfl) (by kernel_rfl) (by kernel_rfl) (fun _ _ _ h => h) (Or.inl ⟨by rfl, ?y63⟩) ?r63
  case y63 =>
    intro w_
    go_simp
    try with_reducible rfl
  simp only [Act.put, List.getElem_toArray, List.getElem_cons_succ, List.getElem_cons_zero, List.setIfInBounds_toArray, List.set_cons_succ, List.set_cons_zero]
  refine wpAny_take (i := 9) (v := ?v64) rfl (by kernel_rfl) (by kernel_rfl) (by kernel_rfl) (fun _ _ _ h => h) (Or.inl ⟨by rfl, ?y64⟩) ?r64
  case y64 =>
    intro w_
    go_simp
    try with_reducible rfl
  simp only [Act.put, List.getElem_toArray, List.getElem_cons_succ, List.getElem_cons_zero, List.setIfInBounds_toArray, List.set_cons_succ, List.set_cons_zero]
  refine wpAny_take (i := 10) (v := ?v65) rfl (by kernel_rfl) (by kernel_rfl) (by kernel_rfl) (fun _ _ _ h => h) (Or.inl ⟨by rfl, ?y65⟩) ?r65
  case y65 =>
    intro w_
    go_simp
    try with_reducible rfl
  simp only [Act.put, List.getElem_toArray, List.getElem_cons_succ, List.getElem_cons_zero, List.setIfInBounds_toArray, List.set_cons_succ, List.set_cons_zero]
  refine wpAny_take (i := 11) (v := ?v66) rfl (by kernel_rfl) (by kernel_rfl) (by kernel_rfl) (fun _ _ _ h => h) (Or.inl ⟨by rfl, ?y66⟩) ?r66
  case y66 =>
    intro w_
    go_simp
    try with_reducible rfl
  simp only [Act.put, List.getElem_toArray, List.getElem_cons_succ, List.getElem_cons_zero, List.setIfInBounds_toArray, List.set_cons_succ, List.set_cons_zero]
  refine wpAny_take (i := 12) (v := ?v67) rfl (by kernel_rfl) (by kernel_rfl) (by kernel_rfl) (fun _ _ _ h => h) (Or.inl ⟨by rfl, ?y67⟩) ?r67
  case y67 =>
    intro w_
    go_simp
    try with_reducible rfl
  simp only [Act.put, List.getElem_toArray, List.getElem_cons_succ, List.getElem_cons_zero, List.setIfInBounds_toArray, List.set_cons_succ, List.set_cons_zero]
  refine wpAny_ready (rs := [13]) (fuel := 5) (by kernel_rfl) (by simp) (AllReady.cons rfl (fun K' hK => ?_) AllReady.nil)
  rw [if_pos (by kernel_rfl)]
  simp only [List.getElem_toArray, List.getElem_cons_succ, List.getElem_cons_zero]
  refine wp_call_ex (f := 28) (by kernel_rfl) (cX) (fun v_ w5 hX => hK _ _ ?_)
  simp only [Act.put, List.setIfInBounds_toArray, List.set_cons_succ, List.set_cons_zero]
  clear hK
  obtain ⟨rfl, hb⟩ := hX
  refine wpAny_take (i := 14) (v := ?v68) rfl (by kernel_rfl) (by kernel_rfl) (by kernel_rfl) (fun _ _ _ h => h) (Or.inl ⟨by rfl, ?y68⟩) ?r68
  case y68 =>
    intro w_
    go_simp
    try with_reducible rfl
  simp only [Act.put, List.getElem_toArray, List.getElem_cons_succ, List.getElem_cons_zero, List.setIfInBounds_toArray, List.set_cons_succ, List.set_cons_zero]
  refine wpAny_take (i := 15) (v := ?v69) rfl (by kernel_rfl) (by kernel_rfl) (by kernel_rfl) (fun _ _ _ h => h) (Or.inl ⟨by rfl, ?y69⟩) ?r69
  case y69 =>
    intro w_
    go_simp
    try with_reducible rfl
  simp only [Act.put, List.getElem_toArray, List.getElem_cons_succ, List.getElem_cons_zero, List.setIfInBounds_toArray, List.set_cons_succ, List.set_cons_zero]
  refine wpAny_take (i := 16) (v := ?v70) rfl (by kernel_rfl) (by kernel_rfl) (by kernel_rfl) (fun _ _ _ h => h) (Or.inl ⟨by rfl, ?y70⟩) ?r70
  case y70 =>
    intro w_
    go_simp
    try with_reducible rfl
  simp only [Act.put, List.getElem_toArray, List.getElem_cons_succ, List.getElem_cons_zero, List.setIfInBounds_toArray, List.set_cons_succ, List.set_cons_zero]
  refine wpAny_take (i := 17) (v := ?v71) rfl (by kernel_rfl) (by kernel_rfl) (by kernel_rfl) (fun _ _ _ h => h) (Or.inl ⟨by rfl, ?y71⟩) ?r71
  case y71 =>
    intro w_
    go_simp
    try with_reducible rfl
  simp only [Act.put, List.getElem_toArray, List.getElem_cons_succ, List.getElem_cons_zero, List.setIfInBounds_toArray, List.set_cons_succ, List.set_cons_zero]
  refine wpAny_take (i := 18) (v := ?v72) rfl (by kernel_rfl) (by kernel_rfl) (by kernel_rfl) (fun _ _ _ h => h) (Or.inl ⟨by rfl, ?y72⟩) ?r72
  case y72 =>
    intro w_
    go_simp
    try with_reducible rfl
  simp only [Act.put, List.getElem_toArray, List.getElem_cons_succ, List.getElem_cons_zero, List.setIfInBounds_toArray, List.set_cons_succ, List.set_cons_zero]
  refine wpAny_done (by kernel_rfl) ?_ _
  refine NoPanic.normal ?_
  replace hb : Below w4.heap.size w4 w5 := Below.after hbd hb
  skip
  clear hbd cX bhA bhC bhI
  have s45 := hb.size
  replace rA := keep hb rA
  replace rC := keep hb rC
  replace rI := keep hb rI
  replace hw := Below.after hw hb
  clear hb
  have cN := rd_no salt sec info n w5 _ _ _ (hA.keep hw) (hC.keep hw) (by omega) (hI.keep hw) (by omega) hn
  rw [hq] at cN
  go_wp2_with (fail)
  refine cN.mono ?_
  rintro e_ w6 ⟨rfl, hb⟩
  clear cN
  have s56 := hb.size
  replace rA := keep hb rA
  replace rC := keep hb rC
  replace rI := keep hb rI
  replace hw := Below.after hw hb
  clear hb
  go_wp2_with (fail)
  refine (l_same_eq [] w6 _ _ (bys_nil _) (bys_nil _)).mono ?_
  rintro e_ w7 ⟨rfl, hb⟩
  have s67 := hb.size
  replace rA := keep hb rA
  replace rC := keep hb rC
  replace rI := keep hb rI
  replace hw := Below.after hw hb
  clear hb
  go_wp2_with (fail)
  refine (l_same_eq [] w7 _ _ (bys_nil _) (bys_nil _)).mono ?_
  rintro e_ wa ⟨rfl, hb⟩
  have s78 := hb.size
  replace rA := keep hb rA
  replace rC := keep hb rC
  replace rI := keep hb rI
  replace hw := Below.after hw hb
  clear hb 
  go_wp2_with (fail)
  have hba : Below wa.heap.size wa (wa.alloc (.cells #[.slice none 0 0, .slice none 0 0] 22)) := (Below.refl _ _).alloc (Nat.le_refl _) _
  have rgl := hp1_0 wa (.cells #[.slice none 0 0, .slice none 0 0] 22)
  have hT : AptR (wa.alloc (.cells #[.slice none 0 0, .slice none 0 0] 22)) [(none, 0), (none, 0)] fun _ _ => True := aptT_none (aptT_none (aptT_nil _))
  have hD : AptD [(none, 0), (none, 0)] := by
    intro i j g m n hi hj
    rcases i with _ | _ | i <;> rcases j with _ | _ | j <;> simp at hi hj <;> omega
  have hlo : ∀ (i : Nat) g m, ([(none, 0), (none, 0)] : List (Option Nat × Nat))[i]? = some (some g, m) → w3.heap.size ≤ g ∧ g ≠ wa.heap.size ∧ m ≤ 140737488350000 := by
    intro i g m hi
    skip
    skip
    rcases i with _ | _ | i <;> simp at hi <;> omega
  have s1a : w3.heap.size ≤ wa.heap.size := by omega
  replace rA := keep hba rA
  replace rC := keep hba rC
  replace rI := keep hba rI
  replace hw := Below.after hw hba
  refine (l_apart [(none, 0), (none, 0)] wa.heap.size w3.heap.size _ (by rw [size_alloc1]; omega) (by simp) rgl hT hD hlo).mono ?_
  rintro e_ wb ⟨rfl, hb⟩
  replace rA : wb.heap[ga_]? = some (.cells (irow .u8 (salt ++ mk4 80)) 5 (0, 0)) := (hb.block _ (by omega)).trans rA
  replace rC : wb.heap[gc_]? = some (.cells (irow .u8 (sec ++ mk4 80)) 5 (0, 0)) := (hb.block _ (by omega)).trans rC
  replace rI : wb.heap[gi_]? = some (.cells (irow .u8 (info ++ mk4 80)) 5 (0, 0)) := (hb.block _ (by omega)).trans rI
  replace hw := hw.trans (hb.mono (show w.heap.size ≤ w3.heap.size by omega))
  clear hb hba rgl hT hD hlo 
  go_wp2_with (fail)
  refine (l_left salt ga_ wb _ (hA.1.keep hw) (by omega) rA).mono ?_
  rintro e_ wc ⟨rfl, hb⟩
  replace rC := keep hb rC
  replace rI := keep hb rI
  replace hw := Below.after hw hb
  clear hb
  go_wp2_with (fail)
  refine (l_left sec gc_ wc _ (hC.1.keep hw) (by omega) rC).mono ?_
  rintro e_ wd ⟨rfl, hb⟩
  replace rI := keep hb rI
  replace hw := Below.after hw hb
  clear hb
  go_wp2_with (fail)
  refine (l_left info gi_ wd _ (hI.1.keep hw) (by omega) rI).mono ?_
  rintro e_ we ⟨rfl, hb⟩
  replace hw := Below.after hw hb
  clear hb
  go_wp2
  go_ret
  exact ⟨rfl, hw⟩
theorem macDerives_any (salt sec info : List Int) (n : Int) (w : World) (vs vc vi : Value) (hS : Sta w) (hK : Kon w) (hA : BysN w vs salt) (hC : BysN w vc sec) (hI : BysN w vi info) : Calls Tryd.prog 7 #[vs, vc, vi, .int .i64 n] w fun e w' => e = .returned (.bool true) ∧ Below w.heap.size w w' := by
  by_cases hn : n < 0 ∨ 8160 < n
  · exact macDerives_B salt sec info n w vs vc vi hS hK hA hC hI hn
  · obtain ⟨m, rfl⟩ := Int.eq_ofNat_of_zero_le (show 0 ≤ n by omega)
    exact macDerives_A salt sec info m w vs vc vi hS hK hA hC hI (by omega)

end Go.Proofs.YtmcokphkaekdaaaDoor
