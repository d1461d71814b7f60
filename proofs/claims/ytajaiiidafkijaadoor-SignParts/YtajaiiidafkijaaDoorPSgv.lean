import Derived.Test.YtajaiiidafkijaaDoorProg
import Derived.WalkKit
import Derived.WalkSpells
import Derived.WalkLawsBesides
import Derived.Lib.QuietBelow
import Derived.BigQuiet
import Derived.Deep.Cut
import Derived.Deep.CutRange
import Derived.Laws.BytesArg
import Derived.Test.YtajaiiidafkijaaDoorPSgg
import Derived.Deep.RegionLaw
import Derived.OwnWalk
namespace Go.Proofs.YtajaiiidafkijaaDoor
set_option maxRecDepth 100000
open Go Go.RowKit Go.Sort
attribute [local go_sem] setCell_drewN alloc_drewN
theorem conv_bys {W : World} {v : Value} {bs : List Int} (h : Bys W v bs) : (convert 22 9 v).run Tryd.prog W = .ok (.string (strOfNums bs)) W := by
 obtain ⟨ao, cap, rfl, _, hc, _⟩ := h
 cases ao with
 | none =>
  have : bs = [] := by
   cases bs with
   | nil => rfl
   | cons x xs => obtain ⟨b, off, e, _⟩ := hc 0 (by simp); cases e
  subst this
  exact run_convert_bytes_nil W 22 5 Tryd.underlying22 Tryd.underlying5 _ _ 9 Tryd.underlying9
 | some ad =>
  rcases Nat.eq_zero_or_pos bs.length with e0 | e0
  ·have : bs = [] := List.eq_nil_of_length_eq_zero e0
   subst this
   obtain ⟨b, off, sp⟩ := ad
   rw [run_convert_bytes_string W 22 9 5 _ _ _ Tryd.underlying22 Tryd.underlying5 Tryd.underlying9]
   have := run_bytesToString (P := Tryd.prog) W ⟨b, off, sp⟩ 0 cap [] (by rfl)
   exact this
  ·obtain ⟨b, off, e, _⟩ := hc 0 e0
   cases e
   exact run_convert_bytes_arg W 22 5 Tryd.underlying22 Tryd.underlying5 b off bs.length cap bs rfl (fun i hi => by
    obtain ⟨b', off', e, _, h⟩ := hc i hi
    cases e
    exact h) 9 Tryd.underlying9
theorem nilK (W : World) : BysK W (.slice none 0 0) [] := ⟨⟨none, 0, rfl, by decide, fun j hj => by simp at hj, by simp⟩, fun a l c h => by cases h; exact Nat.le_refl _, by decide⟩
theorem bysK_own {W : World} {b n : Nat} {v : Value} {l : List Int} (h : W.ownsRow b 5 1 v n (l.map (Value.int .u8))) (hl : l.length ≤ 4611686018427380000) (hz : ∀ z ∈ l, 0 ≤ z ∧ z < 256) : BysK W v l := by
 refine ⟨Wi.Bys.of_own h (by omega) hz, ?_, hl⟩
 rcases h.2 with ⟨rfl, _⟩ | ⟨g, cap, cur, rfl, _, _, hc, _⟩
 ·intro a l c e; cases e; exact Nat.le_refl _
 ·intro a l c e; cases e; exact hc
theorem bysK_row1 {W : World} {g : Nat} {t : TypeId} (r : W.heap[g]? = some (.cells #[.int .u8 0] t (0, 0))) : BysK W (.slice (some ⟨g, 0, none⟩) 1 1) [0] := by
 refine ⟨⟨some ⟨g, 0, none⟩, 1, rfl, (by show 1 ≤ _; decide), fun j hj => ⟨g, 0, rfl, lt_of_row r, ?_⟩, by decide⟩, fun a l c h => by cases h; exact Nat.le_refl _, (by show 1 ≤ _; decide)⟩
 have e : j = 0 := by simpa using hj
 subst e
 exact cell_of_row W g 0 _ _ _ r
theorem bysK_sg {W : World} {g : Nat} {R S : Int} {t : TypeId} (r : W.heap[g]? = some (.cells (sg R S) t (0, 0))) : BysK W (.slice (some ⟨g, 0, none⟩) 64 64) (b32 R ++ b32 S) := by
 have hz : ∀ z ∈ b32 R ++ b32 S, 0 ≤ z ∧ z < 256 := fun z h => (List.mem_append.1 h).elim (b32_bd R z) (b32_bd S z)
 exact ⟨Wi.Bys.of_row r (by show 64 ≤ _; decide) hz 64, fun a l c h => by cases h; exact Nat.le_refl _, (by show 64 ≤ _; decide)⟩
theorem hexK (s : ByteArray) (n : Nat) (O : List Int) (hs : s.size = 2 * n) (hn : n ≤ 1000) (hh : ∀ j, j < 2 * n → Wi.isHx (Wi.sb s j)) (e : Wi.hxl s n = O) (hl : O.length ≤ 1000) (w : World) : Calls Tryd.prog 13 #[.string s] w fun e w' => ∃ v, e = .returned v ∧ BysK w' v O ∧ Below w.heap.size w w' := by
 refine (Wi.l_hex s n hs hn hh w).mono ?_
 rintro e' w' ⟨v, rfl, ho, hb⟩
 have hz := Wi.hxl_bd s n hh
 rw [e] at ho hz
 exact ⟨v, rfl, bysK_own ho (by omega) hz, hb⟩
theorem hex1 (O : List Int) (hO : O = vsd) (w : World) : Calls Tryd.prog 13 #[.string (⟨#[57, 100, 54, 49, 98, 49, 57, 100, 101, 102, 102, 100, 53, 97, 54, 48, 98, 97, 56, 52, 52, 97, 102, 52, 57, 50, 101, 99, 50, 99, 99, 52, 52, 52, 52, 57, 99, 53, 54, 57, 55, 98, 51, 50, 54, 57, 49, 57, 55, 48, 51, 98, 97, 99, 48, 51, 49, 99, 97, 101, 55, 102, 54, 48]⟩ : ByteArray)] w fun e w' => ∃ v, e = .returned v ∧ BysK w' v O ∧ Below w.heap.size w w' := hexK _ 32 O (by decide +kernel) (by decide) (by decide +kernel) (by rw [hO]; decide +kernel) (by rw [hO]; decide) w
theorem hex2 (O : List Int) (hO : O = b32 11903303657706407974989296177215005343713679411332034699907763981919547054807) (w : World) : Calls Tryd.prog 13 #[.string (⟨#[100, 55, 53, 97, 57, 56, 48, 49, 56, 50, 98, 49, 48, 97, 98, 55, 100, 53, 52, 98, 102, 101, 100, 51, 99, 57, 54, 52, 48, 55, 51, 97, 48, 101, 101, 49, 55, 50, 102, 51, 100, 97, 97, 54, 50, 51, 50, 53, 97, 102, 48, 50, 49, 97, 54, 56, 102, 55, 48, 55, 53, 49, 49, 97]⟩ : ByteArray)] w fun e w' => ∃ v, e = .returned v ∧ BysK w' v O ∧ Below w.heap.size w w' := hexK _ 32 O (by decide +kernel) (by decide) (by decide +kernel) (by rw [hO]; decide +kernel) (by rw [hO]; decide +kernel) w
theorem hex3 (O : List Int) (hO : O = b32 38448863731492799660668882834560725606410712239157980760146247592118262650597 ++ b32 5004556735901913393272427758925840403246877222315506387332009764265656498271) (w : World) : Calls Tryd.prog 13 #[.string (⟨([101, 53, 53, 54, 52, 51, 48, 48, 99, 51, 54, 48, 97, 99, 55, 50, 57, 48, 56, 54, 101, 50, 99, 99, 56, 48, 54, 101, 56, 50, 56, 97, 56, 52, 56, 55, 55, 102, 49, 101, 98, 56, 101, 53, 100, 57, 55, 52, 100, 56, 55, 51, 101, 48, 54, 53, 50, 50, 52, 57, 48, 49, 53, 53].append [53, 102, 98, 56, 56, 50, 49, 53, 57, 48, 97, 51, 51, 98, 97, 99, 99, 54, 49, 101, 51, 57, 55, 48, 49, 99, 102, 57, 98, 52, 54, 98, 100, 50, 53, 98, 102, 53, 102, 48, 53, 57, 53, 98, 98, 101, 50, 52, 54, 53, 53, 49, 52, 49, 52, 51, 56, 101, 55, 97, 49, 48, 48, 98]).toArray⟩ : ByteArray)] w fun e w' => ∃ v, e = .returned v ∧ BysK w' v O ∧ Below w.heap.size w w' := hexK _ 64 O (by decide +kernel) (by decide) (by decide +kernel) (by rw [hO]; decide +kernel) (by rw [hO]; decide +kernel) w
set_option maxRecDepth 100000 in
set_option maxHeartbeats 8000000 in
theorem vec_walk {A R S : Int} {sd : List Int} (cH1 : ∀ w : World, Calls Tryd.prog 13 #[.string (⟨#[57, 100, 54, 49, 98, 49, 57, 100, 101, 102, 102, 100, 53, 97, 54, 48, 98, 97, 56, 52, 52, 97, 102, 52, 57, 50, 101, 99, 50, 99, 99, 52, 52, 52, 52, 57, 99, 53, 54, 57, 55, 98, 51, 50, 54, 57, 49, 57, 55, 48, 51, 98, 97, 99, 48, 51, 49, 99, 97, 101, 55, 102, 54, 48]⟩ : ByteArray)] w fun e w' => ∃ v, e = .returned v ∧ BysK w' v sd ∧ Below w.heap.size w w') (cH2 : ∀ w : World, Calls Tryd.prog 13 #[.string (⟨#[100, 55, 53, 97, 57, 56, 48, 49, 56, 50, 98, 49, 48, 97, 98, 55, 100, 53, 52, 98, 102, 101, 100, 51, 99, 57, 54, 52, 48, 55, 51, 97, 48, 101, 101, 49, 55, 50, 102, 51, 100, 97, 97, 54, 50, 51, 50, 53, 97, 102, 48, 50, 49, 97, 54, 56, 102, 55, 48, 55, 53, 49, 49, 97]⟩ : ByteArray)] w fun e w' => ∃ v, e = .returned v ∧ BysK w' v (b32 A) ∧ Below w.heap.size w w') (cH3 : ∀ w : World, Calls Tryd.prog 13 #[.string (⟨([101, 53, 53, 54, 52, 51, 48, 48, 99, 51, 54, 48, 97, 99, 55, 50, 57, 48, 56, 54, 101, 50, 99, 99, 56, 48, 54, 101, 56, 50, 56, 97, 56, 52, 56, 55, 55, 102, 49, 101, 98, 56, 101, 53, 100, 57, 55, 52, 100, 56, 55, 51, 101, 48, 54, 53, 50, 50, 52, 57, 48, 49, 53, 53].append [53, 102, 98, 56, 56, 50, 49, 53, 57, 48, 97, 51, 51, 98, 97, 99, 99, 54, 49, 101, 51, 57, 55, 48, 49, 99, 102, 57, 98, 52, 54, 98, 100, 50, 53, 98, 102, 53, 102, 48, 53, 57, 53, 98, 98, 101, 50, 52, 54, 53, 53, 49, 52, 49, 52, 51, 56, 101, 55, 97, 49, 48, 48, 98]).toArray⟩ : ByteArray)] w fun e w' => ∃ v, e = .returned v ∧ BysK w' v (b32 R ++ b32 S) ∧ Below w.heap.size w w')
 (cP : ∀ W v, Sgn W → BysK W v sd → Calls Tryd.prog 14 #[v] W fun e w' => e = .returned (.tuple #[.agg (kb A), .int .i64 0]) ∧ Below W.heap.size W w') (cS : ∀ W v u, Sgn W → BysK W v sd → BysK W u [] → Calls Tryd.prog 15 #[v, u] W fun e w' => e = .returned (.tuple #[.agg (sg R S), .int .i64 0]) ∧ Below W.heap.size W w') (c1 : ∀ W v, Sgn W → BysK W v [] → Calls Tryd.prog 16 #[.agg (kb A), v, .agg (sg R S)] W fun e w' => e = .returned (.int .i64 0) ∧ Below W.heap.size W w') (c2 : ∀ W v, Sgn W → BysK W v [] → Calls Tryd.prog 16 #[.agg (kb 1), v, .agg (sg R S)] W fun e w' => e = .returned (.int .i64 200) ∧ Below W.heap.size W w') (c3 : ∀ W v, Sgn W → BysK W v [] → Calls Tryd.prog 16 #[.agg (kb 2), v, .agg (sg R S)] W fun e w' => e = .returned (.int .i64 190) ∧ Below W.heap.size W w') (c4 : ∀ W v, Sgn W → BysK W v [0] → Calls Tryd.prog 16 #[.agg (kb A), v, .agg (sg R S)] W fun e w' => e = .returned (.int .i64 201) ∧ Below W.heap.size W w') (w : World) (hS : Sgn w) : Calls Tryd.prog 3 #[] w fun e w' => e = .returned (.bool true) ∧ Below w.heap.size w w' := by
 have hw : Below w.heap.size w w := Below.refl _ _
 have f4 := hS
 go_enter Tryd.func3, Tryd.ntmps3
 go_wp2_with (fail)
 refine (cH1 w).mono ?_
 rintro e_ w1 ⟨v1, rfl, hB, hb⟩
 replace f4 := f4.below hb
 replace hw := Below.after hw hb
 clear hb
 go_wp2_with (fail)
 refine (cP _ v1 f4 hB).mono ?_
 rintro e_ w2 ⟨rfl, hb⟩
 replace f4 := f4.below hb
 replace hB := hB.keep hb
 replace hw := Below.after hw hb
 clear hb
 go_wp2_with (first | (refine wpList_store_row rfl 25 _ _ rfl (w2.heap.size) (kb A) rfl rfl 25 (kb 0) (hp1_0 w2 _) (kb_info _) ((kb_size _).trans (kb_size _).symm) (kb_one _) ?_; rw [setRow_alloc_new _ _ _ _ _ _ (by simp)]; refine wpList_stay ?_) | fail)
 unfold WpStay
 try simp only [Act.put]
 have rl2 : (w2.alloc (.cells (kb A) 25)).heap[w2.heap.size]? = some (.cells (kb A) 25 (0, 0)) := hp1_0 w2 _
 have hb : Below w2.heap.size w2 (w2.alloc (.cells (kb A) 25)) := ((Below.refl _ _).alloc (Nat.le_refl _) _)
 generalize (w2.alloc (.cells (kb A) 25)) = w3 at *
 have sz_g2 := hw.size
 replace f4 := f4.below hb
 replace hB := hB.keep hb
 replace hw := Below.after hw hb
 clear hb
 generalize w2.heap.size = g2 at *
 clear w2
 go_wp2_with (fail)
 refine (cS _ v1 _ f4 hB (nilK _)).mono ?_
 rintro e_ w4 ⟨rfl, hb⟩
 replace rl2 := keep hb rl2
 replace f4 := f4.below hb
 replace hB := hB.keep hb
 replace hw := Below.after hw hb
 clear hb
 go_wp2_with (first | (refine wpList_store_row rfl 30 _ _ rfl (w4.heap.size) (sg R S) rfl rfl 30 (Wi.irow .u8 (Wi.zr 64)) (hp1_0 w4 _) (sg_infoG _ _) (z64_size.trans (sg_size _ _).symm) (sg_one _ _) ?_; rw [setRow_alloc_new _ _ _ _ _ _ (by simp)]; refine wpList_stay ?_) | (refine wpList_alloc rfl 30 rfl (Wi.irow .u8 (Wi.zr 64)) zG ?_) | fail)
 unfold WpStay
 try simp only [Act.put]
 have rl4 : (w4.alloc (.cells (sg R S) 30)).heap[w4.heap.size]? = some (.cells (sg R S) 30 (0, 0)) := hp1_0 w4 _
 have hb : Below w4.heap.size w4 (w4.alloc (.cells (sg R S) 30)) := ((Below.refl _ _).alloc (Nat.le_refl _) _)
 generalize (w4.alloc (.cells (sg R S) 30)) = w5 at *
 have lt_g4_0 := lt_of_row rl2
 have sz_g4 := hw.size
 replace rl2 := keep hb rl2
 replace f4 := f4.below hb
 replace hB := hB.keep hb
 replace hw := Below.after hw hb
 clear hb
 generalize w4.heap.size = g4 at *
 clear w4
 go_wp2_with (fail)
 have hb : Below w5.heap.size w5 w5.drew := below_drN (Below.refl _ _) 1
 replace rl2 := keep hb rl2
 replace rl4 := keep hb rl4
 replace f4 := f4.below hb
 replace hB := hB.keep hb
 replace hw := Below.after hw hb
 clear hb
 refine wp_region_noPanic ?_
 refine wp_region_held (S := fun W_ => W_.heap[g2]? = some (.cells (kb A) 25 (0, 0))) (by kernel_rfl) ?_
 change wpAnyH _ _ _ _ _ _ _ _ (World.drew _)
 generalize w5.drew = wd1 at *
 refine wpAnyH_take (i := 0) (v := ?v2) rfl (by kernel_rfl) (by kernel_rfl) (by kernel_rfl) (fun _ _ _ h => h) (Or.inl ⟨by rfl, ?y2⟩) (rl2) ?r2
 case y2 =>
  intro w_ hS_
  go_simp
  try with_reducible rfl
 simp only [Act.put, ZPa, ZPc, ZPd, ZPe, ZPf]
 refine wpAnyH_take (i := 1) (v := ?v3) rfl (by kernel_rfl) (by kernel_rfl) (by kernel_rfl) (fun _ _ _ h => h) (Or.inl ⟨by rfl, ?y3⟩) (rl2) ?r3
 case y3 =>
  intro w_ hS_
  go_simp
  try with_reducible rfl
 simp only [Act.put, ZPa, ZPb, ZPc, ZPd, ZPe, ZPf]
 refine wpAnyH_take (i := 2) (v := ?v4) rfl (by kernel_rfl) (by kernel_rfl) (by kernel_rfl) (fun _ _ _ h => h) (Or.inl ⟨by rfl, ?y4⟩) (rl2) ?r4
 case y4 =>
  intro w_ hS_
  go_simp
  try with_reducible rfl
 simp only [Act.put, ZPa, ZPb, ZPc, ZPd, ZPe, ZPf]
 refine wpAnyH_take (i := 3) (v := ?v5) rfl (by kernel_rfl) (by kernel_rfl) (by kernel_rfl) (fun _ _ _ h => h) (Or.inl ⟨by rfl, ?y5⟩) (rl2) ?r5
 case y5 =>
  intro w_ hS_
  go_simp
  try with_reducible rfl
 simp only [Act.put, ZPa, ZPb, ZPc, ZPd, ZPe, ZPf]
 refine wpAnyH_take (i := 4) (v := ?v6) rfl (by kernel_rfl) (by kernel_rfl) (by kernel_rfl) (fun _ _ _ h => h) (Or.inl ⟨by rfl, ?y6⟩) (rl2) ?r6
 case y6 =>
  intro w_ hS_
  go_simp
  try with_reducible rfl
 simp only [Act.put, ZPa, ZPb, ZPc, ZPd, ZPe, ZPf]
 refine wpAnyH_take (i := 5) (v := ?v7) rfl (by kernel_rfl) (by kernel_rfl) (by kernel_rfl) (fun _ _ _ h => h) (Or.inl ⟨by rfl, ?y7⟩) (rl2) ?r7
 case y7 =>
  intro w_ hS_
  go_simp
  try with_reducible rfl
 simp only [Act.put, ZPa, ZPb, ZPc, ZPd, ZPe, ZPf]
 refine wpAnyH_take (i := 6) (v := ?v8) rfl (by kernel_rfl) (by kernel_rfl) (by kernel_rfl) (fun _ _ _ h => h) (Or.inl ⟨by rfl, ?y8⟩) (rl2) ?r8
 case y8 =>
  intro w_ hS_
  go_simp
  try with_reducible rfl
 simp only [Act.put, ZPa, ZPb, ZPc, ZPd, ZPe, ZPf]
 refine wpAnyH_take (i := 7) (v := .slice (some ⟨g2, 0, none⟩) 32 32) rfl (by kernel_rfl) (by kernel_rfl) (by kernel_rfl) (fun _ _ _ h => h) (Or.inl ⟨by rfl, ?y9⟩) (rl2) ?r9
 case y9 =>
  intro w_ hS_
  go_simp
  try with_reducible rfl
 simp only [Act.put, ZPa, ZPb, ZPc, ZPd, ZPe, ZPf]
 refine wpAnyH_take (i := 8) (v := .string (strOfNums (b32 A))) rfl (by kernel_rfl) (by kernel_rfl) (by kernel_rfl) (fun _ _ _ h => h) (Or.inl ⟨by rfl, ?y10⟩) (rl2) ?r10
 case y10 =>
  intro w_ hS_
  go_simp
  rw [conv_bys (bysK_row hS_).1]
  rfl
 simp only [Act.put, ZPa, ZPb, ZPc, ZPd, ZPe, ZPf]
 refine eH_one (k := 9) (fuel := 3) (by kernel_rfl) rfl (by kernel_rfl) (fun K_ hK_ => ?_)
 refine wp_call_ex (f := 13) (by kernel_rfl) (cH2 _) (fun v_ wq11 hX_ => ?_)
 obtain ⟨hO_, hb⟩ := hX_
 replace rl2 := keep hb rl2
 replace rl4 := keep hb rl4
 replace f4 := f4.below hb
 replace hB := hB.keep hb
 replace hw := Below.after hw hb
 clear hb
 refine hK_ _ _ (rl2) ?_
 simp only [Act.put, ZPa, ZPb, ZPc, ZPd, ZPe, ZPf]
 clear hK_
 refine eH_one (k := 10) (fuel := 2) (by kernel_rfl) rfl (by kernel_rfl) (fun K_ hK_ => ?_)
 refine e_world_op (.string (strOfNums (b32 A))) _ (by simp only [execOp]; go_simp; rw [conv_bys hO_.1]; rfl) ?_
 refine hK_ _ _ (rl2) ?_
 simp only [Act.put, ZPa, ZPb, ZPc, ZPd, ZPe, ZPf]
 clear hK_ hO_
 refine wpAnyH_take (i := 11) (v := ?v12) rfl (by kernel_rfl) (by kernel_rfl) (by kernel_rfl) (fun _ _ _ h => h) (Or.inl ⟨by rfl, ?y12⟩) (rl2) ?r12
 case y12 =>
  intro w_ hS_
  go_simp
  try with_reducible rfl
 simp only [Act.put, ZPa, ZPb, ZPc, ZPd, ZPe, ZPf]
 refine wpAnyH_take (i := 12) (v := ?v13) rfl (by kernel_rfl) (by kernel_rfl) (by kernel_rfl) (fun _ _ _ h => h) (Or.inl ⟨by rfl, ?y13⟩) (rl2) ?r13
 case y13 =>
  intro w_ hS_
  go_simp
  try with_reducible rfl
 simp only [Act.put, ZPa, ZPb, ZPc, ZPd, ZPe, ZPf]
 refine wpAnyH_done (by kernel_rfl) ?_ _
 refine NoPanic.normal ?_
 go_wp2_with (fail)
 have hb : Below wq11.heap.size wq11 wq11.drew := below_drN (Below.refl _ _) 1
 replace rl2 := keep hb rl2
 replace rl4 := keep hb rl4
 replace f4 := f4.below hb
 replace hB := hB.keep hb
 replace hw := Below.after hw hb
 clear hb
 refine wp_region_noPanic ?_
 refine wp_region_held (S := fun W_ => W_.heap[g4]? = some (.cells (sg R S) 30 (0, 0))) (by kernel_rfl) ?_
 change wpAnyH _ _ _ _ _ _ _ _ (World.drew _)
 generalize wq11.drew = wd14 at *
 refine wpAnyH_take (i := 0) (v := .slice (some ⟨g4, 0, none⟩) 64 64) rfl (by kernel_rfl) (by kernel_rfl) (by kernel_rfl) (fun _ _ _ h => h) (Or.inl ⟨by rfl, ?y15⟩) (rl4) ?r15
 case y15 =>
  intro w_ hS_
  go_simp
  try with_reducible rfl
 simp only [Act.put, ZPa, ZPc, ZPd, ZPe, ZPf]
 refine wpAnyH_take (i := 1) (v := .string (strOfNums (b32 R ++ b32 S))) rfl (by kernel_rfl) (by kernel_rfl) (by kernel_rfl) (fun _ _ _ h => h) (Or.inl ⟨by rfl, ?y16⟩) (rl4) ?r16
 case y16 =>
  intro w_ hS_
  go_simp
  rw [conv_bys (bysK_sg hS_).1]
  rfl
 simp only [Act.put, ZPa, ZPb, ZPc, ZPd, ZPe, ZPf]
 refine eH_one (k := 2) (fuel := 2) (by kernel_rfl) rfl (by kernel_rfl) (fun K_ hK_ => ?_)
 refine wp_call_ex (f := 13) (by kernel_rfl) (cH3 _) (fun v_ wq17 hX_ => ?_)
 obtain ⟨hO_, hb⟩ := hX_
 replace rl2 := keep hb rl2
 replace rl4 := keep hb rl4
 replace f4 := f4.below hb
 replace hB := hB.keep hb
 replace hw := Below.after hw hb
 clear hb
 refine hK_ _ _ (rl4) ?_
 simp only [Act.put, ZPa, ZPb, ZPc, ZPd, ZPe, ZPf]
 clear hK_
 refine eH_one (k := 3) (fuel := 1) (by kernel_rfl) rfl (by kernel_rfl) (fun K_ hK_ => ?_)
 refine e_world_op (.string (strOfNums (b32 R ++ b32 S))) _ (by simp only [execOp]; go_simp; rw [conv_bys hO_.1]; rfl) ?_
 refine hK_ _ _ (rl4) ?_
 simp only [Act.put, ZPa, ZPb, ZPc, ZPd, ZPe, ZPf]
 clear hK_ hO_
 refine wpAnyH_take (i := 4) (v := ?v18) rfl (by kernel_rfl) (by kernel_rfl) (by kernel_rfl) (fun _ _ _ h => h) (Or.inl ⟨by rfl, ?y18⟩) (rl4) ?r18
 case y18 =>
  intro w_ hS_
  go_simp
  try with_reducible rfl
 simp only [Act.put, ZPa, ZPb, ZPc, ZPd, ZPe, ZPf]
 refine wpAnyH_done (by kernel_rfl) ?_ _
 refine NoPanic.normal ?_
 go_wp2_with (first | (refine wpList_load_want rfl 25 _ rfl (g2) rfl 25 (kb A) (0, 0) _ rl2 Tryd.underlying25 rfl (kb_info _) ?_) | (refine wpList_load_want rfl 30 _ rfl (g4) rfl 30 (sg R S) (0, 0) _ rl4 Tryd.underlying30 rfl (sg_infoG _ _) ?_) | (refine wpList_build_as rfl 25 _ rfl [(0, .int .u8 1)] rfl (kb 1) (by kernel_rfl) ?_) | (refine wpList_build_as rfl 25 _ rfl [(0, .int .u8 2)] rfl (kb 2) (by kernel_rfl) ?_) | fail)
 refine (c1 _ _ f4 (nilK _)).mono ?_
 rintro e_ w11 ⟨rfl, hb⟩
 replace rl2 := keep hb rl2
 replace rl4 := keep hb rl4
 replace f4 := f4.below hb
 replace hB := hB.keep hb
 replace hw := Below.after hw hb
 clear hb
 go_wp2_with (first | (refine wpList_load_want rfl 25 _ rfl (g2) rfl 25 (kb A) (0, 0) _ rl2 Tryd.underlying25 rfl (kb_info _) ?_) | (refine wpList_load_want rfl 30 _ rfl (g4) rfl 30 (sg R S) (0, 0) _ rl4 Tryd.underlying30 rfl (sg_infoG _ _) ?_) | (refine wpList_build_as rfl 25 _ rfl [(0, .int .u8 1)] rfl (kb 1) (by kernel_rfl) ?_) | (refine wpList_build_as rfl 25 _ rfl [(0, .int .u8 2)] rfl (kb 2) (by kernel_rfl) ?_) | fail)
 refine (c2 _ _ f4 (nilK _)).mono ?_
 rintro e_ w12 ⟨rfl, hb⟩
 replace rl2 := keep hb rl2
 replace rl4 := keep hb rl4
 replace f4 := f4.below hb
 replace hB := hB.keep hb
 replace hw := Below.after hw hb
 clear hb
 go_wp2_with (first | (refine wpList_load_want rfl 25 _ rfl (g2) rfl 25 (kb A) (0, 0) _ rl2 Tryd.underlying25 rfl (kb_info _) ?_) | (refine wpList_load_want rfl 30 _ rfl (g4) rfl 30 (sg R S) (0, 0) _ rl4 Tryd.underlying30 rfl (sg_infoG _ _) ?_) | (refine wpList_build_as rfl 25 _ rfl [(0, .int .u8 1)] rfl (kb 1) (by kernel_rfl) ?_) | (refine wpList_build_as rfl 25 _ rfl [(0, .int .u8 2)] rfl (kb 2) (by kernel_rfl) ?_) | fail)
 refine (c3 _ _ f4 (nilK _)).mono ?_
 rintro e_ w13 ⟨rfl, hb⟩
 replace rl2 := keep hb rl2
 replace rl4 := keep hb rl4
 replace f4 := f4.below hb
 replace hB := hB.keep hb
 replace hw := Below.after hw hb
 clear hb
 have hb : Below w13.heap.size w13 (w13.alloc (.cells #[.int .u8 0] 5)) := (Below.refl _ _).alloc (Nat.le_refl _) _
 have rA := keep hb rl4
 clear hb
 go_wp2_with (first | (refine wpList_load_want rfl 25 _ rfl (g2) rfl 25 (kb A) (0, 0) _ rl2 Tryd.underlying25 rfl (kb_info _) ?_) | (refine wpList_load_want rfl 30 _ rfl (g4) rfl 30 (sg R S) (0, 0) _ rl4 Tryd.underlying30 rfl (sg_infoG _ _) ?_) | (refine wpList_load_want rfl 30 _ rfl g4 rfl 30 (sg R S) (0, 0) _ rA Tryd.underlying30 rfl (sg_infoG _ _) ?_) | fail)
 clear rA
 have rb := hp1_0 w13 (.cells #[.int .u8 0] 5)
 have hb : Below w13.heap.size w13 (w13.alloc (.cells #[.int .u8 0] 5)) := (Below.refl _ _).alloc (Nat.le_refl _) _
 generalize (w13.alloc (.cells #[.int .u8 0] 5)) = w14 at *
 replace rl2 := keep hb rl2
 replace rl4 := keep hb rl4
 replace f4 := f4.below hb
 replace hB := hB.keep hb
 replace hw := Below.after hw hb
 clear hb
 generalize w13.heap.size = gb at *
 refine (c4 _ _ f4 (bysK_row1 rb)).mono ?_
 rintro e_ w15 ⟨rfl, hb⟩
 replace rl2 := keep hb rl2
 replace rl4 := keep hb rl4
 replace f4 := f4.below hb
 replace hB := hB.keep hb
 replace hw := Below.after hw hb
 clear hb
 go_wp2_with (fail)
 go_ret
 exact ⟨rfl, hw⟩
theorem one_key : KeyOf (kb 1) 1 := kb_key 1 (by decide) (by decide)
theorem two_key : KeyOf (kb 2) 2 := kb_key 2 (by decide) (by decide)
theorem sigR_key (sd b : List Int) : KeyOf (kb (sigR sd b)) (sigR sd b) := pb_key _
theorem sigS_key (sd b : List Int) : KeyOf (kb (sigS sd b)) (sigS sd b) := kb_key _ (sgS_bd _ _ _ _).1 (Int.lt_trans (sgS_bd _ _ _ _).2 L_lt)
theorem a_vec : GivesS 3 #[] (.bool true) := by
 intro w hS
 have hR := sigR_key vsd []
 have hK := sigS_key vsd []
 refine vec_walk (A := pb (pubP vsd)) (R := sigR vsd []) (S := sigS vsd []) (hex1 vsd rfl) (hex2 _ (by rw [v_pub])) (hex3 _ (by rw [v_R, v_S])) (fun W v h1 h2 => ?_) (fun W v u h1 h2 h3 => a_Sign_ok v_len W h1 h2 h3) (fun W v h1 h2 => ?_) (fun W v h1 h2 => ?_) (fun W v h1 h2 => ?_) (fun W v h1 h2 => ?_) w hS
 ·have h := a_Public W h1 h2
  unfold pbk pbe at h
  rw [if_pos v_len, if_pos v_len] at h
  exact h
 ·have h := a_Check (pb_key (pubP vsd)) hR hK W h1 h2
  rw [chk_signed] at h
  exact h
 ·have h := a_Check one_key hR hK W h1 h2
  rw [v_one] at h
  exact h
 ·have h := a_Check two_key hR hK W h1 h2
  rw [v_two] at h
  exact h
 ·have h := a_Check (pb_key (pubP vsd)) hR hK W h1 h2
  rw [v_more] at h
  exact h
end Go.Proofs.YtajaiiidafkijaaDoor
namespace Go.Proofs.YtajaiiidafkijaaDoor
set_option maxRecDepth 100000
open Go Go.RowKit Go.Sort
attribute [local go_sem] setCell_drewN alloc_drewN
theorem lt_of_row' {w : World} {g : Nat} {cs : Array Value} {t : TypeId} {fr : Nat × Nat} (h : w.heap[g]? = some (.cells cs t fr)) : g < w.heap.size := (Array.getElem?_eq_some_iff.1 h).1
theorem sum_own {W : World} {base : Nat} {v : Value} {l : List Int} (hO : W.ownsRow base 5 1 v l.length (l.map (Value.int .u8))) (hz : ∀ z ∈ l, 0 ≤ z ∧ z < 256) (hl : l.length ≤ 4611686018427380000) : Calls Tryd.prog 17 #[v] W fun e w' => e = .returned (.agg (sg (sK l) (sP l))) ∧ Below W.heap.size W w' := by
 have hB := bysK_own hO hl hz
 rw [← sum_sg]
 exact Wi.a_sum l W v hB.1 hB.2.1 (by omega)
theorem nbr_halves (l : List Int) (W : World) (v : Value) (hO : Ord W) (hB : Bys W v (b32 (sK l) ++ b32 (sP l))) : Calls Tryd.prog 27 #[v] W fun e w' => e = .returned (.agg (wd (nbr l))) ∧ Below W.heap.size W w' := by
 rw [sK_b32, sP_b32, List.take_append_drop] at hB
 exact a_Reduce _ W v hO hB
theorem wp_append_B {o : Oper} {a : Act} {w : World} {K : Act → World → Prop} {Q : Exit → Act → World → Prop} (s x : Operand) (ho : o.op = .call { callee := .builtin .append, args := #[s, x], argTypes := #[22, 22] }) (base : Nat) (v : Value) (l : List Int) (hs : a.eval s = v) (hown : w.ownsRow base 5 1 v l.length (l.map (Value.int .u8))) (ao : Option Addr) (m c : Nat) (d : List Int) (hx : a.eval x = .slice ao m c) (hB : Bys w (.slice ao m c) d) (hnone : ao = none → c = 0) (hlim : l.length + d.length ≤ 140737488355328) (hbase : base ≤ w.heap.size)
 (h : ∀ v' w', w'.ownsRow base 5 1 v' (l ++ d).length ((l ++ d).map (Value.int .u8)) → (∀ n W0, Below n W0 w → n ≤ base → Below n W0 w') → base ≤ w'.heap.size → (∀ (k : Nat) (cs : Array Value) (t : TypeId) (fr : Nat × Nat), t ≠ 5 → w.heap[k]? = some (.cells cs t fr) → w'.heap[k]? = some (.cells cs t fr)) → K (a.put o.dst v') w') : o.wp Tryd.prog a w K Q := by
 obtain ⟨i0, hi, hz0, hz1, hz2⟩ := Wi.info8
 obtain ⟨ao', cap, e, hl, hc, hz⟩ := hB
 cases e
 have hK : ∀ v' w', w'.ownsRow base 5 1 v' (l.length + d.length) (l.map (Value.int .u8) ++ d.map (Value.int .u8)) → w.grownBy w' v.ownBlock → K (a.put o.dst v') w' := fun v' w' h1 h2 => by
  refine h v' w' (by rw [List.map_append, List.length_append]; exact h1) (fun n W0 hb hn => hb.grown h2 (Nat.le_trans hn hbase) (fun k e => Nat.le_trans hn (hown.lt k e).1)) (Nat.le_trans hbase h2.size) (fun k cs t fr ht hk => (h2.block k (lt_of_row' hk) (fun e => ht ?_)).trans hk)
  obtain ⟨g, cap, cur, rfl, _, hg, _⟩ : ∃ g cap cur, v = .slice (some ⟨g, 0, none⟩) l.length cap ∧ base ≤ g ∧ w.heap[g]? = some (.cells cur 5 (0, 0)) ∧ True := by
   rcases hown.2 with ⟨rfl, _⟩ | ⟨g, cap, cur, e1, e2, e3, _⟩
   ·cases e
   ·exact ⟨g, cap, cur, e1, e2, e3, trivial⟩
  have ek : k = g := by simpa [Value.ownBlock] using e
  subst ek
  rw [hg] at hk
  cases hk
  rfl
 cases ao with
 | some ad =>
  refine wp_append_own w s x 22 ho base 5 i0 (.int .u8 0) 1 1 Tryd.underlying22 hi hz0 hz1 hz2 rfl (by decide) v l.length (l.map (Value.int .u8)) hs hown ad d.length c (d.map (Value.int .u8)) hx (by simp) (fun j u hu => ?_) (Wi.ints_one .u8 d) (by unfold maxLen; omega) (by omega) hbase (fun v' w' h2 h3 _ => hK v' w' h2 h3)
  have hj : j < d.length := by have := (List.getElem?_eq_some_iff.1 hu).1; simpa using this
  obtain ⟨b, off, e, _, hcell⟩ := hc j hj
  cases e
  have e2 : (⟨b, off, none⟩ : Addr).add j = ⟨b, off + j, none⟩ := by simp [Addr.add]
  rw [e2, hcell, ← hu, List.getElem?_map, List.getElem?_eq_getElem hj, List.getD_eq_getElem?_getD, List.getElem?_eq_getElem hj]
  rfl
 | none =>
  have hd : d = [] := by
   cases d with
   | nil => rfl
   | cons y ys => obtain ⟨b, off, e, _⟩ := hc 0 (by simp); cases e
  subst hd
  obtain rfl := hnone rfl
  have hrun := run_append_owned_none (P := Tryd.prog) w base 22 o.type 5 i0 1 Tryd.underlying22 hi _ l.length _ hown
  unfold Oper.wp
  simp [execOp, ho, resolve, invoke, builtin, hs, hx, hrun, Result.andThen]
  exact hK v w (by simpa using hown) (World.grownBy.refl _ _)
end Go.Proofs.YtajaiiidafkijaaDoor

