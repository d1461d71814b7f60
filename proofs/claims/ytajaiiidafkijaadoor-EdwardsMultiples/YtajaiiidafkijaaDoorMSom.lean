import Derived.Test.YtajaiiidafkijaaDoorProg
import Derived.WalkKit
import Derived.WalkSpells
import Derived.WalkLawsBesides
import Derived.Lib.QuietBelow
import Derived.BigQuiet
import Derived.Deep.Cut
import Derived.Deep.CutRange
import Derived.Test.YtajaiiidafkijaaDoorMHk
namespace Go.Proofs.YtajaiiidafkijaaDoor
set_option maxRecDepth 100000
open Go Go.RowKit Go.Sort
attribute [local go_sem] setCell_drewN alloc_drewN
theorem e_build {P : Program} {o : Oper} {a : Act} {w : World} (t : TypeId) (parts : Array (Nat × Operand)) (ho : o.op = .build t parts) (vals : List (Nat × Value)) (hv : parts.toList.map (fun (i, x) => (i, a.eval x)) = vals) (cells : Array Value) (hb : P.built t vals = some cells) : (execOp a.eval o).run P w = .ok (.value (.agg cells)) w := by
 rw [← Array.toList_map] at hv
 subst hv
 unfold execOp
 simp only [ho, Sem.run_bind, run_build w t _ cells hb, Result.andThen_ok]
 rfl
theorem bysK_l {W : World} {g n : Nat} {l : List Int} {t : TypeId} (r : W.heap[g]? = some (.cells (Wi.irow .u8 l) t (0, 0))) (hn : l.length = n) (hz : ∀ z ∈ l, 0 ≤ z ∧ z < 256) (hl : n ≤ 1000) : BysK W (.slice (some ⟨g, 0, none⟩) n n) l := by
 subst hn
 exact ⟨Wi.Bys.of_row r (by omega) hz _, fun a l c h => by cases h; exact Nat.le_refl _, by omega⟩
theorem own_lit (w : World) (l : List Int) (n : Nat) (hn : l.length = n) (hl : n ≤ 1000) : (w.alloc (.cells (Wi.irow .u8 l) 5)).ownsRow w.heap.size 5 1 (.slice (some ⟨w.heap.size, 0, none⟩) n n) l.length (l.map (Value.int .u8)) := by
 subst hn
 exact ⟨by simp, Or.inr ⟨w.heap.size, _, _, rfl, Nat.le_refl _, hp1_0 w _, Nat.le_refl _, by unfold maxLen; omega, by simp [Wi.irow], by simp only [Wi.irow]; exact List.take_of_length_le (by simp)⟩⟩
theorem wp_append_C {o : Oper} {a : Act} {w : World} {K : Act → World → Prop} {Q : Exit → Act → World → Prop} (s x : Operand) (ho : o.op = .call { callee := .builtin .append, args := #[s, x], argTypes := #[22, 22] }) (base : Nat) (v : Value) (l : List Int) (hs : a.eval s = v) (hown : w.ownsRow base 5 1 v l.length (l.map (Value.int .u8))) (ao : Option Addr) (m c : Nat) (d : List Int) (hx : a.eval x = .slice ao m c) (hB : Bys w (.slice ao m c) d) (hnone : ao = none → c = 0) (hlim : l.length + d.length ≤ 140737488355328) (hbase : base ≤ w.heap.size)
 (h : ∀ v' w', w'.ownsRow base 5 1 v' (l ++ d).length ((l ++ d).map (Value.int .u8)) → (∀ n W0, Below n W0 w → n ≤ base → Below n W0 w') → base ≤ w'.heap.size → (∀ (k : Nat), v.ownBlock ≠ some k → k < w.heap.size → w'.heap[k]? = w.heap[k]?) → (∀ (k : Nat) (cs : Array Value) (t : TypeId) (fr : Nat × Nat), t ≠ 5 → w.heap[k]? = some (.cells cs t fr) → w'.heap[k]? = some (.cells cs t fr)) → K (a.put o.dst v') w') : o.wp Tryd.prog a w K Q := by
 obtain ⟨i0, hi, hz0, hz1, hz2⟩ := Wi.info8
 obtain ⟨ao', cap, e, hl, hc, hz⟩ := hB
 cases e
 have hK : ∀ v' w', w'.ownsRow base 5 1 v' (l.length + d.length) (l.map (Value.int .u8) ++ d.map (Value.int .u8)) → w.grownBy w' v.ownBlock → K (a.put o.dst v') w' := fun v' w' h1 h2 =>
  h v' w' (by rw [List.map_append, List.length_append]; exact h1) (fun n W0 hb hn => hb.grown h2 (Nat.le_trans hn hbase) (fun k e => Nat.le_trans hn (hown.lt k e).1)) (Nat.le_trans hbase h2.size) (fun k hk hlt => h2.block k hlt (fun e => hk e.symm)) (fun k cs t fr ht hk => (h2.block k (lt_of_row' hk) (fun e => ht (by
   obtain ⟨g, cap, cur, rfl, _, hg, _⟩ : ∃ g cap cur, v = .slice (some ⟨g, 0, none⟩) l.length cap ∧ base ≤ g ∧ w.heap[g]? = some (.cells cur 5 (0, 0)) ∧ True := by
    rcases hown.2 with ⟨rfl, _⟩ | ⟨g, cap, cur, e1, e2, e3, _⟩
    ·cases e
    ·exact ⟨g, cap, cur, e1, e2, e3, trivial⟩
   have ek : k = g := by simpa [Value.ownBlock] using e
   subst ek
   rw [hg] at hk
   cases hk
   rfl))).trans hk)
 cases ao with
 | some ad =>
  refine wp_append_own w s x 22 ho base 5 i0 (.int .u8 0) 1 1 Tryd.underlying22 hi hz0 hz1 hz2 rfl (by decide) v l.length (l.map (Value.int .u8)) hs hown ad d.length c (d.map (Value.int .u8)) hx (by simp) (fun j u hu => ?_) (Wi.ints_one .u8 d) (by unfold maxLen; omega) (by omega) hbase (fun v' w' h2 h3 _ => hK v' w' h2 h3)
  have hj : j < d.length := by have := (List.getElem?_eq_some_iff.1 hu).1; simpa using this
  obtain ⟨b, off, e, _, hcell⟩ := hc j hj
  cases e
  have e2 : (⟨b, off, none⟩ : Addr).add j = ⟨b, off + j, none⟩ := by simp [Addr.add]
  rw [e2, hcell, ← hu, List.getElem?_map, List.getElem?_eq_getElem hj, List.getD_eq_getElem?_getD, List.getElem?_eq_getElem hj]
  rfl
 | none =>
  have hd : d = [] := by
   cases d with
   | nil => rfl
   | cons y ys => obtain ⟨b, off, e, _⟩ := hc 0 (by simp); cases e
  subst hd
  obtain rfl := hnone rfl
  have hrun := run_append_owned_none (P := Tryd.prog) w base 22 o.type 5 i0 1 Tryd.underlying22 hi _ l.length _ hown
  unfold Oper.wp
  simp [execOp, ho, resolve, invoke, builtin, hs, hx, hrun, Result.andThen]
  exact hK v w (by simpa using hown) (World.grownBy.refl _ _)
set_option maxRecDepth 100000 in
set_option maxHeartbeats 8000000 in
theorem mult_walk {N E : Int} {k l : List Int} {xp x8 xb xs xt y1 y2 st mt z1 z2 z3 z4 z5 z6 z7 z8 z9 z10 z11 z12 z13 : Array Value} {Pp P8 : E1} (hp : PtO xp Pp) (h8 : PtO x8 P8) (os : WdO xs) (ot : WdO xt) (w : World) {ao bo : Option Addr} {lb cap bl bc : Nat} (hS : Sgn w) (hB : BysK w (.slice ao lb cap) k) (hC : BysK w (.slice bo bl bc) l)
 (cLv : GivesE 55 #[] (.bool true)) (cP : Gives5 22 #[.agg (kb N)] (.tuple #[.agg xp, .int .i64 E])) (cS8 : ∀ (W : World) (ev : Value), Four W → Bys W ev [8] → Calls Tryd.prog 20 #[.agg xp, ev] W fun e w' => e = .returned (.agg x8) ∧ Below W.heap.size W w') (cB : GivesE 19 #[] (.agg xb)) (cSo : ∀ (W : World) (ev : Value), Four W → Bys W ev (b32 L19) → Calls Tryd.prog 20 #[.agg xb, ev] W fun e w' => e = .returned (.agg y1) ∧ Below W.heap.size W w') (cN1 : Gives 56 #[.agg y1] (.bool true)) (cS8o : ∀ (W : World) (ev : Value), Four W → Bys W ev (b32 L19) → Calls Tryd.prog 20 #[.agg x8, ev] W fun e w' => e = .returned (.agg y2) ∧ Below W.heap.size W w') (cN2 : Gives 56 #[.agg y2] (.bool true)) (cRk : ∀ W, Ord W → Bys W (.slice ao lb cap) k → Calls Tryd.prog 27 #[.slice ao lb cap] W fun e w' => e = .returned (.agg xs) ∧ Below W.heap.size W w') (cRl : ∀ W, Ord W → Bys W (.slice bo bl bc) l → Calls Tryd.prog 27 #[.slice bo bl bc] W fun e w' => e = .returned (.agg xt) ∧ Below W.heap.size W w')
 (c1 : GivesO 38 #[.agg xs, .agg xt] (.agg st)) (c2 : Gives4 24 #[.agg x8, .agg st] (.agg z1)) (c3 : Gives4 24 #[.agg x8, .agg xs] (.agg z2)) (c4 : Gives4 24 #[.agg x8, .agg xt] (.agg z3)) (c5 : Gives4 26 #[.agg z2, .agg z3] (.agg z4)) (c6 : Gives 57 #[.agg z1, .agg z4] (.bool true)) (c7 : GivesO 42 #[.agg xs, .agg xt] (.agg mt)) (c8 : Gives4 24 #[.agg x8, .agg mt] (.agg z5)) (c9 : Gives4 24 #[.agg z3, .agg xs] (.agg z6)) (c10 : Gives 57 #[.agg z5, .agg z6] (.bool true)) (c11 : ∀ (W : World) (ev : Value), Four W → Bys W ev k → Calls Tryd.prog 20 #[.agg x8, ev] W fun e w' => e = .returned (.agg z7) ∧ Below W.heap.size W w') (c12 : Gives 57 #[.agg z7, .agg z2] (.bool true)) (c13 : ∀ (W : World) (ev : Value), Four W → Bys W ev ([] ++ k ++ [0]) → Calls Tryd.prog 20 #[.agg xp, ev] W fun e w' => e = .returned (.agg z8) ∧ Below W.heap.size W w') (c14 : ∀ (W : World) (ev : Value), Four W → Bys W ev k → Calls Tryd.prog 20 #[.agg xp, ev] W fun e w' => e = .returned (.agg z9) ∧ Below W.heap.size W w') (c15 : Gives 57 #[.agg z8, .agg z9] (.bool true)) (c16 : ∀ (W : World) (ev : Value), Four W → Bys W ev ([0] ++ k) → Calls Tryd.prog 20 #[.agg xp, ev] W fun e w' => e = .returned (.agg z10) ∧ Below W.heap.size W w') (c17 : ∀ (W : World) (ev : Value), Four W → Bys W ev [0, 1] → Calls Tryd.prog 20 #[.agg z9, ev] W fun e w' => e = .returned (.agg z11) ∧ Below W.heap.size W w') (c18 : Gives 57 #[.agg z10, .agg z11] (.bool true)) (c19 : Gives4 24 #[.agg xb, .agg xs] (.agg z12)) (c20 : Gives4 33 #[.agg z12, .agg z12] (.agg z13)) (c21 : Gives 57 #[.agg z13, .agg pz] (.bool true)) (hnone : ao = none → cap = 0) (hlen : k.length ≤ 140737488351232) (hzk0 : ∀ z ∈ [] ++ k ++ [0], 0 ≤ z ∧ z < 256) (hz0k : ∀ z ∈ [0] ++ k, 0 ≤ z ∧ z < 256) : Calls Tryd.prog 12 #[.agg (kb N), .slice ao lb cap, .slice bo bl bc] w fun e w' => e = .returned (.bool true) ∧ Below w.heap.size w w' := by
 have hB0 := hB
 have hC0 := hC
 have rp0 := hp1_0 w (.cells (kb N) 25)
 have hw : Below w.heap.size w (w.alloc (.cells (kb N) 25)) := ((Below.refl _ _).alloc (Nat.le_refl _) _)
 have f4 := hS.below (show Below w.heap.size w (w.alloc (.cells (kb N) 25)) from hw)
 have hB := hB.keep (show Below w.heap.size w (w.alloc (.cells (kb N) 25)) from hw)
 have hC := hC.keep (show Below w.heap.size w (w.alloc (.cells (kb N) 25)) from hw)
 go_enter Tryd.func12, Tryd.ntmps12
 iterate 7 go_step
 generalize (w.alloc (.cells (kb N) 25)) = w0 at *
 go_wp2_with (fail)
 refine (cLv.at f4.1).mono ?_
 rintro e_ w1 ⟨rfl, hb⟩
 replace rp0 := keep hb rp0
 replace f4 := f4.below hb
 replace hB := hB.keep hb
 replace hC := hC.keep hb
 replace hw := Below.after hw hb
 clear hb
 go_wp2_with (first | (refine wpList_load_want rfl 25 _ rfl (w.heap.size) rfl 25 (kb N) (0, 0) _ rp0 Tryd.underlying25 rfl (kb_info _) ?_) | fail)
 refine (cP.at f4.1.1).mono ?_
 rintro e_ w2 ⟨rfl, hb⟩
 replace rp0 := keep hb rp0
 replace f4 := f4.below hb
 replace hB := hB.keep hb
 replace hC := hC.keep hb
 replace hw := Below.after hw hb
 clear hb
 go_wp2_with (first | (refine wpList_store_row rfl 45 _ _ rfl (w2.heap.size) xp rfl rfl 45 pz (hp1_0 w2 _) hp.info (pt_zero.size.trans hp.size.symm) hp.one ?_; rw [setRow_alloc_new _ _ _ _ _ _ (by simp)]; refine wpList_stay ?_) | fail)
 unfold WpStay
 try simp only [Act.put]
 have rl7 : (w2.alloc (.cells xp 45)).heap[w2.heap.size]? = some (.cells xp 45 (0, 0)) := hp1_0 w2 _
 have hb : Below w2.heap.size w2 (w2.alloc (.cells xp 45)) := ((Below.refl _ _).alloc (Nat.le_refl _) _)
 generalize (w2.alloc (.cells xp 45)) = w3 at *
 have lt_g7_0 := lt_of_row rp0
 have sz_g7 := hw.size
 replace rp0 := keep hb rp0
 replace f4 := f4.below hb
 replace hB := hB.keep hb
 replace hC := hC.keep hb
 replace hw := Below.after hw hb
 clear hb
 generalize w2.heap.size = g7 at *
 clear w2
 clear rp0
 go_wp2_with (fail)
 refine (r_Order _).mono ?_
 rintro e_ w4 ⟨vo, rfl, hO, hb⟩
 replace rl7 := keep hb rl7
 replace f4 := f4.below hb
 replace hB := hB.keep hb
 replace hC := hC.keep hb
 replace hw := Below.after hw hb
 clear hb
 go_wp2_with (first | (refine wpList_load_want rfl 45 _ rfl (g7) rfl 45 xp (0, 0) _ rl7 Tryd.underlying45 rfl hp.info ?_) | fail)
 have rb : (w4.alloc (.cells #[.int .u8 8] 5)).heap[w4.heap.size]? = some (.cells (Wi.irow .u8 [8]) 5 (0, 0)) := hp1_0 w4 _
 have hb : Below w4.heap.size w4 (w4.alloc (.cells #[.int .u8 8] 5)) := (Below.refl _ _).alloc (Nat.le_refl _) _
 generalize (w4.alloc (.cells #[.int .u8 8] 5)) = w5 at *
 replace rl7 := keep hb rl7
 replace f4 := f4.below hb
 replace hB := hB.keep hb
 replace hC := hC.keep hb
 replace hO := hO.keep hb
 replace hw := Below.after hw hb
 clear hb
 generalize w4.heap.size = gb at *
 have hb8 := bysK_l (l := [8]) (n := 1) rb rfl (by decide) (by decide)
 clear rb
 refine (cS8 _ _ f4.four hb8.1).mono ?_
 rintro e_ w6 ⟨rfl, hb⟩
 clear hb8
 replace rl7 := keep hb rl7
 replace f4 := f4.below hb
 replace hB := hB.keep hb
 replace hC := hC.keep hb
 replace hO := hO.keep hb
 replace hw := Below.after hw hb
 clear hb
 go_wp2_with (first | (refine wpList_store_row rfl 45 _ _ rfl (w6.heap.size) x8 rfl rfl 45 pz (hp1_0 w6 _) h8.info (pt_zero.size.trans h8.size.symm) h8.one ?_; rw [setRow_alloc_new _ _ _ _ _ _ (by simp)]; refine wpList_stay ?_) | fail)
 unfold WpStay
 try simp only [Act.put]
 have rl10 : (w6.alloc (.cells x8 45)).heap[w6.heap.size]? = some (.cells x8 45 (0, 0)) := hp1_0 w6 _
 have hb : Below w6.heap.size w6 (w6.alloc (.cells x8 45)) := ((Below.refl _ _).alloc (Nat.le_refl _) _)
 generalize (w6.alloc (.cells x8 45)) = w7 at *
 have lt_g10_0 := lt_of_row rl7
 have sz_g10 := hw.size
 replace rl7 := keep hb rl7
 replace f4 := f4.below hb
 replace hB := hB.keep hb
 replace hC := hC.keep hb
 replace hO := hO.keep hb
 replace hw := Below.after hw hb
 clear hb
 generalize w6.heap.size = g10 at *
 clear w6
 go_wp2_with (first | (refine wpList_load_want rfl 45 _ rfl (g7) rfl 45 xp (0, 0) _ rl7 Tryd.underlying45 rfl hp.info ?_) | (refine wpList_load_want rfl 45 _ rfl (g10) rfl 45 x8 (0, 0) _ rl10 Tryd.underlying45 rfl h8.info ?_) | fail)
 refine (cB.at f4.1).mono ?_
 rintro e_ w8 ⟨rfl, hb⟩
 replace rl7 := keep hb rl7
 replace rl10 := keep hb rl10
 replace f4 := f4.below hb
 replace hB := hB.keep hb
 replace hC := hC.keep hb
 replace hO := hO.keep hb
 replace hw := Below.after hw hb
 clear hb
 go_wp2_with (first | (refine wpList_load_want rfl 45 _ rfl (g7) rfl 45 xp (0, 0) _ rl7 Tryd.underlying45 rfl hp.info ?_) | (refine wpList_load_want rfl 45 _ rfl (g10) rfl 45 x8 (0, 0) _ rl10 Tryd.underlying45 rfl h8.info ?_) | fail)
 refine (cSo _ _ f4.four hO.1).mono ?_
 rintro e_ w9 ⟨rfl, hb⟩
 replace rl7 := keep hb rl7
 replace rl10 := keep hb rl10
 replace f4 := f4.below hb
 replace hB := hB.keep hb
 replace hC := hC.keep hb
 replace hO := hO.keep hb
 replace hw := Below.after hw hb
 clear hb
 go_wp2_with (first | (refine wpList_load_want rfl 45 _ rfl (g7) rfl 45 xp (0, 0) _ rl7 Tryd.underlying45 rfl hp.info ?_) | (refine wpList_load_want rfl 45 _ rfl (g10) rfl 45 x8 (0, 0) _ rl10 Tryd.underlying45 rfl h8.info ?_) | fail)
 refine (cN1.at _).mono ?_
 rintro e_ w10 ⟨rfl, hb⟩
 replace rl7 := keep hb rl7
 replace rl10 := keep hb rl10
 replace f4 := f4.below hb
 replace hB := hB.keep hb
 replace hC := hC.keep hb
 replace hO := hO.keep hb
 replace hw := Below.after hw hb
 clear hb
 go_wp2_with (first | (refine wpList_load_want rfl 45 _ rfl (g7) rfl 45 xp (0, 0) _ rl7 Tryd.underlying45 rfl hp.info ?_) | (refine wpList_load_want rfl 45 _ rfl (g10) rfl 45 x8 (0, 0) _ rl10 Tryd.underlying45 rfl h8.info ?_) | fail)
 refine (cS8o _ _ f4.four hO.1).mono ?_
 rintro e_ w11 ⟨rfl, hb⟩
 replace rl7 := keep hb rl7
 replace rl10 := keep hb rl10
 replace f4 := f4.below hb
 replace hB := hB.keep hb
 replace hC := hC.keep hb
 replace hO := hO.keep hb
 replace hw := Below.after hw hb
 clear hb
 go_wp2_with (first | (refine wpList_load_want rfl 45 _ rfl (g7) rfl 45 xp (0, 0) _ rl7 Tryd.underlying45 rfl hp.info ?_) | (refine wpList_load_want rfl 45 _ rfl (g10) rfl 45 x8 (0, 0) _ rl10 Tryd.underlying45 rfl h8.info ?_) | fail)
 refine (cN2.at _).mono ?_
 rintro e_ w12 ⟨rfl, hb⟩
 replace rl7 := keep hb rl7
 replace rl10 := keep hb rl10
 replace f4 := f4.below hb
 replace hB := hB.keep hb
 replace hC := hC.keep hb
 replace hO := hO.keep hb
 replace hw := Below.after hw hb
 clear hb
 clear hO
 go_wp2_with (fail)
 refine (cRk _ f4.2 hB.1).mono ?_
 rintro e_ w13 ⟨rfl, hb⟩
 replace rl7 := keep hb rl7
 replace rl10 := keep hb rl10
 replace f4 := f4.below hb
 replace hB := hB.keep hb
 replace hC := hC.keep hb
 replace hw := Below.after hw hb
 clear hb
 go_wp2_with (fail)
 refine (cRl _ f4.2 hC.1).mono ?_
 rintro e_ w14 ⟨rfl, hb⟩
 replace rl7 := keep hb rl7
 replace rl10 := keep hb rl10
 replace f4 := f4.below hb
 replace hB := hB.keep hb
 replace hC := hC.keep hb
 replace hw := Below.after hw hb
 clear hb
 go_wp2_with (first | (refine wpList_store_row rfl 54 _ _ rfl (w14.heap.size) xs rfl rfl 54 (wd 0) (hp2_0 w14 _ _) os.infoS ((wd_size _).trans os.1.symm) os.2 ?_; rw [setRow_alloc_old _ _ _ _ (by simp), setRow_alloc_new _ _ _ _ _ _ (by simp)]) | (refine wpList_store_row rfl 54 _ _ rfl (w14.heap.size + 1) xt rfl rfl 54 (wd 0) (hp2_1 w14 _ _) ot.infoS ((wd_size _).trans ot.1.symm) ot.2 ?_; rw [setRow_alloc_new _ _ _ _ _ _ (by simp)]; refine wpList_stay ?_) | fail)
 unfold WpStay
 try simp only [Act.put]
 have rl11 : ((w14.alloc (.cells xs 54)).alloc (.cells xt 54)).heap[w14.heap.size]? = some (.cells xs 54 (0, 0)) := hp2_0 w14 _ _
 have rl12 : ((w14.alloc (.cells xs 54)).alloc (.cells xt 54)).heap[w14.heap.size + 1]? = some (.cells xt 54 (0, 0)) := hp2_1 w14 _ _
 have hb : Below w14.heap.size w14 ((w14.alloc (.cells xs 54)).alloc (.cells xt 54)) := (((Below.refl _ _).alloc (Nat.le_refl _) _).alloc (by simp) _)
 generalize ((w14.alloc (.cells xs 54)).alloc (.cells xt 54)) = w15 at *
 have lt_g11_0 := lt_of_row rl7
 have lt_g11_1 := lt_of_row rl10
 have sz_g11 := hw.size
 replace rl7 := keep hb rl7
 replace rl10 := keep hb rl10
 replace f4 := f4.below hb
 replace hB := hB.keep hb
 replace hC := hC.keep hb
 replace hw := Below.after hw hb
 clear hb
 generalize w14.heap.size = g11 at *
 clear w14
 go_wp2_with (fail)
 have hb : Below w15.heap.size w15 w15.drew := below_drN (Below.refl _ _) 1
 replace rl7 := keep hb rl7
 replace rl10 := keep hb rl10
 replace rl11 := keep hb rl11
 replace rl12 := keep hb rl12
 replace f4 := f4.below hb
 replace hB := hB.keep hb
 replace hC := hC.keep hb
 replace hw := Below.after hw hb
 clear hb
 refine wp_region_noPanic ?_
 refine wp_region_held (S := fun W_ => W_.heap[g10]? = some (.cells x8 45 (0, 0)) ∧ W_.heap[g11]? = some (.cells xs 54 (0, 0)) ∧ W_.heap[g11 + 1]? = some (.cells xt 54 (0, 0))) (by kernel_rfl) ?_
 change wpAnyH _ _ _ _ _ _ _ _ (World.drew _)
 generalize w15.drew = wd1 at *
 refine wpAnyH_take (i := 0) (v := .agg x8) rfl (by kernel_rfl) (by kernel_rfl) (by kernel_rfl) (fun _ _ _ h => h) (Or.inl ⟨by rfl, ?y2⟩) (⟨rl10, rl11, rl12⟩) ?r2
 case y2 =>
  intro w_ hS_
  simp only [List.getElem_toArray, List.getElem_cons_zero]
  exact e_load_part 45 _ (by rfl) (g10) 0 (by rfl) 45 x8 (0, 0) x8 _ (hS_.1) (all_rowe _) Tryd.underlying45 rfl h8.info
 simp only [Act.put, ZPa, ZPc, ZPd, ZPe, ZPf]
 refine wpAnyH_take (i := 1) (v := .agg xs) rfl (by kernel_rfl) (by kernel_rfl) (by kernel_rfl) (fun _ _ _ h => h) (Or.inl ⟨by rfl, ?y3⟩) (⟨rl10, rl11, rl12⟩) ?r3
 case y3 =>
  intro w_ hS_
  simp only [List.getElem_toArray, List.getElem_cons_succ, List.getElem_cons_zero]
  exact e_load_part 54 _ (by rfl) (g11) 0 (by rfl) 54 xs (0, 0) xs _ (hS_.2.1) (all_rowe _) Tryd.underlying54 rfl os.infoS
 simp only [Act.put, ZPa, ZPb, ZPc, ZPd, ZPe, ZPf]
 refine wpAnyH_take (i := 2) (v := .agg xt) rfl (by kernel_rfl) (by kernel_rfl) (by kernel_rfl) (fun _ _ _ h => h) (Or.inl ⟨by rfl, ?y4⟩) (⟨rl10, rl11, rl12⟩) ?r4
 case y4 =>
  intro w_ hS_
  simp only [List.getElem_toArray, List.getElem_cons_succ, List.getElem_cons_zero]
  exact e_load_part 54 _ (by rfl) (g11 + 1) 0 (by rfl) 54 xt (0, 0) xt _ (hS_.2.2) (all_rowe _) Tryd.underlying54 rfl ot.infoS
 simp only [Act.put, ZPa, ZPb, ZPc, ZPd, ZPe, ZPf]
 refine wpAnyH_take (i := 5) (v := .agg x8) rfl (by kernel_rfl) (by kernel_rfl) (by kernel_rfl) (fun _ _ _ h => h) (Or.inl ⟨by rfl, ?y5⟩) (⟨rl10, rl11, rl12⟩) ?r5
 case y5 =>
  intro w_ hS_
  simp only [List.getElem_toArray, List.getElem_cons_succ, List.getElem_cons_zero]
  exact e_load_part 45 _ (by rfl) (g10) 0 (by rfl) 45 x8 (0, 0) x8 _ (hS_.1) (all_rowe _) Tryd.underlying45 rfl h8.info
 simp only [Act.put, ZPa, ZPb, ZPc, ZPd, ZPe, ZPf]
 refine wpAnyH_take (i := 6) (v := .agg xs) rfl (by kernel_rfl) (by kernel_rfl) (by kernel_rfl) (fun _ _ _ h => h) (Or.inl ⟨by rfl, ?y6⟩) (⟨rl10, rl11, rl12⟩) ?r6
 case y6 =>
  intro w_ hS_
  simp only [List.getElem_toArray, List.getElem_cons_succ, List.getElem_cons_zero]
  exact e_load_part 54 _ (by rfl) (g11) 0 (by rfl) 54 xs (0, 0) xs _ (hS_.2.1) (all_rowe _) Tryd.underlying54 rfl os.infoS
 simp only [Act.put, ZPa, ZPb, ZPc, ZPd, ZPe, ZPf]
 refine wpAnyH_take (i := 8) (v := .agg x8) rfl (by kernel_rfl) (by kernel_rfl) (by kernel_rfl) (fun _ _ _ h => h) (Or.inl ⟨by rfl, ?y7⟩) (⟨rl10, rl11, rl12⟩) ?r7
 case y7 =>
  intro w_ hS_
  simp only [List.getElem_toArray, List.getElem_cons_succ, List.getElem_cons_zero]
  exact e_load_part 45 _ (by rfl) (g10) 0 (by rfl) 45 x8 (0, 0) x8 _ (hS_.1) (all_rowe _) Tryd.underlying45 rfl h8.info
 simp only [Act.put, ZPa, ZPb, ZPc, ZPd, ZPe, ZPf]
 refine wpAnyH_take (i := 9) (v := .agg xt) rfl (by kernel_rfl) (by kernel_rfl) (by kernel_rfl) (fun _ _ _ h => h) (Or.inl ⟨by rfl, ?y8⟩) (⟨rl10, rl11, rl12⟩) ?r8
 case y8 =>
  intro w_ hS_
  simp only [List.getElem_toArray, List.getElem_cons_succ, List.getElem_cons_zero]
  exact e_load_part 54 _ (by rfl) (g11 + 1) 0 (by rfl) 54 xt (0, 0) xt _ (hS_.2.2) (all_rowe _) Tryd.underlying54 rfl ot.infoS
 simp only [Act.put, ZPa, ZPb, ZPc, ZPd, ZPe, ZPf]
 refine eH_one (k := 3) (fuel := 20) (by kernel_rfl) rfl (by kernel_rfl) (fun K_ hK_ => ?_)
 refine wp_call_ex (f := 38) (by kernel_rfl) (ex1e (c1.at f4.2)) (fun v_ wq9 hX_ => ?_)
 obtain ⟨rfl, hb⟩ := hX_
 replace rl7 := keep hb rl7
 replace rl10 := keep hb rl10
 replace rl11 := keep hb rl11
 replace rl12 := keep hb rl12
 replace f4 := f4.below hb
 replace hB := hB.keep hb
 replace hC := hC.keep hb
 replace hw := Below.after hw hb
 clear hb
 refine hK_ _ _ (⟨rl10, rl11, rl12⟩) ?_
 simp only [Act.put, ZPa, ZPb, ZPc, ZPd, ZPe, ZPf]
 clear hK_
 refine eH_one (k := 4) (fuel := 19) (by kernel_rfl) rfl (by kernel_rfl) (fun K_ hK_ => ?_)
 refine wp_call_ex (f := 24) (by kernel_rfl) (ex1e (c2.at f4.four)) (fun v_ wq10 hX_ => ?_)
 obtain ⟨rfl, hb⟩ := hX_
 replace rl7 := keep hb rl7
 replace rl10 := keep hb rl10
 replace rl11 := keep hb rl11
 replace rl12 := keep hb rl12
 replace f4 := f4.below hb
 replace hB := hB.keep hb
 replace hC := hC.keep hb
 replace hw := Below.after hw hb
 clear hb
 refine hK_ _ _ (⟨rl10, rl11, rl12⟩) ?_
 simp only [Act.put, ZPa, ZPb, ZPc, ZPd, ZPe, ZPf]
 clear hK_
 refine eH_one (k := 7) (fuel := 18) (by kernel_rfl) rfl (by kernel_rfl) (fun K_ hK_ => ?_)
 refine wp_call_ex (f := 24) (by kernel_rfl) (ex1e (c3.at f4.four)) (fun v_ wq11 hX_ => ?_)
 obtain ⟨rfl, hb⟩ := hX_
 replace rl7 := keep hb rl7
 replace rl10 := keep hb rl10
 replace rl11 := keep hb rl11
 replace rl12 := keep hb rl12
 replace f4 := f4.below hb
 replace hB := hB.keep hb
 replace hC := hC.keep hb
 replace hw := Below.after hw hb
 clear hb
 refine hK_ _ _ (⟨rl10, rl11, rl12⟩) ?_
 simp only [Act.put, ZPa, ZPb, ZPc, ZPd, ZPe, ZPf]
 clear hK_
 refine eH_one (k := 10) (fuel := 17) (by kernel_rfl) rfl (by kernel_rfl) (fun K_ hK_ => ?_)
 refine wp_call_ex (f := 24) (by kernel_rfl) (ex1e (c4.at f4.four)) (fun v_ wq12 hX_ => ?_)
 obtain ⟨rfl, hb⟩ := hX_
 replace rl7 := keep hb rl7
 replace rl10 := keep hb rl10
 replace rl11 := keep hb rl11
 replace rl12 := keep hb rl12
 replace f4 := f4.below hb
 replace hB := hB.keep hb
 replace hC := hC.keep hb
 replace hw := Below.after hw hb
 clear hb
 refine hK_ _ _ (⟨rl10, rl11, rl12⟩) ?_
 simp only [Act.put, ZPa, ZPb, ZPc, ZPd, ZPe, ZPf]
 clear hK_
 refine eH_one (k := 11) (fuel := 16) (by kernel_rfl) rfl (by kernel_rfl) (fun K_ hK_ => ?_)
 refine wp_call_ex (f := 26) (by kernel_rfl) (ex1e (c5.at f4.four)) (fun v_ wq13 hX_ => ?_)
 obtain ⟨rfl, hb⟩ := hX_
 replace rl7 := keep hb rl7
 replace rl10 := keep hb rl10
 replace rl11 := keep hb rl11
 replace rl12 := keep hb rl12
 replace f4 := f4.below hb
 replace hB := hB.keep hb
 replace hC := hC.keep hb
 replace hw := Below.after hw hb
 clear hb
 refine hK_ _ _ (⟨rl10, rl11, rl12⟩) ?_
 simp only [Act.put, ZPa, ZPb, ZPc, ZPd, ZPe, ZPf]
 clear hK_
 refine eH_one (k := 12) (fuel := 15) (by kernel_rfl) rfl (by kernel_rfl) (fun K_ hK_ => ?_)
 refine wp_call_ex (f := 57) (by kernel_rfl) (ex1e (c6.at _)) (fun v_ wq14 hX_ => ?_)
 obtain ⟨rfl, hb⟩ := hX_
 replace rl7 := keep hb rl7
 replace rl10 := keep hb rl10
 replace rl11 := keep hb rl11
 replace rl12 := keep hb rl12
 replace f4 := f4.below hb
 replace hB := hB.keep hb
 replace hC := hC.keep hb
 replace hw := Below.after hw hb
 clear hb
 refine hK_ _ _ (⟨rl10, rl11, rl12⟩) ?_
 simp only [Act.put, ZPa, ZPb, ZPc, ZPd, ZPe, ZPf]
 clear hK_
 refine wpAnyH_take (i := 13) (v := ?v15) rfl (by kernel_rfl) (by kernel_rfl) (by kernel_rfl) (fun _ _ _ h => h) (Or.inl ⟨by rfl, ?y15⟩) (⟨rl10, rl11, rl12⟩) ?r15
 case y15 =>
  intro w_ hS_
  go_simp
  try with_reducible rfl
 simp only [Act.put, ZPa, ZPb, ZPc, ZPd, ZPe, ZPf]
 refine wpAnyH_take (i := 14) (v := ?v16) rfl (by kernel_rfl) (by kernel_rfl) (by kernel_rfl) (fun _ _ _ h => h) (Or.inl ⟨by rfl, ?y16⟩) (⟨rl10, rl11, rl12⟩) ?r16
 case y16 =>
  intro w_ hS_
  go_simp
  try with_reducible rfl
 simp only [Act.put, ZPa, ZPb, ZPc, ZPd, ZPe, ZPf]
 refine wpAnyH_take (i := 15) (v := .agg x8) rfl (by kernel_rfl) (by kernel_rfl) (by kernel_rfl) (fun _ _ _ h => h) (Or.inl ⟨by rfl, ?y17⟩) (⟨rl10, rl11, rl12⟩) ?r17
 case y17 =>
  intro w_ hS_
  simp only [List.getElem_toArray, List.getElem_cons_succ, List.getElem_cons_zero]
  exact e_load_part 45 _ (by rfl) (g10) 0 (by rfl) 45 x8 (0, 0) x8 _ (hS_.1) (all_rowe _) Tryd.underlying45 rfl h8.info
 simp only [Act.put, ZPa, ZPb, ZPc, ZPd, ZPe, ZPf]
 refine wpAnyH_take (i := 16) (v := .agg xs) rfl (by kernel_rfl) (by kernel_rfl) (by kernel_rfl) (fun _ _ _ h => h) (Or.inl ⟨by rfl, ?y18⟩) (⟨rl10, rl11, rl12⟩) ?r18
 case y18 =>
  intro w_ hS_
  simp only [List.getElem_toArray, List.getElem_cons_succ, List.getElem_cons_zero]
  exact e_load_part 54 _ (by rfl) (g11) 0 (by rfl) 54 xs (0, 0) xs _ (hS_.2.1) (all_rowe _) Tryd.underlying54 rfl os.infoS
 simp only [Act.put, ZPa, ZPb, ZPc, ZPd, ZPe, ZPf]
 refine wpAnyH_take (i := 17) (v := .agg xt) rfl (by kernel_rfl) (by kernel_rfl) (by kernel_rfl) (fun _ _ _ h => h) (Or.inl ⟨by rfl, ?y19⟩) (⟨rl10, rl11, rl12⟩) ?r19
 case y19 =>
  intro w_ hS_
  simp only [List.getElem_toArray, List.getElem_cons_succ, List.getElem_cons_zero]
  exact e_load_part 54 _ (by rfl) (g11 + 1) 0 (by rfl) 54 xt (0, 0) xt _ (hS_.2.2) (all_rowe _) Tryd.underlying54 rfl ot.infoS
 simp only [Act.put, ZPa, ZPb, ZPc, ZPd, ZPe, ZPf]
 refine wpAnyH_take (i := 20) (v := .agg x8) rfl (by kernel_rfl) (by kernel_rfl) (by kernel_rfl) (fun _ _ _ h => h) (Or.inl ⟨by rfl, ?y20⟩) (⟨rl10, rl11, rl12⟩) ?r20
 case y20 =>
  intro w_ hS_
  simp only [List.getElem_toArray, List.getElem_cons_succ, List.getElem_cons_zero]
  exact e_load_part 45 _ (by rfl) (g10) 0 (by rfl) 45 x8 (0, 0) x8 _ (hS_.1) (all_rowe _) Tryd.underlying45 rfl h8.info
 simp only [Act.put, ZPa, ZPb, ZPc, ZPd, ZPe, ZPf]
 refine wpAnyH_take (i := 21) (v := .agg xt) rfl (by kernel_rfl) (by kernel_rfl) (by kernel_rfl) (fun _ _ _ h => h) (Or.inl ⟨by rfl, ?y21⟩) (⟨rl10, rl11, rl12⟩) ?r21
 case y21 =>
  intro w_ hS_
  simp only [List.getElem_toArray, List.getElem_cons_succ, List.getElem_cons_zero]
  exact e_load_part 54 _ (by rfl) (g11 + 1) 0 (by rfl) 54 xt (0, 0) xt _ (hS_.2.2) (all_rowe _) Tryd.underlying54 rfl ot.infoS
 simp only [Act.put, ZPa, ZPb, ZPc, ZPd, ZPe, ZPf]
 refine wpAnyH_take (i := 23) (v := .agg xs) rfl (by kernel_rfl) (by kernel_rfl) (by kernel_rfl) (fun _ _ _ h => h) (Or.inl ⟨by rfl, ?y22⟩) (⟨rl10, rl11, rl12⟩) ?r22
 case y22 =>
  intro w_ hS_
  simp only [List.getElem_toArray, List.getElem_cons_succ, List.getElem_cons_zero]
  exact e_load_part 54 _ (by rfl) (g11) 0 (by rfl) 54 xs (0, 0) xs _ (hS_.2.1) (all_rowe _) Tryd.underlying54 rfl os.infoS
 simp only [Act.put, ZPa, ZPb, ZPc, ZPd, ZPe, ZPf]
 refine eH_one (k := 18) (fuel := 6) (by kernel_rfl) rfl (by kernel_rfl) (fun K_ hK_ => ?_)
 refine wp_call_ex (f := 42) (by kernel_rfl) (ex1e (c7.at f4.2)) (fun v_ wq23 hX_ => ?_)
 obtain ⟨rfl, hb⟩ := hX_
 replace rl7 := keep hb rl7
 replace rl10 := keep hb rl10
 replace rl11 := keep hb rl11
 replace rl12 := keep hb rl12
 replace f4 := f4.below hb
 replace hB := hB.keep hb
 replace hC := hC.keep hb
 replace hw := Below.after hw hb
 clear hb
 refine hK_ _ _ (⟨rl10, rl11, rl12⟩) ?_
 simp only [Act.put, ZPa, ZPb, ZPc, ZPd, ZPe, ZPf]
 clear hK_
 refine eH_one (k := 19) (fuel := 5) (by kernel_rfl) rfl (by kernel_rfl) (fun K_ hK_ => ?_)
 refine wp_call_ex (f := 24) (by kernel_rfl) (ex1e (c8.at f4.four)) (fun v_ wq24 hX_ => ?_)
 obtain ⟨rfl, hb⟩ := hX_
 replace rl7 := keep hb rl7
 replace rl10 := keep hb rl10
 replace rl11 := keep hb rl11
 replace rl12 := keep hb rl12
 replace f4 := f4.below hb
 replace hB := hB.keep hb
 replace hC := hC.keep hb
 replace hw := Below.after hw hb
 clear hb
 refine hK_ _ _ (⟨rl10, rl11, rl12⟩) ?_
 simp only [Act.put, ZPa, ZPb, ZPc, ZPd, ZPe, ZPf]
 clear hK_
 refine eH_one (k := 22) (fuel := 4) (by kernel_rfl) rfl (by kernel_rfl) (fun K_ hK_ => ?_)
 refine wp_call_ex (f := 24) (by kernel_rfl) (ex1e (c4.at f4.four)) (fun v_ wq25 hX_ => ?_)
 obtain ⟨rfl, hb⟩ := hX_
 replace rl7 := keep hb rl7
 replace rl10 := keep hb rl10
 replace rl11 := keep hb rl11
 replace rl12 := keep hb rl12
 replace f4 := f4.below hb
 replace hB := hB.keep hb
 replace hC := hC.keep hb
 replace hw := Below.after hw hb
 clear hb
 refine hK_ _ _ (⟨rl10, rl11, rl12⟩) ?_
 simp only [Act.put, ZPa, ZPb, ZPc, ZPd, ZPe, ZPf]
 clear hK_
 refine eH_one (k := 24) (fuel := 3) (by kernel_rfl) rfl (by kernel_rfl) (fun K_ hK_ => ?_)
 refine wp_call_ex (f := 24) (by kernel_rfl) (ex1e (c9.at f4.four)) (fun v_ wq26 hX_ => ?_)
 obtain ⟨rfl, hb⟩ := hX_
 replace rl7 := keep hb rl7
 replace rl10 := keep hb rl10
 replace rl11 := keep hb rl11
 replace rl12 := keep hb rl12
 replace f4 := f4.below hb
 replace hB := hB.keep hb
 replace hC := hC.keep hb
 replace hw := Below.after hw hb
 clear hb
 refine hK_ _ _ (⟨rl10, rl11, rl12⟩) ?_
 simp only [Act.put, ZPa, ZPb, ZPc, ZPd, ZPe, ZPf]
 clear hK_
 refine eH_one (k := 25) (fuel := 2) (by kernel_rfl) rfl (by kernel_rfl) (fun K_ hK_ => ?_)
 refine wp_call_ex (f := 57) (by kernel_rfl) (ex1e (c10.at _)) (fun v_ wq27 hX_ => ?_)
 obtain ⟨rfl, hb⟩ := hX_
 replace rl7 := keep hb rl7
 replace rl10 := keep hb rl10
 replace rl11 := keep hb rl11
 replace rl12 := keep hb rl12
 replace f4 := f4.below hb
 replace hB := hB.keep hb
 replace hC := hC.keep hb
 replace hw := Below.after hw hb
 clear hb
 refine hK_ _ _ (⟨rl10, rl11, rl12⟩) ?_
 simp only [Act.put, ZPa, ZPb, ZPc, ZPd, ZPe, ZPf]
 clear hK_
 refine wpAnyH_take (i := 26) (v := ?v28) rfl (by kernel_rfl) (by kernel_rfl) (by kernel_rfl) (fun _ _ _ h => h) (Or.inl ⟨by rfl, ?y28⟩) (⟨rl10, rl11, rl12⟩) ?r28
 case y28 =>
  intro w_ hS_
  go_simp
  try with_reducible rfl
 simp only [Act.put, ZPa, ZPb, ZPc, ZPd, ZPe, ZPf]
 refine wpAnyH_take (i := 27) (v := ?v29) rfl (by kernel_rfl) (by kernel_rfl) (by kernel_rfl) (fun _ _ _ h => h) (Or.inl ⟨by rfl, ?y29⟩) (⟨rl10, rl11, rl12⟩) ?r29
 case y29 =>
  intro w_ hS_
  go_simp
  try with_reducible rfl
 simp only [Act.put, ZPa, ZPb, ZPc, ZPd, ZPe, ZPf]
 refine wpAnyH_done (by kernel_rfl) ?_ _
 refine NoPanic.normal ?_
 go_wp2_with (fail)
 clear hC
 go_cut [89] from 90 to 112 (fun u_ wx => u_ = .bool false ∧ wx.heap[g7]? = some (.cells xp 45 (0, 0)) ∧ wx.heap[g10]? = some (.cells x8 45 (0, 0)) ∧ wx.heap[g11]? = some (.cells xs 54 (0, 0)) ∧ wx.heap[g11 + 1]? = some (.cells xt 54 (0, 0)) ∧ Sgn wx ∧ BysK wx (.slice ao lb cap) k ∧ Below w.heap.size w wx)
 case first =>
  have hb : Below wq27.heap.size wq27 wq27.drew := below_drN (Below.refl _ _) 1
  replace rl7 := keep hb rl7
  replace rl10 := keep hb rl10
  replace rl11 := keep hb rl11
  replace rl12 := keep hb rl12
  replace f4 := f4.below hb
  replace hB := hB.keep hb
  replace hw := Below.after hw hb
  clear hb
  refine wp_region_noPanic ?_
  refine wp_region_held (S := fun W_ => W_.heap[g10]? = some (.cells x8 45 (0, 0)) ∧ W_.heap[g7]? = some (.cells xp 45 (0, 0)) ∧ W_.heap[g11]? = some (.cells xs 54 (0, 0))) (by kernel_rfl) ?_
  change wpAnyH _ _ _ _ _ _ _ _ (World.drew _)
  generalize wq27.drew = wd30 at *
  refine wpAnyH_take (i := 0) (v := .agg x8) rfl (by kernel_rfl) (by kernel_rfl) (by kernel_rfl) (fun _ _ _ h => h) (Or.inl ⟨by rfl, ?y31⟩) (⟨rl10, rl7, rl11⟩) ?r31
  case y31 =>
   intro w_ hS_
   simp only [List.getElem_toArray, List.getElem_cons_zero]
   exact e_load_part 45 _ (by rfl) (g10) 0 (by rfl) 45 x8 (0, 0) x8 _ (hS_.1) (all_rowe _) Tryd.underlying45 rfl h8.info
  simp only [Act.put, ZPa, ZPc, ZPd, ZPe, ZPf]
  refine wpAnyH_take (i := 1) (v := ?v32) rfl (by kernel_rfl) (by kernel_rfl) (by kernel_rfl) (fun _ _ _ h => h) (Or.inl ⟨by rfl, ?y32⟩) (⟨rl10, rl7, rl11⟩) ?r32
  case y32 =>
   intro w_ hS_
   go_simp
   try with_reducible rfl
  simp only [Act.put, ZPa, ZPb, ZPc, ZPd, ZPe, ZPf]
  refine wpAnyH_take (i := 3) (v := .agg x8) rfl (by kernel_rfl) (by kernel_rfl) (by kernel_rfl) (fun _ _ _ h => h) (Or.inl ⟨by rfl, ?y33⟩) (⟨rl10, rl7, rl11⟩) ?r33
  case y33 =>
   intro w_ hS_
   simp only [List.getElem_toArray, List.getElem_cons_succ, List.getElem_cons_zero]
   exact e_load_part 45 _ (by rfl) (g10) 0 (by rfl) 45 x8 (0, 0) x8 _ (hS_.1) (all_rowe _) Tryd.underlying45 rfl h8.info
  simp only [Act.put, ZPa, ZPb, ZPc, ZPd, ZPe, ZPf]
  refine wpAnyH_take (i := 4) (v := .agg xs) rfl (by kernel_rfl) (by kernel_rfl) (by kernel_rfl) (fun _ _ _ h => h) (Or.inl ⟨by rfl, ?y34⟩) (⟨rl10, rl7, rl11⟩) ?r34
  case y34 =>
   intro w_ hS_
   simp only [List.getElem_toArray, List.getElem_cons_succ, List.getElem_cons_zero]
   exact e_load_part 54 _ (by rfl) (g11) 0 (by rfl) 54 xs (0, 0) xs _ (hS_.2.2) (all_rowe _) Tryd.underlying54 rfl os.infoS
  simp only [Act.put, ZPa, ZPb, ZPc, ZPd, ZPe, ZPf]
  refine eH_one (k := 2) (fuel := 17) (by kernel_rfl) rfl (by kernel_rfl) (fun K_ hK_ => ?_)
  refine wp_call_ex (f := 20) (by kernel_rfl) (ex1e (c11 _ _ f4.four hB.1)) (fun v_ wq35 hX_ => ?_)
  obtain ⟨rfl, hb⟩ := hX_
  replace rl7 := keep hb rl7
  replace rl10 := keep hb rl10
  replace rl11 := keep hb rl11
  replace rl12 := keep hb rl12
  replace f4 := f4.below hb
  replace hB := hB.keep hb
  replace hw := Below.after hw hb
  clear hb
  refine hK_ _ _ (⟨rl10, rl7, rl11⟩) ?_
  simp only [Act.put, ZPa, ZPb, ZPc, ZPd, ZPe, ZPf]
  clear hK_
  refine eH_one (k := 5) (fuel := 16) (by kernel_rfl) rfl (by kernel_rfl) (fun K_ hK_ => ?_)
  refine wp_call_ex (f := 24) (by kernel_rfl) (ex1e (c3.at f4.four)) (fun v_ wq36 hX_ => ?_)
  obtain ⟨rfl, hb⟩ := hX_
  replace rl7 := keep hb rl7
  replace rl10 := keep hb rl10
  replace rl11 := keep hb rl11
  replace rl12 := keep hb rl12
  replace f4 := f4.below hb
  replace hB := hB.keep hb
  replace hw := Below.after hw hb
  clear hb
  refine hK_ _ _ (⟨rl10, rl7, rl11⟩) ?_
  simp only [Act.put, ZPa, ZPb, ZPc, ZPd, ZPe, ZPf]
  clear hK_
  refine eH_one (k := 6) (fuel := 15) (by kernel_rfl) rfl (by kernel_rfl) (fun K_ hK_ => ?_)
  refine wp_call_ex (f := 57) (by kernel_rfl) (ex1e (c12.at _)) (fun v_ wq37 hX_ => ?_)
  obtain ⟨rfl, hb⟩ := hX_
  replace rl7 := keep hb rl7
  replace rl10 := keep hb rl10
  replace rl11 := keep hb rl11
  replace rl12 := keep hb rl12
  replace f4 := f4.below hb
  replace hB := hB.keep hb
  replace hw := Below.after hw hb
  clear hb
  refine hK_ _ _ (⟨rl10, rl7, rl11⟩) ?_
  simp only [Act.put, ZPa, ZPb, ZPc, ZPd, ZPe, ZPf]
  clear hK_
  refine wpAnyH_take (i := 7) (v := ?v38) rfl (by kernel_rfl) (by kernel_rfl) (by kernel_rfl) (fun _ _ _ h => h) (Or.inl ⟨by rfl, ?y38⟩) (⟨rl10, rl7, rl11⟩) ?r38
  case y38 =>
   intro w_ hS_
   go_simp
   try with_reducible rfl
  simp only [Act.put, ZPa, ZPb, ZPc, ZPd, ZPe, ZPf]
  refine wpAnyH_take (i := 8) (v := ?v39) rfl (by kernel_rfl) (by kernel_rfl) (by kernel_rfl) (fun _ _ _ h => h) (Or.inl ⟨by rfl, ?y39⟩) (⟨rl10, rl7, rl11⟩) ?r39
  case y39 =>
   intro w_ hS_
   go_simp
   try with_reducible rfl
  simp only [Act.put, ZPa, ZPb, ZPc, ZPd, ZPe, ZPf]
  refine wpAnyH_take (i := 9) (v := .agg xp) rfl (by kernel_rfl) (by kernel_rfl) (by kernel_rfl) (fun _ _ _ h => h) (Or.inl ⟨by rfl, ?y40⟩) (⟨rl10, rl7, rl11⟩) ?r40
  case y40 =>
   intro w_ hS_
   simp only [List.getElem_toArray, List.getElem_cons_succ, List.getElem_cons_zero]
   exact e_load_part 45 _ (by rfl) (g7) 0 (by rfl) 45 xp (0, 0) xp _ (hS_.2.1) (all_rowe _) Tryd.underlying45 rfl hp.info
  simp only [Act.put, ZPa, ZPb, ZPc, ZPd, ZPe, ZPf]
  refine wpAnyH_take (i := 11) (v := ?v41) rfl (by kernel_rfl) (by kernel_rfl) (by kernel_rfl) (fun _ _ _ h => h) (Or.inl ⟨by rfl, ?y41⟩) (⟨rl10, rl7, rl11⟩) ?r41
  case y41 =>
   intro w_ hS_
   go_simp
   try with_reducible rfl
  simp only [Act.put, ZPa, ZPb, ZPc, ZPd, ZPe, ZPf]
  refine wpAnyH_take (i := 16) (v := .agg xp) rfl (by kernel_rfl) (by kernel_rfl) (by kernel_rfl) (fun _ _ _ h => h) (Or.inl ⟨by rfl, ?y42⟩) (⟨rl10, rl7, rl11⟩) ?r42
  case y42 =>
   intro w_ hS_
   simp only [List.getElem_toArray, List.getElem_cons_succ, List.getElem_cons_zero]
   exact e_load_part 45 _ (by rfl) (g7) 0 (by rfl) 45 xp (0, 0) xp _ (hS_.2.1) (all_rowe _) Tryd.underlying45 rfl hp.info
  simp only [Act.put, ZPa, ZPb, ZPc, ZPd, ZPe, ZPf]
  refine wpAnyH_take (i := 17) (v := ?v43) rfl (by kernel_rfl) (by kernel_rfl) (by kernel_rfl) (fun _ _ _ h => h) (Or.inl ⟨by rfl, ?y43⟩) (⟨rl10, rl7, rl11⟩) ?r43
  case y43 =>
   intro w_ hS_
   go_simp
   try with_reducible rfl
  simp only [Act.put, ZPa, ZPb, ZPc, ZPd, ZPe, ZPf]
  refine eH_two (j := 10) (k := 13) (fuel := 8) (by kernel_rfl) rfl rfl (by kernel_rfl) (by kernel_rfl) (fun K_ hK_ => ?_) (fun K_ hK_ => ?_)
  ·skip
   refine e_world_op (.slice (some ⟨wq37.heap.size, 0, none⟩) 0 0) (wq37.alloc (.cells #[] 5)) (by kernel_rfl) ?_
   have hb : Below wq37.heap.size wq37 (wq37.alloc (.cells #[] 5)) := (Below.refl _ _).alloc (Nat.le_refl _) _
   have hO := own_lit wq37 [] 0 rfl (by decide)
   have hbs := hb.size
   have hbl : wq37.heap.size < (wq37.alloc (.cells #[] 5)).heap.size := by simp
   have hnB := hw.size
   have lt_B44_0 := lt_of_row rl7
   have lt_B44_1 := lt_of_row rl10
   have lt_B44_2 := lt_of_row rl11
   have lt_B44_3 := lt_of_row rl12
   have sz_B44 := hw.size
   change (wq37.alloc (.cells #[] 5)).ownsRow _ _ _ _ _ _ at hO
   replace rl7 := keep hb rl7
   replace rl10 := keep hb rl10
   replace rl11 := keep hb rl11
   replace rl12 := keep hb rl12
   replace f4 := f4.below hb
   replace hB := hB.keep hb
   replace hw := Below.after hw hb
   clear hb
   refine hK_ _ _ (⟨rl10, rl7, rl11⟩) ?_
   simp only [Act.put, ZPa, ZPb, ZPc, ZPd, ZPe, ZPf]
   clear hK_
   generalize (wq37.alloc (.cells #[] 5)) = wq44 at *
   generalize wq37.heap.size = gB44 at *
   refine eH_two (j := 12) (k := 13) (fuel := 7) (by kernel_rfl) rfl rfl (by kernel_rfl) (by kernel_rfl) (fun K_ hK_ => ?_) (fun K_ hK_ => ?_)
   ·skip
    refine wp_append_C _ _ rfl gB44 (.slice (some ⟨gB44, 0, none⟩) 0 0) ([]) rfl hO ao lb cap (k) rfl hB.1 hnone (by simp <;> omega) hbs (fun v45 wq45 hO_ hQ_ hs_ hk_ hT_ => ?_)
    replace hw := hQ_ _ _ hw hnB
    replace hO := hO_
    replace hbs := hs_
    clear hO_ hQ_ hs_
    clear hbl
    replace rl7 := hT_ _ _ _ _ (by decide) rl7
    replace rl10 := hT_ _ _ _ _ (by decide) rl10
    replace rl11 := hT_ _ _ _ _ (by decide) rl11
    replace rl12 := hT_ _ _ _ _ (by decide) rl12
    replace f4 := hS.below hw
    replace hB := hB0.keep hw
    clear hT_ hk_
    refine hK_ _ _ (⟨rl10, rl7, rl11⟩) ?_
    simp only [Act.put, ZPa, ZPb, ZPc, ZPd, ZPe, ZPf]
    clear hK_
    refine eH_one (k := 13) (fuel := 6) (by kernel_rfl) rfl (by kernel_rfl) (fun K_ hK_ => ?_)
    refine e_world_op (.slice (some ⟨wq45.heap.size, 0, none⟩) 1 1) (wq45.alloc (.cells #[.int .u8 0] 5)) (by kernel_rfl) ?_
    have hb : Below wq45.heap.size wq45 (wq45.alloc (.cells #[.int .u8 0] 5)) := (Below.refl _ _).alloc (Nat.le_refl _) _
    have rg46 : (wq45.alloc (.cells #[.int .u8 0] 5)).heap[wq45.heap.size]? = some (.cells (Wi.irow .u8 [0]) 5 (0, 0)) := hp1_0 wq45 _
    have lt_g46_0 := lt_of_row rl7
    have lt_g46_1 := lt_of_row rl10
    have lt_g46_2 := lt_of_row rl11
    have lt_g46_3 := lt_of_row rl12
    have sz_g46 := hw.size
    replace rl7 := keep hb rl7
    replace rl10 := keep hb rl10
    replace rl11 := keep hb rl11
    replace rl12 := keep hb rl12
    replace f4 := f4.below hb
    replace hB := hB.keep hb
    replace hO := Wi.own_keep hO hb
    replace hbs := Nat.le_trans hbs hb.size
    replace hw := Below.after hw hb
    clear hb
    refine hK_ _ _ (⟨rl10, rl7, rl11⟩) ?_
    simp only [Act.put, ZPa, ZPb, ZPc, ZPd, ZPe, ZPf]
    clear hK_
    generalize (wq45.alloc (.cells #[.int .u8 0] 5)) = wq46 at *
    generalize wq45.heap.size = g46 at *
    refine eH_one (k := 14) (fuel := 5) (by kernel_rfl) rfl (by kernel_rfl) (fun K_ hK_ => ?_)
    refine wp_append_C _ _ rfl gB44 v45 ([] ++ k) rfl hO (some ⟨g46, 0, none⟩) 1 1 ([0]) rfl (bysK_l (l := [0]) (n := 1) rg46 rfl (by decide) (by decide)).1 (fun e => by cases e) (by simp <;> omega) hbs (fun v47 wq47 hO_ hQ_ hs_ hk_ hT_ => ?_)
    replace hw := hQ_ _ _ hw hnB
    replace hO := hO_
    replace hbs := hs_
    clear hO_ hQ_ hs_
    replace rl7 := hT_ _ _ _ _ (by decide) rl7
    replace rl10 := hT_ _ _ _ _ (by decide) rl10
    replace rl11 := hT_ _ _ _ _ (by decide) rl11
    replace rl12 := hT_ _ _ _ _ (by decide) rl12
    clear rg46
    replace f4 := hS.below hw
    replace hB := hB0.keep hw
    clear hT_ hk_
    refine hK_ _ _ (⟨rl10, rl7, rl11⟩) ?_
    simp only [Act.put, ZPa, ZPb, ZPc, ZPd, ZPe, ZPf]
    clear hK_
    refine eH_one (k := 15) (fuel := 4) (by kernel_rfl) rfl (by kernel_rfl) (fun K_ hK_ => ?_)
    have hbO := (bysK_own hO (by simp <;> omega) hzk0).1
    clear hO hbs
    refine wp_call_ex (f := 20) (by kernel_rfl) (ex1e (c13 _ _ f4.four hbO)) (fun v_ wq48 hX_ => ?_)
    obtain ⟨rfl, hb⟩ := hX_
    replace rl7 := keep hb rl7
    replace rl10 := keep hb rl10
    replace rl11 := keep hb rl11
    replace rl12 := keep hb rl12
    replace f4 := f4.below hb
    replace hB := hB.keep hb
    replace hw := Below.after hw hb
    clear hb
    refine hK_ _ _ (⟨rl10, rl7, rl11⟩) ?_
    simp only [Act.put, ZPa, ZPb, ZPc, ZPd, ZPe, ZPf]
    clear hK_
    refine eH_one (k := 18) (fuel := 3) (by kernel_rfl) rfl (by kernel_rfl) (fun K_ hK_ => ?_)
    refine wp_call_ex (f := 20) (by kernel_rfl) (ex1e (c14 _ _ f4.four hB.1)) (fun v_ wq49 hX_ => ?_)
    obtain ⟨rfl, hb⟩ := hX_
    replace rl7 := keep hb rl7
    replace rl10 := keep hb rl10
    replace rl11 := keep hb rl11
    replace rl12 := keep hb rl12
    replace f4 := f4.below hb
    replace hB := hB.keep hb
    replace hw := Below.after hw hb
    clear hb
    refine hK_ _ _ (⟨rl10, rl7, rl11⟩) ?_
    simp only [Act.put, ZPa, ZPb, ZPc, ZPd, ZPe, ZPf]
    clear hK_
    refine eH_one (k := 19) (fuel := 2) (by kernel_rfl) rfl (by kernel_rfl) (fun K_ hK_ => ?_)
    refine wp_call_ex (f := 57) (by kernel_rfl) (ex1e (c15.at _)) (fun v_ wq50 hX_ => ?_)
    obtain ⟨rfl, hb⟩ := hX_
    replace rl7 := keep hb rl7
    replace rl10 := keep hb rl10
    replace rl11 := keep hb rl11
    replace rl12 := keep hb rl12
    replace f4 := f4.below hb
    replace hB := hB.keep hb
    replace hw := Below.after hw hb
    clear hb
    refine hK_ _ _ (⟨rl10, rl7, rl11⟩) ?_
    simp only [Act.put, ZPa, ZPb, ZPc, ZPd, ZPe, ZPf]
    clear hK_
    refine wpAnyH_take (i := 20) (v := ?v51) rfl (by kernel_rfl) (by kernel_rfl) (by kernel_rfl) (fun _ _ _ h => h) (Or.inl ⟨by rfl, ?y51⟩) (⟨rl10, rl7, rl11⟩) ?r51
    case y51 =>
     intro w_ hS_
     go_simp
     try with_reducible rfl
    simp only [Act.put, ZPa, ZPb, ZPc, ZPd, ZPe, ZPf]
    refine wpAnyH_take (i := 21) (v := ?v52) rfl (by kernel_rfl) (by kernel_rfl) (by kernel_rfl) (fun _ _ _ h => h) (Or.inl ⟨by rfl, ?y52⟩) (⟨rl10, rl7, rl11⟩) ?r52
    case y52 =>
     intro w_ hS_
     go_simp
     try with_reducible rfl
    simp only [Act.put, ZPa, ZPb, ZPc, ZPd, ZPe, ZPf]
    refine wpAnyH_done (by kernel_rfl) ?_ _
    refine NoPanic.normal ?_
    go_wp2_with (fail)
    go_meet
    case rel => exact ⟨rfl, rl7, rl10, rl11, rl12, f4, hB, hw⟩
   ·skip
    refine e_world_op (.slice (some ⟨wq44.heap.size, 0, none⟩) 1 1) (wq44.alloc (.cells #[.int .u8 0] 5)) (by kernel_rfl) ?_
    have hb : Below wq44.heap.size wq44 (wq44.alloc (.cells #[.int .u8 0] 5)) := (Below.refl _ _).alloc (Nat.le_refl _) _
    have rg53 : (wq44.alloc (.cells #[.int .u8 0] 5)).heap[wq44.heap.size]? = some (.cells (Wi.irow .u8 [0]) 5 (0, 0)) := hp1_0 wq44 _
    have lt_g53_0 := lt_of_row rl7
    have lt_g53_1 := lt_of_row rl10
    have lt_g53_2 := lt_of_row rl11
    have lt_g53_3 := lt_of_row rl12
    have sz_g53 := hw.size
    have ltBg53 := hbl
    replace rl7 := keep hb rl7
    replace rl10 := keep hb rl10
    replace rl11 := keep hb rl11
    replace rl12 := keep hb rl12
    replace f4 := f4.below hb
    replace hB := hB.keep hb
    replace hO := Wi.own_keep hO hb
    replace hbs := Nat.le_trans hbs hb.size
    replace hbl := Nat.lt_of_lt_of_le hbl hb.size
    replace hw := Below.after hw hb
    clear hb
    refine hK_ _ _ (⟨rl10, rl7, rl11⟩) ?_
    simp only [Act.put, ZPa, ZPb, ZPc, ZPd, ZPe, ZPf]
    clear hK_
    generalize (wq44.alloc (.cells #[.int .u8 0] 5)) = wq53 at *
    generalize wq44.heap.size = g53 at *
    refine eH_one (k := 12) (fuel := 6) (by kernel_rfl) rfl (by kernel_rfl) (fun K_ hK_ => ?_)
    refine wp_append_C _ _ rfl gB44 (.slice (some ⟨gB44, 0, none⟩) 0 0) ([]) rfl hO ao lb cap (k) rfl hB.1 hnone (by simp <;> omega) hbs (fun v54 wq54 hO_ hQ_ hs_ hk_ hT_ => ?_)
    replace hw := hQ_ _ _ hw hnB
    replace hO := hO_
    replace hbs := hs_
    clear hO_ hQ_ hs_
    clear hbl
    replace rl7 := hT_ _ _ _ _ (by decide) rl7
    replace rl10 := hT_ _ _ _ _ (by decide) rl10
    replace rl11 := hT_ _ _ _ _ (by decide) rl11
    replace rl12 := hT_ _ _ _ _ (by decide) rl12
    replace rg53 := (hk_ (g53) (by simp [Value.ownBlock]; omega) (lt_of_row rg53)).trans rg53
    replace f4 := hS.below hw
    replace hB := hB0.keep hw
    clear hT_ hk_
    refine hK_ _ _ (⟨rl10, rl7, rl11⟩) ?_
    simp only [Act.put, ZPa, ZPb, ZPc, ZPd, ZPe, ZPf]
    clear hK_
    refine eH_one (k := 14) (fuel := 5) (by kernel_rfl) rfl (by kernel_rfl) (fun K_ hK_ => ?_)
    refine wp_append_C _ _ rfl gB44 v54 ([] ++ k) rfl hO (some ⟨g53, 0, none⟩) 1 1 ([0]) rfl (bysK_l (l := [0]) (n := 1) rg53 rfl (by decide) (by decide)).1 (fun e => by cases e) (by simp <;> omega) hbs (fun v55 wq55 hO_ hQ_ hs_ hk_ hT_ => ?_)
    replace hw := hQ_ _ _ hw hnB
    replace hO := hO_
    replace hbs := hs_
    clear hO_ hQ_ hs_
    replace rl7 := hT_ _ _ _ _ (by decide) rl7
    replace rl10 := hT_ _ _ _ _ (by decide) rl10
    replace rl11 := hT_ _ _ _ _ (by decide) rl11
    replace rl12 := hT_ _ _ _ _ (by decide) rl12
    clear rg53
    replace f4 := hS.below hw
    replace hB := hB0.keep hw
    clear hT_ hk_
    refine hK_ _ _ (⟨rl10, rl7, rl11⟩) ?_
    simp only [Act.put, ZPa, ZPb, ZPc, ZPd, ZPe, ZPf]
    clear hK_
    refine eH_one (k := 15) (fuel := 4) (by kernel_rfl) rfl (by kernel_rfl) (fun K_ hK_ => ?_)
    have hbO := (bysK_own hO (by simp <;> omega) hzk0).1
    clear hO hbs
    refine wp_call_ex (f := 20) (by kernel_rfl) (ex1e (c13 _ _ f4.four hbO)) (fun v_ wq56 hX_ => ?_)
    obtain ⟨rfl, hb⟩ := hX_
    replace rl7 := keep hb rl7
    replace rl10 := keep hb rl10
    replace rl11 := keep hb rl11
    replace rl12 := keep hb rl12
    replace f4 := f4.below hb
    replace hB := hB.keep hb
    replace hw := Below.after hw hb
    clear hb
    refine hK_ _ _ (⟨rl10, rl7, rl11⟩) ?_
    simp only [Act.put, ZPa, ZPb, ZPc, ZPd, ZPe, ZPf]
    clear hK_
    refine eH_one (k := 18) (fuel := 3) (by kernel_rfl) rfl (by kernel_rfl) (fun K_ hK_ => ?_)
    refine wp_call_ex (f := 20) (by kernel_rfl) (ex1e (c14 _ _ f4.four hB.1)) (fun v_ wq57 hX_ => ?_)
    obtain ⟨rfl, hb⟩ := hX_
    replace rl7 := keep hb rl7
    replace rl10 := keep hb rl10
    replace rl11 := keep hb rl11
    replace rl12 := keep hb rl12
    replace f4 := f4.below hb
    replace hB := hB.keep hb
    replace hw := Below.after hw hb
    clear hb
    refine hK_ _ _ (⟨rl10, rl7, rl11⟩) ?_
    simp only [Act.put, ZPa, ZPb, ZPc, ZPd, ZPe, ZPf]
    clear hK_
    refine eH_one (k := 19) (fuel := 2) (by kernel_rfl) rfl (by kernel_rfl) (fun K_ hK_ => ?_)
    refine wp_call_ex (f := 57) (by kernel_rfl) (ex1e (c15.at _)) (fun v_ wq58 hX_ => ?_)
    obtain ⟨rfl, hb⟩ := hX_
    replace rl7 := keep hb rl7
    replace rl10 := keep hb rl10
    replace rl11 := keep hb rl11
    replace rl12 := keep hb rl12
    replace f4 := f4.below hb
    replace hB := hB.keep hb
    replace hw := Below.after hw hb
    clear hb
    refine hK_ _ _ (⟨rl10, rl7, rl11⟩) ?_
    simp only [Act.put, ZPa, ZPb, ZPc, ZPd, ZPe, ZPf]
    clear hK_
    refine wpAnyH_take (i := 20) (v := ?v59) rfl (by kernel_rfl) (by kernel_rfl) (by kernel_rfl) (fun _ _ _ h => h) (Or.inl ⟨by rfl, ?y59⟩) (⟨rl10, rl7, rl11⟩) ?r59
    case y59 =>
     intro w_ hS_
     go_simp
     try with_reducible rfl
    simp only [Act.put, ZPa, ZPb, ZPc, ZPd, ZPe, ZPf]
    refine wpAnyH_take (i := 21) (v := ?v60) rfl (by kernel_rfl) (by kernel_rfl) (by kernel_rfl) (fun _ _ _ h => h) (Or.inl ⟨by rfl, ?y60⟩) (⟨rl10, rl7, rl11⟩) ?r60
    case y60 =>
     intro w_ hS_
     go_simp
     try with_reducible rfl
    simp only [Act.put, ZPa, ZPb, ZPc, ZPd, ZPe, ZPf]
    refine wpAnyH_done (by kernel_rfl) ?_ _
    refine NoPanic.normal ?_
    go_wp2_with (fail)
    go_meet
    case rel => exact ⟨rfl, rl7, rl10, rl11, rl12, f4, hB, hw⟩
  ·skip
   refine e_world_op (.slice (some ⟨wq37.heap.size, 0, none⟩) 1 1) (wq37.alloc (.cells #[.int .u8 0] 5)) (by kernel_rfl) ?_
   have hb : Below wq37.heap.size wq37 (wq37.alloc (.cells #[.int .u8 0] 5)) := (Below.refl _ _).alloc (Nat.le_refl _) _
   have rg61 : (wq37.alloc (.cells #[.int .u8 0] 5)).heap[wq37.heap.size]? = some (.cells (Wi.irow .u8 [0]) 5 (0, 0)) := hp1_0 wq37 _
   have lt_g61_0 := lt_of_row rl7
   have lt_g61_1 := lt_of_row rl10
   have lt_g61_2 := lt_of_row rl11
   have lt_g61_3 := lt_of_row rl12
   have sz_g61 := hw.size
   replace rl7 := keep hb rl7
   replace rl10 := keep hb rl10
   replace rl11 := keep hb rl11
   replace rl12 := keep hb rl12
   replace f4 := f4.below hb
   replace hB := hB.keep hb
   replace hw := Below.after hw hb
   clear hb
   refine hK_ _ _ (⟨rl10, rl7, rl11⟩) ?_
   simp only [Act.put, ZPa, ZPb, ZPc, ZPd, ZPe, ZPf]
   clear hK_
   generalize (wq37.alloc (.cells #[.int .u8 0] 5)) = wq61 at *
   generalize wq37.heap.size = g61 at *
   refine eH_one (k := 10) (fuel := 7) (by kernel_rfl) rfl (by kernel_rfl) (fun K_ hK_ => ?_)
   refine e_world_op (.slice (some ⟨wq61.heap.size, 0, none⟩) 0 0) (wq61.alloc (.cells #[] 5)) (by kernel_rfl) ?_
   have hb : Below wq61.heap.size wq61 (wq61.alloc (.cells #[] 5)) := (Below.refl _ _).alloc (Nat.le_refl _) _
   have hO := own_lit wq61 [] 0 rfl (by decide)
   have hbs := hb.size
   have hbl : wq61.heap.size < (wq61.alloc (.cells #[] 5)).heap.size := by simp
   have hnB := hw.size
   have lt_B62_0 := lt_of_row rl7
   have lt_B62_1 := lt_of_row rl10
   have lt_B62_2 := lt_of_row rl11
   have lt_B62_3 := lt_of_row rl12
   have lt_B62_4 := lt_of_row rg61
   have sz_B62 := hw.size
   change (wq61.alloc (.cells #[] 5)).ownsRow _ _ _ _ _ _ at hO
   replace rl7 := keep hb rl7
   replace rl10 := keep hb rl10
   replace rl11 := keep hb rl11
   replace rl12 := keep hb rl12
   replace rg61 := keep hb rg61
   replace f4 := f4.below hb
   replace hB := hB.keep hb
   replace hw := Below.after hw hb
   clear hb
   refine hK_ _ _ (⟨rl10, rl7, rl11⟩) ?_
   simp only [Act.put, ZPa, ZPb, ZPc, ZPd, ZPe, ZPf]
   clear hK_
   generalize (wq61.alloc (.cells #[] 5)) = wq62 at *
   generalize wq61.heap.size = gB62 at *
   refine eH_one (k := 12) (fuel := 6) (by kernel_rfl) rfl (by kernel_rfl) (fun K_ hK_ => ?_)
   refine wp_append_C _ _ rfl gB62 (.slice (some ⟨gB62, 0, none⟩) 0 0) ([]) rfl hO ao lb cap (k) rfl hB.1 hnone (by simp <;> omega) hbs (fun v63 wq63 hO_ hQ_ hs_ hk_ hT_ => ?_)
   replace hw := hQ_ _ _ hw hnB
   replace hO := hO_
   replace hbs := hs_
   clear hO_ hQ_ hs_
   clear hbl
   replace rl7 := hT_ _ _ _ _ (by decide) rl7
   replace rl10 := hT_ _ _ _ _ (by decide) rl10
   replace rl11 := hT_ _ _ _ _ (by decide) rl11
   replace rl12 := hT_ _ _ _ _ (by decide) rl12
   replace rg61 := (hk_ (g61) (by simp [Value.ownBlock]; omega) (lt_of_row rg61)).trans rg61
   replace f4 := hS.below hw
   replace hB := hB0.keep hw
   clear hT_ hk_
   refine hK_ _ _ (⟨rl10, rl7, rl11⟩) ?_
   simp only [Act.put, ZPa, ZPb, ZPc, ZPd, ZPe, ZPf]
   clear hK_
   refine eH_one (k := 14) (fuel := 5) (by kernel_rfl) rfl (by kernel_rfl) (fun K_ hK_ => ?_)
   refine wp_append_C _ _ rfl gB62 v63 ([] ++ k) rfl hO (some ⟨g61, 0, none⟩) 1 1 ([0]) rfl (bysK_l (l := [0]) (n := 1) rg61 rfl (by decide) (by decide)).1 (fun e => by cases e) (by simp <;> omega) hbs (fun v64 wq64 hO_ hQ_ hs_ hk_ hT_ => ?_)
   replace hw := hQ_ _ _ hw hnB
   replace hO := hO_
   replace hbs := hs_
   clear hO_ hQ_ hs_
   replace rl7 := hT_ _ _ _ _ (by decide) rl7
   replace rl10 := hT_ _ _ _ _ (by decide) rl10
   replace rl11 := hT_ _ _ _ _ (by decide) rl11
   replace rl12 := hT_ _ _ _ _ (by decide) rl12
   clear rg61
   replace f4 := hS.below hw
   replace hB := hB0.keep hw
   clear hT_ hk_
   refine hK_ _ _ (⟨rl10, rl7, rl11⟩) ?_
   simp only [Act.put, ZPa, ZPb, ZPc, ZPd, ZPe, ZPf]
   clear hK_
   refine eH_one (k := 15) (fuel := 4) (by kernel_rfl) rfl (by kernel_rfl) (fun K_ hK_ => ?_)
   have hbO := (bysK_own hO (by simp <;> omega) hzk0).1
   clear hO hbs
   refine wp_call_ex (f := 20) (by kernel_rfl) (ex1e (c13 _ _ f4.four hbO)) (fun v_ wq65 hX_ => ?_)
   obtain ⟨rfl, hb⟩ := hX_
   replace rl7 := keep hb rl7
   replace rl10 := keep hb rl10
   replace rl11 := keep hb rl11
   replace rl12 := keep hb rl12
   replace f4 := f4.below hb
   replace hB := hB.keep hb
   replace hw := Below.after hw hb
   clear hb
   refine hK_ _ _ (⟨rl10, rl7, rl11⟩) ?_
   simp only [Act.put, ZPa, ZPb, ZPc, ZPd, ZPe, ZPf]
   clear hK_
   refine eH_one (k := 18) (fuel := 3) (by kernel_rfl) rfl (by kernel_rfl) (fun K_ hK_ => ?_)
   refine wp_call_ex (f := 20) (by kernel_rfl) (ex1e (c14 _ _ f4.four hB.1)) (fun v_ wq66 hX_ => ?_)
   obtain ⟨rfl, hb⟩ := hX_
   replace rl7 := keep hb rl7
   replace rl10 := keep hb rl10
   replace rl11 := keep hb rl11
   replace rl12 := keep hb rl12
   replace f4 := f4.below hb
   replace hB := hB.keep hb
   replace hw := Below.after hw hb
   clear hb
   refine hK_ _ _ (⟨rl10, rl7, rl11⟩) ?_
   simp only [Act.put, ZPa, ZPb, ZPc, ZPd, ZPe, ZPf]
   clear hK_
   refine eH_one (k := 19) (fuel := 2) (by kernel_rfl) rfl (by kernel_rfl) (fun K_ hK_ => ?_)
   refine wp_call_ex (f := 57) (by kernel_rfl) (ex1e (c15.at _)) (fun v_ wq67 hX_ => ?_)
   obtain ⟨rfl, hb⟩ := hX_
   replace rl7 := keep hb rl7
   replace rl10 := keep hb rl10
   replace rl11 := keep hb rl11
   replace rl12 := keep hb rl12
   replace f4 := f4.below hb
   replace hB := hB.keep hb
   replace hw := Below.after hw hb
   clear hb
   refine hK_ _ _ (⟨rl10, rl7, rl11⟩) ?_
   simp only [Act.put, ZPa, ZPb, ZPc, ZPd, ZPe, ZPf]
   clear hK_
   refine wpAnyH_take (i := 20) (v := ?v68) rfl (by kernel_rfl) (by kernel_rfl) (by kernel_rfl) (fun _ _ _ h => h) (Or.inl ⟨by rfl, ?y68⟩) (⟨rl10, rl7, rl11⟩) ?r68
   case y68 =>
    intro w_ hS_
    go_simp
    try with_reducible rfl
   simp only [Act.put, ZPa, ZPb, ZPc, ZPd, ZPe, ZPf]
   refine wpAnyH_take (i := 21) (v := ?v69) rfl (by kernel_rfl) (by kernel_rfl) (by kernel_rfl) (fun _ _ _ h => h) (Or.inl ⟨by rfl, ?y69⟩) (⟨rl10, rl7, rl11⟩) ?r69
   case y69 =>
    intro w_ hS_
    go_simp
    try with_reducible rfl
   simp only [Act.put, ZPa, ZPb, ZPc, ZPd, ZPe, ZPf]
   refine wpAnyH_done (by kernel_rfl) ?_ _
   refine NoPanic.normal ?_
   go_wp2_with (fail)
   go_meet
   case rel => exact ⟨rfl, rl7, rl10, rl11, rl12, f4, hB, hw⟩
 case rest =>
  obtain ⟨rfl, rl7, rl10, rl11, rl12, f4, hB, hw⟩ := hcut
  go_wp2_with (fail)
  have hb : Below wc.heap.size wc wc.drew := below_drN (Below.refl _ _) 1
  replace rl7 := keep hb rl7
  replace rl10 := keep hb rl10
  replace rl11 := keep hb rl11
  replace rl12 := keep hb rl12
  replace f4 := f4.below hb
  replace hB := hB.keep hb
  replace hw := Below.after hw hb
  clear hb
  refine wp_region_noPanic ?_
  refine wp_region_held (S := fun W_ => W_.heap[g7]? = some (.cells xp 45 (0, 0)) ∧ W_.heap[g11]? = some (.cells xs 54 (0, 0))) (by kernel_rfl) ?_
  change wpAnyH _ _ _ _ _ _ _ _ (World.drew _)
  generalize wc.drew = wd70 at *
  refine wpAnyH_take (i := 0) (v := .agg xp) rfl (by kernel_rfl) (by kernel_rfl) (by kernel_rfl) (fun _ _ _ h => h) (Or.inl ⟨by rfl, ?y71⟩) (⟨rl7, rl11⟩) ?r71
  case y71 =>
   intro w_ hS_
   simp only [List.getElem_toArray, List.getElem_cons_zero]
   exact e_load_part 45 _ (by rfl) (g7) 0 (by rfl) 45 xp (0, 0) xp _ (hS_.1) (all_rowe _) Tryd.underlying45 rfl hp.info
  simp only [Act.put, ZPa, ZPc, ZPd, ZPe, ZPf]
  refine wpAnyH_take (i := 2) (v := ?v72) rfl (by kernel_rfl) (by kernel_rfl) (by kernel_rfl) (fun _ _ _ h => h) (Or.inl ⟨by rfl, ?y72⟩) (⟨rl7, rl11⟩) ?r72
  case y72 =>
   intro w_ hS_
   go_simp
   try with_reducible rfl
  simp only [Act.put, ZPa, ZPb, ZPc, ZPd, ZPe, ZPf]
  refine wpAnyH_take (i := 5) (v := .agg xp) rfl (by kernel_rfl) (by kernel_rfl) (by kernel_rfl) (fun _ _ _ h => h) (Or.inl ⟨by rfl, ?y73⟩) (⟨rl7, rl11⟩) ?r73
  case y73 =>
   intro w_ hS_
   simp only [List.getElem_toArray, List.getElem_cons_succ, List.getElem_cons_zero]
   exact e_load_part 45 _ (by rfl) (g7) 0 (by rfl) 45 xp (0, 0) xp _ (hS_.1) (all_rowe _) Tryd.underlying45 rfl hp.info
  simp only [Act.put, ZPa, ZPb, ZPc, ZPd, ZPe, ZPf]
  refine wpAnyH_take (i := 6) (v := ?v74) rfl (by kernel_rfl) (by kernel_rfl) (by kernel_rfl) (fun _ _ _ h => h) (Or.inl ⟨by rfl, ?y74⟩) (⟨rl7, rl11⟩) ?r74
  case y74 =>
   intro w_ hS_
   go_simp
   try with_reducible rfl
  simp only [Act.put, ZPa, ZPb, ZPc, ZPd, ZPe, ZPf]
  refine eH_two (j := 1) (k := 8) (fuel := 18) (by kernel_rfl) rfl rfl (by kernel_rfl) (by kernel_rfl) (fun K_ hK_ => ?_) (fun K_ hK_ => ?_)
  ·skip
   refine e_world_op (.slice (some ⟨wd70.heap.size, 0, none⟩) 1 1) (wd70.alloc (.cells #[.int .u8 0] 5)) (by kernel_rfl) ?_
   have hb : Below wd70.heap.size wd70 (wd70.alloc (.cells #[.int .u8 0] 5)) := (Below.refl _ _).alloc (Nat.le_refl _) _
   have hO := own_lit wd70 [0] 1 rfl (by decide)
   have hbs := hb.size
   have hbl : wd70.heap.size < (wd70.alloc (.cells #[.int .u8 0] 5)).heap.size := by simp
   have hnB := hw.size
   have lt_B75_0 := lt_of_row rl7
   have lt_B75_1 := lt_of_row rl10
   have lt_B75_2 := lt_of_row rl11
   have lt_B75_3 := lt_of_row rl12
   have sz_B75 := hw.size
   change (wd70.alloc (.cells #[.int .u8 0] 5)).ownsRow _ _ _ _ _ _ at hO
   replace rl7 := keep hb rl7
   replace rl10 := keep hb rl10
   replace rl11 := keep hb rl11
   replace rl12 := keep hb rl12
   replace f4 := f4.below hb
   replace hB := hB.keep hb
   replace hw := Below.after hw hb
   clear hb
   refine hK_ _ _ (⟨rl7, rl11⟩) ?_
   simp only [Act.put, ZPa, ZPb, ZPc, ZPd, ZPe, ZPf]
   clear hK_
   generalize (wd70.alloc (.cells #[.int .u8 0] 5)) = wq75 at *
   generalize wd70.heap.size = gB75 at *
   refine eH_two (j := 3) (k := 8) (fuel := 17) (by kernel_rfl) rfl rfl (by kernel_rfl) (by kernel_rfl) (fun K_ hK_ => ?_) (fun K_ hK_ => ?_)
   ·skip
    refine wp_append_C _ _ rfl gB75 (.slice (some ⟨gB75, 0, none⟩) 1 1) ([0]) rfl hO ao lb cap (k) rfl hB.1 hnone (by simp <;> omega) hbs (fun v76 wq76 hO_ hQ_ hs_ hk_ hT_ => ?_)
    replace hw := hQ_ _ _ hw hnB
    replace hO := hO_
    replace hbs := hs_
    clear hO_ hQ_ hs_
    clear hbl
    replace rl7 := hT_ _ _ _ _ (by decide) rl7
    replace rl10 := hT_ _ _ _ _ (by decide) rl10
    replace rl11 := hT_ _ _ _ _ (by decide) rl11
    replace rl12 := hT_ _ _ _ _ (by decide) rl12
    replace f4 := hS.below hw
    replace hB := hB0.keep hw
    clear hT_ hk_
    refine hK_ _ _ (⟨rl7, rl11⟩) ?_
    simp only [Act.put, ZPa, ZPb, ZPc, ZPd, ZPe, ZPf]
    clear hK_
    refine eH_two (j := 4) (k := 8) (fuel := 16) (by kernel_rfl) rfl rfl (by kernel_rfl) (by kernel_rfl) (fun K_ hK_ => ?_) (fun K_ hK_ => ?_)
    ·skip
     have hbO := (bysK_own hO (by simp <;> omega) hz0k).1
     clear hO hbs
     refine wp_call_ex (f := 20) (by kernel_rfl) (ex1e (c16 _ _ f4.four hbO)) (fun v_ wq77 hX_ => ?_)
     obtain ⟨rfl, hb⟩ := hX_
     replace rl7 := keep hb rl7
     replace rl10 := keep hb rl10
     replace rl11 := keep hb rl11
     replace rl12 := keep hb rl12
     replace f4 := f4.below hb
     replace hB := hB.keep hb
     replace hw := Below.after hw hb
     clear hb
     refine hK_ _ _ (⟨rl7, rl11⟩) ?_
     simp only [Act.put, ZPa, ZPb, ZPc, ZPd, ZPe, ZPf]
     clear hK_
     refine eH_two (j := 7) (k := 8) (fuel := 15) (by kernel_rfl) rfl rfl (by kernel_rfl) (by kernel_rfl) (fun K_ hK_ => ?_) (fun K_ hK_ => ?_)
     ·skip
      refine wp_call_ex (f := 20) (by kernel_rfl) (ex1e (c14 _ _ f4.four hB.1)) (fun v_ wq78 hX_ => ?_)
      obtain ⟨rfl, hb⟩ := hX_
      replace rl7 := keep hb rl7
      replace rl10 := keep hb rl10
      replace rl11 := keep hb rl11
      replace rl12 := keep hb rl12
      replace f4 := f4.below hb
      replace hB := hB.keep hb
      replace hw := Below.after hw hb
      clear hb
      refine hK_ _ _ (⟨rl7, rl11⟩) ?_
      simp only [Act.put, ZPa, ZPb, ZPc, ZPd, ZPe, ZPf]
      clear hK_
      refine eH_one (k := 8) (fuel := 14) (by kernel_rfl) rfl (by kernel_rfl) (fun K_ hK_ => ?_)
      refine e_world_op (.slice (some ⟨wq78.heap.size, 0, none⟩) 2 2) (wq78.alloc (.cells #[.int .u8 0, .int .u8 1] 5)) (by kernel_rfl) ?_
      have hb : Below wq78.heap.size wq78 (wq78.alloc (.cells #[.int .u8 0, .int .u8 1] 5)) := (Below.refl _ _).alloc (Nat.le_refl _) _
      have rg79 : (wq78.alloc (.cells #[.int .u8 0, .int .u8 1] 5)).heap[wq78.heap.size]? = some (.cells (Wi.irow .u8 [0, 1]) 5 (0, 0)) := hp1_0 wq78 _
      have lt_g79_0 := lt_of_row rl7
      have lt_g79_1 := lt_of_row rl10
      have lt_g79_2 := lt_of_row rl11
      have lt_g79_3 := lt_of_row rl12
      have sz_g79 := hw.size
      replace rl7 := keep hb rl7
      replace rl10 := keep hb rl10
      replace rl11 := keep hb rl11
      replace rl12 := keep hb rl12
      replace f4 := f4.below hb
      replace hB := hB.keep hb
      replace hw := Below.after hw hb
      clear hb
      refine hK_ _ _ (⟨rl7, rl11⟩) ?_
      simp only [Act.put, ZPa, ZPb, ZPc, ZPd, ZPe, ZPf]
      clear hK_
      generalize (wq78.alloc (.cells #[.int .u8 0, .int .u8 1] 5)) = wq79 at *
      generalize wq78.heap.size = g79 at *
      refine eH_one (k := 9) (fuel := 13) (by kernel_rfl) rfl (by kernel_rfl) (fun K_ hK_ => ?_)
      refine wp_call_ex (f := 20) (by kernel_rfl) (ex1e (c17 _ _ f4.four (bysK_l (l := [0, 1]) (n := 2) rg79 rfl (by decide) (by decide)).1)) (fun v_ wq80 hX_ => ?_)
      obtain ⟨rfl, hb⟩ := hX_
      replace rl7 := keep hb rl7
      replace rl10 := keep hb rl10
      replace rl11 := keep hb rl11
      replace rl12 := keep hb rl12
      replace rg79 := keep hb rg79
      replace f4 := f4.below hb
      replace hB := hB.keep hb
      replace hw := Below.after hw hb
      clear hb
      refine hK_ _ _ (⟨rl7, rl11⟩) ?_
      simp only [Act.put, ZPa, ZPb, ZPc, ZPd, ZPe, ZPf]
      clear hK_
      refine eH_one (k := 10) (fuel := 12) (by kernel_rfl) rfl (by kernel_rfl) (fun K_ hK_ => ?_)
      refine wp_call_ex (f := 57) (by kernel_rfl) (ex1e (c18.at _)) (fun v_ wq81 hX_ => ?_)
      obtain ⟨rfl, hb⟩ := hX_
      replace rl7 := keep hb rl7
      replace rl10 := keep hb rl10
      replace rl11 := keep hb rl11
      replace rl12 := keep hb rl12
      replace rg79 := keep hb rg79
      replace f4 := f4.below hb
      replace hB := hB.keep hb
      replace hw := Below.after hw hb
      clear hb
      refine hK_ _ _ (⟨rl7, rl11⟩) ?_
      simp only [Act.put, ZPa, ZPb, ZPc, ZPd, ZPe, ZPf]
      clear hK_
      refine wpAnyH_take (i := 11) (v := ?v82) rfl (by kernel_rfl) (by kernel_rfl) (by kernel_rfl) (fun _ _ _ h => h) (Or.inl ⟨by rfl, ?y82⟩) (⟨rl7, rl11⟩) ?r82
      case y82 =>
       intro w_ hS_
       go_simp
       try with_reducible rfl
      simp only [Act.put, ZPa, ZPb, ZPc, ZPd, ZPe, ZPf]
      refine wpAnyH_take (i := 13) (v := .agg xs) rfl (by kernel_rfl) (by kernel_rfl) (by kernel_rfl) (fun _ _ _ h => h) (Or.inl ⟨by rfl, ?y83⟩) (⟨rl7, rl11⟩) ?r83
      case y83 =>
       intro w_ hS_
       simp only [List.getElem_toArray, List.getElem_cons_succ, List.getElem_cons_zero]
       exact e_load_part 54 _ (by rfl) (g11) 0 (by rfl) 54 xs (0, 0) xs _ (hS_.2) (all_rowe _) Tryd.underlying54 rfl os.infoS
      simp only [Act.put, ZPa, ZPb, ZPc, ZPd, ZPe, ZPf]
      refine wpAnyH_take (i := 16) (v := .agg xs) rfl (by kernel_rfl) (by kernel_rfl) (by kernel_rfl) (fun _ _ _ h => h) (Or.inl ⟨by rfl, ?y84⟩) (⟨rl7, rl11⟩) ?r84
      case y84 =>
       intro w_ hS_
       simp only [List.getElem_toArray, List.getElem_cons_succ, List.getElem_cons_zero]
       exact e_load_part 54 _ (by rfl) (g11) 0 (by rfl) 54 xs (0, 0) xs _ (hS_.2) (all_rowe _) Tryd.underlying54 rfl os.infoS
      simp only [Act.put, ZPa, ZPb, ZPc, ZPd, ZPe, ZPf]
      refine wpAnyH_take (i := 19) (v := .agg pz) rfl (by kernel_rfl) (by kernel_rfl) (by kernel_rfl) (fun _ _ _ h => h) (Or.inl ⟨by rfl, ?y85⟩) (⟨rl7, rl11⟩) ?r85
      case y85 =>
       intro w_ hS_
       simp only [List.getElem_toArray, List.getElem_cons_succ, List.getElem_cons_zero]
       exact e_build 45 _ (by rfl) [] (by rfl) pz (by kernel_rfl)
      simp only [Act.put, ZPa, ZPb, ZPc, ZPd, ZPe, ZPf]
      refine eH_one (k := 12) (fuel := 7) (by kernel_rfl) rfl (by kernel_rfl) (fun K_ hK_ => ?_)
      refine wp_call_ex (f := 19) (by kernel_rfl) (ex1e (cB.at f4.1)) (fun v_ wq86 hX_ => ?_)
      obtain ⟨rfl, hb⟩ := hX_
      replace rl7 := keep hb rl7
      replace rl10 := keep hb rl10
      replace rl11 := keep hb rl11
      replace rl12 := keep hb rl12
      replace rg79 := keep hb rg79
      replace f4 := f4.below hb
      replace hB := hB.keep hb
      replace hw := Below.after hw hb
      clear hb
      refine hK_ _ _ (⟨rl7, rl11⟩) ?_
      simp only [Act.put, ZPa, ZPb, ZPc, ZPd, ZPe, ZPf]
      clear hK_
      refine eH_one (k := 14) (fuel := 6) (by kernel_rfl) rfl (by kernel_rfl) (fun K_ hK_ => ?_)
      refine wp_call_ex (f := 24) (by kernel_rfl) (ex1e (c19.at f4.four)) (fun v_ wq87 hX_ => ?_)
      obtain ⟨rfl, hb⟩ := hX_
      replace rl7 := keep hb rl7
      replace rl10 := keep hb rl10
      replace rl11 := keep hb rl11
      replace rl12 := keep hb rl12
      replace rg79 := keep hb rg79
      replace f4 := f4.below hb
      replace hB := hB.keep hb
      replace hw := Below.after hw hb
      clear hb
      refine hK_ _ _ (⟨rl7, rl11⟩) ?_
      simp only [Act.put, ZPa, ZPb, ZPc, ZPd, ZPe, ZPf]
      clear hK_
      refine eH_one (k := 15) (fuel := 5) (by kernel_rfl) rfl (by kernel_rfl) (fun K_ hK_ => ?_)
      refine wp_call_ex (f := 19) (by kernel_rfl) (ex1e (cB.at f4.1)) (fun v_ wq88 hX_ => ?_)
      obtain ⟨rfl, hb⟩ := hX_
      replace rl7 := keep hb rl7
      replace rl10 := keep hb rl10
      replace rl11 := keep hb rl11
      replace rl12 := keep hb rl12
      replace rg79 := keep hb rg79
      replace f4 := f4.below hb
      replace hB := hB.keep hb
      replace hw := Below.after hw hb
      clear hb
      refine hK_ _ _ (⟨rl7, rl11⟩) ?_
      simp only [Act.put, ZPa, ZPb, ZPc, ZPd, ZPe, ZPf]
      clear hK_
      refine eH_one (k := 17) (fuel := 4) (by kernel_rfl) rfl (by kernel_rfl) (fun K_ hK_ => ?_)
      refine wp_call_ex (f := 24) (by kernel_rfl) (ex1e (c19.at f4.four)) (fun v_ wq89 hX_ => ?_)
      obtain ⟨rfl, hb⟩ := hX_
      replace rl7 := keep hb rl7
      replace rl10 := keep hb rl10
      replace rl11 := keep hb rl11
      replace rl12 := keep hb rl12
      replace rg79 := keep hb rg79
      replace f4 := f4.below hb
      replace hB := hB.keep hb
      replace hw := Below.after hw hb
      clear hb
      refine hK_ _ _ (⟨rl7, rl11⟩) ?_
      simp only [Act.put, ZPa, ZPb, ZPc, ZPd, ZPe, ZPf]
      clear hK_
      refine eH_one (k := 18) (fuel := 3) (by kernel_rfl) rfl (by kernel_rfl) (fun K_ hK_ => ?_)
      refine wp_call_ex (f := 33) (by kernel_rfl) (ex1e (c20.at f4.four)) (fun v_ wq90 hX_ => ?_)
      obtain ⟨rfl, hb⟩ := hX_
      replace rl7 := keep hb rl7
      replace rl10 := keep hb rl10
      replace rl11 := keep hb rl11
      replace rl12 := keep hb rl12
      replace rg79 := keep hb rg79
      replace f4 := f4.below hb
      replace hB := hB.keep hb
      replace hw := Below.after hw hb
      clear hb
      refine hK_ _ _ (⟨rl7, rl11⟩) ?_
      simp only [Act.put, ZPa, ZPb, ZPc, ZPd, ZPe, ZPf]
      clear hK_
      refine eH_one (k := 20) (fuel := 2) (by kernel_rfl) rfl (by kernel_rfl) (fun K_ hK_ => ?_)
      refine wp_call_ex (f := 57) (by kernel_rfl) (ex1e (c21.at _)) (fun v_ wq91 hX_ => ?_)
      obtain ⟨rfl, hb⟩ := hX_
      replace rl7 := keep hb rl7
      replace rl10 := keep hb rl10
      replace rl11 := keep hb rl11
      replace rl12 := keep hb rl12
      replace rg79 := keep hb rg79
      replace f4 := f4.below hb
      replace hB := hB.keep hb
      replace hw := Below.after hw hb
      clear hb
      refine hK_ _ _ (⟨rl7, rl11⟩) ?_
      simp only [Act.put, ZPa, ZPb, ZPc, ZPd, ZPe, ZPf]
      clear hK_
      refine wpAnyH_take (i := 21) (v := ?v92) rfl (by kernel_rfl) (by kernel_rfl) (by kernel_rfl) (fun _ _ _ h => h) (Or.inl ⟨by rfl, ?y92⟩) (⟨rl7, rl11⟩) ?r92
      case y92 =>
       intro w_ hS_
       go_simp
       try with_reducible rfl
      simp only [Act.put, ZPa, ZPb, ZPc, ZPd, ZPe, ZPf]
      refine wpAnyH_take (i := 22) (v := ?v93) rfl (by kernel_rfl) (by kernel_rfl) (by kernel_rfl) (fun _ _ _ h => h) (Or.inl ⟨by rfl, ?y93⟩) (⟨rl7, rl11⟩) ?r93
      case y93 =>
       intro w_ hS_
       go_simp
       try with_reducible rfl
      simp only [Act.put, ZPa, ZPb, ZPc, ZPd, ZPe, ZPf]
      refine wpAnyH_done (by kernel_rfl) ?_ _
      refine NoPanic.normal ?_
      go_wp2_with (fail)
      go_ret
      exact ⟨rfl, hw⟩
     ·skip
      refine e_world_op (.slice (some ⟨wq77.heap.size, 0, none⟩) 2 2) (wq77.alloc (.cells #[.int .u8 0, .int .u8 1] 5)) (by kernel_rfl) ?_
      have hb : Below wq77.heap.size wq77 (wq77.alloc (.cells #[.int .u8 0, .int .u8 1] 5)) := (Below.refl _ _).alloc (Nat.le_refl _) _
      have rg94 : (wq77.alloc (.cells #[.int .u8 0, .int .u8 1] 5)).heap[wq77.heap.size]? = some (.cells (Wi.irow .u8 [0, 1]) 5 (0, 0)) := hp1_0 wq77 _
      have lt_g94_0 := lt_of_row rl7
      have lt_g94_1 := lt_of_row rl10
      have lt_g94_2 := lt_of_row rl11
      have lt_g94_3 := lt_of_row rl12
      have sz_g94 := hw.size
      replace rl7 := keep hb rl7
      replace rl10 := keep hb rl10
      replace rl11 := keep hb rl11
      replace rl12 := keep hb rl12
      replace f4 := f4.below hb
      replace hB := hB.keep hb
      replace hw := Below.after hw hb
      clear hb
      refine hK_ _ _ (⟨rl7, rl11⟩) ?_
      simp only [Act.put, ZPa, ZPb, ZPc, ZPd, ZPe, ZPf]
      clear hK_
      generalize (wq77.alloc (.cells #[.int .u8 0, .int .u8 1] 5)) = wq94 at *
      generalize wq77.heap.size = g94 at *
      refine eH_one (k := 7) (fuel := 14) (by kernel_rfl) rfl (by kernel_rfl) (fun K_ hK_ => ?_)
      refine wp_call_ex (f := 20) (by kernel_rfl) (ex1e (c14 _ _ f4.four hB.1)) (fun v_ wq95 hX_ => ?_)
      obtain ⟨rfl, hb⟩ := hX_
      replace rl7 := keep hb rl7
      replace rl10 := keep hb rl10
      replace rl11 := keep hb rl11
      replace rl12 := keep hb rl12
      replace rg94 := keep hb rg94
      replace f4 := f4.below hb
      replace hB := hB.keep hb
      replace hw := Below.after hw hb
      clear hb
      refine hK_ _ _ (⟨rl7, rl11⟩) ?_
      simp only [Act.put, ZPa, ZPb, ZPc, ZPd, ZPe, ZPf]
      clear hK_
      refine eH_one (k := 9) (fuel := 13) (by kernel_rfl) rfl (by kernel_rfl) (fun K_ hK_ => ?_)
      refine wp_call_ex (f := 20) (by kernel_rfl) (ex1e (c17 _ _ f4.four (bysK_l (l := [0, 1]) (n := 2) rg94 rfl (by decide) (by decide)).1)) (fun v_ wq96 hX_ => ?_)
      obtain ⟨rfl, hb⟩ := hX_
      replace rl7 := keep hb rl7
      replace rl10 := keep hb rl10
      replace rl11 := keep hb rl11
      replace rl12 := keep hb rl12
      replace rg94 := keep hb rg94
      replace f4 := f4.below hb
      replace hB := hB.keep hb
      replace hw := Below.after hw hb
      clear hb
      refine hK_ _ _ (⟨rl7, rl11⟩) ?_
      simp only [Act.put, ZPa, ZPb, ZPc, ZPd, ZPe, ZPf]
      clear hK_
      refine eH_one (k := 10) (fuel := 12) (by kernel_rfl) rfl (by kernel_rfl) (fun K_ hK_ => ?_)
      refine wp_call_ex (f := 57) (by kernel_rfl) (ex1e (c18.at _)) (fun v_ wq97 hX_ => ?_)
      obtain ⟨rfl, hb⟩ := hX_
      replace rl7 := keep hb rl7
      replace rl10 := keep hb rl10
      replace rl11 := keep hb rl11
      replace rl12 := keep hb rl12
      replace rg94 := keep hb rg94
      replace f4 := f4.below hb
      replace hB := hB.keep hb
      replace hw := Below.after hw hb
      clear hb
      refine hK_ _ _ (⟨rl7, rl11⟩) ?_
      simp only [Act.put, ZPa, ZPb, ZPc, ZPd, ZPe, ZPf]
      clear hK_
      refine wpAnyH_take (i := 11) (v := ?v98) rfl (by kernel_rfl) (by kernel_rfl) (by kernel_rfl) (fun _ _ _ h => h) (Or.inl ⟨by rfl, ?y98⟩) (⟨rl7, rl11⟩) ?r98
      case y98 =>
       intro w_ hS_
       go_simp
       try with_reducible rfl
      simp only [Act.put, ZPa, ZPb, ZPc, ZPd, ZPe, ZPf]
      refine wpAnyH_take (i := 13) (v := .agg xs) rfl (by kernel_rfl) (by kernel_rfl) (by kernel_rfl) (fun _ _ _ h => h) (Or.inl ⟨by rfl, ?y99⟩) (⟨rl7, rl11⟩) ?r99
      case y99 =>
       intro w_ hS_
       simp only [List.getElem_toArray, List.getElem_cons_succ, List.getElem_cons_zero]
       exact e_load_part 54 _ (by rfl) (g11) 0 (by rfl) 54 xs (0, 0) xs _ (hS_.2) (all_rowe _) Tryd.underlying54 rfl os.infoS
      simp only [Act.put, ZPa, ZPb, ZPc, ZPd, ZPe, ZPf]
      refine wpAnyH_take (i := 16) (v := .agg xs) rfl (by kernel_rfl) (by kernel_rfl) (by kernel_rfl) (fun _ _ _ h => h) (Or.inl ⟨by rfl, ?y100⟩) (⟨rl7, rl11⟩) ?r100
      case y100 =>
       intro w_ hS_
       simp only [List.getElem_toArray, List.getElem_cons_succ, List.getElem_cons_zero]
       exact e_load_part 54 _ (by rfl) (g11) 0 (by rfl) 54 xs (0, 0) xs _ (hS_.2) (all_rowe _) Tryd.underlying54 rfl os.infoS
      simp only [Act.put, ZPa, ZPb, ZPc, ZPd, ZPe, ZPf]
      refine wpAnyH_take (i := 19) (v := .agg pz) rfl (by kernel_rfl) (by kernel_rfl) (by kernel_rfl) (fun _ _ _ h => h) (Or.inl ⟨by rfl, ?y101⟩) (⟨rl7, rl11⟩) ?r101
      case y101 =>
       intro w_ hS_
       simp only [List.getElem_toArray, List.getElem_cons_succ, List.getElem_cons_zero]
       exact e_build 45 _ (by rfl) [] (by rfl) pz (by kernel_rfl)
      simp only [Act.put, ZPa, ZPb, ZPc, ZPd, ZPe, ZPf]
      refine eH_one (k := 12) (fuel := 7) (by kernel_rfl) rfl (by kernel_rfl) (fun K_ hK_ => ?_)
      refine wp_call_ex (f := 19) (by kernel_rfl) (ex1e (cB.at f4.1)) (fun v_ wq102 hX_ => ?_)
      obtain ⟨rfl, hb⟩ := hX_
      replace rl7 := keep hb rl7
      replace rl10 := keep hb rl10
      replace rl11 := keep hb rl11
      replace rl12 := keep hb rl12
      replace rg94 := keep hb rg94
      replace f4 := f4.below hb
      replace hB := hB.keep hb
      replace hw := Below.after hw hb
      clear hb
      refine hK_ _ _ (⟨rl7, rl11⟩) ?_
      simp only [Act.put, ZPa, ZPb, ZPc, ZPd, ZPe, ZPf]
      clear hK_
      refine eH_one (k := 14) (fuel := 6) (by kernel_rfl) rfl (by kernel_rfl) (fun K_ hK_ => ?_)
      refine wp_call_ex (f := 24) (by kernel_rfl) (ex1e (c19.at f4.four)) (fun v_ wq103 hX_ => ?_)
      obtain ⟨rfl, hb⟩ := hX_
      replace rl7 := keep hb rl7
      replace rl10 := keep hb rl10
      replace rl11 := keep hb rl11
      replace rl12 := keep hb rl12
      replace rg94 := keep hb rg94
      replace f4 := f4.below hb
      replace hB := hB.keep hb
      replace hw := Below.after hw hb
      clear hb
      refine hK_ _ _ (⟨rl7, rl11⟩) ?_
      simp only [Act.put, ZPa, ZPb, ZPc, ZPd, ZPe, ZPf]
      clear hK_
      refine eH_one (k := 15) (fuel := 5) (by kernel_rfl) rfl (by kernel_rfl) (fun K_ hK_ => ?_)
      refine wp_call_ex (f := 19) (by kernel_rfl) (ex1e (cB.at f4.1)) (fun v_ wq104 hX_ => ?_)
      obtain ⟨rfl, hb⟩ := hX_
      replace rl7 := keep hb rl7
      replace rl10 := keep hb rl10
      replace rl11 := keep hb rl11
      replace rl12 := keep hb rl12
      replace rg94 := keep hb rg94
      replace f4 := f4.below hb
      replace hB := hB.keep hb
      replace hw := Below.after hw hb
      clear hb
      refine hK_ _ _ (⟨rl7, rl11⟩) ?_
      simp only [Act.put, ZPa, ZPb, ZPc, ZPd, ZPe, ZPf]
      clear hK_
      refine eH_one (k := 17) (fuel := 4) (by kernel_rfl) rfl (by kernel_rfl) (fun K_ hK_ => ?_)
      refine wp_call_ex (f := 24) (by kernel_rfl) (ex1e (c19.at f4.four)) (fun v_ wq105 hX_ => ?_)
      obtain ⟨rfl, hb⟩ := hX_
      replace rl7 := keep hb rl7
      replace rl10 := keep hb rl10
      replace rl11 := keep hb rl11
      replace rl12 := keep hb rl12
      replace rg94 := keep hb rg94
      replace f4 := f4.below hb
      replace hB := hB.keep hb
      replace hw := Below.after hw hb
      clear hb
      refine hK_ _ _ (⟨rl7, rl11⟩) ?_
      simp only [Act.put, ZPa, ZPb, ZPc, ZPd, ZPe, ZPf]
      clear hK_
      refine eH_one (k := 18) (fuel := 3) (by kernel_rfl) rfl (by kernel_rfl) (fun K_ hK_ => ?_)
      refine wp_call_ex (f := 33) (by kernel_rfl) (ex1e (c20.at f4.four)) (fun v_ wq106 hX_ => ?_)
      obtain ⟨rfl, hb⟩ := hX_
      replace rl7 := keep hb rl7
      replace rl10 := keep hb rl10
      replace rl11 := keep hb rl11
      replace rl12 := keep hb rl12
      replace rg94 := keep hb rg94
      replace f4 := f4.below hb
      replace hB := hB.keep hb
      replace hw := Below.after hw hb
      clear hb
      refine hK_ _ _ (⟨rl7, rl11⟩) ?_
      simp only [Act.put, ZPa, ZPb, ZPc, ZPd, ZPe, ZPf]
      clear hK_
      refine eH_one (k := 20) (fuel := 2) (by kernel_rfl) rfl (by kernel_rfl) (fun K_ hK_ => ?_)
      refine wp_call_ex (f := 57) (by kernel_rfl) (ex1e (c21.at _)) (fun v_ wq107 hX_ => ?_)
      obtain ⟨rfl, hb⟩ := hX_
      replace rl7 := keep hb rl7
      replace rl10 := keep hb rl10
      replace rl11 := keep hb rl11
      replace rl12 := keep hb rl12
      replace rg94 := keep hb rg94
      replace f4 := f4.below hb
      replace hB := hB.keep hb
      replace hw := Below.after hw hb
      clear hb
      refine hK_ _ _ (⟨rl7, rl11⟩) ?_
      simp only [Act.put, ZPa, ZPb, ZPc, ZPd, ZPe, ZPf]
      clear hK_
      refine wpAnyH_take (i := 21) (v := ?v108) rfl (by kernel_rfl) (by kernel_rfl) (by kernel_rfl) (fun _ _ _ h => h) (Or.inl ⟨by rfl, ?y108⟩) (⟨rl7, rl11⟩) ?r108
      case y108 =>
       intro w_ hS_
       go_simp
       try with_reducible rfl
      simp only [Act.put, ZPa, ZPb, ZPc, ZPd, ZPe, ZPf]
      refine wpAnyH_take (i := 22) (v := ?v109) rfl (by kernel_rfl) (by kernel_rfl) (by kernel_rfl) (fun _ _ _ h => h) (Or.inl ⟨by rfl, ?y109⟩) (⟨rl7, rl11⟩) ?r109
      case y109 =>
       intro w_ hS_
       go_simp
       try with_reducible rfl
      simp only [Act.put, ZPa, ZPb, ZPc, ZPd, ZPe, ZPf]
      refine wpAnyH_done (by kernel_rfl) ?_ _
      refine NoPanic.normal ?_
      go_wp2_with (fail)
      go_ret
      exact ⟨rfl, hw⟩
    ·skip
     refine e_world_op (.slice (some ⟨wq76.heap.size, 0, none⟩) 2 2) (wq76.alloc (.cells #[.int .u8 0, .int .u8 1] 5)) (by kernel_rfl) ?_
     have hb : Below wq76.heap.size wq76 (wq76.alloc (.cells #[.int .u8 0, .int .u8 1] 5)) := (Below.refl _ _).alloc (Nat.le_refl _) _
     have rg110 : (wq76.alloc (.cells #[.int .u8 0, .int .u8 1] 5)).heap[wq76.heap.size]? = some (.cells (Wi.irow .u8 [0, 1]) 5 (0, 0)) := hp1_0 wq76 _
     have lt_g110_0 := lt_of_row rl7
     have lt_g110_1 := lt_of_row rl10
     have lt_g110_2 := lt_of_row rl11
     have lt_g110_3 := lt_of_row rl12
     have sz_g110 := hw.size
     replace rl7 := keep hb rl7
     replace rl10 := keep hb rl10
     replace rl11 := keep hb rl11
     replace rl12 := keep hb rl12
     replace f4 := f4.below hb
     replace hB := hB.keep hb
     replace hO := Wi.own_keep hO hb
     replace hbs := Nat.le_trans hbs hb.size
     replace hw := Below.after hw hb
     clear hb
     refine hK_ _ _ (⟨rl7, rl11⟩) ?_
     simp only [Act.put, ZPa, ZPb, ZPc, ZPd, ZPe, ZPf]
     clear hK_
     generalize (wq76.alloc (.cells #[.int .u8 0, .int .u8 1] 5)) = wq110 at *
     generalize wq76.heap.size = g110 at *
     refine eH_one (k := 4) (fuel := 15) (by kernel_rfl) rfl (by kernel_rfl) (fun K_ hK_ => ?_)
     have hbO := (bysK_own hO (by simp <;> omega) hz0k).1
     clear hO hbs
     refine wp_call_ex (f := 20) (by kernel_rfl) (ex1e (c16 _ _ f4.four hbO)) (fun v_ wq111 hX_ => ?_)
     obtain ⟨rfl, hb⟩ := hX_
     replace rl7 := keep hb rl7
     replace rl10 := keep hb rl10
     replace rl11 := keep hb rl11
     replace rl12 := keep hb rl12
     replace rg110 := keep hb rg110
     replace f4 := f4.below hb
     replace hB := hB.keep hb
     replace hw := Below.after hw hb
     clear hb
     refine hK_ _ _ (⟨rl7, rl11⟩) ?_
     simp only [Act.put, ZPa, ZPb, ZPc, ZPd, ZPe, ZPf]
     clear hK_
     refine eH_one (k := 7) (fuel := 14) (by kernel_rfl) rfl (by kernel_rfl) (fun K_ hK_ => ?_)
     refine wp_call_ex (f := 20) (by kernel_rfl) (ex1e (c14 _ _ f4.four hB.1)) (fun v_ wq112 hX_ => ?_)
     obtain ⟨rfl, hb⟩ := hX_
     replace rl7 := keep hb rl7
     replace rl10 := keep hb rl10
     replace rl11 := keep hb rl11
     replace rl12 := keep hb rl12
     replace rg110 := keep hb rg110
     replace f4 := f4.below hb
     replace hB := hB.keep hb
     replace hw := Below.after hw hb
     clear hb
     refine hK_ _ _ (⟨rl7, rl11⟩) ?_
     simp only [Act.put, ZPa, ZPb, ZPc, ZPd, ZPe, ZPf]
     clear hK_
     refine eH_one (k := 9) (fuel := 13) (by kernel_rfl) rfl (by kernel_rfl) (fun K_ hK_ => ?_)
     refine wp_call_ex (f := 20) (by kernel_rfl) (ex1e (c17 _ _ f4.four (bysK_l (l := [0, 1]) (n := 2) rg110 rfl (by decide) (by decide)).1)) (fun v_ wq113 hX_ => ?_)
     obtain ⟨rfl, hb⟩ := hX_
     replace rl7 := keep hb rl7
     replace rl10 := keep hb rl10
     replace rl11 := keep hb rl11
     replace rl12 := keep hb rl12
     replace rg110 := keep hb rg110
     replace f4 := f4.below hb
     replace hB := hB.keep hb
     replace hw := Below.after hw hb
     clear hb
     refine hK_ _ _ (⟨rl7, rl11⟩) ?_
     simp only [Act.put, ZPa, ZPb, ZPc, ZPd, ZPe, ZPf]
     clear hK_
     refine eH_one (k := 10) (fuel := 12) (by kernel_rfl) rfl (by kernel_rfl) (fun K_ hK_ => ?_)
     refine wp_call_ex (f := 57) (by kernel_rfl) (ex1e (c18.at _)) (fun v_ wq114 hX_ => ?_)
     obtain ⟨rfl, hb⟩ := hX_
     replace rl7 := keep hb rl7
     replace rl10 := keep hb rl10
     replace rl11 := keep hb rl11
     replace rl12 := keep hb rl12
     replace rg110 := keep hb rg110
     replace f4 := f4.below hb
     replace hB := hB.keep hb
     replace hw := Below.after hw hb
     clear hb
     refine hK_ _ _ (⟨rl7, rl11⟩) ?_
     simp only [Act.put, ZPa, ZPb, ZPc, ZPd, ZPe, ZPf]
     clear hK_
     refine wpAnyH_take (i := 11) (v := ?v115) rfl (by kernel_rfl) (by kernel_rfl) (by kernel_rfl) (fun _ _ _ h => h) (Or.inl ⟨by rfl, ?y115⟩) (⟨rl7, rl11⟩) ?r115
     case y115 =>
      intro w_ hS_
      go_simp
      try with_reducible rfl
     simp only [Act.put, ZPa, ZPb, ZPc, ZPd, ZPe, ZPf]
     refine wpAnyH_take (i := 13) (v := .agg xs) rfl (by kernel_rfl) (by kernel_rfl) (by kernel_rfl) (fun _ _ _ h => h) (Or.inl ⟨by rfl, ?y116⟩) (⟨rl7, rl11⟩) ?r116
     case y116 =>
      intro w_ hS_
      simp only [List.getElem_toArray, List.getElem_cons_succ, List.getElem_cons_zero]
      exact e_load_part 54 _ (by rfl) (g11) 0 (by rfl) 54 xs (0, 0) xs _ (hS_.2) (all_rowe _) Tryd.underlying54 rfl os.infoS
     simp only [Act.put, ZPa, ZPb, ZPc, ZPd, ZPe, ZPf]
     refine wpAnyH_take (i := 16) (v := .agg xs) rfl (by kernel_rfl) (by kernel_rfl) (by kernel_rfl) (fun _ _ _ h => h) (Or.inl ⟨by rfl, ?y117⟩) (⟨rl7, rl11⟩) ?r117
     case y117 =>
      intro w_ hS_
      simp only [List.getElem_toArray, List.getElem_cons_succ, List.getElem_cons_zero]
      exact e_load_part 54 _ (by rfl) (g11) 0 (by rfl) 54 xs (0, 0) xs _ (hS_.2) (all_rowe _) Tryd.underlying54 rfl os.infoS
     simp only [Act.put, ZPa, ZPb, ZPc, ZPd, ZPe, ZPf]
     refine wpAnyH_take (i := 19) (v := .agg pz) rfl (by kernel_rfl) (by kernel_rfl) (by kernel_rfl) (fun _ _ _ h => h) (Or.inl ⟨by rfl, ?y118⟩) (⟨rl7, rl11⟩) ?r118
     case y118 =>
      intro w_ hS_
      simp only [List.getElem_toArray, List.getElem_cons_succ, List.getElem_cons_zero]
      exact e_build 45 _ (by rfl) [] (by rfl) pz (by kernel_rfl)
     simp only [Act.put, ZPa, ZPb, ZPc, ZPd, ZPe, ZPf]
     refine eH_one (k := 12) (fuel := 7) (by kernel_rfl) rfl (by kernel_rfl) (fun K_ hK_ => ?_)
     refine wp_call_ex (f := 19) (by kernel_rfl) (ex1e (cB.at f4.1)) (fun v_ wq119 hX_ => ?_)
     obtain ⟨rfl, hb⟩ := hX_
     replace rl7 := keep hb rl7
     replace rl10 := keep hb rl10
     replace rl11 := keep hb rl11
     replace rl12 := keep hb rl12
     replace rg110 := keep hb rg110
     replace f4 := f4.below hb
     replace hB := hB.keep hb
     replace hw := Below.after hw hb
     clear hb
     refine hK_ _ _ (⟨rl7, rl11⟩) ?_
     simp only [Act.put, ZPa, ZPb, ZPc, ZPd, ZPe, ZPf]
     clear hK_
     refine eH_one (k := 14) (fuel := 6) (by kernel_rfl) rfl (by kernel_rfl) (fun K_ hK_ => ?_)
     refine wp_call_ex (f := 24) (by kernel_rfl) (ex1e (c19.at f4.four)) (fun v_ wq120 hX_ => ?_)
     obtain ⟨rfl, hb⟩ := hX_
     replace rl7 := keep hb rl7
     replace rl10 := keep hb rl10
     replace rl11 := keep hb rl11
     replace rl12 := keep hb rl12
     replace rg110 := keep hb rg110
     replace f4 := f4.below hb
     replace hB := hB.keep hb
     replace hw := Below.after hw hb
     clear hb
     refine hK_ _ _ (⟨rl7, rl11⟩) ?_
     simp only [Act.put, ZPa, ZPb, ZPc, ZPd, ZPe, ZPf]
     clear hK_
     refine eH_one (k := 15) (fuel := 5) (by kernel_rfl) rfl (by kernel_rfl) (fun K_ hK_ => ?_)
     refine wp_call_ex (f := 19) (by kernel_rfl) (ex1e (cB.at f4.1)) (fun v_ wq121 hX_ => ?_)
     obtain ⟨rfl, hb⟩ := hX_
     replace rl7 := keep hb rl7
     replace rl10 := keep hb rl10
     replace rl11 := keep hb rl11
     replace rl12 := keep hb rl12
     replace rg110 := keep hb rg110
     replace f4 := f4.below hb
     replace hB := hB.keep hb
     replace hw := Below.after hw hb
     clear hb
     refine hK_ _ _ (⟨rl7, rl11⟩) ?_
     simp only [Act.put, ZPa, ZPb, ZPc, ZPd, ZPe, ZPf]
     clear hK_
     refine eH_one (k := 17) (fuel := 4) (by kernel_rfl) rfl (by kernel_rfl) (fun K_ hK_ => ?_)
     refine wp_call_ex (f := 24) (by kernel_rfl) (ex1e (c19.at f4.four)) (fun v_ wq122 hX_ => ?_)
     obtain ⟨rfl, hb⟩ := hX_
     replace rl7 := keep hb rl7
     replace rl10 := keep hb rl10
     replace rl11 := keep hb rl11
     replace rl12 := keep hb rl12
     replace rg110 := keep hb rg110
     replace f4 := f4.below hb
     replace hB := hB.keep hb
     replace hw := Below.after hw hb
     clear hb
     refine hK_ _ _ (⟨rl7, rl11⟩) ?_
     simp only [Act.put, ZPa, ZPb, ZPc, ZPd, ZPe, ZPf]
     clear hK_
     refine eH_one (k := 18) (fuel := 3) (by kernel_rfl) rfl (by kernel_rfl) (fun K_ hK_ => ?_)
     refine wp_call_ex (f := 33) (by kernel_rfl) (ex1e (c20.at f4.four)) (fun v_ wq123 hX_ => ?_)
     obtain ⟨rfl, hb⟩ := hX_
     replace rl7 := keep hb rl7
     replace rl10 := keep hb rl10
     replace rl11 := keep hb rl11
     replace rl12 := keep hb rl12
     replace rg110 := keep hb rg110
     replace f4 := f4.below hb
     replace hB := hB.keep hb
     replace hw := Below.after hw hb
     clear hb
     refine hK_ _ _ (⟨rl7, rl11⟩) ?_
     simp only [Act.put, ZPa, ZPb, ZPc, ZPd, ZPe, ZPf]
     clear hK_
     refine eH_one (k := 20) (fuel := 2) (by kernel_rfl) rfl (by kernel_rfl) (fun K_ hK_ => ?_)
     refine wp_call_ex (f := 57) (by kernel_rfl) (ex1e (c21.at _)) (fun v_ wq124 hX_ => ?_)
     obtain ⟨rfl, hb⟩ := hX_
     replace rl7 := keep hb rl7
     replace rl10 := keep hb rl10
     replace rl11 := keep hb rl11
     replace rl12 := keep hb rl12
     replace rg110 := keep hb rg110
     replace f4 := f4.below hb
     replace hB := hB.keep hb
     replace hw := Below.after hw hb
     clear hb
     refine hK_ _ _ (⟨rl7, rl11⟩) ?_
     simp only [Act.put, ZPa, ZPb, ZPc, ZPd, ZPe, ZPf]
     clear hK_
     refine wpAnyH_take (i := 21) (v := ?v125) rfl (by kernel_rfl) (by kernel_rfl) (by kernel_rfl) (fun _ _ _ h => h) (Or.inl ⟨by rfl, ?y125⟩) (⟨rl7, rl11⟩) ?r125
     case y125 =>
      intro w_ hS_
      go_simp
      try with_reducible rfl
     simp only [Act.put, ZPa, ZPb, ZPc, ZPd, ZPe, ZPf]
     refine wpAnyH_take (i := 22) (v := ?v126) rfl (by kernel_rfl) (by kernel_rfl) (by kernel_rfl) (fun _ _ _ h => h) (Or.inl ⟨by rfl, ?y126⟩) (⟨rl7, rl11⟩) ?r126
     case y126 =>
      intro w_ hS_
      go_simp
      try with_reducible rfl
     simp only [Act.put, ZPa, ZPb, ZPc, ZPd, ZPe, ZPf]
     refine wpAnyH_done (by kernel_rfl) ?_ _
     refine NoPanic.normal ?_
     go_wp2_with (fail)
     go_ret
     exact ⟨rfl, hw⟩
   ·skip
    refine e_world_op (.slice (some ⟨wq75.heap.size, 0, none⟩) 2 2) (wq75.alloc (.cells #[.int .u8 0, .int .u8 1] 5)) (by kernel_rfl) ?_
    have hb : Below wq75.heap.size wq75 (wq75.alloc (.cells #[.int .u8 0, .int .u8 1] 5)) := (Below.refl _ _).alloc (Nat.le_refl _) _
    have rg127 : (wq75.alloc (.cells #[.int .u8 0, .int .u8 1] 5)).heap[wq75.heap.size]? = some (.cells (Wi.irow .u8 [0, 1]) 5 (0, 0)) := hp1_0 wq75 _
    have lt_g127_0 := lt_of_row rl7
    have lt_g127_1 := lt_of_row rl10
    have lt_g127_2 := lt_of_row rl11
    have lt_g127_3 := lt_of_row rl12
    have sz_g127 := hw.size
    have ltBg127 := hbl
    replace rl7 := keep hb rl7
    replace rl10 := keep hb rl10
    replace rl11 := keep hb rl11
    replace rl12 := keep hb rl12
    replace f4 := f4.below hb
    replace hB := hB.keep hb
    replace hO := Wi.own_keep hO hb
    replace hbs := Nat.le_trans hbs hb.size
    replace hbl := Nat.lt_of_lt_of_le hbl hb.size
    replace hw := Below.after hw hb
    clear hb
    refine hK_ _ _ (⟨rl7, rl11⟩) ?_
    simp only [Act.put, ZPa, ZPb, ZPc, ZPd, ZPe, ZPf]
    clear hK_
    generalize (wq75.alloc (.cells #[.int .u8 0, .int .u8 1] 5)) = wq127 at *
    generalize wq75.heap.size = g127 at *
    refine eH_one (k := 3) (fuel := 16) (by kernel_rfl) rfl (by kernel_rfl) (fun K_ hK_ => ?_)
    refine wp_append_C _ _ rfl gB75 (.slice (some ⟨gB75, 0, none⟩) 1 1) ([0]) rfl hO ao lb cap (k) rfl hB.1 hnone (by simp <;> omega) hbs (fun v128 wq128 hO_ hQ_ hs_ hk_ hT_ => ?_)
    replace hw := hQ_ _ _ hw hnB
    replace hO := hO_
    replace hbs := hs_
    clear hO_ hQ_ hs_
    clear hbl
    replace rl7 := hT_ _ _ _ _ (by decide) rl7
    replace rl10 := hT_ _ _ _ _ (by decide) rl10
    replace rl11 := hT_ _ _ _ _ (by decide) rl11
    replace rl12 := hT_ _ _ _ _ (by decide) rl12
    replace rg127 := (hk_ (g127) (by simp [Value.ownBlock]; omega) (lt_of_row rg127)).trans rg127
    replace f4 := hS.below hw
    replace hB := hB0.keep hw
    clear hT_ hk_
    refine hK_ _ _ (⟨rl7, rl11⟩) ?_
    simp only [Act.put, ZPa, ZPb, ZPc, ZPd, ZPe, ZPf]
    clear hK_
    refine eH_one (k := 4) (fuel := 15) (by kernel_rfl) rfl (by kernel_rfl) (fun K_ hK_ => ?_)
    have hbO := (bysK_own hO (by simp <;> omega) hz0k).1
    clear hO hbs
    refine wp_call_ex (f := 20) (by kernel_rfl) (ex1e (c16 _ _ f4.four hbO)) (fun v_ wq129 hX_ => ?_)
    obtain ⟨rfl, hb⟩ := hX_
    replace rl7 := keep hb rl7
    replace rl10 := keep hb rl10
    replace rl11 := keep hb rl11
    replace rl12 := keep hb rl12
    replace rg127 := keep hb rg127
    replace f4 := f4.below hb
    replace hB := hB.keep hb
    replace hw := Below.after hw hb
    clear hb
    refine hK_ _ _ (⟨rl7, rl11⟩) ?_
    simp only [Act.put, ZPa, ZPb, ZPc, ZPd, ZPe, ZPf]
    clear hK_
    refine eH_one (k := 7) (fuel := 14) (by kernel_rfl) rfl (by kernel_rfl) (fun K_ hK_ => ?_)
    refine wp_call_ex (f := 20) (by kernel_rfl) (ex1e (c14 _ _ f4.four hB.1)) (fun v_ wq130 hX_ => ?_)
    obtain ⟨rfl, hb⟩ := hX_
    replace rl7 := keep hb rl7
    replace rl10 := keep hb rl10
    replace rl11 := keep hb rl11
    replace rl12 := keep hb rl12
    replace rg127 := keep hb rg127
    replace f4 := f4.below hb
    replace hB := hB.keep hb
    replace hw := Below.after hw hb
    clear hb
    refine hK_ _ _ (⟨rl7, rl11⟩) ?_
    simp only [Act.put, ZPa, ZPb, ZPc, ZPd, ZPe, ZPf]
    clear hK_
    refine eH_one (k := 9) (fuel := 13) (by kernel_rfl) rfl (by kernel_rfl) (fun K_ hK_ => ?_)
    refine wp_call_ex (f := 20) (by kernel_rfl) (ex1e (c17 _ _ f4.four (bysK_l (l := [0, 1]) (n := 2) rg127 rfl (by decide) (by decide)).1)) (fun v_ wq131 hX_ => ?_)
    obtain ⟨rfl, hb⟩ := hX_
    replace rl7 := keep hb rl7
    replace rl10 := keep hb rl10
    replace rl11 := keep hb rl11
    replace rl12 := keep hb rl12
    replace rg127 := keep hb rg127
    replace f4 := f4.below hb
    replace hB := hB.keep hb
    replace hw := Below.after hw hb
    clear hb
    refine hK_ _ _ (⟨rl7, rl11⟩) ?_
    simp only [Act.put, ZPa, ZPb, ZPc, ZPd, ZPe, ZPf]
    clear hK_
    refine eH_one (k := 10) (fuel := 12) (by kernel_rfl) rfl (by kernel_rfl) (fun K_ hK_ => ?_)
    refine wp_call_ex (f := 57) (by kernel_rfl) (ex1e (c18.at _)) (fun v_ wq132 hX_ => ?_)
    obtain ⟨rfl, hb⟩ := hX_
    replace rl7 := keep hb rl7
    replace rl10 := keep hb rl10
    replace rl11 := keep hb rl11
    replace rl12 := keep hb rl12
    replace rg127 := keep hb rg127
    replace f4 := f4.below hb
    replace hB := hB.keep hb
    replace hw := Below.after hw hb
    clear hb
    refine hK_ _ _ (⟨rl7, rl11⟩) ?_
    simp only [Act.put, ZPa, ZPb, ZPc, ZPd, ZPe, ZPf]
    clear hK_
    refine wpAnyH_take (i := 11) (v := ?v133) rfl (by kernel_rfl) (by kernel_rfl) (by kernel_rfl) (fun _ _ _ h => h) (Or.inl ⟨by rfl, ?y133⟩) (⟨rl7, rl11⟩) ?r133
    case y133 =>
     intro w_ hS_
     go_simp
     try with_reducible rfl
    simp only [Act.put, ZPa, ZPb, ZPc, ZPd, ZPe, ZPf]
    refine wpAnyH_take (i := 13) (v := .agg xs) rfl (by kernel_rfl) (by kernel_rfl) (by kernel_rfl) (fun _ _ _ h => h) (Or.inl ⟨by rfl, ?y134⟩) (⟨rl7, rl11⟩) ?r134
    case y134 =>
     intro w_ hS_
     simp only [List.getElem_toArray, List.getElem_cons_succ, List.getElem_cons_zero]
     exact e_load_part 54 _ (by rfl) (g11) 0 (by rfl) 54 xs (0, 0) xs _ (hS_.2) (all_rowe _) Tryd.underlying54 rfl os.infoS
    simp only [Act.put, ZPa, ZPb, ZPc, ZPd, ZPe, ZPf]
    refine wpAnyH_take (i := 16) (v := .agg xs) rfl (by kernel_rfl) (by kernel_rfl) (by kernel_rfl) (fun _ _ _ h => h) (Or.inl ⟨by rfl, ?y135⟩) (⟨rl7, rl11⟩) ?r135
    case y135 =>
     intro w_ hS_
     simp only [List.getElem_toArray, List.getElem_cons_succ, List.getElem_cons_zero]
     exact e_load_part 54 _ (by rfl) (g11) 0 (by rfl) 54 xs (0, 0) xs _ (hS_.2) (all_rowe _) Tryd.underlying54 rfl os.infoS
    simp only [Act.put, ZPa, ZPb, ZPc, ZPd, ZPe, ZPf]
    refine wpAnyH_take (i := 19) (v := .agg pz) rfl (by kernel_rfl) (by kernel_rfl) (by kernel_rfl) (fun _ _ _ h => h) (Or.inl ⟨by rfl, ?y136⟩) (⟨rl7, rl11⟩) ?r136
    case y136 =>
     intro w_ hS_
     simp only [List.getElem_toArray, List.getElem_cons_succ, List.getElem_cons_zero]
     exact e_build 45 _ (by rfl) [] (by rfl) pz (by kernel_rfl)
    simp only [Act.put, ZPa, ZPb, ZPc, ZPd, ZPe, ZPf]
    refine eH_one (k := 12) (fuel := 7) (by kernel_rfl) rfl (by kernel_rfl) (fun K_ hK_ => ?_)
    refine wp_call_ex (f := 19) (by kernel_rfl) (ex1e (cB.at f4.1)) (fun v_ wq137 hX_ => ?_)
    obtain ⟨rfl, hb⟩ := hX_
    replace rl7 := keep hb rl7
    replace rl10 := keep hb rl10
    replace rl11 := keep hb rl11
    replace rl12 := keep hb rl12
    replace rg127 := keep hb rg127
    replace f4 := f4.below hb
    replace hB := hB.keep hb
    replace hw := Below.after hw hb
    clear hb
    refine hK_ _ _ (⟨rl7, rl11⟩) ?_
    simp only [Act.put, ZPa, ZPb, ZPc, ZPd, ZPe, ZPf]
    clear hK_
    refine eH_one (k := 14) (fuel := 6) (by kernel_rfl) rfl (by kernel_rfl) (fun K_ hK_ => ?_)
    refine wp_call_ex (f := 24) (by kernel_rfl) (ex1e (c19.at f4.four)) (fun v_ wq138 hX_ => ?_)
    obtain ⟨rfl, hb⟩ := hX_
    replace rl7 := keep hb rl7
    replace rl10 := keep hb rl10
    replace rl11 := keep hb rl11
    replace rl12 := keep hb rl12
    replace rg127 := keep hb rg127
    replace f4 := f4.below hb
    replace hB := hB.keep hb
    replace hw := Below.after hw hb
    clear hb
    refine hK_ _ _ (⟨rl7, rl11⟩) ?_
    simp only [Act.put, ZPa, ZPb, ZPc, ZPd, ZPe, ZPf]
    clear hK_
    refine eH_one (k := 15) (fuel := 5) (by kernel_rfl) rfl (by kernel_rfl) (fun K_ hK_ => ?_)
    refine wp_call_ex (f := 19) (by kernel_rfl) (ex1e (cB.at f4.1)) (fun v_ wq139 hX_ => ?_)
    obtain ⟨rfl, hb⟩ := hX_
    replace rl7 := keep hb rl7
    replace rl10 := keep hb rl10
    replace rl11 := keep hb rl11
    replace rl12 := keep hb rl12
    replace rg127 := keep hb rg127
    replace f4 := f4.below hb
    replace hB := hB.keep hb
    replace hw := Below.after hw hb
    clear hb
    refine hK_ _ _ (⟨rl7, rl11⟩) ?_
    simp only [Act.put, ZPa, ZPb, ZPc, ZPd, ZPe, ZPf]
    clear hK_
    refine eH_one (k := 17) (fuel := 4) (by kernel_rfl) rfl (by kernel_rfl) (fun K_ hK_ => ?_)
    refine wp_call_ex (f := 24) (by kernel_rfl) (ex1e (c19.at f4.four)) (fun v_ wq140 hX_ => ?_)
    obtain ⟨rfl, hb⟩ := hX_
    replace rl7 := keep hb rl7
    replace rl10 := keep hb rl10
    replace rl11 := keep hb rl11
    replace rl12 := keep hb rl12
    replace rg127 := keep hb rg127
    replace f4 := f4.below hb
    replace hB := hB.keep hb
    replace hw := Below.after hw hb
    clear hb
    refine hK_ _ _ (⟨rl7, rl11⟩) ?_
    simp only [Act.put, ZPa, ZPb, ZPc, ZPd, ZPe, ZPf]
    clear hK_
    refine eH_one (k := 18) (fuel := 3) (by kernel_rfl) rfl (by kernel_rfl) (fun K_ hK_ => ?_)
    refine wp_call_ex (f := 33) (by kernel_rfl) (ex1e (c20.at f4.four)) (fun v_ wq141 hX_ => ?_)
    obtain ⟨rfl, hb⟩ := hX_
    replace rl7 := keep hb rl7
    replace rl10 := keep hb rl10
    replace rl11 := keep hb rl11
    replace rl12 := keep hb rl12
    replace rg127 := keep hb rg127
    replace f4 := f4.below hb
    replace hB := hB.keep hb
    replace hw := Below.after hw hb
    clear hb
    refine hK_ _ _ (⟨rl7, rl11⟩) ?_
    simp only [Act.put, ZPa, ZPb, ZPc, ZPd, ZPe, ZPf]
    clear hK_
    refine eH_one (k := 20) (fuel := 2) (by kernel_rfl) rfl (by kernel_rfl) (fun K_ hK_ => ?_)
    refine wp_call_ex (f := 57) (by kernel_rfl) (ex1e (c21.at _)) (fun v_ wq142 hX_ => ?_)
    obtain ⟨rfl, hb⟩ := hX_
    replace rl7 := keep hb rl7
    replace rl10 := keep hb rl10
    replace rl11 := keep hb rl11
    replace rl12 := keep hb rl12
    replace rg127 := keep hb rg127
    replace f4 := f4.below hb
    replace hB := hB.keep hb
    replace hw := Below.after hw hb
    clear hb
    refine hK_ _ _ (⟨rl7, rl11⟩) ?_
    simp only [Act.put, ZPa, ZPb, ZPc, ZPd, ZPe, ZPf]
    clear hK_
    refine wpAnyH_take (i := 21) (v := ?v143) rfl (by kernel_rfl) (by kernel_rfl) (by kernel_rfl) (fun _ _ _ h => h) (Or.inl ⟨by rfl, ?y143⟩) (⟨rl7, rl11⟩) ?r143
    case y143 =>
     intro w_ hS_
     go_simp
     try with_reducible rfl
    simp only [Act.put, ZPa, ZPb, ZPc, ZPd, ZPe, ZPf]
    refine wpAnyH_take (i := 22) (v := ?v144) rfl (by kernel_rfl) (by kernel_rfl) (by kernel_rfl) (fun _ _ _ h => h) (Or.inl ⟨by rfl, ?y144⟩) (⟨rl7, rl11⟩) ?r144
    case y144 =>
     intro w_ hS_
     go_simp
     try with_reducible rfl
    simp only [Act.put, ZPa, ZPb, ZPc, ZPd, ZPe, ZPf]
    refine wpAnyH_done (by kernel_rfl) ?_ _
    refine NoPanic.normal ?_
    go_wp2_with (fail)
    go_ret
    exact ⟨rfl, hw⟩
  ·skip
   refine e_world_op (.slice (some ⟨wd70.heap.size, 0, none⟩) 2 2) (wd70.alloc (.cells #[.int .u8 0, .int .u8 1] 5)) (by kernel_rfl) ?_
   have hb : Below wd70.heap.size wd70 (wd70.alloc (.cells #[.int .u8 0, .int .u8 1] 5)) := (Below.refl _ _).alloc (Nat.le_refl _) _
   have rg145 : (wd70.alloc (.cells #[.int .u8 0, .int .u8 1] 5)).heap[wd70.heap.size]? = some (.cells (Wi.irow .u8 [0, 1]) 5 (0, 0)) := hp1_0 wd70 _
   have lt_g145_0 := lt_of_row rl7
   have lt_g145_1 := lt_of_row rl10
   have lt_g145_2 := lt_of_row rl11
   have lt_g145_3 := lt_of_row rl12
   have sz_g145 := hw.size
   replace rl7 := keep hb rl7
   replace rl10 := keep hb rl10
   replace rl11 := keep hb rl11
   replace rl12 := keep hb rl12
   replace f4 := f4.below hb
   replace hB := hB.keep hb
   replace hw := Below.after hw hb
   clear hb
   refine hK_ _ _ (⟨rl7, rl11⟩) ?_
   simp only [Act.put, ZPa, ZPb, ZPc, ZPd, ZPe, ZPf]
   clear hK_
   generalize (wd70.alloc (.cells #[.int .u8 0, .int .u8 1] 5)) = wq145 at *
   generalize wd70.heap.size = g145 at *
   refine eH_one (k := 1) (fuel := 17) (by kernel_rfl) rfl (by kernel_rfl) (fun K_ hK_ => ?_)
   refine e_world_op (.slice (some ⟨wq145.heap.size, 0, none⟩) 1 1) (wq145.alloc (.cells #[.int .u8 0] 5)) (by kernel_rfl) ?_
   have hb : Below wq145.heap.size wq145 (wq145.alloc (.cells #[.int .u8 0] 5)) := (Below.refl _ _).alloc (Nat.le_refl _) _
   have hO := own_lit wq145 [0] 1 rfl (by decide)
   have hbs := hb.size
   have hbl : wq145.heap.size < (wq145.alloc (.cells #[.int .u8 0] 5)).heap.size := by simp
   have hnB := hw.size
   have lt_B146_0 := lt_of_row rl7
   have lt_B146_1 := lt_of_row rl10
   have lt_B146_2 := lt_of_row rl11
   have lt_B146_3 := lt_of_row rl12
   have lt_B146_4 := lt_of_row rg145
   have sz_B146 := hw.size
   change (wq145.alloc (.cells #[.int .u8 0] 5)).ownsRow _ _ _ _ _ _ at hO
   replace rl7 := keep hb rl7
   replace rl10 := keep hb rl10
   replace rl11 := keep hb rl11
   replace rl12 := keep hb rl12
   replace rg145 := keep hb rg145
   replace f4 := f4.below hb
   replace hB := hB.keep hb
   replace hw := Below.after hw hb
   clear hb
   refine hK_ _ _ (⟨rl7, rl11⟩) ?_
   simp only [Act.put, ZPa, ZPb, ZPc, ZPd, ZPe, ZPf]
   clear hK_
   generalize (wq145.alloc (.cells #[.int .u8 0] 5)) = wq146 at *
   generalize wq145.heap.size = gB146 at *
   refine eH_one (k := 3) (fuel := 16) (by kernel_rfl) rfl (by kernel_rfl) (fun K_ hK_ => ?_)
   refine wp_append_C _ _ rfl gB146 (.slice (some ⟨gB146, 0, none⟩) 1 1) ([0]) rfl hO ao lb cap (k) rfl hB.1 hnone (by simp <;> omega) hbs (fun v147 wq147 hO_ hQ_ hs_ hk_ hT_ => ?_)
   replace hw := hQ_ _ _ hw hnB
   replace hO := hO_
   replace hbs := hs_
   clear hO_ hQ_ hs_
   clear hbl
   replace rl7 := hT_ _ _ _ _ (by decide) rl7
   replace rl10 := hT_ _ _ _ _ (by decide) rl10
   replace rl11 := hT_ _ _ _ _ (by decide) rl11
   replace rl12 := hT_ _ _ _ _ (by decide) rl12
   replace rg145 := (hk_ (g145) (by simp [Value.ownBlock]; omega) (lt_of_row rg145)).trans rg145
   replace f4 := hS.below hw
   replace hB := hB0.keep hw
   clear hT_ hk_
   refine hK_ _ _ (⟨rl7, rl11⟩) ?_
   simp only [Act.put, ZPa, ZPb, ZPc, ZPd, ZPe, ZPf]
   clear hK_
   refine eH_one (k := 4) (fuel := 15) (by kernel_rfl) rfl (by kernel_rfl) (fun K_ hK_ => ?_)
   have hbO := (bysK_own hO (by simp <;> omega) hz0k).1
   clear hO hbs
   refine wp_call_ex (f := 20) (by kernel_rfl) (ex1e (c16 _ _ f4.four hbO)) (fun v_ wq148 hX_ => ?_)
   obtain ⟨rfl, hb⟩ := hX_
   replace rl7 := keep hb rl7
   replace rl10 := keep hb rl10
   replace rl11 := keep hb rl11
   replace rl12 := keep hb rl12
   replace rg145 := keep hb rg145
   replace f4 := f4.below hb
   replace hB := hB.keep hb
   replace hw := Below.after hw hb
   clear hb
   refine hK_ _ _ (⟨rl7, rl11⟩) ?_
   simp only [Act.put, ZPa, ZPb, ZPc, ZPd, ZPe, ZPf]
   clear hK_
   refine eH_one (k := 7) (fuel := 14) (by kernel_rfl) rfl (by kernel_rfl) (fun K_ hK_ => ?_)
   refine wp_call_ex (f := 20) (by kernel_rfl) (ex1e (c14 _ _ f4.four hB.1)) (fun v_ wq149 hX_ => ?_)
   obtain ⟨rfl, hb⟩ := hX_
   replace rl7 := keep hb rl7
   replace rl10 := keep hb rl10
   replace rl11 := keep hb rl11
   replace rl12 := keep hb rl12
   replace rg145 := keep hb rg145
   replace f4 := f4.below hb
   replace hB := hB.keep hb
   replace hw := Below.after hw hb
   clear hb
   refine hK_ _ _ (⟨rl7, rl11⟩) ?_
   simp only [Act.put, ZPa, ZPb, ZPc, ZPd, ZPe, ZPf]
   clear hK_
   refine eH_one (k := 9) (fuel := 13) (by kernel_rfl) rfl (by kernel_rfl) (fun K_ hK_ => ?_)
   refine wp_call_ex (f := 20) (by kernel_rfl) (ex1e (c17 _ _ f4.four (bysK_l (l := [0, 1]) (n := 2) rg145 rfl (by decide) (by decide)).1)) (fun v_ wq150 hX_ => ?_)
   obtain ⟨rfl, hb⟩ := hX_
   replace rl7 := keep hb rl7
   replace rl10 := keep hb rl10
   replace rl11 := keep hb rl11
   replace rl12 := keep hb rl12
   replace rg145 := keep hb rg145
   replace f4 := f4.below hb
   replace hB := hB.keep hb
   replace hw := Below.after hw hb
   clear hb
   refine hK_ _ _ (⟨rl7, rl11⟩) ?_
   simp only [Act.put, ZPa, ZPb, ZPc, ZPd, ZPe, ZPf]
   clear hK_
   refine eH_one (k := 10) (fuel := 12) (by kernel_rfl) rfl (by kernel_rfl) (fun K_ hK_ => ?_)
   refine wp_call_ex (f := 57) (by kernel_rfl) (ex1e (c18.at _)) (fun v_ wq151 hX_ => ?_)
   obtain ⟨rfl, hb⟩ := hX_
   replace rl7 := keep hb rl7
   replace rl10 := keep hb rl10
   replace rl11 := keep hb rl11
   replace rl12 := keep hb rl12
   replace rg145 := keep hb rg145
   replace f4 := f4.below hb
   replace hB := hB.keep hb
   replace hw := Below.after hw hb
   clear hb
   refine hK_ _ _ (⟨rl7, rl11⟩) ?_
   simp only [Act.put, ZPa, ZPb, ZPc, ZPd, ZPe, ZPf]
   clear hK_
   refine wpAnyH_take (i := 11) (v := ?v152) rfl (by kernel_rfl) (by kernel_rfl) (by kernel_rfl) (fun _ _ _ h => h) (Or.inl ⟨by rfl, ?y152⟩) (⟨rl7, rl11⟩) ?r152
   case y152 =>
    intro w_ hS_
    go_simp
    try with_reducible rfl
   simp only [Act.put, ZPa, ZPb, ZPc, ZPd, ZPe, ZPf]
   refine wpAnyH_take (i := 13) (v := .agg xs) rfl (by kernel_rfl) (by kernel_rfl) (by kernel_rfl) (fun _ _ _ h => h) (Or.inl ⟨by rfl, ?y153⟩) (⟨rl7, rl11⟩) ?r153
   case y153 =>
    intro w_ hS_
    simp only [List.getElem_toArray, List.getElem_cons_succ, List.getElem_cons_zero]
    exact e_load_part 54 _ (by rfl) (g11) 0 (by rfl) 54 xs (0, 0) xs _ (hS_.2) (all_rowe _) Tryd.underlying54 rfl os.infoS
   simp only [Act.put, ZPa, ZPb, ZPc, ZPd, ZPe, ZPf]
   refine wpAnyH_take (i := 16) (v := .agg xs) rfl (by kernel_rfl) (by kernel_rfl) (by kernel_rfl) (fun _ _ _ h => h) (Or.inl ⟨by rfl, ?y154⟩) (⟨rl7, rl11⟩) ?r154
   case y154 =>
    intro w_ hS_
    simp only [List.getElem_toArray, List.getElem_cons_succ, List.getElem_cons_zero]
    exact e_load_part 54 _ (by rfl) (g11) 0 (by rfl) 54 xs (0, 0) xs _ (hS_.2) (all_rowe _) Tryd.underlying54 rfl os.infoS
   simp only [Act.put, ZPa, ZPb, ZPc, ZPd, ZPe, ZPf]
   refine wpAnyH_take (i := 19) (v := .agg pz) rfl (by kernel_rfl) (by kernel_rfl) (by kernel_rfl) (fun _ _ _ h => h) (Or.inl ⟨by rfl, ?y155⟩) (⟨rl7, rl11⟩) ?r155
   case y155 =>
    intro w_ hS_
    simp only [List.getElem_toArray, List.getElem_cons_succ, List.getElem_cons_zero]
    exact e_build 45 _ (by rfl) [] (by rfl) pz (by kernel_rfl)
   simp only [Act.put, ZPa, ZPb, ZPc, ZPd, ZPe, ZPf]
   refine eH_one (k := 12) (fuel := 7) (by kernel_rfl) rfl (by kernel_rfl) (fun K_ hK_ => ?_)
   refine wp_call_ex (f := 19) (by kernel_rfl) (ex1e (cB.at f4.1)) (fun v_ wq156 hX_ => ?_)
   obtain ⟨rfl, hb⟩ := hX_
   replace rl7 := keep hb rl7
   replace rl10 := keep hb rl10
   replace rl11 := keep hb rl11
   replace rl12 := keep hb rl12
   replace rg145 := keep hb rg145
   replace f4 := f4.below hb
   replace hB := hB.keep hb
   replace hw := Below.after hw hb
   clear hb
   refine hK_ _ _ (⟨rl7, rl11⟩) ?_
   simp only [Act.put, ZPa, ZPb, ZPc, ZPd, ZPe, ZPf]
   clear hK_
   refine eH_one (k := 14) (fuel := 6) (by kernel_rfl) rfl (by kernel_rfl) (fun K_ hK_ => ?_)
   refine wp_call_ex (f := 24) (by kernel_rfl) (ex1e (c19.at f4.four)) (fun v_ wq157 hX_ => ?_)
   obtain ⟨rfl, hb⟩ := hX_
   replace rl7 := keep hb rl7
   replace rl10 := keep hb rl10
   replace rl11 := keep hb rl11
   replace rl12 := keep hb rl12
   replace rg145 := keep hb rg145
   replace f4 := f4.below hb
   replace hB := hB.keep hb
   replace hw := Below.after hw hb
   clear hb
   refine hK_ _ _ (⟨rl7, rl11⟩) ?_
   simp only [Act.put, ZPa, ZPb, ZPc, ZPd, ZPe, ZPf]
   clear hK_
   refine eH_one (k := 15) (fuel := 5) (by kernel_rfl) rfl (by kernel_rfl) (fun K_ hK_ => ?_)
   refine wp_call_ex (f := 19) (by kernel_rfl) (ex1e (cB.at f4.1)) (fun v_ wq158 hX_ => ?_)
   obtain ⟨rfl, hb⟩ := hX_
   replace rl7 := keep hb rl7
   replace rl10 := keep hb rl10
   replace rl11 := keep hb rl11
   replace rl12 := keep hb rl12
   replace rg145 := keep hb rg145
   replace f4 := f4.below hb
   replace hB := hB.keep hb
   replace hw := Below.after hw hb
   clear hb
   refine hK_ _ _ (⟨rl7, rl11⟩) ?_
   simp only [Act.put, ZPa, ZPb, ZPc, ZPd, ZPe, ZPf]
   clear hK_
   refine eH_one (k := 17) (fuel := 4) (by kernel_rfl) rfl (by kernel_rfl) (fun K_ hK_ => ?_)
   refine wp_call_ex (f := 24) (by kernel_rfl) (ex1e (c19.at f4.four)) (fun v_ wq159 hX_ => ?_)
   obtain ⟨rfl, hb⟩ := hX_
   replace rl7 := keep hb rl7
   replace rl10 := keep hb rl10
   replace rl11 := keep hb rl11
   replace rl12 := keep hb rl12
   replace rg145 := keep hb rg145
   replace f4 := f4.below hb
   replace hB := hB.keep hb
   replace hw := Below.after hw hb
   clear hb
   refine hK_ _ _ (⟨rl7, rl11⟩) ?_
   simp only [Act.put, ZPa, ZPb, ZPc, ZPd, ZPe, ZPf]
   clear hK_
   refine eH_one (k := 18) (fuel := 3) (by kernel_rfl) rfl (by kernel_rfl) (fun K_ hK_ => ?_)
   refine wp_call_ex (f := 33) (by kernel_rfl) (ex1e (c20.at f4.four)) (fun v_ wq160 hX_ => ?_)
   obtain ⟨rfl, hb⟩ := hX_
   replace rl7 := keep hb rl7
   replace rl10 := keep hb rl10
   replace rl11 := keep hb rl11
   replace rl12 := keep hb rl12
   replace rg145 := keep hb rg145
   replace f4 := f4.below hb
   replace hB := hB.keep hb
   replace hw := Below.after hw hb
   clear hb
   refine hK_ _ _ (⟨rl7, rl11⟩) ?_
   simp only [Act.put, ZPa, ZPb, ZPc, ZPd, ZPe, ZPf]
   clear hK_
   refine eH_one (k := 20) (fuel := 2) (by kernel_rfl) rfl (by kernel_rfl) (fun K_ hK_ => ?_)
   refine wp_call_ex (f := 57) (by kernel_rfl) (ex1e (c21.at _)) (fun v_ wq161 hX_ => ?_)
   obtain ⟨rfl, hb⟩ := hX_
   replace rl7 := keep hb rl7
   replace rl10 := keep hb rl10
   replace rl11 := keep hb rl11
   replace rl12 := keep hb rl12
   replace rg145 := keep hb rg145
   replace f4 := f4.below hb
   replace hB := hB.keep hb
   replace hw := Below.after hw hb
   clear hb
   refine hK_ _ _ (⟨rl7, rl11⟩) ?_
   simp only [Act.put, ZPa, ZPb, ZPc, ZPd, ZPe, ZPf]
   clear hK_
   refine wpAnyH_take (i := 21) (v := ?v162) rfl (by kernel_rfl) (by kernel_rfl) (by kernel_rfl) (fun _ _ _ h => h) (Or.inl ⟨by rfl, ?y162⟩) (⟨rl7, rl11⟩) ?r162
   case y162 =>
    intro w_ hS_
    go_simp
    try with_reducible rfl
   simp only [Act.put, ZPa, ZPb, ZPc, ZPd, ZPe, ZPf]
   refine wpAnyH_take (i := 22) (v := ?v163) rfl (by kernel_rfl) (by kernel_rfl) (by kernel_rfl) (fun _ _ _ h => h) (Or.inl ⟨by rfl, ?y163⟩) (⟨rl7, rl11⟩) ?r163
   case y163 =>
    intro w_ hS_
    go_simp
    try with_reducible rfl
   simp only [Act.put, ZPa, ZPb, ZPc, ZPd, ZPe, ZPf]
   refine wpAnyH_done (by kernel_rfl) ?_ _
   refine NoPanic.normal ?_
   go_wp2_with (fail)
   go_ret
   exact ⟨rfl, hw⟩
theorem L_bval : bval (b32 L19) = ell := by rw [bval_b32 _ (by unfold L19; decide) L_lt, ell_nat]
theorem ml_modQ {Q : E1} (hQ : ml ell Q = ze) (m : Nat) : ml (m % ell) Q = ml m Q := by
 have e : m = (m / ell) * ell + m % ell := by rw [Nat.mul_comm]; exact (Nat.div_add_mod m ell).symm
 have h : ml m Q = pl (ml ((m / ell) * ell) Q) (ml (m % ell) Q) := by rw [← ml_add, ← e]
 rw [h, ← ml_ml, hQ, ml_ze, ze_pl]
theorem bval_app0 : ∀ k : List Int, bval (k ++ [0]) = bval k
 | [] => rfl
 | z :: k => by simp only [List.cons_append, bval]; rw [bval_app0 k]
theorem mult_any {N : Int} {k l : List Int} {key : Array Value} (hN0 : KeyOf key N) (w : World) {v u : Value} (hS : Sgn w) (hB : BysK w v k) (hC : BysK w u l) (hnone : ∀ a l c, v = .slice a l c → a = none → c = 0) (hlen : k.length ≤ 140737488351232) : Calls Tryd.prog 12 #[.agg key, v, u] w fun e w' => e = .returned (.bool true) ∧ Below w.heap.size w w' := by
 have hN := hN0
 rw [key_is hN0] at hN
 rw [key_is hN0]
 obtain ⟨ao, cap, rfl, _⟩ := hB.slc
 obtain ⟨bo, bc, rfl, _⟩ := hC.slc
 have hkz : ∀ z ∈ k, 0 ≤ z ∧ z < 256 := by obtain ⟨⟨_, _, _, _, _, h⟩, _⟩ := hB; exact h
 have hzk0 : ∀ z ∈ [] ++ k ++ [0], 0 ≤ z ∧ z < 256 := fun z h => by
  rcases List.mem_append.1 h with h | h
  ·exact hkz z (by simpa using h)
  ·simp at h; rw [h]; decide
 have hz0k : ∀ z ∈ [0] ++ k, 0 ≤ z ∧ z < 256 := fun z h => by
  rcases List.mem_append.1 h with h | h
  ·simp at h; rw [h]; decide
  ·exact hkz z h
 have hs := mod_L (bval k : Int)
 have ht := mod_L (bval l : Int)
 have es : ((bval k : Int) % L19).toNat = bval k % ell := by rw [L_ell, Int.toNat_emod (by omega) (by decide)]; rfl
 have et : ((bval l : Int) % L19).toNat = bval l % ell := by rw [L_ell, Int.toNat_emod (by omega) (by decide)]; rfl
 obtain ⟨xp, hp, cP⟩ := a_Parse hN
 obtain ⟨x8, h8, cS8⟩ := a_Scale hp [8] (by decide)
 have e8 : bval [8] = 8 := rfl
 rw [e8] at h8
 have hQ : ml ell (ml 8 (pp N)) = ze := by rw [ml_ml, Nat.mul_comm]; exact all_gone _
 obtain ⟨xb, hb, cB⟩ := a_Base
 obtain ⟨y1, hy1, cSo⟩ := a_Scale hb (b32 L19) (b32_bd _)
 rw [L_bval, bp_order] at hy1
 obtain ⟨y2, hy2, cS8o⟩ := a_Scale h8 (b32 L19) (b32_bd _)
 rw [L_bval, hQ] at hy2
 have cN1 := a_IsNeutral hy1
 rw [eqb_self] at cN1
 have cN2 := a_IsNeutral hy2
 rw [eqb_self] at cN2
 have hst := mod_L ((bval k : Int) % L19 + (bval l : Int) % L19)
 have est : (((bval k : Int) % L19 + (bval l : Int) % L19) % L19).toNat = (bval k + bval l) % ell := by
  rw [← Int.add_emod, L_ell, Int.toNat_emod (by omega) (by decide)]
  first | done | rfl | (congr 1; omega)
 have hmt := mod_L ((bval k : Int) % L19 * ((bval l : Int) % L19))
 have emt : ((bval k : Int) % L19 * ((bval l : Int) % L19) % L19).toNat = (bval k * bval l) % ell := by
  rw [← Int.mul_emod, L_ell, Int.toNat_emod (Int.mul_nonneg (by omega) (by omega)) (by decide)]
  first | done | rfl | (congr 1)
 obtain ⟨z1, hz1, c2⟩ := a_Times h8 hst
 obtain ⟨z2, hz2, c3⟩ := a_Times h8 hs
 obtain ⟨z3, hz3, c4⟩ := a_Times h8 ht
 obtain ⟨z4, hz4, c5⟩ := a_Add hz2 hz3
 obtain ⟨z5, hz5, c8⟩ := a_Times h8 hmt
 obtain ⟨z6, hz6, c9⟩ := a_Times hz3 hs
 obtain ⟨z7, hz7, c11⟩ := a_Scale h8 k hkz
 obtain ⟨z8, hz8, c13⟩ := a_Scale hp ([] ++ k ++ [0]) hzk0
 obtain ⟨z9, hz9, c14⟩ := a_Scale hp k hkz
 obtain ⟨z10, hz10, c16⟩ := a_Scale hp ([0] ++ k) hz0k
 obtain ⟨z11, hz11, c17⟩ := a_Scale hz9 [0, 1] (by decide)
 obtain ⟨z12, hz12, c19⟩ := a_Times hb hs
 obtain ⟨z13, hz13, c20⟩ := a_Sub hz12 hz12
 rw [est, ml_modQ hQ] at hz1
 rw [es, ml_modQ hQ] at hz2
 rw [emt, ml_modQ hQ] at hz5
 have hQ2 : ml ell (ml (bval l % ell) (ml 8 (pp N))) = ze := by rw [ml_ml, Nat.mul_comm, ← ml_ml, hQ, ml_ze]
 rw [es, et, ml_modQ hQ2, ml_modQ hQ] at hz6
 refine mult_walk hp h8 (wdo _) (wdo _) w hS hB hC a_lives2 cP cS8 cB cSo cN1 cS8o cN2 (fun W h1 h2 => a_Reduce k W _ h1 h2) (fun W h1 h2 => a_Reduce l W _ h1 h2) (a_sadd hs ht) c2 c3 c4 c5 (a_samep hz1 hz4 ?_) (a_smul hs ht) c8 c9 (a_samep hz5 hz6 ?_) c11 (a_samep hz7 hz2 rfl) c13 c14 (a_samep hz8 hz9 ?_) c16 c17 (a_samep hz10 hz11 ?_) c19 c20 (a_samep hz13 pt_zero (pl_ng _)) (fun e => hnone _ _ _ rfl e) hlen hzk0 hz0k
 ·rw [es, et, ml_modQ hQ, ml_modQ hQ]; exact ml_add _ _ _
 ·rw [ml_ml, ml_ml, ml_ml, Nat.mul_assoc]
 ·rw [List.nil_append, bval_app0]
 ·rw [ml_ml]
  congr 1
  simp [bval]
end Go.Proofs.YtajaiiidafkijaaDoor

