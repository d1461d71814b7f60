import Derived.Test.YtgbkbcgjagcgbaaGreatDoorProg
import Derived.WalkKit
import Derived.WalkSpells
import Derived.WalkLawsBesides
import Derived.Lib.QuietBelow
import Derived.BigQuiet
import Derived.Test.YtgbkbcgjagcgbaaGreatDoorKa
import Derived.Test.YtgbkbcgjagcgbaaGreatDoorSgn
import Derived.Deep.RegionLaw
import Derived.Deep.RegionHeld3
namespace Go.Proofs.YtgbkbcgjagcgbaaGreatDoor
set_option maxRecDepth 100000
open Go Go.RowKit Go.Sort
attribute [local go_sem] setCell_drewN alloc_drewN
theorem step_call {P : Program} {ops : Array Oper} {o : Oper} {a : Act} {w : World} {K : Act → World → Prop} {Q : Exit → Act → World → Prop} {E : Prop} (f : FuncId) (args : Array Value) {R : Value → World → Prop}
   (hg : o.guard = none) (hx : (execOp a.eval o).run P w = .ok (.enter f args) w) (c : Calls P f args w fun e w' => ∃ v, e = .returned v ∧ R v w') (h : ∀ v w', R v w' → K (a.put o.dst v) w') :
   if Region.wanted o (yielded ops a.tmps) = true then Oper.wp P o a w K Q else E := by
 have hw : Region.wanted o (yielded ops a.tmps) = true := by simp [Region.wanted, hg]
 rw [if_pos hw]
 unfold Oper.wp
 rw [hx, Oper.upon_enter]
 exact c.mono fun e w' ⟨v, he, hb⟩ => by subst he; exact h v w' hb
def NB (W : World) (v : Value) (bs : List Int) : Prop := Bys W v bs ∧ (∀ a l c, v = .slice a l c → a = none → c = 0)
theorem NB.keep {W W' : World} {v : Value} {bs : List Int} (h : NB W v bs) (hb : Below W.heap.size W W') : NB W' v bs := ⟨h.1.keep hb, h.2⟩
theorem BysM.nb {W : World} {v : Value} {bs : List Int} (h : BysM W v bs) : NB W v bs := ⟨h.1, h.2.2⟩
theorem NB.m {W : World} {v : Value} {bs : List Int} (h : NB W v bs) (hl : bs.length ≤ 211106232532992) : BysM W v bs := ⟨h.1, hl, h.2⟩
theorem NB.of_row {W : World} {g : Nat} {l : List Int} {t : TypeId} (hg : W.heap[g]? = some (.cells (irow .u8 l) t (0, 0))) (hl : l.length ≤ 9223372036854775807) (hz : ∀ z ∈ l, 0 ≤ z ∧ z < 256) (n cap : Nat) (hn : l.length = n) : NB W (.slice (some ⟨g, 0, none⟩) n cap) l := ⟨by rw [← hn]; exact Bys.of_row hg hl hz cap, fun a _ _ h ha => by cases h; cases ha⟩
theorem NB.of_own {W : World} {b n : Nat} {v : Value} {l : List Int} (h : W.ownsRow b 5 1 v n (l.map (Value.int .u8))) (hl : l.length ≤ 9223372036854775807) (hz : ∀ z ∈ l, 0 ≤ z ∧ z < 256) : NB W v l := ⟨Bys.of_own h hl hz, own_nil h⟩
theorem nb_nil (W : World) : NB W (.slice none 0 0) [] := ⟨bys_nil W, fun a l c h _ => by cases h; rfl⟩
theorem NB.form {W : World} {v : Value} {bs : List Int} (h : NB W v bs) : ∃ u uc, v = .slice u bs.length uc ∧ (u = none → uc = 0) := by
 obtain ⟨⟨u, uc, rfl, _⟩, hn⟩ := h
 exact ⟨u, uc, rfl, hn _ _ _ rfl⟩
theorem Pcs.of_row {W : World} {g : Nat} {t : TypeId} {vs : List Value} {ps : List (List Int)} (hg : W.heap[g]? = some (.cells vs.toArray t (0, 0))) (hl : vs.length = ps.length) (hs : ps.length ≤ 9223372036854775807) (h : ∀ i v, vs[i]? = some v → NB W v (ps.getD i [])) (n : Nat) (hn : ps.length = n) : Pcs W (.slice (some ⟨g, 0, none⟩) n n) ps := by
 subst hn
 refine ⟨_, _, rfl, hs, fun i hi => ?_⟩
 have hv : vs[i]? = some vs[i] := List.getElem?_eq_getElem (by omega)
 have hb := h i _ hv
 obtain ⟨u, uc, e, hu⟩ := hb.form
 refine ⟨g, 0, u, uc, rfl, lt_of_row hg, ?_, by rw [← e]; exact hb.1, hu⟩
 rw [Nat.zero_add, cell_of hg (by rw [List.getElem?_toArray]; exact hv), e]
theorem Pcs.two {W : World} {g : Nat} {t : TypeId} {v0 v1 : Value} {a b : List Int} (hg : W.heap[g]? = some (.cells #[v0, v1] t (0, 0))) (h0 : NB W v0 a) (h1 : NB W v1 b) : Pcs W (.slice (some ⟨g, 0, none⟩) 2 2) [a, b] :=
 Pcs.of_row (vs := [v0, v1]) hg rfl (by simp) (fun i v hv => by
   match i, hv with
   | 0, hv => cases hv; exact h0
   | 1, hv => cases hv; exact h1
   | (k + 2), hv => simp at hv) 2 rfl
theorem Pcs.three {W : World} {g : Nat} {t : TypeId} {v0 v1 v2 : Value} {a b c : List Int} (hg : W.heap[g]? = some (.cells #[v0, v1, v2] t (0, 0))) (h0 : NB W v0 a) (h1 : NB W v1 b) (h2 : NB W v2 c) : Pcs W (.slice (some ⟨g, 0, none⟩) 3 3) [a, b, c] :=
 Pcs.of_row (vs := [v0, v1, v2]) hg rfl (by simp) (fun i v hv => by
   match i, hv with
   | 0, hv => cases hv; exact h0
   | 1, hv => cases hv; exact h1
   | 2, hv => cases hv; exact h2
   | (k + 3), hv => simp at hv) 3 rfl
theorem Pcs.one {W : World} {g : Nat} {t : TypeId} {v0 : Value} {a : List Int} (hg : W.heap[g]? = some (.cells #[v0] t (0, 0))) (h0 : NB W v0 a) : Pcs W (.slice (some ⟨g, 0, none⟩) 1 1) [a] :=
 Pcs.of_row (vs := [v0]) hg rfl (by simp) (fun i v hv => by
   match i, hv with
   | 0, hv => cases hv; exact h0
   | (k + 1), hv => simp at hv) 1 rfl
theorem slice_k (g : Nat) (W : World) : (Instr.sliceAt 23 (.pointer (some ⟨g, 0, none⟩)) none none none).run Tryz.prog W = .ok (.slice (some ⟨g, 0, none⟩) 32 32) W := by kernel_rfl
theorem storeK {W : World} {g : Nat} {old l : List Int} {t : TypeId} (hg : W.heap[g]? = some (.cells (irow .u8 old) t (0, 0))) (ho : old.length = 32) (hl : l.length = 32) : (storeCells ⟨g, 0, none⟩ (irow .u8 l).toList).run Tryz.prog W = .ok () (W.setRow g (irow .u8 l)) := by
 have h := run_storeCells_from (P := Tryz.prog) g t (irow .u8 l).toList 0 (irow .u8 old) W hg (by rw [Array.length_toList, irow_size, irow_size]; omega) (fun v hv => (Array.all_eq_true_iff_forall_mem.1 (irow_one .u8 l)) v (by simpa using hv))
 rw [h, List.take_zero, List.nil_append, Array.toArray_toList]
set_option maxRecDepth 100000 in
set_option maxHeartbeats 4000000 in
theorem r_sum4 (key bs : List Int) (w : World) (vk vb : Value) (hK : BysM w vk key) (hB : BysM w vb bs) (hbl : bs.length ≤ 140737488355264) : Calls Tryz.prog 61 #[vk, vb] w fun e w' => e = .returned (.agg (irow .u8 (hm key bs))) ∧ Below w.heap.size w w' := by
 have hL1 := sumL_len (kin key ++ bs)
 have hL2 := hm_len key bs
 have hB1 := sumL_bd (kin key ++ bs)
 have hil := kin_len key
 have hol := kout_len key
 have hbz := bys_bd hB.1
 have hB0 := hB
 have r4 := hp1_0 w (.cells (irow .u8 (zr 32)) 23)
 have hw : Below w.heap.size w (w.alloc (.cells (irow .u8 (zr 32)) 23)) := (Below.refl _ _).alloc (Nat.le_refl _) _
 replace hK := hK.keep hw
 replace hB := hB.keep hw
 go_enter Tryz.func61, Tryz.ntmps61
 go_wp2_with (first | (refine wpList_alloc rfl 23 rfl (irow .u8 (zr 32)) zkey ?_) | fail)
 generalize w.alloc (.cells (irow .u8 (zr 32)) 23) = w0 at *
 refine (r_blockKey key 54 w0 vk hK).mono ?_
 rintro e_ w1 ⟨vr, g1, rfl, rfl, hg1, r1, hb⟩
 replace r4 := keep hb r4
 replace hK := hK.keep hb
 replace hB := hB.keep hb
 replace hw := Below.after hw hb
 clear hb hg1
 change w1.heap[g1]? = some (.cells (irow .u8 (kin key)) 5 (0, 0)) at r1
 have hba : Below w1.heap.size w1 (w1.alloc (.cells #[.slice (some ⟨g1, 0, none⟩) 64 64, vb] 28)) := (Below.refl _ _).alloc (Nat.le_refl _) _
 have hP := Pcs.two (hp1_0 w1 (.cells #[.slice (some ⟨g1, 0, none⟩) 64 64, vb] 28)) (NB.of_row (keep hba r1) (by omega) (kin_bd key) 64 64 hil) (hB.nb.keep hba)
 replace r4 := keep hba r4
 replace hK := hK.keep hba
 replace hw := Below.after hw hba
 clear hba r1 hB
 obtain ⟨ub, ubc, rfl, _⟩ : ∃ u uc, vb = .slice u bs.length uc ∧ True := by obtain ⟨u, uc, e, _⟩ := hB0.1; exact ⟨u, uc, e, trivial⟩
 go_wp2_with (fail)
 generalize w1.alloc (.cells #[.slice (some ⟨g1, 0, none⟩) 64 64, .slice ub bs.length ubc] 28) = w2 at *
 refine (r_joined [kin key, bs] w2 _ hP (by simp; omega)).mono ?_
 rintro e_ w3 ⟨vj, rfl, hown, hb⟩
 replace r4 := keep hb r4
 replace hK := hK.keep hb
 replace hw := Below.after hw hb
 clear hb hP
 have ef : [kin key, bs].flatten = kin key ++ bs := by simp
 rw [ef] at hown
 have hM := NB.of_own hown (by rw [List.length_append]; omega) (both_bd (kin_bd key) hbz)
 clear hown ef
 go_wp2_with (fail)
 refine (r_sumM (kin key ++ bs) w3 vj (hM.m (by rw [List.length_append]; omega))).mono ?_
 rintro e_ w4 ⟨rfl, hb⟩
 replace r4 := keep hb r4
 replace hK := hK.keep hb
 replace hw := Below.after hw hb
 clear hb hM
 have eH : hm key bs = sumL (kout key ++ sumL (kin key ++ bs)) := rfl
 rw [eH] at hL2
 replace eH := hide eH
 generalize sumL (kin key ++ bs) = I at *
 have r5 := hp1_0 w4 (.cells (irow .u8 I) 23)
 have hba : Below w4.heap.size w4 (w4.alloc (.cells (irow .u8 I) 23)) := (Below.refl _ _).alloc (Nat.le_refl _) _
 replace r4 := keep hba r4
 replace hK := hK.keep hba
 have hw5 := Below.after hw hba
 clear hba
 go_wp2_with (first | (refine wpList_alloc rfl 23 rfl (irow .u8 (zr 32)) zkey ?_) | (refine wpList_store_row rfl 23 _ _ rfl (w4.heap.size) (irow .u8 I) rfl rfl 23 _ (hp1_0 w4 _) (infok8 _ hL1) (fit32 _ _ (zr_len 32) hL1) (irow_one _ _) ?_; rw [setRow_alloc_new _ _ _ _ _ _ rfl]) | fail)
 replace hw := hw5
 clear hw5
 generalize w4.alloc (.cells (irow .u8 I) 23) = w5 at *
 generalize w4.heap.size = G5 at *
 have sk := slice_k G5
 have hbd : Below w5.heap.size w5 w5.drew := below_drN (Below.refl _ _) 1
 replace r4 := keep hbd r4
 replace r5 := keep hbd r5
 replace hK := hK.keep hbd
 replace hw := Below.after hw hbd
 clear hbd
 refine wp_region_noPanic ?_
 have ef : [kout key, I].flatten = kout key ++ I := by simp
 go_region_law
   ((first
     | (refine step_call (R := fun v w' => ∃ g, v = .slice (some ⟨g, 0, none⟩) 64 64 ∧ w5.drew.heap.size ≤ g ∧ w'.heap[g]? = some (.cells (irow .u8 (kout key)) 5 (0, 0)) ∧ Below w5.drew.heap.size w5.drew w') 86 _ (by rfl) (by kernel_rfl) ((r_blockKey key 92 _ vk hK).mono fun e w' ⟨vr, g, e1, h⟩ => ⟨vr, e1, g, h⟩) ?_
        rintro v6 w6 ⟨g6, rfl, hg6, r6, hb6⟩
        have hba : Below w6.heap.size w6 (w6.alloc (.cells #[.slice (some ⟨g6, 0, none⟩) 64 64, .slice (some ⟨G5, 0, none⟩) 32 32] 28)) := (Below.refl _ _).alloc (Nat.le_refl _) _
        have hP := Pcs.two (hp1_0 w6 (.cells #[.slice (some ⟨g6, 0, none⟩) 64 64, .slice (some ⟨G5, 0, none⟩) 32 32] 28)) (NB.of_row (keep hba r6) (by omega) (kout_bd key) 64 64 hol) (NB.of_row (keep hba (keep hb6 r5)) (by omega) hB1 32 32 hL1)
        replace r4 := keep hba (keep hb6 r4)
        replace hw := Below.after (Below.after hw hb6) hba
        clear hba hb6)
     | (refine step_call (R := fun v w' => w'.ownsRow (w6.alloc (.cells #[.slice (some ⟨g6, 0, none⟩) 64 64, .slice (some ⟨G5, 0, none⟩) 32 32] 28)).heap.size 5 1 v [kout key, I].flatten.length ([kout key, I].flatten.map (Value.int .u8)) ∧ Below (w6.alloc (.cells #[.slice (some ⟨g6, 0, none⟩) 64 64, .slice (some ⟨G5, 0, none⟩) 32 32] 28)).heap.size (w6.alloc (.cells #[.slice (some ⟨g6, 0, none⟩) 64 64, .slice (some ⟨G5, 0, none⟩) 32 32] 28)) w') 62 _ (by rfl) (by kernel_rfl) (r_joined [kout key, I] _ _ hP (by simp; omega)) ?_
        rintro v8 w8 ⟨hown, hb8⟩
        rw [ef] at hown
        have hM := (NB.of_own hown (by rw [List.length_append]; omega) (both_bd (kout_bd key) hB1)).m (by rw [List.length_append]; omega)
        replace r4 := keep hb8 r4
        replace hw := Below.after hw hb8
        clear hown hb8)
     | (refine step_call (R := fun v w' => v = .agg (irow .u8 (sumL (kout key ++ I))) ∧ Below w8.heap.size w8 w') 85 _ (by rfl) (by kernel_rfl) ((r_sumM (kout key ++ I) _ v8 hM).mono fun e w' ⟨e1, h⟩ => ⟨_, e1, rfl, h⟩) ?_
        rintro v9 w9 ⟨rfl, hb9⟩
        replace r4 := keep hb9 r4
        replace hw := Below.after hw hb9
        have hsv := storeK r4 (zr_len 32) hL2
        have hsz := (irow_size .u8 (sumL (kout key ++ I))).trans hL2
        clear hb9)))
 refine NoPanic.normal ?_
 replace r4 := setRow_heap w9 (w.heap.size) _ (irow .u8 (sumL (kout key ++ I))) _ _ r4
 replace hw := below_setRow hw (Nat.le_refl _) (irow .u8 (sumL (kout key ++ I)))
 clear hsv
 generalize w9.setRow (w.heap.size) (irow .u8 (sumL (kout key ++ I))) = wz at *
 go_wp2
 exact bodyPost_ret (v := .agg (irow .u8 (sumL (kout key ++ I)))) (results_cell_row Tryz.results61 _ _ (w.heap.size) _ _ _ _ rfl r4 Tryz.underlying23 rfl (infok8 _ hL2)) rfl ⟨by rw [eH.out], hw⟩
end Go.Proofs.YtgbkbcgjagcgbaaGreatDoor
