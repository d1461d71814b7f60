import Derived.Test.YtbaefbfejmpliaaGreatDoorJrg
import Derived.Test.YtbaefbfejmpliaaGreatDoorQb8
import Derived.OwnWalk
import Derived.Deep.Cut
import Derived.Deep.RegionHeld3
namespace Go.Proofs.YtbaefbfejmpliaaGreatDoor
set_option maxRecDepth 100000
open Go Go.RowKit Go.Sort
attribute [local go_sem] setCell_drewN alloc_drewN
theorem bsl_big : 0 ≤ slL bsl 10000 := by simp [bsl, slL]
theorem rdc_keep {W V : World} {g : Nat} {ts : List Slt} (h : Rdc W g ts) (hb : Below W.heap.size W V) : Rdc V g ts := by
  obtain ⟨u, h1, h2⟩ := h
  exact ⟨u, keep hb h1, h2.keep hb⟩
theorem Rdc.keep {W V : World} {g : Nat} {ts : List Slt} (h : Rdc W g ts) (hb : Below W.heap.size W V) : Rdc V g ts := rdc_keep h hb
set_option maxRecDepth 100000 in
set_option maxHeartbeats 8000000 in
theorem r_shape14 (w : World) : Calls Tryz.prog 40 #[] w fun e w' => ∃ v, e = .returned v ∧ (∃ q, v = .pointer (some ⟨q, 0, none⟩) ∧ w.heap.size ≤ q ∧ Rdc w' q bsl) ∧ Below w.heap.size w w' := by
  have cK := r_Compile (W := w.alloc (.cells bcs 88)) (bsl_slo ⟨_, hp1_0 w _⟩) bsl_big (w.alloc (.cells bcs 88)) (Below.refl _ _)
  have hba : Below w.heap.size w (w.alloc (.cells bcs 88)) := (Below.refl _ _).alloc (Nat.le_refl _) _
  have A1 := hide hba
  clear hba
  unfold bcs at *
  go_enter Tryz.func40, Tryz.ntmps40
  go_wp2_with (fail)
  refine cK.mono ?_
  rintro e_ w1 ⟨hb, hq⟩
  rcases hq with ⟨_, q, u, rfl, hq1, hq2, hq3⟩ | ⟨hq, _⟩
  · have A2 := hide (show Rdc w1 q bsl from ⟨u, hq2, hq3.slo⟩)
    have A3 := hide (Below.after A1.out hb)
    have hs := A1.out.size
    clear cK hq2 hq3 hb
    go_wp2_with (fail)
    go_ret
    exact ⟨_, rfl, ⟨q, rfl, Nat.le_trans hs hq1, A2.out⟩, A3.out⟩
  · exact absurd bsl_vld hq
theorem bKy14 (cs : Array Value) (W : World) : (Instr.box 23 (.agg cs)).run Tryz.prog W = .ok (.pointer (some ⟨W.heap.size, 0, none⟩)) (W.alloc (.cells cs 23)) := by kernel_rfl
set_option maxRecDepth 100000 in
set_option maxHeartbeats 8000000 in
theorem r_bytes14 (k : List B) (lk : k.length = 32) (w : World) : Calls Tryz.prog 41 #[.agg (irow .u8 (bl k))] w fun e w' => ∃ v, e = .returned v ∧ (∃ ua uc, v = .agg #[.int .u64 0, .slice ua 32 uc, .slice none 0 0] ∧ Own w' w.heap.size (.slice ua 32 uc) k) ∧ Below w.heap.size w w' := by
  have RK := hp2_0 w (.cells (irow .u8 (bl k)) 23) (.cells #[.int .u64 0, .slice none 0 0, .slice none 0 0] 62)
  have RV := hp2_1 w (.cells (irow .u8 (bl k)) 23) (.cells #[.int .u64 0, .slice none 0 0, .slice none 0 0] 62)
  have hw : Below w.heap.size w ((w.alloc (.cells (irow .u8 (bl k)) 23)).alloc (.cells #[.int .u64 0, .slice none 0 0, .slice none 0 0] 62)) := ((Below.refl _ _).alloc (Nat.le_refl _) _).alloc (by simp) _
  have skA := slice_ko w.heap.size 0
  go_enter Tryz.func41, Tryz.ntmps41
  go_upto_region 1 with (first | (refine wpList_box rfl 23 _ rfl _ rfl (bKy14 _) ?_) | fail)
  try simp only [size_alloc1, Act.put, List.setIfInBounds_toArray, List.set_cons_succ, List.set_cons_zero]
  generalize ((w.alloc (.cells (irow .u8 (bl k)) 23)).alloc (.cells #[.int .u64 0, .slice none 0 0, .slice none 0 0] 62)) = w0 at *
  have hba : Below w0.heap.size w0 (w0.alloc (.cells #[] 5)) := (Below.refl _ _).alloc (Nat.le_refl _) _
  have hRV0 := lt_of_row RV
  have hO0 := own_nil w0
  have hBk : BysB (w0.alloc (.cells #[] 5)) (.slice (some ⟨w.heap.size, 0, none⟩) 32 32) k := mid_bys (keep hba RK) lk (all_rowB _)
  go_wp2_with (at_builtin; refine wpList_append_B rfl _ _ rfl w0.heap.size _ [] rfl hO0 _ k rfl hBk (by rw [List.length_nil, lk]; omega) hba.size ?_)
  intro v4 w4 hX hgr
  replace hX : Own w4 w0.heap.size v4 k := hX
  have hb : Below w0.heap.size w0 w4 := hba.grown hgr hba.size (own_low hO0)
  clear hba hO0 hgr hBk skA RK
  replace RV := keep hb RV
  have hlt := hw.size
  replace hw := Below.after hw hb
  obtain ⟨ua, uc, rfl⟩ := slen_own hX
  rw [lk] at *
  have hne : ∀ q, (Value.slice ua 32 uc).ownBlock = some q → w0.heap.size ≤ q := own_low hX
  have hlV : w.heap.size + 1 < w0.heap.size := hRV0
  have hone : (#[Value.int .u64 0, .slice ua 32 uc, .slice none 0 0] : Array Value).all (·.oneCell') = true := by simp [Value.oneCell']
  have r2 := setRow_heap w4 (w.heap.size + 1) _ (#[.int .u64 0, .slice ua 32 uc, .slice none 0 0]) _ _ RV
  have hb6 := below_setRow (g := w.heap.size + 1) hw (by omega) #[.int .u64 0, .slice ua 32 uc, .slice none 0 0]
  have hU6 : Own (w4.setRow (w.heap.size + 1) #[.int .u64 0, .slice ua 32 uc, .slice none 0 0]) w.heap.size (.slice ua 32 uc) k := own_down (own_but hX fun q hq => setRow_other w4 (w.heap.size + 1) q _ (by have := hne q hq; omega)) hlt
  have A1 := hide hb6
  have A2 := hide r2
  have A3 := hide hU6
  clear hb6 r2 hU6 hX hw hb hne
  go_wp2_with (first | (refine wpList_store_row rfl 62 _ _ rfl (w.heap.size + 1) #[.int .u64 0, .slice ua 32 uc, .slice none 0 0] rfl rfl 62 _ RV infoV rfl hone ?_) | fail)
  exact bodyPost_ret (v := .agg #[.int .u64 0, .slice ua 32 uc, .slice none 0 0]) (results_cell_row Tryz.results41 _ _ (w.heap.size + 1) _ _ _ _ rfl A2.out Tryz.underlying62 rfl infoV) rfl ⟨_, rfl, ⟨_, _, rfl, A3.out⟩, A1.out⟩
end Go.Proofs.YtbaefbfejmpliaaGreatDoor
