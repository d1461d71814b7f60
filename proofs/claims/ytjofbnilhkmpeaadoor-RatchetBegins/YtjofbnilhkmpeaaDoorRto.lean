import Derived.Test.YtjofbnilhkmpeaaDoorProg
import Derived.WalkKit
import Derived.WalkSpells
import Derived.WalkLawsBesides
import Derived.Lib.QuietBelow
import Derived.BigQuiet
import Derived.OrdersHeld
import Derived.Deep.RegionHeld3
import Derived.OwnWalk
import Derived.Deep.CutRange
import Derived.Test.YtjofbnilhkmpeaaDoorKa
import Derived.Test.YtjofbnilhkmpeaaDoorRtn
namespace Go.Proofs.YtjofbnilhkmpeaaDoor
set_option maxRecDepth 100000
open Go Go.RowKit Go.Sort Go.ChangeMaps Go.MapKept
attribute [local go_sem] setCell_drewN alloc_drewN

/-- One side of a beginning: none, or a ratchet with the document's state. -/
def Sd1 (W : World) (base : Nat) (x : Option Addr) (s : Stt) : Prop := x = none ∨ ∃ g b v, x = some ⟨g, 0, none⟩ ∧ StR W base g b v s.cs [] s 67
theorem Sd1.keep {W V : World} {base : Nat} {x : Option Addr} {s : Stt} (h : Sd1 W base x s) (hb : Below W.heap.size W V) : Sd1 V base x s := by
  rcases h with h | ⟨g, b, v, e, hS⟩
  · exact .inl h
  · exact .inr ⟨g, b, v, e, hS.keep hb⟩
theorem Sd1.low {W V : World} {base g0 : Nat} {cs : Array Value} {x : Option Addr} {s : Stt} (h : Sd1 W base x s) (hb : g0 < base) (hV : V = W.setRow g0 cs) : Sd1 V base x s := by
  subst hV
  rcases h with h | ⟨g, b, v, e, hS⟩
  · exact .inl h
  · exact .inr ⟨g, b, v, e, hS.move (fun k hk => setRow_other _ _ _ _ (by have := (hS.low k hk).1; omega))⟩
theorem Sd1.down {W : World} {base c : Nat} {x : Option Addr} {s : Stt} (h : Sd1 W base x s) (hc : c ≤ base) : Sd1 W c x s := by
  rcases h with h | ⟨g, b, v, e, hS⟩
  · exact .inl h
  · exact .inr ⟨g, b, v, e, ⟨hS.row, own_down hS.own hc, hS.map, hS.ok, hS.nod, hS.most0, hS.len, by have := hS.bg; omega, by have := hS.bb; omega, hS.ne, hS.sok⟩⟩
def BgR (b : Bgn) (w : World) (e : Ending) (w' : World) : Prop := ∃ gw x y s t bad, e = .returned (.tuple #[.pointer (some ⟨gw, 0, none⟩), .bool true]) ∧ w'.heap[gw]? = some (.cells (wdrow (.pointer x) (.pointer y) s t (.slice none 0 0) bad) 42 (0, 0)) ∧ s.ok ∧ t.ok ∧ s.sp = (.slice none 0 0) ∧ t.sp = (.slice none 0 0) ∧
  ((x = none ∧ s = zst ∧ rck (alS b.av b.ak b.ac b.sh b.pe b.hA b.hB) [] ≠ 0) ∨ (x ≠ none ∧ s = (alS b.av b.ak b.ac b.sh b.pe b.hA b.hB) ∧ rck (alS b.av b.ak b.ac b.sh b.pe b.hA b.hB) [] = 0)) ∧ ((y = none ∧ t = zst ∧ rck (boS b.bv b.bk b.bc b.sh b.opr b.opu b.hA b.hB) [] ≠ 0) ∨ (y ≠ none ∧ t = (boS b.bv b.bk b.bc b.sh b.opr b.opu b.hA b.hB) ∧ rck (boS b.bv b.bk b.bc b.sh b.opr b.opu b.hA b.hB) [] = 0)) ∧ bad = (x.isNone || y.isNone) ∧ Sd1 w' (gw + 1) x s ∧ Sd1 w' (gw + 1) y t ∧ w.heap.size ≤ gw ∧ Below w.heap.size w w'
set_option maxRecDepth 100000 in
set_option maxHeartbeats 16000000 in
theorem l_begun (b : Bgn) (hb : b.ok) (w : World) (hF : Lo.Four w) : Calls Tryd.prog 5 #[.agg (bgrow b)] w (BgR b w) := by
  unfold BgR
  have R0 := hp2_0 w (.cells (bgrow b) 29) (.cells (wdrow (.pointer none) (.pointer none) zst zst (.slice none 0 0) false) 42)
  have R1 := hp2_1 w (.cells (bgrow b) 29) (.cells (wdrow (.pointer none) (.pointer none) zst zst (.slice none 0 0) false) 42)
  have hw : Below w.heap.size w ((w.alloc (.cells (bgrow b) 29)).alloc (.cells (wdrow (.pointer none) (.pointer none) zst zst (.slice none 0 0) false) 42)) := (((Below.refl _ _).alloc (Nat.le_refl _) _).alloc (by simp) _)
  go_enter Tryd.func5, Tryd.ntmps5
  go_upto_region 2 with (first | (refine wpList_box rfl 29 _ rfl _ rfl (bBg _) ?_) | (refine wpList_box rfl 42 _ rfl _ rfl (bWd _) ?_) | (refine wpList_build_want rfl 42 _ rfl [] rfl (wdrow (.pointer none) (.pointer none) zst zst (.slice none 0 0) false) builtW0 ?_) | fail)
  try simp only [size_alloc1, Act.put, List.setIfInBounds_toArray, List.set_cons_succ, List.set_cons_zero]
  have sz2 : w.heap.size + 2 = ((w.alloc (.cells (bgrow b) 29)).alloc (.cells (wdrow (.pointer none) (.pointer none) zst zst (.slice none 0 0) false) 42)).heap.size := by simp
  generalize ((w.alloc (.cells (bgrow b) 29)).alloc (.cells (wdrow (.pointer none) (.pointer none) zst zst (.slice none 0 0) false) 42)) = w2 at *
  have Rw := R1
  clear R1
  have cA := a_Alice b.av b.ak b.ac b.sh b.pe b.hA b.hB hb.sh hb.pe hb.hA hb.hB w2 (hF.below hw)
  repeat ((fail_if_success (refine wpList_load_part rfl 23 _ rfl (w.heap.size) 0 rfl 29 (bgrow b) (0, 0) (irow .u8 b.sh) _ R0 (bg_sh hb) Tryd.underlying23 rfl (infok8 _ hb.sh) ?_)); first | go_skip | go_step)
  refine wpList_load_part rfl 23 _ rfl (w.heap.size) 0 rfl 29 (bgrow b) (0, 0) (irow .u8 b.sh) _ R0 (bg_sh hb) Tryd.underlying23 rfl (infok8 _ hb.sh) ?_
  repeat ((fail_if_success (refine wpList_load_part rfl 23 _ rfl (w.heap.size) 32 rfl 29 (bgrow b) (0, 0) (irow .u8 b.hA) _ R0 (bg_hA hb) Tryd.underlying23 rfl (infok8 _ hb.hA) ?_)); first | go_skip | go_step)
  refine wpList_load_part rfl 23 _ rfl (w.heap.size) 32 rfl 29 (bgrow b) (0, 0) (irow .u8 b.hA) _ R0 (bg_hA hb) Tryd.underlying23 rfl (infok8 _ hb.hA) ?_
  repeat ((fail_if_success (refine wpList_load_part rfl 23 _ rfl (w.heap.size) 64 rfl 29 (bgrow b) (0, 0) (irow .u8 b.hB) _ R0 (bg_hB hb) Tryd.underlying23 rfl (infok8 _ hb.hB) ?_)); first | go_skip | go_step)
  refine wpList_load_part rfl 23 _ rfl (w.heap.size) 64 rfl 29 (bgrow b) (0, 0) (irow .u8 b.hB) _ R0 (bg_hB hb) Tryd.underlying23 rfl (infok8 _ hb.hB) ?_
  repeat ((fail_if_success (refine wpList_load_part rfl 23 _ rfl (w.heap.size) 160 rfl 29 (bgrow b) (0, 0) (irow .u8 b.pe) _ R0 (bg_pe hb) Tryd.underlying23 rfl (infok8 _ hb.pe) ?_)); first | go_skip | go_step)
  refine wpList_load_part rfl 23 _ rfl (w.heap.size) 160 rfl 29 (bgrow b) (0, 0) (irow .u8 b.pe) _ R0 (bg_pe hb) Tryd.underlying23 rfl (infok8 _ hb.pe) ?_
  repeat ((fail_if_success (refine wpList_load_part rfl 27 _ rfl (w.heap.size) 192 rfl 29 (bgrow b) (0, 0) (cfrow b.av b.ak b.ac) _ R0 (bg_cA hb) Tryd.underlying27 rfl infoCf ?_)); first | go_skip | go_step)
  refine wpList_load_part rfl 27 _ rfl (w.heap.size) 192 rfl 29 (bgrow b) (0, 0) (cfrow b.av b.ak b.ac) _ R0 (bg_cA hb) Tryd.underlying27 rfl infoCf ?_
  go_wp2_with (fail)
  refine cA.mono ?_
  rintro e_ w3 h
  obtain ⟨x, E, hE, he, hX, hx1, hbb⟩ : ∃ x E, rck (alS b.av b.ak b.ac b.sh b.pe b.hA b.hB) [] = E ∧ e_ = .returned (.tuple #[.pointer x, .int .i64 E]) ∧ Sd1 w3 w2.heap.size x (alS b.av b.ak b.ac b.sh b.pe b.hA b.hB) ∧ ((x = none ∧ rck (alS b.av b.ak b.ac b.sh b.pe b.hA b.hB) [] ≠ 0) ∨ (x ≠ none ∧ rck (alS b.av b.ak b.ac b.sh b.pe b.hA b.hB) [] = 0)) ∧ Below w2.heap.size w2 w3 := by
    rcases h with ⟨E, hne, hk, rfl, hbb⟩ | ⟨g, b_, v, hk, rfl, hS, hbb⟩
    · exact ⟨none, E, hk, rfl, .inl rfl, .inl ⟨rfl, by rw [hk]; exact hne⟩, hbb⟩
    · exact ⟨some ⟨g, 0, none⟩, 0, hk, rfl, .inr ⟨g, b_, v, rfl, hS⟩, .inr ⟨by simp, hk⟩, hbb⟩
  subst he
  replace hE := hide hE
  replace R0 := keep hbb R0
  replace Rw := keep hbb Rw
  replace hw := Below.after hw hbb
  clear hbb
  clear cA
  have cR := r_Alice b.av b.ak b.ac b.sh b.pe b.hA b.hB hb.sh hb.pe hb.hA hb.hB w3
  go_upto_region 3 with fail
  repeat ((fail_if_success (refine wpList_load_part rfl 23 _ rfl (w.heap.size) 0 rfl 29 (bgrow b) (0, 0) (irow .u8 b.sh) _ R0 (bg_sh hb) Tryd.underlying23 rfl (infok8 _ hb.sh) ?_)); first | go_skip | go_step)
  refine wpList_load_part rfl 23 _ rfl (w.heap.size) 0 rfl 29 (bgrow b) (0, 0) (irow .u8 b.sh) _ R0 (bg_sh hb) Tryd.underlying23 rfl (infok8 _ hb.sh) ?_
  repeat ((fail_if_success (refine wpList_load_part rfl 23 _ rfl (w.heap.size) 32 rfl 29 (bgrow b) (0, 0) (irow .u8 b.hA) _ R0 (bg_hA hb) Tryd.underlying23 rfl (infok8 _ hb.hA) ?_)); first | go_skip | go_step)
  refine wpList_load_part rfl 23 _ rfl (w.heap.size) 32 rfl 29 (bgrow b) (0, 0) (irow .u8 b.hA) _ R0 (bg_hA hb) Tryd.underlying23 rfl (infok8 _ hb.hA) ?_
  repeat ((fail_if_success (refine wpList_load_part rfl 23 _ rfl (w.heap.size) 64 rfl 29 (bgrow b) (0, 0) (irow .u8 b.hB) _ R0 (bg_hB hb) Tryd.underlying23 rfl (infok8 _ hb.hB) ?_)); first | go_skip | go_step)
  refine wpList_load_part rfl 23 _ rfl (w.heap.size) 64 rfl 29 (bgrow b) (0, 0) (irow .u8 b.hB) _ R0 (bg_hB hb) Tryd.underlying23 rfl (infok8 _ hb.hB) ?_
  repeat ((fail_if_success (refine wpList_load_part rfl 23 _ rfl (w.heap.size) 160 rfl 29 (bgrow b) (0, 0) (irow .u8 b.pe) _ R0 (bg_pe hb) Tryd.underlying23 rfl (infok8 _ hb.pe) ?_)); first | go_skip | go_step)
  refine wpList_load_part rfl 23 _ rfl (w.heap.size) 160 rfl 29 (bgrow b) (0, 0) (irow .u8 b.pe) _ R0 (bg_pe hb) Tryd.underlying23 rfl (infok8 _ hb.pe) ?_
  repeat ((fail_if_success (refine wpList_load_part rfl 27 _ rfl (w.heap.size) 192 rfl 29 (bgrow b) (0, 0) (cfrow b.av b.ak b.ac) _ R0 (bg_cA hb) Tryd.underlying27 rfl infoCf ?_)); first | go_skip | go_step)
  refine wpList_load_part rfl 27 _ rfl (w.heap.size) 192 rfl 29 (bgrow b) (0, 0) (cfrow b.av b.ak b.ac) _ R0 (bg_cA hb) Tryd.underlying27 rfl infoCf ?_
  go_wp2_with (fail)
  refine cR.mono ?_
  rintro e_ w4 ⟨h, hbb⟩
  obtain ⟨s, he, hs1, hsp, hx⟩ : ∃ s, e_ = .returned (.tuple #[.agg (strow s), .int .i64 E]) ∧ s.ok ∧ s.sp = (.slice none 0 0) ∧ ((x = none ∧ s = zst ∧ rck (alS b.av b.ak b.ac b.sh b.pe b.hA b.hB) [] ≠ 0) ∨ (x ≠ none ∧ s = (alS b.av b.ak b.ac b.sh b.pe b.hA b.hB) ∧ rck (alS b.av b.ak b.ac b.sh b.pe b.hA b.hB) [] = 0)) := by
    rcases h with ⟨h1, rfl⟩ | ⟨h1, rfl⟩
    · refine ⟨zst, by rw [hE.out], zst_ok, rfl, ?_⟩
      rcases hx1 with ⟨h2, _⟩ | ⟨_, h2⟩
      · exact .inl ⟨h2, rfl, h1⟩
      · exact absurd h2 h1
    · refine ⟨(alS b.av b.ak b.ac b.sh b.pe b.hA b.hB), by rw [← hE.out, h1], alS_ok hb.sh hb.pe hb.hA hb.hB, rfl, ?_⟩
      rcases hx1 with ⟨_, h2⟩ | ⟨h2, _⟩
      · exact absurd h1 h2
      · exact .inr ⟨h2, rfl, h1⟩
  subst he
  have sz4 := hbb.size
  replace R0 := keep hbb R0
  replace Rw := keep hbb Rw
  replace hX := hX.keep hbb
  replace hw := Below.after hw hbb
  clear hbb
  clear cR hx1
  have z_ := hp1_0 w4 (.cells (strow zst) 38)
  go_wp2_with (first | (refine wpList_alloc rfl 38 rfl (strow zst) zStA ?_) | (refine wpList_store_row rfl 38 _ _ rfl (w4.heap.size) (strow s) rfl rfl 38 _ z_ (infoSt hs1) (by rw [strow_size zst_ok, strow_size hs1]) (strow_one hs1) ?_; refine wpList_stay ?_) | fail)
  unfold WpStay
  try simp only [Act.put, List.setIfInBounds_toArray, List.set_cons_succ, List.set_cons_zero]
  have R7 := setRow_heap (w4.alloc (.cells (strow zst) 38)) w4.heap.size _ (strow s) _ _ z_
  have hb_ : Below w4.heap.size w4 ((w4.alloc (.cells (strow zst) 38)).setRow w4.heap.size (strow s)) := below_setRow ((Below.refl _ _).alloc (Nat.le_refl _) _) (Nat.le_refl _) _
  have sz_g7 := hb_.size
  have lt_R0_g7 := lt_of_row R0
  have lt_Rw_g7 := lt_of_row Rw
  replace R0 := keep hb_ R0
  replace Rw := keep hb_ Rw
  replace hX := hX.keep hb_
  replace hw := Below.after hw hb_
  clear hb_ z_
  generalize ((w4.alloc (.cells (strow zst) 38)).setRow w4.heap.size (strow s)) = w5 at *
  generalize w4.heap.size = g7 at *
  replace hX : Sd1 w5 w2.heap.size x s := by
    rcases hx with ⟨h1, _, _⟩ | ⟨_, h1, _⟩
    · exact .inl h1
    · rw [h1]; exact hX
  replace hx := hide hx
  have cB := a_Bob b.bv b.bk b.bc b.sh b.opr b.opu b.hA b.hB hb.sh hb.opr hb.opu hb.hA hb.hB hb.ha w5 (hF.below hw)
  go_upto_region 4 with fail
  repeat ((fail_if_success (refine wpList_load_part rfl 23 _ rfl (w.heap.size) 0 rfl 29 (bgrow b) (0, 0) (irow .u8 b.sh) _ R0 (bg_sh hb) Tryd.underlying23 rfl (infok8 _ hb.sh) ?_)); first | go_skip | go_step)
  refine wpList_load_part rfl 23 _ rfl (w.heap.size) 0 rfl 29 (bgrow b) (0, 0) (irow .u8 b.sh) _ R0 (bg_sh hb) Tryd.underlying23 rfl (infok8 _ hb.sh) ?_
  repeat ((fail_if_success (refine wpList_load_part rfl 23 _ rfl (w.heap.size) 32 rfl 29 (bgrow b) (0, 0) (irow .u8 b.hA) _ R0 (bg_hA hb) Tryd.underlying23 rfl (infok8 _ hb.hA) ?_)); first | go_skip | go_step)
  refine wpList_load_part rfl 23 _ rfl (w.heap.size) 32 rfl 29 (bgrow b) (0, 0) (irow .u8 b.hA) _ R0 (bg_hA hb) Tryd.underlying23 rfl (infok8 _ hb.hA) ?_
  repeat ((fail_if_success (refine wpList_load_part rfl 23 _ rfl (w.heap.size) 64 rfl 29 (bgrow b) (0, 0) (irow .u8 b.hB) _ R0 (bg_hB hb) Tryd.underlying23 rfl (infok8 _ hb.hB) ?_)); first | go_skip | go_step)
  refine wpList_load_part rfl 23 _ rfl (w.heap.size) 64 rfl 29 (bgrow b) (0, 0) (irow .u8 b.hB) _ R0 (bg_hB hb) Tryd.underlying23 rfl (infok8 _ hb.hB) ?_
  repeat ((fail_if_success (refine wpList_load_part rfl 25 _ rfl (w.heap.size) 96 rfl 29 (bgrow b) (0, 0) (prow b.opr b.opu) _ R0 (bg_own hb) Tryd.underlying25 rfl (infoPr hb.opr hb.opu) ?_)); first | go_skip | go_step)
  refine wpList_load_part rfl 25 _ rfl (w.heap.size) 96 rfl 29 (bgrow b) (0, 0) (prow b.opr b.opu) _ R0 (bg_own hb) Tryd.underlying25 rfl (infoPr hb.opr hb.opu) ?_
  repeat ((fail_if_success (refine wpList_load_part rfl 27 _ rfl (w.heap.size) 195 rfl 29 (bgrow b) (0, 0) (cfrow b.bv b.bk b.bc) _ R0 (bg_cB hb) Tryd.underlying27 rfl infoCf ?_)); first | go_skip | go_step)
  refine wpList_load_part rfl 27 _ rfl (w.heap.size) 195 rfl 29 (bgrow b) (0, 0) (cfrow b.bv b.bk b.bc) _ R0 (bg_cB hb) Tryd.underlying27 rfl infoCf ?_
  go_wp2_with (fail)
  refine cB.mono ?_
  rintro e_ w6 h
  have sz5 : g7 < w5.heap.size := lt_of_row R7
  obtain ⟨y, F, hF_, he, hY, hy1, hbb⟩ : ∃ y F, rck (boS b.bv b.bk b.bc b.sh b.opr b.opu b.hA b.hB) [] = F ∧ e_ = .returned (.tuple #[.pointer y, .int .i64 F]) ∧ Sd1 w6 w5.heap.size y (boS b.bv b.bk b.bc b.sh b.opr b.opu b.hA b.hB) ∧ ((y = none ∧ rck (boS b.bv b.bk b.bc b.sh b.opr b.opu b.hA b.hB) [] ≠ 0) ∨ (y ≠ none ∧ rck (boS b.bv b.bk b.bc b.sh b.opr b.opu b.hA b.hB) [] = 0)) ∧ Below w5.heap.size w5 w6 := by
    rcases h with ⟨F, hne, hk, rfl, hbb⟩ | ⟨g, b_, v, hk, rfl, hS, hbb⟩
    · exact ⟨none, F, hk, rfl, .inl rfl, .inl ⟨rfl, by rw [hk]; exact hne⟩, hbb⟩
    · exact ⟨some ⟨g, 0, none⟩, 0, hk, rfl, .inr ⟨g, b_, v, rfl, hS⟩, .inr ⟨by simp, hk⟩, hbb⟩
  subst he
  replace hF_ := hide hF_
  replace R0 := keep hbb R0
  replace Rw := keep hbb Rw
  replace R7 := keep hbb R7
  replace hX := hX.keep hbb
  replace hw := Below.after hw hbb
  clear hbb
  clear cB
  have cR := r_Bob b.bv b.bk b.bc b.sh b.opr b.opu b.hA b.hB hb.sh hb.opr hb.opu hb.hA hb.hB hb.ha w6
  go_upto_region 5 with fail
  repeat ((fail_if_success (refine wpList_load_part rfl 23 _ rfl (w.heap.size) 0 rfl 29 (bgrow b) (0, 0) (irow .u8 b.sh) _ R0 (bg_sh hb) Tryd.underlying23 rfl (infok8 _ hb.sh) ?_)); first | go_skip | go_step)
  refine wpList_load_part rfl 23 _ rfl (w.heap.size) 0 rfl 29 (bgrow b) (0, 0) (irow .u8 b.sh) _ R0 (bg_sh hb) Tryd.underlying23 rfl (infok8 _ hb.sh) ?_
  repeat ((fail_if_success (refine wpList_load_part rfl 23 _ rfl (w.heap.size) 32 rfl 29 (bgrow b) (0, 0) (irow .u8 b.hA) _ R0 (bg_hA hb) Tryd.underlying23 rfl (infok8 _ hb.hA) ?_)); first | go_skip | go_step)
  refine wpList_load_part rfl 23 _ rfl (w.heap.size) 32 rfl 29 (bgrow b) (0, 0) (irow .u8 b.hA) _ R0 (bg_hA hb) Tryd.underlying23 rfl (infok8 _ hb.hA) ?_
  repeat ((fail_if_success (refine wpList_load_part rfl 23 _ rfl (w.heap.size) 64 rfl 29 (bgrow b) (0, 0) (irow .u8 b.hB) _ R0 (bg_hB hb) Tryd.underlying23 rfl (infok8 _ hb.hB) ?_)); first | go_skip | go_step)
  refine wpList_load_part rfl 23 _ rfl (w.heap.size) 64 rfl 29 (bgrow b) (0, 0) (irow .u8 b.hB) _ R0 (bg_hB hb) Tryd.underlying23 rfl (infok8 _ hb.hB) ?_
  repeat ((fail_if_success (refine wpList_load_part rfl 25 _ rfl (w.heap.size) 96 rfl 29 (bgrow b) (0, 0) (prow b.opr b.opu) _ R0 (bg_own hb) Tryd.underlying25 rfl (infoPr hb.opr hb.opu) ?_)); first | go_skip | go_step)
  refine wpList_load_part rfl 25 _ rfl (w.heap.size) 96 rfl 29 (bgrow b) (0, 0) (prow b.opr b.opu) _ R0 (bg_own hb) Tryd.underlying25 rfl (infoPr hb.opr hb.opu) ?_
  repeat ((fail_if_success (refine wpList_load_part rfl 27 _ rfl (w.heap.size) 195 rfl 29 (bgrow b) (0, 0) (cfrow b.bv b.bk b.bc) _ R0 (bg_cB hb) Tryd.underlying27 rfl infoCf ?_)); first | go_skip | go_step)
  refine wpList_load_part rfl 27 _ rfl (w.heap.size) 195 rfl 29 (bgrow b) (0, 0) (cfrow b.bv b.bk b.bc) _ R0 (bg_cB hb) Tryd.underlying27 rfl infoCf ?_
  go_wp2_with (fail)
  refine cR.mono ?_
  rintro e_ w7 ⟨h, hbb⟩
  obtain ⟨t, he, ht1, htp, hy⟩ : ∃ t, e_ = .returned (.tuple #[.agg (strow t), .int .i64 F]) ∧ t.ok ∧ t.sp = (.slice none 0 0) ∧ ((y = none ∧ t = zst ∧ rck (boS b.bv b.bk b.bc b.sh b.opr b.opu b.hA b.hB) [] ≠ 0) ∨ (y ≠ none ∧ t = (boS b.bv b.bk b.bc b.sh b.opr b.opu b.hA b.hB) ∧ rck (boS b.bv b.bk b.bc b.sh b.opr b.opu b.hA b.hB) [] = 0)) := by
    rcases h with ⟨h1, rfl⟩ | ⟨h1, rfl⟩
    · refine ⟨zst, by rw [hF_.out], zst_ok, rfl, ?_⟩
      rcases hy1 with ⟨h2, _⟩ | ⟨_, h2⟩
      · exact .inl ⟨h2, rfl, h1⟩
      · exact absurd h2 h1
    · refine ⟨(boS b.bv b.bk b.bc b.sh b.opr b.opu b.hA b.hB), by rw [← hF_.out, h1], boS_ok hb.sh hb.opr hb.opu hb.hA hb.hB, rfl, ?_⟩
      rcases hy1 with ⟨_, h2⟩ | ⟨h2, _⟩
      · exact absurd h1 h2
      · exact .inr ⟨h2, rfl, h1⟩
  subst he
  replace R0 := keep hbb R0
  replace Rw := keep hbb Rw
  replace R7 := keep hbb R7
  replace hX := hX.keep hbb
  replace hY := hY.keep hbb
  replace hw := Below.after hw hbb
  clear hbb
  clear cR hy1
  have lt7 := lt_of_row R7
  have z_ := hp1_0 w7 (.cells (strow zst) 38)
  go_wp2_with (first | (refine wpList_alloc rfl 38 rfl (strow zst) zStA ?_) | (refine wpList_store_row rfl 38 _ _ rfl (w7.heap.size) (strow t) rfl rfl 38 _ z_ (infoSt ht1) (by rw [strow_size zst_ok, strow_size ht1]) (strow_one ht1) ?_; refine wpList_stay ?_) | fail)
  unfold WpStay
  try simp only [Act.put, List.setIfInBounds_toArray, List.set_cons_succ, List.set_cons_zero]
  have R11 := setRow_heap (w7.alloc (.cells (strow zst) 38)) w7.heap.size _ (strow t) _ _ z_
  have hb_ : Below w7.heap.size w7 ((w7.alloc (.cells (strow zst) 38)).setRow w7.heap.size (strow t)) := below_setRow ((Below.refl _ _).alloc (Nat.le_refl _) _) (Nat.le_refl _) _
  have sz_g11 := hb_.size
  have lt_Rw_g11 := lt_of_row Rw
  have lt_R7_g11 := lt_of_row R7
  replace Rw := keep hb_ Rw
  replace R7 := keep hb_ R7
  replace hX := hX.keep hb_
  replace hY := hY.keep hb_
  replace hw := Below.after hw hb_
  clear hb_ z_
  generalize ((w7.alloc (.cells (strow zst) 38)).setRow w7.heap.size (strow t)) = w8 at *
  generalize w7.heap.size = g11 at *
  clear R0
  replace hY : Sd1 w8 w5.heap.size y t := by
    rcases hy with ⟨h1, _, _⟩ | ⟨_, h1, _⟩
    · exact .inl h1
    · rw [h1]; exact hY
  replace hy := hide hy
  replace hsp := hide hsp
  replace htp := hide htp
  have ge7 : w.heap.size + 2 ≤ g7 := by omega
  go_upto_region 6 with fail
  go_cut [92] from 71 to 91 (fun c wx => c = .bool false ∧ wx = w8)
  case first =>
    replace hx := hx.out
    replace hy := hy.out
    rcases hx with ⟨hx0, hsx, hnx⟩ | ⟨hx0, hsx, hnx⟩
    · rcases hy with ⟨hy0, hsy, hny⟩ | ⟨hy0, hsy, hny⟩
      · subst x
        have hdx : (E != 0) = true := by rw [← hE.out]; simpa using hnx
        subst y
        have hdy : (F != 0) = true := by rw [← hF_.out]; simpa using hny
        clear hsx hsy hnx hny
        repeat (first | go_skip | go_step)
        go_meet
        case rel => exact ⟨rfl, rfl⟩
      · subst x
        have hdx : (E != 0) = true := by rw [← hE.out]; simpa using hnx
        obtain ⟨ay, rfl⟩ := Option.ne_none_iff_exists'.1 hy0
        have hdy : (F != 0) = false := by rw [← hF_.out, hny]; rfl
        clear hsx hsy hnx hny
        repeat (first | go_skip | go_step)
        go_meet
        case rel => exact ⟨rfl, rfl⟩
    · rcases hy with ⟨hy0, hsy, hny⟩ | ⟨hy0, hsy, hny⟩
      · obtain ⟨ax, rfl⟩ := Option.ne_none_iff_exists'.1 hx0
        have hdx : (E != 0) = false := by rw [← hE.out, hnx]; rfl
        subst y
        have hdy : (F != 0) = true := by rw [← hF_.out]; simpa using hny
        clear hsx hsy hnx hny
        repeat (first | go_skip | go_step)
        go_meet
        case rel => exact ⟨rfl, rfl⟩
      · obtain ⟨ax, rfl⟩ := Option.ne_none_iff_exists'.1 hx0
        have hdx : (E != 0) = false := by rw [← hE.out, hnx]; rfl
        obtain ⟨ay, rfl⟩ := Option.ne_none_iff_exists'.1 hy0
        have hdy : (F != 0) = false := by rw [← hF_.out, hny]; rfl
        clear hsx hsy hnx hny
        repeat (first | go_skip | go_step)
        go_meet
        case rel => exact ⟨rfl, rfl⟩
  case rest =>
    obtain ⟨rfl, hwc⟩ := hcut
    subst hwc
    go_upto_region 8 with fail
    have hbd : Below wc.heap.size wc wc.drew := below_drN (Below.refl _ _) 1
    replace Rw := keep hbd Rw
    replace R7 := keep hbd R7
    replace R11 := keep hbd R11
    replace hX := hX.keep hbd
    replace hY := hY.keep hbd
    replace hw := Below.after hw hbd
    clear hbd
    refine wp_region_noPanic ?_
    refine wp_region_held (S := fun V => V.heap[g7]? = some (.cells (strow s) 38 (0, 0)) ∧ V.heap[g11]? = some (.cells (strow t) 38 (0, 0))) (by kernel_rfl) ?_
    change wpAnyH _ _ _ _ _ _ _ _ (World.drew _)
    generalize wc.drew = wd at *
    refine wpAnyH_take (i := 0) (v := ?v7) rfl (by kernel_rfl) (by kernel_rfl) (by kernel_rfl) (fun _ _ _ h => h) (Or.inl ⟨by rfl, ?y7⟩) ⟨R7, R11⟩ ?r7
    case y7 =>
      intro w_ hS_
      go_simp
      try with_reducible rfl
    simp only [Act.put, List.getElem_toArray, List.getElem_cons_zero, List.setIfInBounds_toArray, List.set_cons_succ, List.set_cons_zero]
    refine wpAnyH_take (i := 1) (v := ?v8) rfl (by kernel_rfl) (by kernel_rfl) (by kernel_rfl) (fun _ _ _ h => h) (Or.inl ⟨by rfl, ?y8⟩) ⟨R7, R11⟩ ?r8
    case y8 =>
      intro w_ hS_
      go_simp
      try with_reducible rfl
    simp only [Act.put, List.getElem_toArray, List.getElem_cons_succ, List.getElem_cons_zero, List.setIfInBounds_toArray, List.set_cons_succ, List.set_cons_zero]
    refine wpAnyH_take (i := 2) (v := ?v9) rfl (by kernel_rfl) (by kernel_rfl) (by kernel_rfl) (fun _ _ _ h => h) (Or.inl ⟨by rfl, ?y9⟩) ⟨R7, R11⟩ ?r9
    case y9 =>
      intro w_ hS_
      go_simp
      try with_reducible rfl
    simp only [Act.put, List.getElem_toArray, List.getElem_cons_succ, List.getElem_cons_zero, List.setIfInBounds_toArray, List.set_cons_succ, List.set_cons_zero]
    refine wpAnyH_take (i := 3) (v := ?v10) rfl (by kernel_rfl) (by kernel_rfl) (by kernel_rfl) (fun _ _ _ h => h) (Or.inl ⟨by rfl, ?y10⟩) ⟨R7, R11⟩ ?r10
    case y10 =>
      intro w_ hS_
      go_simp
      try with_reducible rfl
    simp only [Act.put, List.getElem_toArray, List.getElem_cons_succ, List.getElem_cons_zero, List.setIfInBounds_toArray, List.set_cons_succ, List.set_cons_zero]
    refine wpAnyH_take (i := 4) (v := .agg #[.pointer x, .pointer y]) rfl (by kernel_rfl) (by kernel_rfl) (by kernel_rfl) (fun _ _ _ h => h) (Or.inl ⟨by rfl, ?y11⟩) ⟨R7, R11⟩ ?r11
    case y11 =>
      intro w_ hS_
      simp only [List.getElem_toArray, List.getElem_cons_succ, List.getElem_cons_zero]
      exact run_build_op 34 _ (by rfl) [(0, .pointer x), (1, .pointer y)] (by rfl) #[.pointer x, .pointer y] (builtP2 x y)
    simp only [Act.put, List.getElem_toArray, List.getElem_cons_succ, List.getElem_cons_zero, List.setIfInBounds_toArray, List.set_cons_succ, List.set_cons_zero]
    refine wpAnyH_take (i := 5) (v := .agg (strow s)) rfl (by kernel_rfl) (by kernel_rfl) (by kernel_rfl) (fun _ _ _ h => h) (Or.inl ⟨by rfl, ?y12⟩) ⟨R7, R11⟩ ?r12
    case y12 =>
      intro w_ hS_
      simp only [List.getElem_toArray, List.getElem_cons_succ, List.getElem_cons_zero]
      exact run_load_part 38 _ (by rfl) (g7) 0 (by rfl) 38 (strow s) (0, 0) (strow s) _ hS_.1 (all_row _) Tryd.underlying38 rfl (infoSt hs1)
    simp only [Act.put, List.getElem_toArray, List.getElem_cons_succ, List.getElem_cons_zero, List.setIfInBounds_toArray, List.set_cons_succ, List.set_cons_zero]
    refine wpAnyH_take (i := 6) (v := .agg (strow t)) rfl (by kernel_rfl) (by kernel_rfl) (by kernel_rfl) (fun _ _ _ h => h) (Or.inl ⟨by rfl, ?y13⟩) ⟨R7, R11⟩ ?r13
    case y13 =>
      intro w_ hS_
      simp only [List.getElem_toArray, List.getElem_cons_succ, List.getElem_cons_zero]
      exact run_load_part 38 _ (by rfl) (g11) 0 (by rfl) 38 (strow t) (0, 0) (strow t) _ hS_.2 (all_row _) Tryd.underlying38 rfl (infoSt ht1)
    simp only [Act.put, List.getElem_toArray, List.getElem_cons_succ, List.getElem_cons_zero, List.setIfInBounds_toArray, List.set_cons_succ, List.set_cons_zero]
    refine wpAnyH_take (i := 7) (v := .agg (st2 s t)) rfl (by kernel_rfl) (by kernel_rfl) (by kernel_rfl) (fun _ _ _ h => h) (Or.inl ⟨by rfl, ?y14⟩) ⟨R7, R11⟩ ?r14
    case y14 =>
      intro w_ hS_
      simp only [List.getElem_toArray, List.getElem_cons_succ, List.getElem_cons_zero]
      exact run_build_op 39 _ (by rfl) [(0, .agg (strow s)), (1, .agg (strow t))] (by rfl) (st2 s t) (builtS2 hs1 ht1)
    simp only [Act.put, List.getElem_toArray, List.getElem_cons_succ, List.getElem_cons_zero, List.setIfInBounds_toArray, List.set_cons_succ, List.set_cons_zero]
    refine wpAnyH_take (i := 8) (v := ?v15) rfl (by kernel_rfl) (by kernel_rfl) (by kernel_rfl) (fun _ _ _ h => h) (Or.inl ⟨by rfl, ?y15⟩) ⟨R7, R11⟩ ?r15
    case y15 =>
      intro w_ hS_
      go_simp
      try with_reducible rfl
    simp only [Act.put, List.getElem_toArray, List.getElem_cons_succ, List.getElem_cons_zero, List.setIfInBounds_toArray, List.set_cons_succ, List.set_cons_zero]
    refine wpAnyH_take (i := 9) (v := ?v16) rfl (by kernel_rfl) (by kernel_rfl) (by kernel_rfl) (fun _ _ _ h => h) (Or.inl ⟨by rfl, ?y16⟩) ⟨R7, R11⟩ ?r16
    case y16 =>
      intro w_ hS_
      go_simp
      try with_reducible rfl
    simp only [Act.put, List.getElem_toArray, List.getElem_cons_succ, List.getElem_cons_zero, List.setIfInBounds_toArray, List.set_cons_succ, List.set_cons_zero]
    refine wpAnyH_one (k := 10) (fuel := 3) (by kernel_rfl) rfl (by kernel_rfl) (fun K_ hK => ?_)
    have hset : wd.setCells (w.heap.size + 1) 0 #[.pointer x, .pointer y].toList = wd.setRow (w.heap.size + 1) (wdrow (.pointer x) (.pointer y) zst zst (.slice none 0 0) false) := by rw [setCells_eq _ _ wd (wdrow (.pointer none) (.pointer none) zst zst (.slice none 0 0) false) Rw, show ovw _ 0 (#[.pointer x, .pointer y] : Array Value).toList = _ from wd_pq _ _ _ _ _ _ _ _]
    refine wp_store_mid 34 _ _ rfl (w.heap.size + 1) 0 #[.pointer x, .pointer y] rfl rfl (there_row Rw (by rw [wdrow_size zst_ok zst_ok]; show 0 + 2 ≤ 668; omega)) (infoP2 x y) (by simp [Value.oneCell']) ?_
    rw [hset]
    clear hset
    replace R7 := (setRow_other wd (w.heap.size + 1) g7 (wdrow (.pointer x) (.pointer y) zst zst (.slice none 0 0) false) (by omega)).trans R7
    replace R11 := (setRow_other wd (w.heap.size + 1) g11 (wdrow (.pointer x) (.pointer y) zst zst (.slice none 0 0) false) (by omega)).trans R11
    replace hX := hX.low (g0 := w.heap.size + 1) (by omega) (show wd.setRow (w.heap.size + 1) (wdrow (.pointer x) (.pointer y) zst zst (.slice none 0 0) false) = _ from rfl)
    replace hY := hY.low (g0 := w.heap.size + 1) (by omega) (show wd.setRow (w.heap.size + 1) (wdrow (.pointer x) (.pointer y) zst zst (.slice none 0 0) false) = _ from rfl)
    replace Rw := setRow_heap wd (w.heap.size + 1) _ (wdrow (.pointer x) (.pointer y) zst zst (.slice none 0 0) false) _ _ Rw
    replace hw := below_setRow hw (Nat.le_succ _) (wdrow (.pointer x) (.pointer y) zst zst (.slice none 0 0) false)
    refine hK _ _ ⟨R7, R11⟩ ?_
    simp only [Act.put]
    clear hK
    generalize wd.setRow (w.heap.size + 1) (wdrow (.pointer x) (.pointer y) zst zst (.slice none 0 0) false) = we at *
    refine wpAnyH_take (i := 11) (v := ?v17) rfl (by kernel_rfl) (by kernel_rfl) (by kernel_rfl) (fun _ _ _ h => h) (Or.inl ⟨by rfl, ?y17⟩) ⟨R7, R11⟩ ?r17
    case y17 =>
      intro w_ hS_
      go_simp
      try with_reducible rfl
    simp only [Act.put, List.getElem_toArray, List.getElem_cons_succ, List.getElem_cons_zero, List.setIfInBounds_toArray, List.set_cons_succ, List.set_cons_zero]
    refine wpAnyH_take (i := 12) (v := ?v18) rfl (by kernel_rfl) (by kernel_rfl) (by kernel_rfl) (fun _ _ _ h => h) (Or.inl ⟨by rfl, ?y18⟩) ⟨R7, R11⟩ ?r18
    case y18 =>
      intro w_ hS_
      go_simp
      try with_reducible rfl
    simp only [Act.put, List.getElem_toArray, List.getElem_cons_succ, List.getElem_cons_zero, List.setIfInBounds_toArray, List.set_cons_succ, List.set_cons_zero]
    refine wpAnyH_one (k := 13) (fuel := 0) (by kernel_rfl) rfl (by kernel_rfl) (fun K_ hK => ?_)
    have hset : we.setCells (w.heap.size + 1) 2 (st2 s t).toList = we.setRow (w.heap.size + 1) (wdrow (.pointer x) (.pointer y) s t (.slice none 0 0) false) := by rw [setCells_eq _ _ we (wdrow (.pointer x) (.pointer y) zst zst (.slice none 0 0) false) Rw, wd_st _ _ _ _ _ _ _ _ zst_ok zst_ok hs1 ht1]
    refine wp_store_mid 39 _ _ rfl (w.heap.size + 1) 2 (st2 s t) rfl rfl (there_row Rw (by rw [wdrow_size zst_ok zst_ok, st2_size hs1 ht1]; omega)) (infoS2 hs1 ht1) (st2_one hs1 ht1) ?_
    rw [hset]
    clear hset
    replace R7 := (setRow_other we (w.heap.size + 1) g7 (wdrow (.pointer x) (.pointer y) s t (.slice none 0 0) false) (by omega)).trans R7
    replace R11 := (setRow_other we (w.heap.size + 1) g11 (wdrow (.pointer x) (.pointer y) s t (.slice none 0 0) false) (by omega)).trans R11
    replace hX := hX.low (g0 := w.heap.size + 1) (by omega) (show we.setRow (w.heap.size + 1) (wdrow (.pointer x) (.pointer y) s t (.slice none 0 0) false) = _ from rfl)
    replace hY := hY.low (g0 := w.heap.size + 1) (by omega) (show we.setRow (w.heap.size + 1) (wdrow (.pointer x) (.pointer y) s t (.slice none 0 0) false) = _ from rfl)
    replace Rw := setRow_heap we (w.heap.size + 1) _ (wdrow (.pointer x) (.pointer y) s t (.slice none 0 0) false) _ _ Rw
    replace hw := below_setRow hw (Nat.le_succ _) (wdrow (.pointer x) (.pointer y) s t (.slice none 0 0) false)
    refine hK _ _ ⟨R7, R11⟩ ?_
    simp only [Act.put]
    clear hK
    generalize we.setRow (w.heap.size + 1) (wdrow (.pointer x) (.pointer y) s t (.slice none 0 0) false) = wf at *
    refine wpAnyH_done (by kernel_rfl) ?_ _
    refine NoPanic.normal ?_
    replace hx := hx.out
    replace hy := hy.out
    replace hsp := hsp.out
    replace htp := htp.out
    rcases hx with ⟨hx0, hsx, hnx⟩ | ⟨hx0, hsx, hnx⟩
    · rcases hy with ⟨hy0, hsy, hny⟩ | ⟨hy0, hsy, hny⟩
      · subst x
        have hdx : (E != 0) = true := by rw [← hE.out]; simpa using hnx
        subst y
        have hdy : (F != 0) = true := by rw [← hF_.out]; simpa using hny
        replace hsx := hide hsx
        replace hsy := hide hsy
        replace hnx := hide hnx
        replace hny := hide hny
        repeat ((fail_if_success (refine wpList_store_cell rfl 4 _ _ rfl (w.heap.size + 1) 667 (.bool true) rfl rfl 42 (wdrow (.pointer none) (.pointer none) s t (.slice none 0 0) false) (wdrow (.pointer none) (.pointer none) s t (.slice none 0 0) true) Rw (by rw [wdrow_size hs1 ht1]; omega) (wd_bad hs1 ht1) infoB1 rfl ?_)); first | go_skip | go_step)
        refine wpList_store_cell rfl 4 _ _ rfl (w.heap.size + 1) 667 (.bool true) rfl rfl 42 (wdrow (.pointer none) (.pointer none) s t (.slice none 0 0) false) (wdrow (.pointer none) (.pointer none) s t (.slice none 0 0) true) Rw (by rw [wdrow_size hs1 ht1]; omega) (wd_bad hs1 ht1) infoB1 rfl ?_
        go_wp2_with (fail)
        have R9 := setRow_heap wf (w.heap.size + 1) _ (wdrow (.pointer none) (.pointer none) s t (.slice none 0 0) true) _ _ Rw
        have hX9 := hX.low (g0 := w.heap.size + 1) (by omega) (show wf.setRow (w.heap.size + 1) (wdrow (.pointer none) (.pointer none) s t (.slice none 0 0) true) = _ from rfl)
        have hY9 := hY.low (g0 := w.heap.size + 1) (by omega) (show wf.setRow (w.heap.size + 1) (wdrow (.pointer none) (.pointer none) s t (.slice none 0 0) true) = _ from rfl)
        go_ret2
        exact ⟨w.heap.size + 1, _, _, s, t, true, rfl, R9, hs1, ht1, hsp, htp, .inl ⟨rfl, hsx.out, hnx.out⟩, .inl ⟨rfl, hsy.out, hny.out⟩, rfl, hX9.down (by omega), hY9.down (by omega), Nat.le_succ _, below_setRow hw (Nat.le_succ _) (wdrow (.pointer none) (.pointer none) s t (.slice none 0 0) true)⟩
      · subst x
        have hdx : (E != 0) = true := by rw [← hE.out]; simpa using hnx
        obtain ⟨ay, rfl⟩ := Option.ne_none_iff_exists'.1 hy0
        have hdy : (F != 0) = false := by rw [← hF_.out, hny]; rfl
        replace hsx := hide hsx
        replace hsy := hide hsy
        replace hnx := hide hnx
        replace hny := hide hny
        repeat ((fail_if_success (refine wpList_store_cell rfl 4 _ _ rfl (w.heap.size + 1) 667 (.bool true) rfl rfl 42 (wdrow (.pointer none) (.pointer (some ay)) s t (.slice none 0 0) false) (wdrow (.pointer none) (.pointer (some ay)) s t (.slice none 0 0) true) Rw (by rw [wdrow_size hs1 ht1]; omega) (wd_bad hs1 ht1) infoB1 rfl ?_)); first | go_skip | go_step)
        refine wpList_store_cell rfl 4 _ _ rfl (w.heap.size + 1) 667 (.bool true) rfl rfl 42 (wdrow (.pointer none) (.pointer (some ay)) s t (.slice none 0 0) false) (wdrow (.pointer none) (.pointer (some ay)) s t (.slice none 0 0) true) Rw (by rw [wdrow_size hs1 ht1]; omega) (wd_bad hs1 ht1) infoB1 rfl ?_
        go_wp2_with (fail)
        have R9 := setRow_heap wf (w.heap.size + 1) _ (wdrow (.pointer none) (.pointer (some ay)) s t (.slice none 0 0) true) _ _ Rw
        have hX9 := hX.low (g0 := w.heap.size + 1) (by omega) (show wf.setRow (w.heap.size + 1) (wdrow (.pointer none) (.pointer (some ay)) s t (.slice none 0 0) true) = _ from rfl)
        have hY9 := hY.low (g0 := w.heap.size + 1) (by omega) (show wf.setRow (w.heap.size + 1) (wdrow (.pointer none) (.pointer (some ay)) s t (.slice none 0 0) true) = _ from rfl)
        go_ret2
        exact ⟨w.heap.size + 1, _, _, s, t, true, rfl, R9, hs1, ht1, hsp, htp, .inl ⟨rfl, hsx.out, hnx.out⟩, .inr ⟨by simp, hsy.out, hny.out⟩, rfl, hX9.down (by omega), hY9.down (by omega), Nat.le_succ _, below_setRow hw (Nat.le_succ _) (wdrow (.pointer none) (.pointer (some ay)) s t (.slice none 0 0) true)⟩
    · rcases hy with ⟨hy0, hsy, hny⟩ | ⟨hy0, hsy, hny⟩
      · obtain ⟨ax, rfl⟩ := Option.ne_none_iff_exists'.1 hx0
        have hdx : (E != 0) = false := by rw [← hE.out, hnx]; rfl
        subst y
        have hdy : (F != 0) = true := by rw [← hF_.out]; simpa using hny
        replace hsx := hide hsx
        replace hsy := hide hsy
        replace hnx := hide hnx
        replace hny := hide hny
        repeat ((fail_if_success (refine wpList_store_cell rfl 4 _ _ rfl (w.heap.size + 1) 667 (.bool true) rfl rfl 42 (wdrow (.pointer (some ax)) (.pointer none) s t (.slice none 0 0) false) (wdrow (.pointer (some ax)) (.pointer none) s t (.slice none 0 0) true) Rw (by rw [wdrow_size hs1 ht1]; omega) (wd_bad hs1 ht1) infoB1 rfl ?_)); first | go_skip | go_step)
        refine wpList_store_cell rfl 4 _ _ rfl (w.heap.size + 1) 667 (.bool true) rfl rfl 42 (wdrow (.pointer (some ax)) (.pointer none) s t (.slice none 0 0) false) (wdrow (.pointer (some ax)) (.pointer none) s t (.slice none 0 0) true) Rw (by rw [wdrow_size hs1 ht1]; omega) (wd_bad hs1 ht1) infoB1 rfl ?_
        go_wp2_with (fail)
        have R9 := setRow_heap wf (w.heap.size + 1) _ (wdrow (.pointer (some ax)) (.pointer none) s t (.slice none 0 0) true) _ _ Rw
        have hX9 := hX.low (g0 := w.heap.size + 1) (by omega) (show wf.setRow (w.heap.size + 1) (wdrow (.pointer (some ax)) (.pointer none) s t (.slice none 0 0) true) = _ from rfl)
        have hY9 := hY.low (g0 := w.heap.size + 1) (by omega) (show wf.setRow (w.heap.size + 1) (wdrow (.pointer (some ax)) (.pointer none) s t (.slice none 0 0) true) = _ from rfl)
        go_ret2
        exact ⟨w.heap.size + 1, _, _, s, t, true, rfl, R9, hs1, ht1, hsp, htp, .inr ⟨by simp, hsx.out, hnx.out⟩, .inl ⟨rfl, hsy.out, hny.out⟩, rfl, hX9.down (by omega), hY9.down (by omega), Nat.le_succ _, below_setRow hw (Nat.le_succ _) (wdrow (.pointer (some ax)) (.pointer none) s t (.slice none 0 0) true)⟩
      · obtain ⟨ax, rfl⟩ := Option.ne_none_iff_exists'.1 hx0
        have hdx : (E != 0) = false := by rw [← hE.out, hnx]; rfl
        obtain ⟨ay, rfl⟩ := Option.ne_none_iff_exists'.1 hy0
        have hdy : (F != 0) = false := by rw [← hF_.out, hny]; rfl
        replace hsx := hide hsx
        replace hsy := hide hsy
        replace hnx := hide hnx
        replace hny := hide hny
        repeat ((fail_if_success (refine wpList_store_cell rfl 4 _ _ rfl (w.heap.size + 1) 667 (.bool false) rfl rfl 42 (wdrow (.pointer (some ax)) (.pointer (some ay)) s t (.slice none 0 0) false) (wdrow (.pointer (some ax)) (.pointer (some ay)) s t (.slice none 0 0) false) Rw (by rw [wdrow_size hs1 ht1]; omega) (wd_bad hs1 ht1) infoB1 rfl ?_)); first | go_skip | go_step)
        refine wpList_store_cell rfl 4 _ _ rfl (w.heap.size + 1) 667 (.bool false) rfl rfl 42 (wdrow (.pointer (some ax)) (.pointer (some ay)) s t (.slice none 0 0) false) (wdrow (.pointer (some ax)) (.pointer (some ay)) s t (.slice none 0 0) false) Rw (by rw [wdrow_size hs1 ht1]; omega) (wd_bad hs1 ht1) infoB1 rfl ?_
        go_wp2_with (fail)
        have R9 := setRow_heap wf (w.heap.size + 1) _ (wdrow (.pointer (some ax)) (.pointer (some ay)) s t (.slice none 0 0) false) _ _ Rw
        have hX9 := hX.low (g0 := w.heap.size + 1) (by omega) (show wf.setRow (w.heap.size + 1) (wdrow (.pointer (some ax)) (.pointer (some ay)) s t (.slice none 0 0) false) = _ from rfl)
        have hY9 := hY.low (g0 := w.heap.size + 1) (by omega) (show wf.setRow (w.heap.size + 1) (wdrow (.pointer (some ax)) (.pointer (some ay)) s t (.slice none 0 0) false) = _ from rfl)
        go_ret2
        exact ⟨w.heap.size + 1, _, _, s, t, false, rfl, R9, hs1, ht1, hsp, htp, .inr ⟨by simp, hsx.out, hnx.out⟩, .inr ⟨by simp, hsy.out, hny.out⟩, rfl, hX9.down (by omega), hY9.down (by omega), Nat.le_succ _, below_setRow hw (Nat.le_succ _) (wdrow (.pointer (some ax)) (.pointer (some ay)) s t (.slice none 0 0) false)⟩

end Go.Proofs.YtjofbnilhkmpeaaDoor
