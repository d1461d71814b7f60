import Derived.Test.YtgfeacnhdlgpoaaDoorProg
import Derived.WalkKit
import Derived.WalkSpells
import Derived.WalkLawsBesides
import Derived.Lib.QuietBelow
import Derived.BigQuiet
import Derived.OrdersHeld
import Derived.OwnWalk
import Derived.Deep.RegionHeld3
import Derived.Deep.Cut
import Derived.Deep.CutRange
import Derived.Test.YtgfeacnhdlgpoaaDoorTya
import Derived.Test.YtgfeacnhdlgpoaaDoorTrx
namespace Go.Proofs.YtgfeacnhdlgpoaaDoor
set_option maxRecDepth 100000
open Go Go.RowKit Go.Sort
attribute [local go_sem] setCell_drewN alloc_drewN
/-- An Ask's cells. -/
def askrow (kd m n : Int) (k : List Int) : Array Value := (Value.int .i64 kd :: Value.int .i64 m :: Value.int .i64 n :: k.map (Value.int .u8)).toArray
theorem ask_0 (kd m n : Int) (k : List Int) : (askrow kd m n k)[0]? = some (.int .i64 kd) := by simp [askrow]
theorem ask_1 (kd m n : Int) (k : List Int) : (askrow kd m n k)[1]? = some (.int .i64 m) := by simp [askrow]
theorem ask_2 (kd m n : Int) (k : List Int) : (askrow kd m n k)[2]? = some (.int .i64 n) := by simp [askrow]
theorem ask_k (kd m n : Int) (k : List Int) (hk : k.length = 32) : (askrow kd m n k).extract 3 (3 + (irow .u8 k).size) = irow .u8 k := by
  apply Array.ext'
  rw [irow_size, hk]
  simp only [Array.toList_extract, irow, askrow, List.extract_eq_take_drop]
  simp [hk, List.take_of_length_le]
theorem ovw_sz : ∀ (vs : List Value) (cs : Array Value) (o : Nat), (ovw cs o vs).size = cs.size
  | [], _, _ => rfl
  | v :: r, cs, o => by rw [ovw, ovw_sz r, Array.size_setIfInBounds]
/-- A list of one's own into which is written: its block lies between b and c. -/
def Wrb (W : World) (b c : Nat) (xo : Option Addr) (N : Nat) : Prop := N = 0 ∨ ∃ g cur, xo = some ⟨g, 0, none⟩ ∧ W.heap[g]? = some (.cells cur 24 (0, 0)) ∧ N * 32 ≤ cur.size ∧ b ≤ g ∧ g < c
theorem Wrb.of {W : World} {b c N M cap : Nat} {xo : Option Addr} {ks : List (List Int)} (h : OwnK W b (.slice xo M cap) ks) (hn : N ≤ ks.length) (hc : W.heap.size ≤ c) : Wrb W b c xo N := by
  rcases h with ⟨_, ⟨_, e⟩ | ⟨g, cp, cur, e, h1, h2, h3, h4, h5, h6⟩⟩
  · exact .inl (by omega)
  · injection e with e1 e2 e3
    subst e1
    exact .inr ⟨g, cur, rfl, h2, by omega, h1, by have := lt_of_row h2; omega⟩
theorem Wrb.keep {W W' : World} {b c N : Nat} {xo : Option Addr} (h : Wrb W b c xo N) (hb : Below W.heap.size W W') : Wrb W' b c xo N := by
  rcases h with h | ⟨g, cur, h1, h2, h3⟩
  · exact .inl h
  · exact .inr ⟨g, cur, h1, Go.Proofs.YtgfeacnhdlgpoaaDoor.keep hb h2, h3⟩
theorem Wrb.set {W : World} {b c N g : Nat} {cur : Array Value} (r : W.heap[g]? = some (.cells cur 24 (0, 0))) (h3 : N * 32 ≤ cur.size) (h4 : b ≤ g) (h5 : g < c) (o : Nat) (vs : List Value) : Wrb (W.setRow g (ovw cur o vs)) b c (some ⟨g, 0, none⟩) N :=
  .inr ⟨g, _, rfl, setRow_heap _ _ _ _ _ _ r, by rw [ovw_sz]; exact h3, h4, h5⟩
theorem OwnK.setg {W : World} {c g : Nat} {v : Value} {ks : List (List Int)} (h : OwnK W c v ks) (hg : g < c) (z : Array Value) : OwnK (W.setRow g z) c v ks :=
  h.move fun j o e hj => (setRow_other _ _ _ _ (by have := h.lt j e; omega)).trans hj
theorem mk9 : Tryd.prog.built 24 [(0, .int .u8 9)] = some (irow .u8 (9 :: zr 31)) := by kernel_rfl
theorem mk8 : Tryd.prog.built 24 [(0, .int .u8 8)] = some (irow .u8 (8 :: zr 31)) := by kernel_rfl
theorem mk7 : Tryd.prog.built 24 [(0, .int .u8 7)] = some (irow .u8 (7 :: zr 31)) := by kernel_rfl
theorem mkz (x : Int) : (x :: zr 31).length = 32 := by simp [zr_len]
set_option maxRecDepth 100000 in
set_option maxHeartbeats 8000000 in
theorem r_Growth (l : List (List Int)) (m : Nat) (w : World) (v : Value) (hm : m ≤ l.length) (hL : Ksl w v l) : Calls Tryd.prog 50 #[v, .int .i64 (m : Int)] w fun e w' => ∃ v', e = .returned v' ∧ OwnK w' w.heap.size v' (grL l m) ∧ Below w.heap.size w w' := by
  obtain ⟨ao, cap, rfl, _, _⟩ := hL.slc
  by_cases h0 : m = 0
  · subst h0
    rw [show grL l 0 = [] from rfl]
    go_enter Tryd.func50, Tryd.ntmps50
    go_wp2_with (fail)
    go_ret
    exact ⟨_, rfl, OwnK.empty w (Nat.le_refl _), (Below.refl _ _).alloc (Nat.le_refl _) _⟩
  have d0 : decide ((m : Int) = 0) = false := by simp; omega
  have e0 : ((m : Int) == 0) = false := by simp; omega
  by_cases h1 : m = l.length
  · subst h1
    rw [show grL l l.length = [] from by unfold grL; rw [if_neg h0]; exact (gro_end sumL (Nat.le_refl _) true).trans (if_pos rfl)]
    go_enter Tryd.func50, Tryd.ntmps50
    go_wp2_with (fail)
    go_ret
    exact ⟨_, rfl, OwnK.empty w (Nat.le_refl _), (Below.refl _ _).alloc (Nat.le_refl _) _⟩
  have d1 : decide ((m : Int) = (l.length : Int)) = false := by simp; omega
  have e1 : ((m : Int) == (l.length : Int)) = false := by simp; omega
  have cG := r_growth _ l m true w _ rfl (by omega) hm hL
  rw [show grL l m = gro sumL l m true from by unfold grL; rw [if_neg h0]]
  generalize gro sumL l m true = G at *
  generalize l.length = L at *
  go_enter Tryd.func50, Tryd.ntmps50
  go_wp2_with (fail)
  refine cG.mono ?_
  rintro e_ w1 ⟨v1, rfl, hO, hw⟩
  obtain ⟨a1, c1, rfl, _, _⟩ := hO.slc
  go_wp2_with (fail)
  go_ret
  exact ⟨_, rfl, hO, hw⟩
set_option maxRecDepth 100000 in
set_option maxHeartbeats 8000000 in
theorem ask_else (l : List (List Int)) (kd m n : Int) (lf : List Int) (w : World) (b g : Nat) (v : Value) (vo : Option Addr) (vc : Nat) (hG : LogS w b g v l) (_hL : Ksl w (.slice vo l.length vc) l) (g1 : (kd == 1) = false) (g2 : (kd == 2) = false) (g3 : (kd == 3) = false) (g4 : (kd == 4) = false) {xa xb : Bool} (da : decide (n ≥ 0) = xa) (db : decide (n ≤ (l.length : Int)) = xb) : Calls Tryd.prog 26 #[.pointer (some ⟨g, 0, none⟩), .slice vo l.length vc, .agg (askrow kd m n lf)] w fun e w' => e = .returned (.bool true) ∧ Below w.heap.size w w' := by
  cases xa
  · have rp0 := hp1_0 w (.cells (askrow kd m n lf) 45)
    have hw : Below w.heap.size w (w.alloc (.cells (askrow kd m n lf) 45)) := ((Below.refl _ _).alloc (Nat.le_refl _) _)
    go_enter Tryd.func26, Tryd.ntmps26
    iterate 6 go_step
    generalize (w.alloc (.cells (askrow kd m n lf) 45)) = w0 at *
    replace hG := hG.keep hw
    have k0 : w0.cell? ⟨w.heap.size, 0, none⟩ = some (.int .i64 kd) := cell_of rp0 (ask_0 _ _ _ _)
    have k1 : w0.cell? ⟨w.heap.size, 1, none⟩ = some (.int .i64 m) := cell_of rp0 (ask_1 _ _ _ _)
    have k2 : w0.cell? ⟨w.heap.size, 2, none⟩ = some (.int .i64 n) := cell_of rp0 (ask_2 _ _ _ _)
    go_wp2_with (fail)
    go_ret
    exact ⟨rfl, hw⟩
  · have rp0 := hp1_0 w (.cells (askrow kd m n lf) 45)
    have hw : Below w.heap.size w (w.alloc (.cells (askrow kd m n lf) 45)) := ((Below.refl _ _).alloc (Nat.le_refl _) _)
    go_enter Tryd.func26, Tryd.ntmps26
    iterate 6 go_step
    generalize (w.alloc (.cells (askrow kd m n lf) 45)) = w0 at *
    replace hG := hG.keep hw
    have k0 : w0.cell? ⟨w.heap.size, 0, none⟩ = some (.int .i64 kd) := cell_of rp0 (ask_0 _ _ _ _)
    have k1 : w0.cell? ⟨w.heap.size, 1, none⟩ = some (.int .i64 m) := cell_of rp0 (ask_1 _ _ _ _)
    have k2 : w0.cell? ⟨w.heap.size, 2, none⟩ = some (.int .i64 n) := cell_of rp0 (ask_2 _ _ _ _)
    go_wp2_with (fail)
    go_ret
    exact ⟨rfl, hw⟩
set_option maxRecDepth 100000 in
set_option maxHeartbeats 8000000 in
theorem ask1_no (l : List (List Int)) (m n : Int) (lf : List Int) (w : World) (b g : Nat) (v : Value) (vo : Option Addr) (vc : Nat) (hG : LogS w b g v l) (_hL : Ksl w (.slice vo l.length vc) l) (hn : n < 0 ∨ (l.length : Int) < n) {xa xb : Bool} (da : decide (n ≥ 0) = xa) (db : decide (n ≤ (l.length : Int)) = xb) (hf : (xa && xb) = false) : Calls Tryd.prog 26 #[.pointer (some ⟨g, 0, none⟩), .slice vo l.length vc, .agg (askrow 1 m n lf)] w fun e w' => e = .returned (.bool true) ∧ Below w.heap.size w w' := by
  cases xa
  · skip
    have rp0 := hp1_0 w (.cells (askrow 1 m n lf) 45)
    have hw : Below w.heap.size w (w.alloc (.cells (askrow 1 m n lf) 45)) := ((Below.refl _ _).alloc (Nat.le_refl _) _)
    go_enter Tryd.func26, Tryd.ntmps26
    iterate 6 go_step
    generalize (w.alloc (.cells (askrow 1 m n lf) 45)) = w0 at *
    replace hG := hG.keep hw
    have k0 : w0.cell? ⟨w.heap.size, 0, none⟩ = some (.int .i64 1) := cell_of rp0 (ask_0 _ _ _ _)
    have k1 : w0.cell? ⟨w.heap.size, 1, none⟩ = some (.int .i64 m) := cell_of rp0 (ask_1 _ _ _ _)
    have k2 : w0.cell? ⟨w.heap.size, 2, none⟩ = some (.int .i64 n) := cell_of rp0 (ask_2 _ _ _ _)
    go_wp2_with (fail)
    refine (a_LRoot_no l _ b g v hG n hn).mono ?_
    rintro e_ w1 ⟨rfl, hb⟩
    replace rp0 := keep hb rp0
    replace hG := hG.keep hb
    replace k0 := keepc hb k0
    replace k1 := keepc hb k1
    replace k2 := keepc hb k2
    replace hw := Below.after hw hb
    clear hb
    have eZ := eqKs (zr 32) (zr_len 32)
    go_wp2_with (first | (refine wpList_store_row rfl 24 _ _ rfl (w1.heap.size) (irow .u8 (zr 32)) rfl rfl 24 (irow .u8 (zr 32)) (hp1_0 w1 _) (infok8 _ (zr_len 32)) (((irow_size _ _).trans (zr_len 32)).trans ((irow_size _ _).trans (zr_len 32)).symm) (irow_one8 _) ?_; rw [setRow_alloc_new _ _ _ _ _ _ (by simp)]; refine wpList_stay ?_) | fail)
    unfold WpStay
    try simp only [Act.put]
    have rl8 : (w1.alloc (.cells (irow .u8 (zr 32)) 24)).heap[w1.heap.size]? = some (.cells (irow .u8 (zr 32)) 24 (0, 0)) := hp1_0 w1 _
    have hb : Below w1.heap.size w1 (w1.alloc (.cells (irow .u8 (zr 32)) 24)) := ((Below.refl _ _).alloc (Nat.le_refl _) _)
    generalize (w1.alloc (.cells (irow .u8 (zr 32)) 24)) = w2 at *
    have lt_g8_0 := lt_of_row rp0
    have sz_g8 := hw.size
    replace rp0 := keep hb rp0
    replace hG := hG.keep hb
    replace k0 := keepc hb k0
    replace k1 := keepc hb k1
    replace k2 := keepc hb k2
    replace hw := Below.after hw hb
    clear hb
    generalize w1.heap.size = g8 at *
    clear w1
    go_wp2_with (first | (refine wpList_load_part rfl 24 _ rfl (g8) 0 rfl 24 (irow .u8 (zr 32)) (0, 0) (irow .u8 (zr 32)) _ rl8 (all_rowe _) Tryd.underlying24 rfl (infok8 _ (zr_len 32)) ?_) | (refine wpList_build_as rfl 24 _ rfl [] rfl (irow .u8 (zr 32)) zkb ?_) | fail)
    go_ret
    exact ⟨rfl, hw⟩
  · skip
    cases xb
    · skip
      have rp0 := hp1_0 w (.cells (askrow 1 m n lf) 45)
      have hw : Below w.heap.size w (w.alloc (.cells (askrow 1 m n lf) 45)) := ((Below.refl _ _).alloc (Nat.le_refl _) _)
      go_enter Tryd.func26, Tryd.ntmps26
      iterate 6 go_step
      generalize (w.alloc (.cells (askrow 1 m n lf) 45)) = w0 at *
      replace hG := hG.keep hw
      have k0 : w0.cell? ⟨w.heap.size, 0, none⟩ = some (.int .i64 1) := cell_of rp0 (ask_0 _ _ _ _)
      have k1 : w0.cell? ⟨w.heap.size, 1, none⟩ = some (.int .i64 m) := cell_of rp0 (ask_1 _ _ _ _)
      have k2 : w0.cell? ⟨w.heap.size, 2, none⟩ = some (.int .i64 n) := cell_of rp0 (ask_2 _ _ _ _)
      go_wp2_with (fail)
      refine (a_LRoot_no l _ b g v hG n hn).mono ?_
      rintro e_ w1 ⟨rfl, hb⟩
      replace rp0 := keep hb rp0
      replace hG := hG.keep hb
      replace k0 := keepc hb k0
      replace k1 := keepc hb k1
      replace k2 := keepc hb k2
      replace hw := Below.after hw hb
      clear hb
      have eZ := eqKs (zr 32) (zr_len 32)
      go_wp2_with (first | (refine wpList_store_row rfl 24 _ _ rfl (w1.heap.size) (irow .u8 (zr 32)) rfl rfl 24 (irow .u8 (zr 32)) (hp1_0 w1 _) (infok8 _ (zr_len 32)) (((irow_size _ _).trans (zr_len 32)).trans ((irow_size _ _).trans (zr_len 32)).symm) (irow_one8 _) ?_; rw [setRow_alloc_new _ _ _ _ _ _ (by simp)]; refine wpList_stay ?_) | fail)
      unfold WpStay
      try simp only [Act.put]
      have rl8 : (w1.alloc (.cells (irow .u8 (zr 32)) 24)).heap[w1.heap.size]? = some (.cells (irow .u8 (zr 32)) 24 (0, 0)) := hp1_0 w1 _
      have hb : Below w1.heap.size w1 (w1.alloc (.cells (irow .u8 (zr 32)) 24)) := ((Below.refl _ _).alloc (Nat.le_refl _) _)
      generalize (w1.alloc (.cells (irow .u8 (zr 32)) 24)) = w2 at *
      have lt_g8_0 := lt_of_row rp0
      have sz_g8 := hw.size
      replace rp0 := keep hb rp0
      replace hG := hG.keep hb
      replace k0 := keepc hb k0
      replace k1 := keepc hb k1
      replace k2 := keepc hb k2
      replace hw := Below.after hw hb
      clear hb
      generalize w1.heap.size = g8 at *
      clear w1
      go_wp2_with (first | (refine wpList_load_part rfl 24 _ rfl (g8) 0 rfl 24 (irow .u8 (zr 32)) (0, 0) (irow .u8 (zr 32)) _ rl8 (all_rowe _) Tryd.underlying24 rfl (infok8 _ (zr_len 32)) ?_) | (refine wpList_build_as rfl 24 _ rfl [] rfl (irow .u8 (zr 32)) zkb ?_) | fail)
      go_ret
      exact ⟨rfl, hw⟩
    · exact absurd hf (by decide)
set_option maxRecDepth 100000 in
set_option maxHeartbeats 8000000 in
theorem ask1 (l : List (List Int)) (m : Int) (lf : List Int) (w : World) (b g : Nat) (v : Value) (vo : Option Addr) (vc : Nat) (hG : LogS w b g v l) (hL : Ksl w (.slice vo l.length vc) l) (N : Nat) (hN : N ≤ l.length) {R : List Int} (hR : R.length = 32) (cA : ∀ W, Below w.heap.size w W → Calls Tryd.prog 33 #[.pointer (some ⟨g, 0, none⟩), .int .i64 (N : Int)] W fun e w' => e = .returned (.tuple #[.agg (irow .u8 R), .int .i64 0]) ∧ Below W.heap.size W w') (cR : ∀ W, Below w.heap.size w W → Calls Tryd.prog 19 #[.slice vo N vc] W fun e w' => e = .returned (.agg (irow .u8 R)) ∧ Below W.heap.size W w') : Calls Tryd.prog 26 #[.pointer (some ⟨g, 0, none⟩), .slice vo l.length vc, .agg (askrow 1 m (N : Int) lf)] w fun e w' => e = .returned (.bool true) ∧ Below w.heap.size w w' := by
  have da : decide ((N : Int) ≥ 0) = true := by simp
  have db : decide ((N : Int) ≤ (l.length : Int)) = true := by simp; omega
  obtain ⟨_, _, e, hvc, hz⟩ := hL.slc
  injection e with e1 e2 e3
  subst e1 e3
  clear e2
  have rp0 := hp1_0 w (.cells (askrow 1 m (N : Int) lf) 45)
  have hw : Below w.heap.size w (w.alloc (.cells (askrow 1 m (N : Int) lf) 45)) := ((Below.refl _ _).alloc (Nat.le_refl _) _)
  go_enter Tryd.func26, Tryd.ntmps26
  iterate 6 go_step
  generalize (w.alloc (.cells (askrow 1 m (N : Int) lf) 45)) = w0 at *
  replace hG := hG.keep hw
  have k0 : w0.cell? ⟨w.heap.size, 0, none⟩ = some (.int .i64 1) := cell_of rp0 (ask_0 _ _ _ _)
  have k1 : w0.cell? ⟨w.heap.size, 1, none⟩ = some (.int .i64 m) := cell_of rp0 (ask_1 _ _ _ _)
  have k2 : w0.cell? ⟨w.heap.size, 2, none⟩ = some (.int .i64 (N : Int)) := cell_of rp0 (ask_2 _ _ _ _)
  go_wp2_with (fail)
  refine (cA _ hw).mono ?_
  rintro e_ w1 ⟨rfl, hb⟩
  replace rp0 := keep hb rp0
  replace hG := hG.keep hb
  replace k0 := keepc hb k0
  replace k1 := keepc hb k1
  replace k2 := keepc hb k2
  replace hw := Below.after hw hb
  clear hb
  have eZ := eqKs R hR
  go_wp2_with (first | (refine wpList_store_row rfl 24 _ _ rfl (w1.heap.size) (irow .u8 R) rfl rfl 24 (irow .u8 (zr 32)) (hp1_0 w1 _) (infok8 _ hR) (((irow_size _ _).trans (zr_len 32)).trans ((irow_size _ _).trans hR).symm) (irow_one8 _) ?_; rw [setRow_alloc_new _ _ _ _ _ _ (by simp)]; refine wpList_stay ?_) | fail)
  unfold WpStay
  try simp only [Act.put]
  have rl8 : (w1.alloc (.cells (irow .u8 R) 24)).heap[w1.heap.size]? = some (.cells (irow .u8 R) 24 (0, 0)) := hp1_0 w1 _
  have hb : Below w1.heap.size w1 (w1.alloc (.cells (irow .u8 R) 24)) := ((Below.refl _ _).alloc (Nat.le_refl _) _)
  generalize (w1.alloc (.cells (irow .u8 R) 24)) = w2 at *
  have lt_g8_0 := lt_of_row rp0
  have sz_g8 := hw.size
  replace rp0 := keep hb rp0
  replace hG := hG.keep hb
  replace k0 := keepc hb k0
  replace k1 := keepc hb k1
  replace k2 := keepc hb k2
  replace hw := Below.after hw hb
  clear hb
  generalize w1.heap.size = g8 at *
  clear w1
  go_wp2_with (fail)
  have hb : Below w2.heap.size w2 w2.drew := below_drN (Below.refl _ _) 1
  replace rp0 := keep hb rp0
  replace rl8 := keep hb rl8
  replace hG := hG.keep hb
  replace k0 := keepc hb k0
  replace k1 := keepc hb k1
  replace k2 := keepc hb k2
  replace hw := Below.after hw hb
  clear hb
  refine wp_region_noPanic ?_
  refine wp_region_held (S := fun W_ => W_.heap[g8]? = some (.cells (irow .u8 R) 24 (0, 0)) ∧ W_.cell? ⟨w.heap.size, 2, none⟩ = some (.int .i64 (N : Int))) (by kernel_rfl) ?_
  change wpAnyH _ _ _ _ _ _ _ _ (World.drew _)
  generalize w2.drew = wd9 at *
  refine wpAnyH_take (i := 0) (v := .agg (irow .u8 R)) rfl (by kernel_rfl) (by kernel_rfl) (by kernel_rfl) (fun _ _ _ h => h) (Or.inl ⟨by rfl, ?y10⟩) (⟨rl8, k2⟩) ?r10
  case y10 =>
    intro w_ hS_
    simp only [List.getElem_toArray, List.getElem_cons_zero]
    exact e_load_part 24 _ (by rfl) (g8) 0 (by rfl) 24 (irow .u8 R) (0, 0) (irow .u8 R) _ (hS_.1) (all_rowe _) Tryd.underlying24 rfl (infok8 _ hR)
  simp only [Act.put, List.getElem_toArray, List.getElem_cons_zero, List.setIfInBounds_toArray, List.set_cons_succ, List.set_cons_zero]
  refine wpAnyH_take (i := 1) (v := ?v11) rfl (by kernel_rfl) (by kernel_rfl) (by kernel_rfl) (fun _ _ _ h => h) (Or.inl ⟨by rfl, ?y11⟩) (⟨rl8, k2⟩) ?r11
  case y11 =>
    intro w_ hS_
    go_simp
    try with_reducible rfl
  simp only [Act.put, List.getElem_toArray, List.getElem_cons_succ, List.getElem_cons_zero, List.setIfInBounds_toArray, List.set_cons_succ, List.set_cons_zero]
  refine wpAnyH_take (i := 2) (v := ?v12) rfl (by kernel_rfl) (by kernel_rfl) (by kernel_rfl) (fun _ _ _ h => h) (Or.inl ⟨by rfl, ?y12⟩) (⟨rl8, k2⟩) ?r12
  case y12 =>
    intro w_ hS_
    go_simp
    try with_reducible rfl
  simp only [Act.put, List.getElem_toArray, List.getElem_cons_succ, List.getElem_cons_zero, List.setIfInBounds_toArray, List.set_cons_succ, List.set_cons_zero]
  refine wpAnyH_take (i := 3) (v := .int .i64 (N : Int)) rfl (by kernel_rfl) (by kernel_rfl) (by kernel_rfl) (fun _ _ _ h => h) (Or.inl ⟨by rfl, ?y13⟩) (⟨rl8, k2⟩) ?r13
  case y13 =>
    intro w_ hS_
    obtain ⟨z0, z1⟩ := hS_
    go_simp
    try with_reducible rfl
  simp only [Act.put, List.getElem_toArray, List.getElem_cons_succ, List.getElem_cons_zero, List.setIfInBounds_toArray, List.set_cons_succ, List.set_cons_zero]
  refine wpAnyH_take (i := 4) (v := .slice vo N vc) rfl (by kernel_rfl) (by kernel_rfl) (by kernel_rfl) (fun _ _ _ h => h) (Or.inl ⟨by rfl, ?y14⟩) (⟨rl8, k2⟩) ?r14
  case y14 =>
    intro w_ hS_
    simp only [List.getElem_toArray, List.getElem_cons_succ, List.getElem_cons_zero]
    exact e_slice _ _ _ _ rfl _ (slk_head vo l.length vc N (by omega) hz _)
  simp only [Act.put, List.getElem_toArray, List.getElem_cons_succ, List.getElem_cons_zero, List.setIfInBounds_toArray, List.set_cons_succ, List.set_cons_zero]
  refine eH_one (k := 5) (fuel := 6) (by kernel_rfl) rfl (by kernel_rfl) (fun K_ hK_ => ?_)
  refine wp_call_ex (f := 19) (by kernel_rfl) (ex1e (cR _ hw)) (fun v_ wq15 hX_ => ?_)
  obtain ⟨rfl, hb⟩ := hX_
  replace rp0 := keep hb rp0
  replace rl8 := keep hb rl8
  replace hG := hG.keep hb
  replace k0 := keepc hb k0
  replace k1 := keepc hb k1
  replace k2 := keepc hb k2
  replace hw := Below.after hw hb
  clear hb
  refine hK_ _ _ (⟨rl8, k2⟩) ?_
  simp only [Act.put, List.getElem_toArray, List.getElem_cons_succ, List.getElem_cons_zero, List.setIfInBounds_toArray, List.set_cons_succ, List.set_cons_zero]
  clear hK_
  refine wpAnyH_take (i := 6) (v := ?v16) rfl (by kernel_rfl) (by kernel_rfl) (by kernel_rfl) (fun _ _ _ h => h) (Or.inl ⟨by rfl, ?y16⟩) (⟨rl8, k2⟩) ?r16
  case y16 =>
    intro w_ hS_
    go_simp
    try with_reducible rfl
  simp only [Act.put, List.getElem_toArray, List.getElem_cons_succ, List.getElem_cons_zero, List.setIfInBounds_toArray, List.set_cons_succ, List.set_cons_zero]
  refine wpAnyH_take (i := 7) (v := ?v17) rfl (by kernel_rfl) (by kernel_rfl) (by kernel_rfl) (fun _ _ _ h => h) (Or.inl ⟨by rfl, ?y17⟩) (⟨rl8, k2⟩) ?r17
  case y17 =>
    intro w_ hS_
    go_simp
    try with_reducible rfl
  simp only [Act.put, List.getElem_toArray, List.getElem_cons_succ, List.getElem_cons_zero, List.setIfInBounds_toArray, List.set_cons_succ, List.set_cons_zero]
  refine wpAnyH_take (i := 8) (v := ?v18) rfl (by kernel_rfl) (by kernel_rfl) (by kernel_rfl) (fun _ _ _ h => h) (Or.inl ⟨by rfl, ?y18⟩) (⟨rl8, k2⟩) ?r18
  case y18 =>
    intro w_ hS_
    go_simp
    try with_reducible rfl
  simp only [Act.put, List.getElem_toArray, List.getElem_cons_succ, List.getElem_cons_zero, List.setIfInBounds_toArray, List.set_cons_succ, List.set_cons_zero]
  refine wpAnyH_take (i := 9) (v := ?v19) rfl (by kernel_rfl) (by kernel_rfl) (by kernel_rfl) (fun _ _ _ h => h) (Or.inl ⟨by rfl, ?y19⟩) (⟨rl8, k2⟩) ?r19
  case y19 =>
    intro w_ hS_
    go_simp
    try with_reducible rfl
  simp only [Act.put, List.getElem_toArray, List.getElem_cons_succ, List.getElem_cons_zero, List.setIfInBounds_toArray, List.set_cons_succ, List.set_cons_zero]
  refine wpAnyH_take (i := 10) (v := ?v20) rfl (by kernel_rfl) (by kernel_rfl) (by kernel_rfl) (fun _ _ _ h => h) (Or.inl ⟨by rfl, ?y20⟩) (⟨rl8, k2⟩) ?r20
  case y20 =>
    intro w_ hS_
    go_simp
    try with_reducible rfl
  simp only [Act.put, List.getElem_toArray, List.getElem_cons_succ, List.getElem_cons_zero, List.setIfInBounds_toArray, List.set_cons_succ, List.set_cons_zero]
  refine wpAnyH_take (i := 11) (v := ?v21) rfl (by kernel_rfl) (by kernel_rfl) (by kernel_rfl) (fun _ _ _ h => h) (Or.inl ⟨by rfl, ?y21⟩) (⟨rl8, k2⟩) ?r21
  case y21 =>
    intro w_ hS_
    go_simp
    try with_reducible rfl
  simp only [Act.put, List.getElem_toArray, List.getElem_cons_succ, List.getElem_cons_zero, List.setIfInBounds_toArray, List.set_cons_succ, List.set_cons_zero]
  refine wpAnyH_done (by kernel_rfl) ?_ _
  refine NoPanic.normal ?_
  go_wp2_with (fail)
  go_ret
  exact ⟨rfl, hw⟩
set_option maxRecDepth 100000 in
set_option maxHeartbeats 8000000 in
theorem ask2_no (l : List (List Int)) (m n : Int) (lf : List Int) (w : World) (b g : Nat) (v : Value) (vo : Option Addr) (vc : Nat) (hG : LogS w b g v l) (_hL : Ksl w (.slice vo l.length vc) l) {xa xb : Bool} (da : decide (n ≥ 0) = xa) (db : decide (n ≤ (l.length : Int)) = xb) {xc xd xe : Bool} (dc : decide (n ≥ 1) = xc) (dd : decide (m ≥ 0) = xd) (de : decide (m < n) = xe) (hf : (xa && xb && xc && xd && xe) = false) (cP : (∀ W, Below w.heap.size w W → Calls Tryd.prog 35 #[.pointer (some ⟨g, 0, none⟩), .int .i64 m, .int .i64 n] W fun e w' => ∃ v', e = .returned (.tuple #[v', .int .i64 210]) ∧ OwnK w' W.heap.size v' [] ∧ Below W.heap.size W w')) : Calls Tryd.prog 26 #[.pointer (some ⟨g, 0, none⟩), .slice vo l.length vc, .agg (askrow 2 m n lf)] w fun e w' => e = .returned (.bool true) ∧ Below w.heap.size w w' := by
  cases xa
  · skip
    have rp0 := hp1_0 w (.cells (askrow 2 m n lf) 45)
    have hw : Below w.heap.size w (w.alloc (.cells (askrow 2 m n lf) 45)) := ((Below.refl _ _).alloc (Nat.le_refl _) _)
    go_enter Tryd.func26, Tryd.ntmps26
    iterate 6 go_step
    generalize (w.alloc (.cells (askrow 2 m n lf) 45)) = w0 at *
    replace hG := hG.keep hw
    have k0 : w0.cell? ⟨w.heap.size, 0, none⟩ = some (.int .i64 2) := cell_of rp0 (ask_0 _ _ _ _)
    have k1 : w0.cell? ⟨w.heap.size, 1, none⟩ = some (.int .i64 m) := cell_of rp0 (ask_1 _ _ _ _)
    have k2 : w0.cell? ⟨w.heap.size, 2, none⟩ = some (.int .i64 n) := cell_of rp0 (ask_2 _ _ _ _)
    go_wp2_with (fail)
    have szx : w0.heap.size ≤ w0.heap.size := Nat.le_refl _
    refine (cP _ hw).mono ?_
    rintro e_ wx ⟨xv, rfl, hx, hb⟩
    have blx := hb.size
    replace rp0 := keep hb rp0
    replace hG := hG.keep hb
    replace k0 := keepc hb k0
    replace k1 := keepc hb k1
    replace k2 := keepc hb k2
    replace hw := Below.after hw hb
    clear hb
    obtain ⟨xo, xc, ex, _, _⟩ := hx.slc
    subst ex
    go_wp2_with (fail)
    have szy : wx.heap.size ≤ wx.heap.size := Nat.le_refl _
    refine (cP _ hw).mono ?_
    rintro e_ wy ⟨yv, rfl, hy, hb⟩
    have bly := hb.size
    replace rp0 := keep hb rp0
    replace hG := hG.keep hb
    replace k0 := keepc hb k0
    replace k1 := keepc hb k1
    replace k2 := keepc hb k2
    replace hx := hx.keep hb
    replace hw := Below.after hw hb
    clear hb
    obtain ⟨yo, yc, ey, _, _⟩ := hy.slc
    subst ey
    go_wp2_with (fail)
    go_ret
    exact ⟨rfl, hw⟩
  · skip
    cases xb
    · skip
      have rp0 := hp1_0 w (.cells (askrow 2 m n lf) 45)
      have hw : Below w.heap.size w (w.alloc (.cells (askrow 2 m n lf) 45)) := ((Below.refl _ _).alloc (Nat.le_refl _) _)
      go_enter Tryd.func26, Tryd.ntmps26
      iterate 6 go_step
      generalize (w.alloc (.cells (askrow 2 m n lf) 45)) = w0 at *
      replace hG := hG.keep hw
      have k0 : w0.cell? ⟨w.heap.size, 0, none⟩ = some (.int .i64 2) := cell_of rp0 (ask_0 _ _ _ _)
      have k1 : w0.cell? ⟨w.heap.size, 1, none⟩ = some (.int .i64 m) := cell_of rp0 (ask_1 _ _ _ _)
      have k2 : w0.cell? ⟨w.heap.size, 2, none⟩ = some (.int .i64 n) := cell_of rp0 (ask_2 _ _ _ _)
      go_wp2_with (fail)
      have szx : w0.heap.size ≤ w0.heap.size := Nat.le_refl _
      refine (cP _ hw).mono ?_
      rintro e_ wx ⟨xv, rfl, hx, hb⟩
      have blx := hb.size
      replace rp0 := keep hb rp0
      replace hG := hG.keep hb
      replace k0 := keepc hb k0
      replace k1 := keepc hb k1
      replace k2 := keepc hb k2
      replace hw := Below.after hw hb
      clear hb
      obtain ⟨xo, xc, ex, _, _⟩ := hx.slc
      subst ex
      go_wp2_with (fail)
      have szy : wx.heap.size ≤ wx.heap.size := Nat.le_refl _
      refine (cP _ hw).mono ?_
      rintro e_ wy ⟨yv, rfl, hy, hb⟩
      have bly := hb.size
      replace rp0 := keep hb rp0
      replace hG := hG.keep hb
      replace k0 := keepc hb k0
      replace k1 := keepc hb k1
      replace k2 := keepc hb k2
      replace hx := hx.keep hb
      replace hw := Below.after hw hb
      clear hb
      obtain ⟨yo, yc, ey, _, _⟩ := hy.slc
      subst ey
      go_wp2_with (fail)
      go_ret
      exact ⟨rfl, hw⟩
    · skip
      cases xc
      · skip
        have rp0 := hp1_0 w (.cells (askrow 2 m n lf) 45)
        have hw : Below w.heap.size w (w.alloc (.cells (askrow 2 m n lf) 45)) := ((Below.refl _ _).alloc (Nat.le_refl _) _)
        go_enter Tryd.func26, Tryd.ntmps26
        iterate 6 go_step
        generalize (w.alloc (.cells (askrow 2 m n lf) 45)) = w0 at *
        replace hG := hG.keep hw
        have k0 : w0.cell? ⟨w.heap.size, 0, none⟩ = some (.int .i64 2) := cell_of rp0 (ask_0 _ _ _ _)
        have k1 : w0.cell? ⟨w.heap.size, 1, none⟩ = some (.int .i64 m) := cell_of rp0 (ask_1 _ _ _ _)
        have k2 : w0.cell? ⟨w.heap.size, 2, none⟩ = some (.int .i64 n) := cell_of rp0 (ask_2 _ _ _ _)
        go_wp2_with (fail)
        have szx : w0.heap.size ≤ w0.heap.size := Nat.le_refl _
        refine (cP _ hw).mono ?_
        rintro e_ wx ⟨xv, rfl, hx, hb⟩
        have blx := hb.size
        replace rp0 := keep hb rp0
        replace hG := hG.keep hb
        replace k0 := keepc hb k0
        replace k1 := keepc hb k1
        replace k2 := keepc hb k2
        replace hw := Below.after hw hb
        clear hb
        obtain ⟨xo, xc, ex, _, _⟩ := hx.slc
        subst ex
        go_wp2_with (fail)
        have szy : wx.heap.size ≤ wx.heap.size := Nat.le_refl _
        refine (cP _ hw).mono ?_
        rintro e_ wy ⟨yv, rfl, hy, hb⟩
        have bly := hb.size
        replace rp0 := keep hb rp0
        replace hG := hG.keep hb
        replace k0 := keepc hb k0
        replace k1 := keepc hb k1
        replace k2 := keepc hb k2
        replace hx := hx.keep hb
        replace hw := Below.after hw hb
        clear hb
        obtain ⟨yo, yc, ey, _, _⟩ := hy.slc
        subst ey
        go_wp2_with (fail)
        go_ret
        exact ⟨rfl, hw⟩
      · skip
        cases xd
        · skip
          have rp0 := hp1_0 w (.cells (askrow 2 m n lf) 45)
          have hw : Below w.heap.size w (w.alloc (.cells (askrow 2 m n lf) 45)) := ((Below.refl _ _).alloc (Nat.le_refl _) _)
          go_enter Tryd.func26, Tryd.ntmps26
          iterate 6 go_step
          generalize (w.alloc (.cells (askrow 2 m n lf) 45)) = w0 at *
          replace hG := hG.keep hw
          have k0 : w0.cell? ⟨w.heap.size, 0, none⟩ = some (.int .i64 2) := cell_of rp0 (ask_0 _ _ _ _)
          have k1 : w0.cell? ⟨w.heap.size, 1, none⟩ = some (.int .i64 m) := cell_of rp0 (ask_1 _ _ _ _)
          have k2 : w0.cell? ⟨w.heap.size, 2, none⟩ = some (.int .i64 n) := cell_of rp0 (ask_2 _ _ _ _)
          go_wp2_with (fail)
          have szx : w0.heap.size ≤ w0.heap.size := Nat.le_refl _
          refine (cP _ hw).mono ?_
          rintro e_ wx ⟨xv, rfl, hx, hb⟩
          have blx := hb.size
          replace rp0 := keep hb rp0
          replace hG := hG.keep hb
          replace k0 := keepc hb k0
          replace k1 := keepc hb k1
          replace k2 := keepc hb k2
          replace hw := Below.after hw hb
          clear hb
          obtain ⟨xo, xc, ex, _, _⟩ := hx.slc
          subst ex
          go_wp2_with (fail)
          have szy : wx.heap.size ≤ wx.heap.size := Nat.le_refl _
          refine (cP _ hw).mono ?_
          rintro e_ wy ⟨yv, rfl, hy, hb⟩
          have bly := hb.size
          replace rp0 := keep hb rp0
          replace hG := hG.keep hb
          replace k0 := keepc hb k0
          replace k1 := keepc hb k1
          replace k2 := keepc hb k2
          replace hx := hx.keep hb
          replace hw := Below.after hw hb
          clear hb
          obtain ⟨yo, yc, ey, _, _⟩ := hy.slc
          subst ey
          go_wp2_with (fail)
          go_ret
          exact ⟨rfl, hw⟩
        · skip
          cases xe
          · skip
            have rp0 := hp1_0 w (.cells (askrow 2 m n lf) 45)
            have hw : Below w.heap.size w (w.alloc (.cells (askrow 2 m n lf) 45)) := ((Below.refl _ _).alloc (Nat.le_refl _) _)
            go_enter Tryd.func26, Tryd.ntmps26
            iterate 6 go_step
            generalize (w.alloc (.cells (askrow 2 m n lf) 45)) = w0 at *
            replace hG := hG.keep hw
            have k0 : w0.cell? ⟨w.heap.size, 0, none⟩ = some (.int .i64 2) := cell_of rp0 (ask_0 _ _ _ _)
            have k1 : w0.cell? ⟨w.heap.size, 1, none⟩ = some (.int .i64 m) := cell_of rp0 (ask_1 _ _ _ _)
            have k2 : w0.cell? ⟨w.heap.size, 2, none⟩ = some (.int .i64 n) := cell_of rp0 (ask_2 _ _ _ _)
            go_wp2_with (fail)
            have szx : w0.heap.size ≤ w0.heap.size := Nat.le_refl _
            refine (cP _ hw).mono ?_
            rintro e_ wx ⟨xv, rfl, hx, hb⟩
            have blx := hb.size
            replace rp0 := keep hb rp0
            replace hG := hG.keep hb
            replace k0 := keepc hb k0
            replace k1 := keepc hb k1
            replace k2 := keepc hb k2
            replace hw := Below.after hw hb
            clear hb
            obtain ⟨xo, xc, ex, _, _⟩ := hx.slc
            subst ex
            go_wp2_with (fail)
            have szy : wx.heap.size ≤ wx.heap.size := Nat.le_refl _
            refine (cP _ hw).mono ?_
            rintro e_ wy ⟨yv, rfl, hy, hb⟩
            have bly := hb.size
            replace rp0 := keep hb rp0
            replace hG := hG.keep hb
            replace k0 := keepc hb k0
            replace k1 := keepc hb k1
            replace k2 := keepc hb k2
            replace hx := hx.keep hb
            replace hw := Below.after hw hb
            clear hb
            obtain ⟨yo, yc, ey, _, _⟩ := hy.slc
            subst ey
            go_wp2_with (fail)
            go_ret
            exact ⟨rfl, hw⟩
          · exact absurd hf (by decide)
set_option maxRecDepth 100000 in
set_option maxHeartbeats 8000000 in
theorem ask3_no (l : List (List Int)) (m n : Int) (lf : List Int) (w : World) (b g : Nat) (v : Value) (vo : Option Addr) (vc : Nat) (hG : LogS w b g v l) (_hL : Ksl w (.slice vo l.length vc) l) {xa xb : Bool} (da : decide (n ≥ 0) = xa) (db : decide (n ≤ (l.length : Int)) = xb) {xc xd xe : Bool} (dc : decide (n ≥ 1) = xc) (dd : decide (m ≥ 0) = xd) (de : decide (m < n) = xe) {xg : Bool} (dg : decide (m ≤ n) = xg) (hf : (xa && xb && xd && xg) = false) {P : List (List Int)} {eP : Int} (cP : (∀ W, Below w.heap.size w W → Calls Tryd.prog 35 #[.pointer (some ⟨g, 0, none⟩), .int .i64 m, .int .i64 n] W fun e w' => ∃ v', e = .returned (.tuple #[v', .int .i64 eP]) ∧ OwnK w' W.heap.size v' P ∧ Below W.heap.size W w')) (cQ : (∀ W, Below w.heap.size w W → Calls Tryd.prog 34 #[.pointer (some ⟨g, 0, none⟩), .int .i64 m, .int .i64 n] W fun e w' => ∃ v', e = .returned (.tuple #[v', .int .i64 210]) ∧ OwnK w' W.heap.size v' [] ∧ Below W.heap.size W w')) : Calls Tryd.prog 26 #[.pointer (some ⟨g, 0, none⟩), .slice vo l.length vc, .agg (askrow 3 m n lf)] w fun e w' => e = .returned (.bool true) ∧ Below w.heap.size w w' := by
  cases xa
  · skip
    have rp0 := hp1_0 w (.cells (askrow 3 m n lf) 45)
    have hw : Below w.heap.size w (w.alloc (.cells (askrow 3 m n lf) 45)) := ((Below.refl _ _).alloc (Nat.le_refl _) _)
    go_enter Tryd.func26, Tryd.ntmps26
    iterate 6 go_step
    generalize (w.alloc (.cells (askrow 3 m n lf) 45)) = w0 at *
    replace hG := hG.keep hw
    have k0 : w0.cell? ⟨w.heap.size, 0, none⟩ = some (.int .i64 3) := cell_of rp0 (ask_0 _ _ _ _)
    have k1 : w0.cell? ⟨w.heap.size, 1, none⟩ = some (.int .i64 m) := cell_of rp0 (ask_1 _ _ _ _)
    have k2 : w0.cell? ⟨w.heap.size, 2, none⟩ = some (.int .i64 n) := cell_of rp0 (ask_2 _ _ _ _)
    go_wp2_with (fail)
    have szx : w0.heap.size ≤ w0.heap.size := Nat.le_refl _
    refine (cP _ hw).mono ?_
    rintro e_ wx ⟨xv, rfl, hx, hb⟩
    have blx := hb.size
    replace rp0 := keep hb rp0
    replace hG := hG.keep hb
    replace k0 := keepc hb k0
    replace k1 := keepc hb k1
    replace k2 := keepc hb k2
    replace hw := Below.after hw hb
    clear hb
    obtain ⟨xo, xc, ex, _, _⟩ := hx.slc
    subst ex
    go_wp2_with (fail)
    have szy : wx.heap.size ≤ wx.heap.size := Nat.le_refl _
    refine (cP _ hw).mono ?_
    rintro e_ wy ⟨yv, rfl, hy, hb⟩
    have bly := hb.size
    replace rp0 := keep hb rp0
    replace hG := hG.keep hb
    replace k0 := keepc hb k0
    replace k1 := keepc hb k1
    replace k2 := keepc hb k2
    replace hx := hx.keep hb
    replace hw := Below.after hw hb
    clear hb
    obtain ⟨yo, yc, ey, _, _⟩ := hy.slc
    subst ey
    go_wp2_with (fail)
    have szp : wy.heap.size ≤ wy.heap.size := Nat.le_refl _
    refine (cQ _ hw).mono ?_
    rintro e_ wp ⟨pv, rfl, hp, hb⟩
    have blp := hb.size
    replace rp0 := keep hb rp0
    replace hG := hG.keep hb
    replace k0 := keepc hb k0
    replace k1 := keepc hb k1
    replace k2 := keepc hb k2
    replace hx := hx.keep hb
    replace hy := hy.keep hb
    replace hw := Below.after hw hb
    clear hb
    obtain ⟨po, pc, ep, _, _⟩ := hp.slc
    subst ep
    go_wp2_with (fail)
    have szq : wp.heap.size ≤ wp.heap.size := Nat.le_refl _
    refine (cQ _ hw).mono ?_
    rintro e_ wq ⟨qv, rfl, hq, hb⟩
    have blq := hb.size
    replace rp0 := keep hb rp0
    replace hG := hG.keep hb
    replace k0 := keepc hb k0
    replace k1 := keepc hb k1
    replace k2 := keepc hb k2
    replace hx := hx.keep hb
    replace hy := hy.keep hb
    replace hp := hp.keep hb
    replace hw := Below.after hw hb
    clear hb
    obtain ⟨qo, qc, eq, _, _⟩ := hq.slc
    subst eq
    go_wp2_with (fail)
    go_ret
    exact ⟨rfl, hw⟩
  · cases xb
    · skip
      have rp0 := hp1_0 w (.cells (askrow 3 m n lf) 45)
      have hw : Below w.heap.size w (w.alloc (.cells (askrow 3 m n lf) 45)) := ((Below.refl _ _).alloc (Nat.le_refl _) _)
      go_enter Tryd.func26, Tryd.ntmps26
      iterate 6 go_step
      generalize (w.alloc (.cells (askrow 3 m n lf) 45)) = w0 at *
      replace hG := hG.keep hw
      have k0 : w0.cell? ⟨w.heap.size, 0, none⟩ = some (.int .i64 3) := cell_of rp0 (ask_0 _ _ _ _)
      have k1 : w0.cell? ⟨w.heap.size, 1, none⟩ = some (.int .i64 m) := cell_of rp0 (ask_1 _ _ _ _)
      have k2 : w0.cell? ⟨w.heap.size, 2, none⟩ = some (.int .i64 n) := cell_of rp0 (ask_2 _ _ _ _)
      go_wp2_with (fail)
      have szx : w0.heap.size ≤ w0.heap.size := Nat.le_refl _
      refine (cP _ hw).mono ?_
      rintro e_ wx ⟨xv, rfl, hx, hb⟩
      have blx := hb.size
      replace rp0 := keep hb rp0
      replace hG := hG.keep hb
      replace k0 := keepc hb k0
      replace k1 := keepc hb k1
      replace k2 := keepc hb k2
      replace hw := Below.after hw hb
      clear hb
      obtain ⟨xo, xc, ex, _, _⟩ := hx.slc
      subst ex
      go_wp2_with (fail)
      have szy : wx.heap.size ≤ wx.heap.size := Nat.le_refl _
      refine (cP _ hw).mono ?_
      rintro e_ wy ⟨yv, rfl, hy, hb⟩
      have bly := hb.size
      replace rp0 := keep hb rp0
      replace hG := hG.keep hb
      replace k0 := keepc hb k0
      replace k1 := keepc hb k1
      replace k2 := keepc hb k2
      replace hx := hx.keep hb
      replace hw := Below.after hw hb
      clear hb
      obtain ⟨yo, yc, ey, _, _⟩ := hy.slc
      subst ey
      go_wp2_with (fail)
      have szp : wy.heap.size ≤ wy.heap.size := Nat.le_refl _
      refine (cQ _ hw).mono ?_
      rintro e_ wp ⟨pv, rfl, hp, hb⟩
      have blp := hb.size
      replace rp0 := keep hb rp0
      replace hG := hG.keep hb
      replace k0 := keepc hb k0
      replace k1 := keepc hb k1
      replace k2 := keepc hb k2
      replace hx := hx.keep hb
      replace hy := hy.keep hb
      replace hw := Below.after hw hb
      clear hb
      obtain ⟨po, pc, ep, _, _⟩ := hp.slc
      subst ep
      go_wp2_with (fail)
      have szq : wp.heap.size ≤ wp.heap.size := Nat.le_refl _
      refine (cQ _ hw).mono ?_
      rintro e_ wq ⟨qv, rfl, hq, hb⟩
      have blq := hb.size
      replace rp0 := keep hb rp0
      replace hG := hG.keep hb
      replace k0 := keepc hb k0
      replace k1 := keepc hb k1
      replace k2 := keepc hb k2
      replace hx := hx.keep hb
      replace hy := hy.keep hb
      replace hp := hp.keep hb
      replace hw := Below.after hw hb
      clear hb
      obtain ⟨qo, qc, eq, _, _⟩ := hq.slc
      subst eq
      go_wp2_with (fail)
      go_ret
      exact ⟨rfl, hw⟩
    · cases xd
      · cases xc
        · skip
          have rp0 := hp1_0 w (.cells (askrow 3 m n lf) 45)
          have hw : Below w.heap.size w (w.alloc (.cells (askrow 3 m n lf) 45)) := ((Below.refl _ _).alloc (Nat.le_refl _) _)
          go_enter Tryd.func26, Tryd.ntmps26
          iterate 6 go_step
          generalize (w.alloc (.cells (askrow 3 m n lf) 45)) = w0 at *
          replace hG := hG.keep hw
          have k0 : w0.cell? ⟨w.heap.size, 0, none⟩ = some (.int .i64 3) := cell_of rp0 (ask_0 _ _ _ _)
          have k1 : w0.cell? ⟨w.heap.size, 1, none⟩ = some (.int .i64 m) := cell_of rp0 (ask_1 _ _ _ _)
          have k2 : w0.cell? ⟨w.heap.size, 2, none⟩ = some (.int .i64 n) := cell_of rp0 (ask_2 _ _ _ _)
          go_wp2_with (fail)
          have szx : w0.heap.size ≤ w0.heap.size := Nat.le_refl _
          refine (cP _ hw).mono ?_
          rintro e_ wx ⟨xv, rfl, hx, hb⟩
          have blx := hb.size
          replace rp0 := keep hb rp0
          replace hG := hG.keep hb
          replace k0 := keepc hb k0
          replace k1 := keepc hb k1
          replace k2 := keepc hb k2
          replace hw := Below.after hw hb
          clear hb
          obtain ⟨xo, xc, ex, _, _⟩ := hx.slc
          subst ex
          go_wp2_with (fail)
          have szy : wx.heap.size ≤ wx.heap.size := Nat.le_refl _
          refine (cP _ hw).mono ?_
          rintro e_ wy ⟨yv, rfl, hy, hb⟩
          have bly := hb.size
          replace rp0 := keep hb rp0
          replace hG := hG.keep hb
          replace k0 := keepc hb k0
          replace k1 := keepc hb k1
          replace k2 := keepc hb k2
          replace hx := hx.keep hb
          replace hw := Below.after hw hb
          clear hb
          obtain ⟨yo, yc, ey, _, _⟩ := hy.slc
          subst ey
          go_wp2_with (fail)
          have szp : wy.heap.size ≤ wy.heap.size := Nat.le_refl _
          refine (cQ _ hw).mono ?_
          rintro e_ wp ⟨pv, rfl, hp, hb⟩
          have blp := hb.size
          replace rp0 := keep hb rp0
          replace hG := hG.keep hb
          replace k0 := keepc hb k0
          replace k1 := keepc hb k1
          replace k2 := keepc hb k2
          replace hx := hx.keep hb
          replace hy := hy.keep hb
          replace hw := Below.after hw hb
          clear hb
          obtain ⟨po, pc, ep, _, _⟩ := hp.slc
          subst ep
          go_wp2_with (fail)
          have szq : wp.heap.size ≤ wp.heap.size := Nat.le_refl _
          refine (cQ _ hw).mono ?_
          rintro e_ wq ⟨qv, rfl, hq, hb⟩
          have blq := hb.size
          replace rp0 := keep hb rp0
          replace hG := hG.keep hb
          replace k0 := keepc hb k0
          replace k1 := keepc hb k1
          replace k2 := keepc hb k2
          replace hx := hx.keep hb
          replace hy := hy.keep hb
          replace hp := hp.keep hb
          replace hw := Below.after hw hb
          clear hb
          obtain ⟨qo, qc, eq, _, _⟩ := hq.slc
          subst eq
          go_wp2_with (fail)
          go_ret
          exact ⟨rfl, hw⟩
        · skip
          have rp0 := hp1_0 w (.cells (askrow 3 m n lf) 45)
          have hw : Below w.heap.size w (w.alloc (.cells (askrow 3 m n lf) 45)) := ((Below.refl _ _).alloc (Nat.le_refl _) _)
          go_enter Tryd.func26, Tryd.ntmps26
          iterate 6 go_step
          generalize (w.alloc (.cells (askrow 3 m n lf) 45)) = w0 at *
          replace hG := hG.keep hw
          have k0 : w0.cell? ⟨w.heap.size, 0, none⟩ = some (.int .i64 3) := cell_of rp0 (ask_0 _ _ _ _)
          have k1 : w0.cell? ⟨w.heap.size, 1, none⟩ = some (.int .i64 m) := cell_of rp0 (ask_1 _ _ _ _)
          have k2 : w0.cell? ⟨w.heap.size, 2, none⟩ = some (.int .i64 n) := cell_of rp0 (ask_2 _ _ _ _)
          go_wp2_with (fail)
          have szx : w0.heap.size ≤ w0.heap.size := Nat.le_refl _
          refine (cP _ hw).mono ?_
          rintro e_ wx ⟨xv, rfl, hx, hb⟩
          have blx := hb.size
          replace rp0 := keep hb rp0
          replace hG := hG.keep hb
          replace k0 := keepc hb k0
          replace k1 := keepc hb k1
          replace k2 := keepc hb k2
          replace hw := Below.after hw hb
          clear hb
          obtain ⟨xo, xc, ex, _, _⟩ := hx.slc
          subst ex
          go_wp2_with (fail)
          have szy : wx.heap.size ≤ wx.heap.size := Nat.le_refl _
          refine (cP _ hw).mono ?_
          rintro e_ wy ⟨yv, rfl, hy, hb⟩
          have bly := hb.size
          replace rp0 := keep hb rp0
          replace hG := hG.keep hb
          replace k0 := keepc hb k0
          replace k1 := keepc hb k1
          replace k2 := keepc hb k2
          replace hx := hx.keep hb
          replace hw := Below.after hw hb
          clear hb
          obtain ⟨yo, yc, ey, _, _⟩ := hy.slc
          subst ey
          go_wp2_with (fail)
          have szp : wy.heap.size ≤ wy.heap.size := Nat.le_refl _
          refine (cQ _ hw).mono ?_
          rintro e_ wp ⟨pv, rfl, hp, hb⟩
          have blp := hb.size
          replace rp0 := keep hb rp0
          replace hG := hG.keep hb
          replace k0 := keepc hb k0
          replace k1 := keepc hb k1
          replace k2 := keepc hb k2
          replace hx := hx.keep hb
          replace hy := hy.keep hb
          replace hw := Below.after hw hb
          clear hb
          obtain ⟨po, pc, ep, _, _⟩ := hp.slc
          subst ep
          go_wp2_with (fail)
          have szq : wp.heap.size ≤ wp.heap.size := Nat.le_refl _
          refine (cQ _ hw).mono ?_
          rintro e_ wq ⟨qv, rfl, hq, hb⟩
          have blq := hb.size
          replace rp0 := keep hb rp0
          replace hG := hG.keep hb
          replace k0 := keepc hb k0
          replace k1 := keepc hb k1
          replace k2 := keepc hb k2
          replace hx := hx.keep hb
          replace hy := hy.keep hb
          replace hp := hp.keep hb
          replace hw := Below.after hw hb
          clear hb
          obtain ⟨qo, qc, eq, _, _⟩ := hq.slc
          subst eq
          go_wp2_with (fail)
          go_ret
          exact ⟨rfl, hw⟩
      · cases xg
        · cases xc
          · skip
            have rp0 := hp1_0 w (.cells (askrow 3 m n lf) 45)
            have hw : Below w.heap.size w (w.alloc (.cells (askrow 3 m n lf) 45)) := ((Below.refl _ _).alloc (Nat.le_refl _) _)
            go_enter Tryd.func26, Tryd.ntmps26
            iterate 6 go_step
            generalize (w.alloc (.cells (askrow 3 m n lf) 45)) = w0 at *
            replace hG := hG.keep hw
            have k0 : w0.cell? ⟨w.heap.size, 0, none⟩ = some (.int .i64 3) := cell_of rp0 (ask_0 _ _ _ _)
            have k1 : w0.cell? ⟨w.heap.size, 1, none⟩ = some (.int .i64 m) := cell_of rp0 (ask_1 _ _ _ _)
            have k2 : w0.cell? ⟨w.heap.size, 2, none⟩ = some (.int .i64 n) := cell_of rp0 (ask_2 _ _ _ _)
            go_wp2_with (fail)
            have szx : w0.heap.size ≤ w0.heap.size := Nat.le_refl _
            refine (cP _ hw).mono ?_
            rintro e_ wx ⟨xv, rfl, hx, hb⟩
            have blx := hb.size
            replace rp0 := keep hb rp0
            replace hG := hG.keep hb
            replace k0 := keepc hb k0
            replace k1 := keepc hb k1
            replace k2 := keepc hb k2
            replace hw := Below.after hw hb
            clear hb
            obtain ⟨xo, xc, ex, _, _⟩ := hx.slc
            subst ex
            go_wp2_with (fail)
            have szy : wx.heap.size ≤ wx.heap.size := Nat.le_refl _
            refine (cP _ hw).mono ?_
            rintro e_ wy ⟨yv, rfl, hy, hb⟩
            have bly := hb.size
            replace rp0 := keep hb rp0
            replace hG := hG.keep hb
            replace k0 := keepc hb k0
            replace k1 := keepc hb k1
            replace k2 := keepc hb k2
            replace hx := hx.keep hb
            replace hw := Below.after hw hb
            clear hb
            obtain ⟨yo, yc, ey, _, _⟩ := hy.slc
            subst ey
            go_wp2_with (fail)
            have szp : wy.heap.size ≤ wy.heap.size := Nat.le_refl _
            refine (cQ _ hw).mono ?_
            rintro e_ wp ⟨pv, rfl, hp, hb⟩
            have blp := hb.size
            replace rp0 := keep hb rp0
            replace hG := hG.keep hb
            replace k0 := keepc hb k0
            replace k1 := keepc hb k1
            replace k2 := keepc hb k2
            replace hx := hx.keep hb
            replace hy := hy.keep hb
            replace hw := Below.after hw hb
            clear hb
            obtain ⟨po, pc, ep, _, _⟩ := hp.slc
            subst ep
            go_wp2_with (fail)
            have szq : wp.heap.size ≤ wp.heap.size := Nat.le_refl _
            refine (cQ _ hw).mono ?_
            rintro e_ wq ⟨qv, rfl, hq, hb⟩
            have blq := hb.size
            replace rp0 := keep hb rp0
            replace hG := hG.keep hb
            replace k0 := keepc hb k0
            replace k1 := keepc hb k1
            replace k2 := keepc hb k2
            replace hx := hx.keep hb
            replace hy := hy.keep hb
            replace hp := hp.keep hb
            replace hw := Below.after hw hb
            clear hb
            obtain ⟨qo, qc, eq, _, _⟩ := hq.slc
            subst eq
            go_wp2_with (fail)
            go_ret
            exact ⟨rfl, hw⟩
          · skip
            have rp0 := hp1_0 w (.cells (askrow 3 m n lf) 45)
            have hw : Below w.heap.size w (w.alloc (.cells (askrow 3 m n lf) 45)) := ((Below.refl _ _).alloc (Nat.le_refl _) _)
            go_enter Tryd.func26, Tryd.ntmps26
            iterate 6 go_step
            generalize (w.alloc (.cells (askrow 3 m n lf) 45)) = w0 at *
            replace hG := hG.keep hw
            have k0 : w0.cell? ⟨w.heap.size, 0, none⟩ = some (.int .i64 3) := cell_of rp0 (ask_0 _ _ _ _)
            have k1 : w0.cell? ⟨w.heap.size, 1, none⟩ = some (.int .i64 m) := cell_of rp0 (ask_1 _ _ _ _)
            have k2 : w0.cell? ⟨w.heap.size, 2, none⟩ = some (.int .i64 n) := cell_of rp0 (ask_2 _ _ _ _)
            go_wp2_with (fail)
            have szx : w0.heap.size ≤ w0.heap.size := Nat.le_refl _
            refine (cP _ hw).mono ?_
            rintro e_ wx ⟨xv, rfl, hx, hb⟩
            have blx := hb.size
            replace rp0 := keep hb rp0
            replace hG := hG.keep hb
            replace k0 := keepc hb k0
            replace k1 := keepc hb k1
            replace k2 := keepc hb k2
            replace hw := Below.after hw hb
            clear hb
            obtain ⟨xo, xc, ex, _, _⟩ := hx.slc
            subst ex
            go_wp2_with (fail)
            have szy : wx.heap.size ≤ wx.heap.size := Nat.le_refl _
            refine (cP _ hw).mono ?_
            rintro e_ wy ⟨yv, rfl, hy, hb⟩
            have bly := hb.size
            replace rp0 := keep hb rp0
            replace hG := hG.keep hb
            replace k0 := keepc hb k0
            replace k1 := keepc hb k1
            replace k2 := keepc hb k2
            replace hx := hx.keep hb
            replace hw := Below.after hw hb
            clear hb
            obtain ⟨yo, yc, ey, _, _⟩ := hy.slc
            subst ey
            go_wp2_with (fail)
            have szp : wy.heap.size ≤ wy.heap.size := Nat.le_refl _
            refine (cQ _ hw).mono ?_
            rintro e_ wp ⟨pv, rfl, hp, hb⟩
            have blp := hb.size
            replace rp0 := keep hb rp0
            replace hG := hG.keep hb
            replace k0 := keepc hb k0
            replace k1 := keepc hb k1
            replace k2 := keepc hb k2
            replace hx := hx.keep hb
            replace hy := hy.keep hb
            replace hw := Below.after hw hb
            clear hb
            obtain ⟨po, pc, ep, _, _⟩ := hp.slc
            subst ep
            go_wp2_with (fail)
            have szq : wp.heap.size ≤ wp.heap.size := Nat.le_refl _
            refine (cQ _ hw).mono ?_
            rintro e_ wq ⟨qv, rfl, hq, hb⟩
            have blq := hb.size
            replace rp0 := keep hb rp0
            replace hG := hG.keep hb
            replace k0 := keepc hb k0
            replace k1 := keepc hb k1
            replace k2 := keepc hb k2
            replace hx := hx.keep hb
            replace hy := hy.keep hb
            replace hp := hp.keep hb
            replace hw := Below.after hw hb
            clear hb
            obtain ⟨qo, qc, eq, _, _⟩ := hq.slc
            subst eq
            go_wp2_with (fail)
            go_ret
            exact ⟨rfl, hw⟩
        · exact absurd hf (by decide)
end Go.Proofs.YtgfeacnhdlgpoaaDoor
