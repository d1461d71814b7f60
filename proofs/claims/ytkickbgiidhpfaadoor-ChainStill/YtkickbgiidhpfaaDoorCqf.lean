import Derived.Test.YtkickbgiidhpfaaDoorProg
import Derived.WalkKit
import Derived.WalkSpells
import Derived.WalkLawsBesides
import Derived.Lib.QuietBelow
import Derived.BigQuiet
import Derived.OrdersHeld
import Derived.RangeFuncNested
import Derived.RangeFuncBound
import Derived.RangeFuncCalls
import Derived.RangeFuncLeaves
import Derived.Shelf.Abstract
import Derived.Shelf.RegionOpen
import Derived.OwnWalkIn
import Derived.TacticsInMore
import Derived.LoopNIn
import Derived.LoopIn
import Derived.OwnWalk
import Derived.Deep.RegionHeld3
import Derived.Test.YtkickbgiidhpfaaDoorKa
import Derived.Test.YtkickbgiidhpfaaDoorCqe
namespace Go.Proofs.YtkickbgiidhpfaaDoor
open Go Go.RowKit Go.Sort
attribute [local go_sem] setCell_drewN alloc_drewN

/-- The chain's key behind so many steps; the messages' keys. -/
def kat (key : List Int) : Nat → List Int
  | 0 => key
  | (i + 1) => hm (kat key i) [2]
def mat (key : List Int) (i : Nat) : List Int := hm (kat key i) [1]
theorem kat_len {key : List Int} (h : key.length = 32) : ∀ i, (kat key i).length = 32
  | 0 => h
  | (_ + 1) => hm_len _ _
theorem kat_bd {key : List Int} (h : ∀ z ∈ key, 0 ≤ z ∧ z < 256) : ∀ i, ∀ z ∈ kat key i, 0 ≤ z ∧ z < 256
  | 0 => h
  | (_ + 1) => hm_bd _ _
theorem mat_len (key : List Int) (i : Nat) : (mat key i).length = 32 := hm_len _ _
theorem mat_bd (key : List Int) (i : Nat) : ∀ z ∈ mat key i, 0 ≤ z ∧ z < 256 := hm_bd _ _
theorem kat_kat (key : List Int) (i : Nat) : ∀ j, kat (kat key i) j = kat key (i + j)
  | 0 => rfl
  | (j + 1) => by rw [kat, kat_kat key i j]; rfl
theorem mat_kat (key : List Int) (i j : Nat) : mat (kat key i) j = mat key (i + j) := by unfold mat; rw [kat_kat]
set_option maxRecDepth 100000 in
set_option maxHeartbeats 4000000 in
theorem a_steps1 (key : List Int) (hkl : key.length = 32) (hkz : ∀ z ∈ key, 0 ≤ z ∧ z < 256) (n : Int) (hn0 : 0 ≤ n) (cnt : Int) (m : Nat) (hc : cnt.toNat = m) (hm : n + (m : Int) ≤ 4294967295) (c cb sb l : Nat) (J Jx : Nat → World → Prop)
    (hJr : ∀ i A, J i A → Sta A ∧ Kon A ∧ A.heap[cb]? = some (.cells #[.int .i64 cnt] 2 (0, 0)) ∧ A.heap[sb]? = some (.cells #[.func (.func 15) #[.pointer (some ⟨c, 0, none⟩)] #[]] 50 (0, 0)) ∧ A.heap[c]? = some (.cells (chc (kat key i) (n + (i : Int))) 47 (0, 0)))
    (hY : ∀ (i : Nat) A C, i < m → J i A → But c A C → C.heap[c]? = some (.cells (chc (kat key (i + 1)) (n + (i : Int) + 1)) 47 (0, 0)) → YieldAt Fence.wide 2 Tryd.prog l #[.int .u32 (n + (i : Int)), .agg (irow .u8 (mat key i))] C fun e C' => (e = .returned (.bool true) ∧ J (i + 1) C') ∨ (e = .returned (.bool false) ∧ Jx (i + 1) C'))
    (w : World) (h0 : J 0 w) :
    Calls Tryd.prog 19 #[.func (.yield l) #[] #[], .pointer (some ⟨cb, 0, none⟩), .pointer (some ⟨sb, 0, none⟩)] w fun e w' => (∃ r, e = .returned r) ∧ (J m w' ∨ ∃ i, i < m ∧ Jx (i + 1) w') := by
  obtain ⟨_, _, r1, _, _⟩ := hJr _ _ h0
  have c1 : w.cell? ⟨cb, 0, none⟩ = some (.int .i64 cnt) := by rw [cell_of_row _ cb 0 _ _ _ r1]; rfl
  clear r1
  have eS := enters_of (P := Tryd.prog) Tryd.func15 (by kernel_rfl) rfl
  go_enter Tryd.func19, Tryd.ntmps19
  go_wp2_with (fail)
  go_loopw [5] (fun a0 wr => ∃ i : Nat, i ≤ m ∧ a0 = .int .i64 (i : Int) ∧ J i wr) (fun a0 _ => m - (intOf a0).toNat)
  case atStart => exact ⟨0, by omega, rfl, h0⟩
  case round =>
    obtain ⟨i, hi, rfl, hJ⟩ := hrel
    clear h0 c1
    obtain ⟨f0, f4, r1, r2, r3⟩ := hJr _ _ hJ
    have c2 : wr.cell? ⟨sb, 0, none⟩ = some (.func (.func 15) #[.pointer (some ⟨c, 0, none⟩)] #[]) := by rw [cell_of_row _ sb 0 _ _ _ r2]; rfl
    by_cases hlt : i < m
    · have hd : decide ((i : Int) < cnt) = true := by simp; omega
      have cS := a_step (kat key i) (kat_len hkl i) (kat_bd hkz i) (n + (i : Int)) (by omega) (by omega) wr f0 f4 c r3
      refine (wpIn_wide (n := 3)).1 ?_
      gi_wp2_with (fail)
      refine ⟨trivial, callsIn_wide.2 (cS.mono ?_)⟩
      rintro e_ w1 ⟨rfl, q1, q2⟩
      obtain ⟨fn, tmps, assign, body, hy, hRd⟩ := hY i wr w1 hlt hJ q2 q1
      rw [mat] at hy
      gi_wp2_with (fail)
      refine hRd.mono ?_
      clear hRd hy cS
      rintro e_ w7 (⟨rfl, hJ7⟩ | ⟨rfl, hJx7⟩)
      · gi_wp2_with (fail)
        refine ⟨⟨i + 1, by omega, by go_num, hJ7⟩, ?_⟩
        simp [intOf]; omega
      · gi_wp2_with (fail)
        refine bodyPost_ret (results_none rfl _ _ _) rfl ?_
        exact ⟨⟨_, rfl⟩, .inr ⟨i, hlt, hJx7⟩⟩
    · obtain rfl : i = m := by omega
      have hd : decide ((i : Int) < cnt) = false := by simp; omega
      go_wp2_with (fail)
      refine bodyPost_end (results_none rfl _ _ _) rfl ?_
      exact ⟨⟨_, rfl⟩, .inl hJ⟩
theorem bF (v : Value) (W : World) : (Instr.box 50 v).run Tryd.prog W = .ok (.pointer (some ⟨W.heap.size, 0, none⟩)) (W.alloc (.cells v.cells 50)) := by kernel_rfl
set_option maxRecDepth 100000 in
set_option maxHeartbeats 4000000 in
theorem a_steps (g : Nat) (k : Int) (w : World) : Calls Tryd.prog 14 #[.func (.func 15) #[.pointer (some ⟨g, 0, none⟩)] #[], .int .i64 k] w fun e w' => e = .returned (.func (.func 19) #[] #[.pointer (some ⟨w.heap.size + 1, 0, none⟩), .pointer (some ⟨w.heap.size, 0, none⟩)]) ∧ w' = (w.alloc (.cells #[.func (.func 15) #[.pointer (some ⟨g, 0, none⟩)] #[]] 50)).alloc (.cells #[.int .i64 k] 2) := by
  go_enter Tryd.func14, Tryd.ntmps14
  go_wp2_with (fail)
  try simp only [size_alloc1, Act.put, List.setIfInBounds_toArray, List.set_cons_succ, List.set_cons_zero]
  go_ret
  exact ⟨rfl, rfl⟩
set_option maxRecDepth 100000 in
set_option maxHeartbeats 4000000 in
theorem a_Ahead (g : Nat) (k : Int) (w : World) : Calls Tryd.prog 6 #[.pointer (some ⟨g, 0, none⟩), .int .i64 k] w fun e w' => e = .returned (.func (.func 13) #[] #[.pointer (some ⟨w.heap.size, 0, none⟩), .pointer (some ⟨w.heap.size + 1, 0, none⟩)]) ∧ w' = (w.alloc (.cells #[.pointer (some ⟨g, 0, none⟩)] 25)).alloc (.cells #[.int .i64 k] 3) := by
  go_enter Tryd.func6, Tryd.ntmps6
  go_wp2_with (fail)
  try simp only [size_alloc1, Act.put, List.setIfInBounds_toArray, List.set_cons_succ, List.set_cons_zero]
  go_ret
  exact ⟨rfl, rfl⟩
theorem run_min (a b : Int) (ts : Array TypeId) (ty : TypeId) (W : World) : (Builtin.min_ ts ty #[.int .i64 a, .int .i64 b]).run Tryd.prog W = .ok (.int .i64 (min a b)) W := by
  by_cases h : b < a
  · simp [Builtin.min_, Builtin.min2, h, Int.min_eq_right (Int.le_of_lt h)]
  · have h2 : a ≤ b := by omega
    have h' : ¬ b < a := by omega
    simp [Builtin.min_, Builtin.min2, h', Int.min_eq_left h2]
/-- How many messages are ahead. -/
def ahm (n k : Int) : Nat := (min k (4294967295 - n)).toNat
set_option maxRecDepth 100000 in
set_option maxHeartbeats 4000000 in
theorem a_ahead1 (key : List Int) (hkl : key.length = 32) (hkz : ∀ z ∈ key, 0 ≤ z ∧ z < 256) (n : Int) (hn0 : 0 ≤ n) (hn1 : n ≤ 4294967295) (k : Int) (c cbx nbx l : Nat) (J Jx : Nat → World → Prop) (w : World)
    (rcb : w.heap[cbx]? = some (.cells #[.pointer (some ⟨c, 0, none⟩)] 25 (0, 0))) (rnb : w.heap[nbx]? = some (.cells #[.int .i64 k] 3 (0, 0))) (rc : w.heap[c]? = some (.cells (chc key n) 47 (0, 0)))
    (hJS : ∀ i A, J i A → Sta A ∧ Kon A)
    (hJb : ∀ i A C, J i A → But w.heap.size A C → w.heap.size + 3 ≤ A.heap.size → J i C)
    (h0 : ∀ C, Below w.heap.size w C → w.heap.size + 3 ≤ C.heap.size → J 0 C)
    (hY : ∀ (i : Nat) A, i < ahm n k → J i A → w.heap.size + 3 ≤ A.heap.size → YieldAt Fence.wide 2 Tryd.prog l #[.int .u32 (n + (i : Int)), .agg (irow .u8 (mat key i))] A fun e A' => (e = .returned (.bool true) ∧ J (i + 1) A' ∧ A.heap.size ≤ A'.heap.size ∧ ∀ g, w.heap.size ≤ g → g < w.heap.size + 3 → A'.heap[g]? = A.heap[g]?) ∨ (e = .returned (.bool false) ∧ Jx (i + 1) A')) :
    Calls Tryd.prog 13 #[.func (.yield l) #[] #[], .pointer (some ⟨cbx, 0, none⟩), .pointer (some ⟨nbx, 0, none⟩)] w fun e w' => (∃ r, e = .returned r) ∧ (J (ahm n k) w' ∨ ∃ i, i < ahm n k ∧ Jx (i + 1) w') := by
  have hm : n + (ahm n k : Int) ≤ 4294967295 := by unfold ahm; omega
  have hcnt : (min k (4294967295 - n)).toNat = ahm n k := rfl
  generalize ahm n k = m at *
  have c1 : w.cell? ⟨cbx, 0, none⟩ = some (.pointer (some ⟨c, 0, none⟩)) := by rw [cell_of_row _ cbx 0 _ _ _ rcb]; rfl
  have R0 := hp1_0 w (.cells (chc (zr 32) 0) 47)
  have hba : Below w.heap.size w (w.alloc (.cells (chc (zr 32) 0) 47)) := (Below.refl _ _).alloc (Nat.le_refl _) _
  have R1 := setRow_heap _ w.heap.size _ (chc key n) _ _ R0
  have hw : Below w.heap.size w ((w.alloc (.cells (chc (zr 32) 0) 47)).setRow w.heap.size (chc key n)) := below_setRow hba (Nat.le_refl _) (chc key n)
  have hsz : ((w.alloc (.cells (chc (zr 32) 0) 47)).setRow w.heap.size (chc key n)).drew.heap.size = w.heap.size + 1 := by show ((w.alloc (.cells (chc (zr 32) 0) 47)).setRow w.heap.size (chc key n)).heap.size = _; rw [setRow_size, size_alloc1]
  have rn := keep hw rnb
  have hlw : cbx < w.heap.size := lt_of_row rcb
  go_enter Tryd.func13, Tryd.ntmps13
  go_wp2_with (first | (refine wpList_load_want rfl 47 _ rfl (c) rfl 47 (chc key n) (0, 0) _ rc Tryd.underlying47 rfl (infoC _ hkl _) ?_) | (refine wpList_alloc rfl 47 rfl (chc (zr 32) 0) zchc ?_) | (refine wpList_store_row rfl 47 _ _ rfl (w.heap.size) (chc key n) rfl rfl 47 _ R0 (infoC _ hkl _) (by rw [chc_size _ (zr_len 32), chc_size _ hkl]) (chc_one _ _) ?_) | fail)
  simp only [Act.put, List.setIfInBounds_toArray, List.set_cons_succ, List.set_cons_zero]
  clear c1 R0 hba
  generalize ((w.alloc (.cells (chc (zr 32) 0) 47)).setRow w.heap.size (chc key n)) = w1 at *
  have hbd : Below w1.heap.size w1 w1.drew := below_drN (Below.refl _ _) 1
  replace R1 := keep hbd R1
  replace rn := keep hbd rn
  replace hw := Below.after hw hbd
  clear hbd
  refine wp_region_noPanic ?_
  refine wp_region_held (S := fun _ => True) (by kernel_rfl) ?_
  change wpAnyH _ _ _ _ _ _ _ _ (World.drew _)
  generalize w1.drew = w2 at *
  refine wpAnyH_take (i := 0) (v := ?v1) rfl (by kernel_rfl) (by kernel_rfl) (by kernel_rfl) (fun _ _ _ h => h) (Or.inl ⟨by rfl, ?y1⟩) (trivial) ?r1
  case y1 =>
    intro w_ hS_
    go_simp
    try with_reducible rfl
  simp only [Act.put, List.getElem_toArray, List.getElem_cons_zero, List.setIfInBounds_toArray, List.set_cons_succ, List.set_cons_zero]
  refine wpAnyH_take (i := 5) (v := ?v2) rfl (by kernel_rfl) (by kernel_rfl) (by kernel_rfl) (fun _ _ _ h => h) (Or.inl ⟨by rfl, ?y2⟩) (trivial) ?r2
  case y2 =>
    intro w_ hS_
    go_simp
    try with_reducible rfl
  simp only [Act.put, List.getElem_toArray, List.getElem_cons_succ, List.getElem_cons_zero, List.setIfInBounds_toArray, List.set_cons_succ, List.set_cons_zero]
  refine wpAnyH_two (j := 1) (k := 2) (fuel := 4) (by kernel_rfl) rfl rfl (by kernel_rfl) (by kernel_rfl) (fun K_ hK_ => ?_) (fun K_ hK_ => ?_)
  · have c_ : w2.cell? ⟨nbx, 0, none⟩ = some (.int .i64 k) := by rw [cell_of_row _ nbx 0 _ _ _ rn]; rfl
    refine wp_pure_op (.int .i64 k) (by go_simp; try with_reducible rfl) ?_
    clear c_
    refine hK_ _ _ (trivial) ?_
    simp only [Act.put, List.getElem_toArray, List.getElem_cons_succ, List.getElem_cons_zero, List.setIfInBounds_toArray, List.set_cons_succ, List.set_cons_zero]
    clear hK_
    refine wpAnyH_one (k := 2) (fuel := 3) (by kernel_rfl) rfl (by kernel_rfl) (fun K_ hK_ => ?_)
    refine wp_call_ex (f := 16) (R := fun v w' => v = .int .i64 (4294967295 - n) ∧ w' = w2) (by kernel_rfl) ((a_left key hkl n hn0 hn1 w2 _ R1).mono fun e_ w_ ⟨h1_, h2_⟩ => ⟨_, h1_, rfl, h2_⟩) (fun v_ qL hX_ => ?_)
    obtain ⟨hv_, hq_⟩ := hX_
    rw [hv_, hq_]
    clear hv_ hq_
    refine hK_ _ _ (trivial) ?_
    simp only [Act.put, List.getElem_toArray, List.getElem_cons_succ, List.getElem_cons_zero, List.setIfInBounds_toArray, List.set_cons_succ, List.set_cons_zero]
    clear hK_
    refine wpAnyH_one (k := 3) (fuel := 2) (by kernel_rfl) rfl (by kernel_rfl) (fun K_ hK_ => ?_)
    have hmn := run_min k (4294967295 - n)
    refine wp_pure_op (.int .i64 (min k (4294967295 - n))) (by simp [execOp, resolve, invoke, builtin, hmn, Act.eval, Result.andThen]) ?_
    clear hmn
    refine hK_ _ _ (trivial) ?_
    simp only [Act.put, List.getElem_toArray, List.getElem_cons_succ, List.getElem_cons_zero, List.setIfInBounds_toArray, List.set_cons_succ, List.set_cons_zero]
    clear hK_
    refine wpAnyH_one (k := 4) (fuel := 1) (by kernel_rfl) rfl (by kernel_rfl) (fun K_ hK_ => ?_)
    refine wp_call_ex (f := 14) (R := fun v w' => v = .func (.func 19) #[] #[.pointer (some ⟨w2.heap.size + 1, 0, none⟩), .pointer (some ⟨w2.heap.size, 0, none⟩)] ∧ w' = ((w2.alloc (.cells #[(.func (.func 15) #[.pointer (some ⟨w.heap.size, 0, none⟩)] #[])] 50)).alloc (.cells #[.int .i64 (min k (4294967295 - n))] 2))) (by kernel_rfl) ((a_steps w.heap.size (min k (4294967295 - n)) w2).mono fun e_ w_ ⟨h1_, h2_⟩ => ⟨_, h1_, rfl, h2_⟩) (fun v_ qL hX_ => ?_)
    obtain ⟨hv_, hq_⟩ := hX_
    rw [hv_, hq_]
    clear hv_ hq_
    have r1 := hp2_0 w2 (.cells #[(.func (.func 15) #[.pointer (some ⟨w.heap.size, 0, none⟩)] #[])] 50) (.cells #[.int .i64 (min k (4294967295 - n))] 2)
    have r2 := hp2_1 w2 (.cells #[(.func (.func 15) #[.pointer (some ⟨w.heap.size, 0, none⟩)] #[])] 50) (.cells #[.int .i64 (min k (4294967295 - n))] 2)
    have hb_ : Below w2.heap.size w2 ((w2.alloc (.cells #[(.func (.func 15) #[.pointer (some ⟨w.heap.size, 0, none⟩)] #[])] 50)).alloc (.cells #[.int .i64 (min k (4294967295 - n))] 2)) := ((Below.refl _ _).alloc (Nat.le_refl _) _).alloc (by simp) _
    have hz3 : ((w2.alloc (.cells #[(.func (.func 15) #[.pointer (some ⟨w.heap.size, 0, none⟩)] #[])] 50)).alloc (.cells #[.int .i64 (min k (4294967295 - n))] 2)).heap.size = w.heap.size + 3 := by rw [size_alloc1, size_alloc1, hsz]
    replace R1 := keep hb_ R1
    replace rn := keep hb_ rn
    replace hw := Below.after hw hb_
    clear hb_
    refine hK_ _ _ (trivial) ?_
    simp only [Act.put, List.getElem_toArray, List.getElem_cons_succ, List.getElem_cons_zero, List.setIfInBounds_toArray, List.set_cons_succ, List.set_cons_zero]
    clear hK_
    generalize ((w2.alloc (.cells #[(.func (.func 15) #[.pointer (some ⟨w.heap.size, 0, none⟩)] #[])] 50)).alloc (.cells #[.int .i64 (min k (4294967295 - n))] 2)) = w3 at *
    rw [hsz] at r1 r2 ⊢
    refine wpAnyH_one (k := 6) (fuel := 0) (by kernel_rfl) rfl (by kernel_rfl) (fun K_ hK_ => ?_)
    have cT : Calls Tryd.prog 19 #[.func (.yield l) #[] #[], .pointer (some ⟨w.heap.size + 1 + 1, 0, none⟩), .pointer (some ⟨w.heap.size + 1, 0, none⟩)] w3 fun e w' => (∃ r, e = .returned r) ∧ (J m w' ∨ ∃ i, i < m ∧ Jx (i + 1) w') := by
      refine (a_steps1 key hkl hkz n hn0 _ m hcnt hm w.heap.size (w.heap.size + 1 + 1) (w.heap.size + 1) l (fun i A => J i A ∧ w.heap.size + 3 ≤ A.heap.size ∧ A.heap[w.heap.size + 1 + 1]? = some (.cells #[.int .i64 (min k (4294967295 - n))] 2 (0, 0)) ∧ A.heap[w.heap.size + 1]? = some (.cells #[(.func (.func 15) #[.pointer (some ⟨w.heap.size, 0, none⟩)] #[])] 50 (0, 0)) ∧ A.heap[w.heap.size]? = some (.cells (chc (kat key i) (n + (i : Int))) 47 (0, 0))) Jx ?_ ?_ w3 ?_).mono ?_
      · rintro i A ⟨hJ, _, a1, a2, a3⟩
        exact ⟨(hJS i A hJ).1, (hJS i A hJ).2, a1, a2, a3⟩
      · rintro i A C hi ⟨hJ, hs, a1, a2, a3⟩ hB rC
        have hsC := hB.size
        have b1 := hB.row a1 (by omega)
        have b2 := hB.row a2 (by omega)
        refine (hY i C hi (hJb i A C hJ hB hs) (by omega)).mono ?_
        rintro e A' (⟨rfl, h1, h2, h3⟩ | ⟨rfl, h1⟩)
        · refine .inl ⟨rfl, h1, by omega, (h3 _ (by omega) (by omega)).trans b1, (h3 _ (by omega) (by omega)).trans b2, ?_⟩
          rw [h3 _ (by omega) (by omega), rC]
          simp [Int.add_assoc]
        · exact .inr ⟨rfl, h1⟩
      · refine ⟨h0 w3 hw (by omega), by omega, r2, r1, ?_⟩
        rw [R1]; simp [kat]
      · rintro e w' ⟨h1, h2⟩
        refine ⟨h1, ?_⟩
        rcases h2 with ⟨h2, _⟩ | h2
        · exact .inl h2
        · exact .inr h2
    refine wp_call_ex (f := 19) (R := fun v w' => J m w' ∨ ∃ i, i < m ∧ Jx (i + 1) w') (by kernel_rfl) (cT.mono fun e_ w_ ⟨⟨r_, h1_⟩, h2_⟩ => ⟨r_, h1_, h2_⟩) (fun v_ w4 hX_ => ?_)
    clear cT
    refine hK_ _ _ (trivial) ?_
    simp only [Act.put]
    clear hK_
    refine wpAnyH_done (by kernel_rfl) ?_ _
    refine NoPanic.normal ?_
    go_wp2
    refine bodyPost_end (results_none rfl _ _ _) rfl ?_
    exact ⟨⟨_, rfl⟩, hX_⟩
  · refine wp_call_ex (f := 16) (R := fun v w' => v = .int .i64 (4294967295 - n) ∧ w' = w2) (by kernel_rfl) ((a_left key hkl n hn0 hn1 w2 _ R1).mono fun e_ w_ ⟨h1_, h2_⟩ => ⟨_, h1_, rfl, h2_⟩) (fun v_ qL hX_ => ?_)
    obtain ⟨hv_, hq_⟩ := hX_
    rw [hv_, hq_]
    clear hv_ hq_
    refine hK_ _ _ (trivial) ?_
    simp only [Act.put, List.getElem_toArray, List.getElem_cons_succ, List.getElem_cons_zero, List.setIfInBounds_toArray, List.set_cons_succ, List.set_cons_zero]
    clear hK_
    refine wpAnyH_one (k := 1) (fuel := 3) (by kernel_rfl) rfl (by kernel_rfl) (fun K_ hK_ => ?_)
    have c_ : w2.cell? ⟨nbx, 0, none⟩ = some (.int .i64 k) := by rw [cell_of_row _ nbx 0 _ _ _ rn]; rfl
    refine wp_pure_op (.int .i64 k) (by go_simp; try with_reducible rfl) ?_
    clear c_
    refine hK_ _ _ (trivial) ?_
    simp only [Act.put, List.getElem_toArray, List.getElem_cons_succ, List.getElem_cons_zero, List.setIfInBounds_toArray, List.set_cons_succ, List.set_cons_zero]
    clear hK_
    refine wpAnyH_one (k := 3) (fuel := 2) (by kernel_rfl) rfl (by kernel_rfl) (fun K_ hK_ => ?_)
    have hmn := run_min k (4294967295 - n)
    refine wp_pure_op (.int .i64 (min k (4294967295 - n))) (by simp [execOp, resolve, invoke, builtin, hmn, Act.eval, Result.andThen]) ?_
    clear hmn
    refine hK_ _ _ (trivial) ?_
    simp only [Act.put, List.getElem_toArray, List.getElem_cons_succ, List.getElem_cons_zero, List.setIfInBounds_toArray, List.set_cons_succ, List.set_cons_zero]
    clear hK_
    refine wpAnyH_one (k := 4) (fuel := 1) (by kernel_rfl) rfl (by kernel_rfl) (fun K_ hK_ => ?_)
    refine wp_call_ex (f := 14) (R := fun v w' => v = .func (.func 19) #[] #[.pointer (some ⟨w2.heap.size + 1, 0, none⟩), .pointer (some ⟨w2.heap.size, 0, none⟩)] ∧ w' = ((w2.alloc (.cells #[(.func (.func 15) #[.pointer (some ⟨w.heap.size, 0, none⟩)] #[])] 50)).alloc (.cells #[.int .i64 (min k (4294967295 - n))] 2))) (by kernel_rfl) ((a_steps w.heap.size (min k (4294967295 - n)) w2).mono fun e_ w_ ⟨h1_, h2_⟩ => ⟨_, h1_, rfl, h2_⟩) (fun v_ qL hX_ => ?_)
    obtain ⟨hv_, hq_⟩ := hX_
    rw [hv_, hq_]
    clear hv_ hq_
    have r1 := hp2_0 w2 (.cells #[(.func (.func 15) #[.pointer (some ⟨w.heap.size, 0, none⟩)] #[])] 50) (.cells #[.int .i64 (min k (4294967295 - n))] 2)
    have r2 := hp2_1 w2 (.cells #[(.func (.func 15) #[.pointer (some ⟨w.heap.size, 0, none⟩)] #[])] 50) (.cells #[.int .i64 (min k (4294967295 - n))] 2)
    have hb_ : Below w2.heap.size w2 ((w2.alloc (.cells #[(.func (.func 15) #[.pointer (some ⟨w.heap.size, 0, none⟩)] #[])] 50)).alloc (.cells #[.int .i64 (min k (4294967295 - n))] 2)) := ((Below.refl _ _).alloc (Nat.le_refl _) _).alloc (by simp) _
    have hz3 : ((w2.alloc (.cells #[(.func (.func 15) #[.pointer (some ⟨w.heap.size, 0, none⟩)] #[])] 50)).alloc (.cells #[.int .i64 (min k (4294967295 - n))] 2)).heap.size = w.heap.size + 3 := by rw [size_alloc1, size_alloc1, hsz]
    replace R1 := keep hb_ R1
    replace rn := keep hb_ rn
    replace hw := Below.after hw hb_
    clear hb_
    refine hK_ _ _ (trivial) ?_
    simp only [Act.put, List.getElem_toArray, List.getElem_cons_succ, List.getElem_cons_zero, List.setIfInBounds_toArray, List.set_cons_succ, List.set_cons_zero]
    clear hK_
    generalize ((w2.alloc (.cells #[(.func (.func 15) #[.pointer (some ⟨w.heap.size, 0, none⟩)] #[])] 50)).alloc (.cells #[.int .i64 (min k (4294967295 - n))] 2)) = w3 at *
    rw [hsz] at r1 r2 ⊢
    refine wpAnyH_one (k := 6) (fuel := 0) (by kernel_rfl) rfl (by kernel_rfl) (fun K_ hK_ => ?_)
    have cT : Calls Tryd.prog 19 #[.func (.yield l) #[] #[], .pointer (some ⟨w.heap.size + 1 + 1, 0, none⟩), .pointer (some ⟨w.heap.size + 1, 0, none⟩)] w3 fun e w' => (∃ r, e = .returned r) ∧ (J m w' ∨ ∃ i, i < m ∧ Jx (i + 1) w') := by
      refine (a_steps1 key hkl hkz n hn0 _ m hcnt hm w.heap.size (w.heap.size + 1 + 1) (w.heap.size + 1) l (fun i A => J i A ∧ w.heap.size + 3 ≤ A.heap.size ∧ A.heap[w.heap.size + 1 + 1]? = some (.cells #[.int .i64 (min k (4294967295 - n))] 2 (0, 0)) ∧ A.heap[w.heap.size + 1]? = some (.cells #[(.func (.func 15) #[.pointer (some ⟨w.heap.size, 0, none⟩)] #[])] 50 (0, 0)) ∧ A.heap[w.heap.size]? = some (.cells (chc (kat key i) (n + (i : Int))) 47 (0, 0))) Jx ?_ ?_ w3 ?_).mono ?_
      · rintro i A ⟨hJ, _, a1, a2, a3⟩
        exact ⟨(hJS i A hJ).1, (hJS i A hJ).2, a1, a2, a3⟩
      · rintro i A C hi ⟨hJ, hs, a1, a2, a3⟩ hB rC
        have hsC := hB.size
        have b1 := hB.row a1 (by omega)
        have b2 := hB.row a2 (by omega)
        refine (hY i C hi (hJb i A C hJ hB hs) (by omega)).mono ?_
        rintro e A' (⟨rfl, h1, h2, h3⟩ | ⟨rfl, h1⟩)
        · refine .inl ⟨rfl, h1, by omega, (h3 _ (by omega) (by omega)).trans b1, (h3 _ (by omega) (by omega)).trans b2, ?_⟩
          rw [h3 _ (by omega) (by omega), rC]
          simp [Int.add_assoc]
        · exact .inr ⟨rfl, h1⟩
      · refine ⟨h0 w3 hw (by omega), by omega, r2, r1, ?_⟩
        rw [R1]; simp [kat]
      · rintro e w' ⟨h1, h2⟩
        refine ⟨h1, ?_⟩
        rcases h2 with ⟨h2, _⟩ | h2
        · exact .inl h2
        · exact .inr h2
    refine wp_call_ex (f := 19) (R := fun v w' => J m w' ∨ ∃ i, i < m ∧ Jx (i + 1) w') (by kernel_rfl) (cT.mono fun e_ w_ ⟨⟨r_, h1_⟩, h2_⟩ => ⟨r_, h1_, h2_⟩) (fun v_ w4 hX_ => ?_)
    clear cT
    refine hK_ _ _ (trivial) ?_
    simp only [Act.put]
    clear hK_
    refine wpAnyH_done (by kernel_rfl) ?_ _
    refine NoPanic.normal ?_
    go_wp2
    refine bodyPost_end (results_none rfl _ _ _) rfl ?_
    exact ⟨⟨_, rfl⟩, hX_⟩

end Go.Proofs.YtkickbgiidhpfaaDoor
