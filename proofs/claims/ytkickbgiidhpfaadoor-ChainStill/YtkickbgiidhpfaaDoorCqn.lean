import Derived.Test.YtkickbgiidhpfaaDoorProg
import Derived.WalkKit
import Derived.WalkSpells
import Derived.WalkLawsBesides
import Derived.Lib.QuietBelow
import Derived.BigQuiet
import Derived.OrdersHeld
import Derived.Laws.Tables
import Derived.RangeFuncBox
import Derived.Deep.CutRange
import Derived.RangeFuncNested
import Derived.RangeFuncBound
import Derived.RangeFuncCalls
import Derived.RangeFuncLeaves
import Derived.Shelf.Abstract
import Derived.Shelf.RegionOpen
import Derived.OwnWalkIn
import Derived.TacticsInMore
import Derived.LoopNIn
import Derived.LoopIn
import Derived.OwnWalk
import Derived.Deep.RegionHeld3
import Derived.Test.YtkickbgiidhpfaaDoorKa
import Derived.Test.YtkickbgiidhpfaaDoorCqm
namespace Go.Proofs.YtkickbgiidhpfaaDoor
open Go Go.RowKit Go.Sort
attribute [local go_sem] setCell_drewN alloc_drewN

attribute [local go_sem] Oper.semAt_some
/-- Has the chain gone its one step? -/
def pw (wh : Int) (i : Nat) : Nat := if 0 ≤ wh ∧ wh < (i : Int) then 1 else 0
theorem pw_zero (wh : Int) : pw wh 0 = 0 := if_neg (by omega)
theorem pw_here (wh : Int) (i : Nat) (h : wh = (i : Int)) : pw wh i = 0 ∧ pw wh (i + 1) = 1 := ⟨if_neg (by omega), if_pos (by omega)⟩
theorem pw_else (wh : Int) (i : Nat) (h : wh ≠ (i : Int)) : pw wh (i + 1) = pw wh i := by
  unfold pw
  by_cases h1 : 0 ≤ wh ∧ wh < (i : Int)
  · rw [if_pos h1, if_pos (by omega)]
  · rw [if_neg h1, if_neg (by omega)]
def WpStayI (p : Prop) : Prop := p
theorem wpListIn_stay {F : Fence} {n : Nat} {P : Program} {ops : Array Oper} {rest : List Oper} {a : Act} {w : World} {Q : Exit → Act → World → Prop} (h : WpStayI (wpListIn F n P ops Q rest a w)) : wpListIn F n P ops Q rest a w := h
/-- What holds between two rounds. -/
def StJ (w w4 : World) (e gc gd g13 : Nat) (key : List Int) (n wh : Int) (r : Loop) (i : Nat) (A : World) : Prop :=
  A.heap[e + 1]? = some (.loop r) ∧ A.heap[e]? = some (.deferred (some [])) ∧ A.heap[gc]? = some (.cells (chc (kat key (pw wh i)) (n + (pw wh i : Int))) 47 (0, 0)) ∧ A.heap[gd]? = some (.cells (chc (kat key (pw wh i)) (n + (pw wh i : Int))) 28 (0, 0)) ∧ A.heap[g13]? = some (.cells #[.int .i64 (i : Int)] 3 (0, 0)) ∧ (∀ g, g < e → g ≠ gc → g ≠ gd → g ≠ g13 → A.heap[g]? = w4.heap[g]?) ∧ Below w.heap.size w A
def St2 (w x6 : World) (f g13 : Nat) (r : Loop) (i : Nat) (A : World) : Prop :=
  A.heap[f + 1]? = some (.loop r) ∧ A.heap[f]? = some (.deferred (some [])) ∧ A.heap[g13]? = some (.cells #[.int .i64 (i : Int)] 3 (0, 0)) ∧ (∀ g, g < f → g ≠ g13 → A.heap[g]? = x6.heap[g]?) ∧ Below w.heap.size w A
set_option maxRecDepth 100000 in
set_option maxHeartbeats 4000000 in
theorem still_aux (key : List Int) (hkl : key.length = 32) (hkz : ∀ z ∈ key, 0 ≤ z ∧ z < 256) (n : Int) (hn0 : 0 ≤ n) (hn1 : n ≤ 4294967295) (st sp wh : Int) (hsp : st.tmod 12 = sp) (hwh : sp.tmod 5 = wh) (hsp1 : sp ≤ 11) (w : World) (hS : Sta w) (hK : Kon w) : Calls Tryd.prog 3 #[.agg (irow .u8 key), .int .u32 n, .int .i64 st] w fun e w' => e = .returned (.bool true) ∧ Below w.heap.size w w' := by
  have R0 := hp3_0 w (.cells (irow .u8 key) 23) (.cells #[.bool false] 4) (.cells #[.int .i64 wh] 3)
  have R1 := hp3_1 w (.cells (irow .u8 key) 23) (.cells #[.bool false] 4) (.cells #[.int .i64 wh] 3)
  have R2 := hp3_2 w (.cells (irow .u8 key) 23) (.cells #[.bool false] 4) (.cells #[.int .i64 wh] 3)
  have hw : Below w.heap.size w (((w.alloc (.cells (irow .u8 key) 23)).alloc (.cells #[.bool false] 4)).alloc (.cells #[.int .i64 wh] 3)) := ((((Below.refl _ _).alloc (Nat.le_refl _) _).alloc (by simp) _).alloc (by simp; omega) _)
  refine (callsIn_wide (n := 4)).1 (callsIn_of_wp_marks Tryd.func3 rfl trivial ?_)
  refine wpIn_wide.2 ?_
  simp only [Tryd.ntmps3, List.size_toArray, List.length_cons, List.length_nil, Nat.reduceAdd, Nat.reduceSub, Array.replicate_succ, Array.replicate_zero, List.push_toArray, List.append_toArray, List.nil_append, List.cons_append]
  go_wp2_with (first | (refine wpList_box rfl 23 _ rfl _ rfl (bK _) ?_) | (refine wpList_load_want rfl 23 _ rfl (w.heap.size) rfl 23 (irow .u8 key) (0, 0) _ R0 Tryd.underlying23 rfl (infok8 _ hkl) ?_) | fail)
  try simp only [size_alloc1, Act.put, List.setIfInBounds_toArray, List.set_cons_succ, List.set_cons_zero]
  clear hsp hwh
  have zz : w.heap.size + 3 = (((w.alloc (.cells (irow .u8 key) 23)).alloc (.cells #[.bool false] 4)).alloc (.cells #[.int .i64 wh] 3)).heap.size := by simp
  generalize (((w.alloc (.cells (irow .u8 key) 23)).alloc (.cells #[.bool false] 4)).alloc (.cells #[.int .i64 wh] 3)) = w0 at *
  refine (a_New key hkl n w0).mono ?_
  rintro e_ w1 ⟨gc, rfl, lgc, Rc, hb⟩
  replace R0 := keep hb R0
  replace R1 := keep hb R1
  replace R2 := keep hb R2
  replace hw := Below.after hw hb
  clear hb
  have ltc := lt_of_row Rc
  have Rp := hp1_0 w1 (.cells #[.pointer (some ⟨gc, 0, none⟩)] 25)
  have hb2 : Below w1.heap.size w1 (w1.alloc (.cells #[.pointer (some ⟨gc, 0, none⟩)] 25)) := (Below.refl _ _).alloc (Nat.le_refl _) _
  replace R0 := keep hb2 R0
  replace R1 := keep hb2 R1
  replace R2 := keep hb2 R2
  replace Rc := keep hb2 Rc
  replace hw := Below.after hw hb2
  clear hb2
  go_upto_region 6 with fail
  try simp only [size_alloc1, Act.put, List.setIfInBounds_toArray, List.set_cons_succ, List.set_cons_zero]
  have sz2 : w1.heap.size + 1 = (w1.alloc (.cells #[.pointer (some ⟨gc, 0, none⟩)] 25)).heap.size := by simp
  generalize w1.alloc (.cells #[.pointer (some ⟨gc, 0, none⟩)] 25) = w2 at *
  generalize w1.heap.size = gp at *
  have hbp := builtR key hkl n
  have zd := hp1_0 w2 (.cells (chc (zr 32) 0) 28)
  repeat ((fail_if_success (refine wpList_load_want rfl 23 _ rfl (w.heap.size) rfl 23 (irow .u8 key) (0, 0) _ R0 Tryd.underlying23 rfl (infok8 _ hkl) ?_)); first | go_skip | go_step)
  refine wpList_load_want rfl 23 _ rfl (w.heap.size) rfl 23 (irow .u8 key) (0, 0) _ R0 Tryd.underlying23 rfl (infok8 _ hkl) ?_
  try simp only [Act.put, List.setIfInBounds_toArray, List.set_cons_succ, List.set_cons_zero]
  go_wp2_with (first | (refine wpList_build_as rfl 28 _ rfl [(0, .agg (irow .u8 key)), (1, .int .u32 n)] rfl (chc key n) hbp ?_) | (refine wpList_alloc rfl 28 rfl (chc (zr 32) 0) zchr ?_) | (refine wpList_store_row rfl 28 _ _ rfl (w2.heap.size) (chc key n) rfl rfl 28 _ zd (infoR _ hkl _) (by rw [chc_size _ (zr_len 32), chc_size _ hkl]) (chc_one _ _) ?_; refine wpList_stay ?_) | fail)
  unfold WpStay
  have Rd := setRow_heap _ w2.heap.size _ (chc key n) _ _ zd
  have hb : Below w2.heap.size w2 ((w2.alloc (.cells (chc (zr 32) 0) 28)).setRow w2.heap.size (chc key n)) := below_setRow ((Below.refl _ _).alloc (Nat.le_refl _) _) (Nat.le_refl _) _
  have sz3 : w2.heap.size + 1 = ((w2.alloc (.cells (chc (zr 32) 0) 28)).setRow w2.heap.size (chc key n)).heap.size := by rw [size_setRow, size_alloc1]
  replace R0 := keep hb R0
  replace R1 := keep hb R1
  replace R2 := keep hb R2
  replace Rc := keep hb Rc
  replace Rp := keep hb Rp
  replace hw := Below.after hw hb
  clear hb zd hbp
  generalize ((w2.alloc (.cells (chc (zr 32) 0) 28)).setRow w2.heap.size (chc key n)) = w3 at *
  generalize w2.heap.size = gd at *
  have cA := r_Ahead key hkl hkz n hn0 hn1 sp (by omega) w3
  go_wp2_with (first | (refine wpList_load_want rfl 28 _ rfl (gd) rfl 28 (chc key n) (0, 0) _ Rd Tryd.underlying28 rfl (infoR _ hkl _) ?_) | fail)
  refine cA.mono ?_
  rintro e_ w4 ⟨v, u, rfl, hV, hU, hAp, hb⟩
  have sz4 := hb.size
  replace R0 := keep hb R0
  replace R1 := keep hb R1
  replace R2 := keep hb R2
  replace Rc := keep hb Rc
  replace Rp := keep hb Rp
  replace Rd := keep hb Rd
  replace hw := Below.after hw hb
  clear hb cA
  obtain ⟨va, vc, hve⟩ := slen_own hV
  obtain ⟨ua, uc, hue⟩ := slen_own hU
  rw [nums_len] at hve
  rw [msgs_len] at hue
  obtain ⟨M, hM⟩ : ∃ M_, ahm n sp = M_ := ⟨_, rfl⟩
  rw [hM] at hve hue hV hU
  have hM1 : n + (M : Int) ≤ 4294967295 := by rw [← hM]; unfold ahm; omega
  replace hM := hide hM
  subst hve
  subst hue
  have O0 := hp2_0 w4 (.cells #[.slice va M vc] 29) (.cells #[.slice ua M uc] 30)
  have O1 := hp2_1 w4 (.cells #[.slice va M vc] 29) (.cells #[.slice ua M uc] 30)
  have hb : Below w4.heap.size w4 ((w4.alloc (.cells #[.slice va M vc] 29)).alloc (.cells #[.slice ua M uc] 30)) := ((Below.refl _ _).alloc (Nat.le_refl _) _).alloc (by simp) _
  have sz5 : w4.heap.size + 2 = ((w4.alloc (.cells #[.slice va M vc] 29)).alloc (.cells #[.slice ua M uc] 30)).heap.size := by simp
  have hVl : ∀ k, (Value.slice va M vc).ownBlock = some k → w3.heap.size ≤ k ∧ k < w4.heap.size := fun k e => hV.lt k e
  have hUl : ∀ k, (Value.slice ua M uc).ownBlock = some k → w3.heap.size ≤ k ∧ k < w4.heap.size := fun k e => hU.lt k e
  replace R0 := keep hb R0
  replace R1 := keep hb R1
  replace R2 := keep hb R2
  replace Rc := keep hb Rc
  replace Rp := keep hb Rp
  replace Rd := keep hb Rd
  replace hw := Below.after hw hb
  replace hV := OwnU.keep hV hb
  replace hU := hU.keep hb
  clear hb
  go_upto_region 8 with fail
  try simp only [size_alloc1, Act.put, List.setIfInBounds_toArray, List.set_cons_succ, List.set_cons_zero]
  generalize (w4.alloc (.cells #[.slice va M vc] 29)).alloc (.cells #[.slice ua M uc] 30) = w5 at *
  generalize w4.heap.size = gn at *
  have cp : w5.cell? ⟨gp, 0, none⟩ = some (.pointer (some ⟨gc, 0, none⟩)) := by rw [cell_of_row _ _ 0 _ _ _ Rp]; rfl
  go_wp2_with (fail)
  refine (a_Ahead gc sp w5).mono ?_
  rintro e_ w6 ⟨rfl, hw6⟩
  clear cp
  have Q0 := hp3_0 w5 (.cells #[.pointer (some ⟨gc, 0, none⟩)] 25) (.cells #[.int .i64 sp] 3) (.cells #[.int .i64 0] 3)
  have Q1 := hp3_1 w5 (.cells #[.pointer (some ⟨gc, 0, none⟩)] 25) (.cells #[.int .i64 sp] 3) (.cells #[.int .i64 0] 3)
  have Q2 := hp3_2 w5 (.cells #[.pointer (some ⟨gc, 0, none⟩)] 25) (.cells #[.int .i64 sp] 3) (.cells #[.int .i64 0] 3)
  have hb : Below w5.heap.size w5 (((w5.alloc (.cells #[.pointer (some ⟨gc, 0, none⟩)] 25)).alloc (.cells #[.int .i64 sp] 3)).alloc (.cells #[.int .i64 0] 3)) := (((Below.refl _ _).alloc (Nat.le_refl _) _).alloc (by simp) _).alloc (by simp; omega) _
  have sz7 : w5.heap.size + 3 = (((w5.alloc (.cells #[.pointer (some ⟨gc, 0, none⟩)] 25)).alloc (.cells #[.int .i64 sp] 3)).alloc (.cells #[.int .i64 0] 3)).heap.size := by simp
  replace R0 := keep hb R0
  replace R1 := keep hb R1
  replace R2 := keep hb R2
  replace Rc := keep hb Rc
  replace Rp := keep hb Rp
  replace Rd := keep hb Rd
  replace O0 := keep hb O0
  replace O1 := keep hb O1
  replace hw := Below.after hw hb
  replace hV := OwnU.keep hV hb
  replace hU := hU.keep hb
  clear hb
  have hnf := nilfn #[.pointer (some ⟨w5.heap.size, 0, none⟩), .pointer (some ⟨w5.heap.size + 1, 0, none⟩)]
  subst hw6
  go_upto_region 12 with fail
  try simp only [size_alloc1, Act.put, List.setIfInBounds_toArray, List.set_cons_succ, List.set_cons_zero]
  generalize ((w5.alloc (.cells #[.pointer (some ⟨gc, 0, none⟩)] 25)).alloc (.cells #[.int .i64 sp] 3)).alloc (.cells #[.int .i64 0] 3) = w7 at *
  generalize w5.heap.size = e at *
  clear hnf
  have hgi : Hid (∀ i, i < M → (msgs key M).getD i [] = mat key i) := hide (msgs_get key M)
  have hgn : Hid (∀ i, i < M → (nums n M).getD i 0 = n + (i : Int)) := hide (fun i h => nums_get n M i h)
  have hma : Hid (∀ k ∈ msgs key M, k.length = 32) := hide (msgs_all key M)
  have lgc2 : w.heap.size + 3 ≤ gc := by omega
  have lgp2 : gc < gp := by omega
  have lgd2 : gp < gd := by omega
  have lgn2 : gd < gn := by omega
  have le2 : gn + 1 < e := by omega
  have hw3s : gd < w3.heap.size := by omega
  clear lgc zz ltc sz2 sz3 sz4 sz5
  go_wp2_with (fail)
  refine wp_range_clo (gf := 13) (lb := #[.pointer (some ⟨e, 0, none⟩), .pointer (some ⟨e + 1, 0, none⟩)]) rfl (enters_of Tryd.func13 (by kernel_rfl) rfl) ?_
  intro fn rec hrec
  rw [← sz7] at hrec ⊢
  have y0 := hp2_0 w7 (.deferred (some [])) (.loop (rec .ready none))
  have y1 := hp2_1 w7 (.deferred (some [])) (.loop (rec .ready none))
  have hb0 : Below w7.heap.size w7 ((w7.alloc (.deferred (some []))).alloc (.loop (rec .ready none))) := ((Below.refl _ _).alloc (Nat.le_refl _) _).alloc (by simp) _
  have hs6 : ((w7.alloc (.deferred (some []))).alloc (.loop (rec .ready none))).heap.size = e + 5 := by rw [size_alloc1, size_alloc1, ← sz7]
  rw [← sz7] at y0 y1
  have zq0 := keep hb0 Q0
  have zq1 := keep hb0 Q1
  have zq2 := keep hb0 Q2
  have zc := keep hb0 Rc
  have zd := keep hb0 Rd
  have zw := Below.after hw hb0
  have zf : ∀ g, g < e + 3 → ((w7.alloc (.deferred (some []))).alloc (.loop (rec .ready none))).heap[g]? = w7.heap[g]? := fun g hg => hb0.block g (by omega)
  generalize (w7.alloc (.deferred (some []))).alloc (.loop (rec .ready none)) = W1 at *
  clear hb0
  replace sz7 := hide sz7
  have hy_ : ∀ (i : Nat) A, i < ahm n sp → StJ w w7 (e + 3) gc gd (e + 1 + 1) key n wh (rec .ready none) i A → W1.heap.size + 3 ≤ A.heap.size → YieldAt Fence.wide 2 Tryd.prog (e + 3 + 1) #[.int .u32 (n + (i : Int)), .agg (irow .u8 (mat key i))] A fun e_ A' => (e_ = .returned (.bool true) ∧ StJ w w7 (e + 3) gc gd (e + 1 + 1) key n wh (rec .ready none) (i + 1) A' ∧ A.heap.size ≤ A'.heap.size ∧ ∀ g, W1.heap.size ≤ g → g < W1.heap.size + 3 → A'.heap[g]? = A.heap[g]?) ∨ (e_ = .returned (.bool false) ∧ False) := by
    clear y0 y1 zq0 zq1 zq2 zc zd zw zf
    rw [hs6, hM.out]
    clear hs6
    rintro i A hi ⟨g1, g2, gC, gD, gN, g6, g7⟩ hAs
    have hy := run_yield (P := Tryd.prog) (args := #[.int .u32 (n + (i : Int)), .agg (irow .u8 (mat key i))]) g1 (by rw [hrec]; rfl)
    rw [hrec] at hy
    refine ⟨fn, _, _, _, hy, roundIn_of_wpIn trivial ?_⟩
    clear hy
    have hml := mat_len key i
    have hmi := hgi.out i hi
    have hni := hgn.out i hi
    obtain ⟨bU, capU, curU, hUe, hUr, hUx⟩ := hU.part hma.out i (by rw [msgs_len]; exact hi)
    rw [hmi] at hUx
    replace hmi := hide hmi
    obtain ⟨X, hX⟩ : ∃ X_, mat key i = X_ := ⟨_, rfl⟩
    rw [hX] at hml hUx ⊢
    replace hX := hide hX
    have r0 := hp1_0 A (.cells (irow .u8 (zr 32)) 23)
    have hbx : Below A.heap.size A ((A.alloc (.cells (irow .u8 (zr 32)) 23)).setRow A.heap.size (irow .u8 X)) := below_setRow ((Below.refl _ _).alloc (Nat.le_refl _) _) (Nat.le_refl _) _
    have rB := setRow_heap _ A.heap.size _ (irow .u8 X) _ _ r0
    gi_wp2_with (first | (refine wpListIn_alloc rfl 23 rfl (irow .u8 (zr 32)) zkey ?_) | (refine wpListIn_store_row rfl 23 _ _ rfl A.heap.size (irow .u8 X) rfl rfl 23 _ r0 (infok8 _ hml) (fit32 _ _ (zr_len 32) hml) (irow_one _ _) ?_) | fail)
    have hsC : A.heap.size < ((A.alloc (.cells (irow .u8 (zr 32)) 23)).setRow A.heap.size (irow .u8 X)).heap.size := lt_of_row rB
    generalize (A.alloc (.cells (irow .u8 (zr 32)) 23)).setRow A.heap.size (irow .u8 X) = C1 at *
    clear r0
    have e1 := keep hbx g1
    refine ⟨_, run_beginRound e1 (by rw [hrec]), ?_⟩
    have hoth : ∀ g, g ≠ e + 3 + 1 → (C1.putObj (e + 3 + 1) (.loop { rec .ready none with state := .busy })).heap[g]? = C1.heap[g]? := fun g hg => World.putObj_heap_other hg
    have e1' : (C1.putObj (e + 3 + 1) (.loop { rec .ready none with state := .busy })).heap[e + 3 + 1]? = some (.loop { rec .ready none with state := .busy }) := World.putObj_heap_same (lt_of_row e1)
    have e2 := (hoth (e + 3) (by omega)).trans (keep hbx g2)
    have eC := (hoth gc (by omega)).trans (keep hbx gC)
    have eD := (hoth gd (by omega)).trans (keep hbx gD)
    have eN := (hoth (e + 1 + 1) (by omega)).trans (keep hbx gN)
    have e6 : ∀ g, g < e + 3 → g ≠ gc → g ≠ gd → g ≠ e + 1 + 1 → (C1.putObj (e + 3 + 1) (.loop { rec .ready none with state := .busy })).heap[g]? = w7.heap[g]? := fun g hg h1 h2 h3 => (hoth g (by omega)).trans ((hbx.block g (by omega)).trans (g6 g hg h1 h2 h3))
    have e7 : Below w.heap.size w (C1.putObj (e + 3 + 1) (.loop { rec .ready none with state := .busy })) := (Below.after g7 hbx).grown (grownBy_putObj' _ _ _) (by have := g7.size; have := hbx.size; omega) (fun k e => by cases e; omega)
    have e8 : Hid (∀ g, e + 5 ≤ g → g < A.heap.size → (C1.putObj (e + 3 + 1) (.loop { rec .ready none with state := .busy })).heap[g]? = A.heap[g]?) := hide (fun g hg hl => (hoth g (by omega)).trans (hbx.block g hl))
    have rB2 := (hoth A.heap.size (by omega)).trans rB
    have hszC : (C1.putObj (e + 3 + 1) (.loop { rec .ready none with state := .busy })).heap.size = C1.heap.size := World.putObj_size
    generalize C1.putObj (e + 3 + 1) (.loop { rec .ready none with state := .busy }) = C2 at *
    clear hoth rB hbx e1 g1 g2 gC gD gN g6
    rw [← hszC] at hsC
    clear hszC
    rw [msgs_len] at hUe
    injection hUe with h1_ h2_ h3_
    subst h1_
    subst h3_
    clear h2_
    have hbU := hUl bU rfl
    obtain ⟨bV, capV, hVe, hbV, cV⟩ : ∃ bV capV, Value.slice va M vc = Value.slice (some ⟨bV, 0, none⟩) M capV ∧ (w3.heap.size ≤ bV ∧ bV < gn) ∧ w7.cell? ⟨bV, i, none⟩ = some (.int .u32 (n + (i : Int))) := by
      rcases hV.2 with ⟨_, h0⟩ | ⟨bV, capV, curV, he, _⟩
      · rw [nums_len] at h0; omega
      · rw [nums_len] at he
        have hb_ := hVl bV (by rw [he]; rfl)
        have hV2 := hV
        rw [he] at hV2
        have hc_ := World.ownsRow.cells hV2 (g := bV) rfl i (.int .u32 (n + (i : Int))) (by simp [nums, hi])
        rw [addr_add, Nat.zero_add] at hc_
        exact ⟨bV, capV, he, hb_, hc_⟩
    injection hVe with h1_ h2_ h3_
    subst h1_
    subst h3_
    clear h2_
    have hUr2 := (e6 bU (by omega) (by omega) (by omega) (by omega)).trans hUr
    have cV2 : C2.cell? ⟨bV, i, none⟩ = some (.int .u32 (n + (i : Int))) := by
      have hh := e6 bV (by omega) (by omega) (by omega) (by omega)
      simp only [World.cell?] at cV ⊢
      rw [hh]
      exact cV
    have eO0 := (e6 gn (by omega) (by omega) (by omega) (by omega)).trans O0
    have eO1 := (e6 (gn + 1) (by omega) (by omega) (by omega) (by omega)).trans O1
    have q13 : ∀ p : Regrown, (grow (redrawn C2 p.d) p.os).cell? ⟨e + 1 + 1, 0, none⟩ = some (.int .i64 (i : Int)) := fun p => cell_regrown (by rw [cell_of_row _ _ 0 _ _ _ eN]; rfl) p.d p.os
    have qn : ∀ p : Regrown, (grow (redrawn C2 p.d) p.os).cell? ⟨gn, 0, none⟩ = some (.slice (some ⟨bV, 0, none⟩) M vc) := fun p => cell_regrown (by rw [cell_of_row _ _ 0 _ _ _ eO0]; rfl) p.d p.os
    have qk : ∀ p : Regrown, (grow (redrawn C2 p.d) p.os).cell? ⟨gn + 1, 0, none⟩ = some (.slice (some ⟨bU, 0, none⟩) M uc) := fun p => cell_regrown (by rw [cell_of_row _ _ 0 _ _ _ eO1]; rfl) p.d p.os
    have qv : ∀ p : Regrown, (grow (redrawn C2 p.d) p.os).cell? ⟨bV, i, none⟩ = some (.int .u32 (n + (i : Int))) := fun p => cell_regrown cV2 p.d p.os
    have HB := keepr rB2
    have HU := keepr hUr2
    have hd1 : decide ((i : Int) ≥ (M : Int)) = false := by simp; omega
    have hd2 : decide ((M : Int) ≤ (i : Int)) = false := by simp; omega
    have hd3 : decide (M ≤ i) = false := by simp; omega
    have hd4 : ¬ M ≤ i := by omega
    have hi1 : 0 ≤ (i : Int) ∧ (i : Int) < (M : Int) := by omega
    have eX := eqKs X hml
    gi_wp2_with (fail)
    refine wpIn_region_quiet_round (e + 3 + 1) (by kernel_rfl) (by kernel_rfl) (by kernel_rfl) ?_
    gi_big_quiet_step (fail)
    gi_big_quiet_step (fail)
    gi_big_quiet_step (fail)
    gi_big_quiet_step (fail)
    gi_big_quiet_step (fail)
    gi_big_quiet_step (fail)
    gi_big_quiet_step (fail)
    gi_big_quiet_step (fail)
    gi_big_quiet_step (fail)
    gi_big_quiet_step (fail)
    gi_big_quiet_step (fail)
    gi_big_quiet_step (fail)
    gi_big_quiet_step (fail)
    refine wpQuietIn_load_part rfl 23 _ rfl (A.heap.size) 0 rfl 23 (irow .u8 X) (0, 0) (irow .u8 X) _ HB.out (all_row _) Tryd.underlying23 rfl (infok8 _ hml) ?_
    simp only [Act.put, List.setIfInBounds_toArray, List.set_cons_succ, List.set_cons_zero]
    gi_big_quiet_step (fail)
    gi_big_quiet_step (fail)
    gi_big_quiet_step (fail)
    refine wpQuietIn_load_part rfl 23 _ rfl (bU) (i * 32) rfl 23 curU (0, 0) (irow .u8 X) _ HU.out hUx Tryd.underlying23 rfl (infok8 _ hml) ?_
    simp only [Act.put, List.setIfInBounds_toArray, List.set_cons_succ, List.set_cons_zero]
    gi_big_quiet_step (fail)
    gi_big_quiet_step (fail)
    refine wpQuietIn_nil ?_
    rintro _ ⟨p, rfl⟩
    have hb := below_regrown C2 p.d p.os
    generalize grow (redrawn C2 p.d) p.os = C3 at *
    have k1 := keep hb e1'
    have k2 := keep hb e2
    have kC := keep hb eC
    have kD := keep hb eD
    have kN := keep hb eN
    have k6 : ∀ g, g < e + 3 → g ≠ gc → g ≠ gd → g ≠ e + 1 + 1 → C3.heap[g]? = w7.heap[g]? := fun g hg h1 h2 h3 => (hb.block g (by omega)).trans (e6 g hg h1 h2 h3)
    have k7 := Below.after e7 hb
    have k8 : Hid (∀ g, e + 5 ≤ g → g < A.heap.size → C3.heap[g]? = A.heap[g]?) := hide (fun g hg hl => (hb.block g (by omega)).trans (e8.out g hg hl))
    have k9 : A.heap.size ≤ C3.heap.size := by have := hb.size; omega
    have kW := (k6 (w.heap.size + 1 + 1) (by omega) (by omega) (by omega) (by omega)).trans R2
    have kP := (k6 gp (by omega) (by omega) (by omega) (by omega)).trans Rp
    clear e1' e2 eC eD eN e6 e7 e8 hb q13 qn qk qv HB HU eX hd1 hd2 hd3 hd4 hi1 cV2 eO0 eO1 hUr2 rB2 hUx
    have c13 : C3.cell? ⟨e + 1 + 1, 0, none⟩ = some (.int .i64 (i : Int)) := by rw [cell_of_row _ _ 0 _ _ _ kN]; rfl
    have c7 : C3.cell? ⟨w.heap.size + 1 + 1, 0, none⟩ = some (.int .i64 wh) := by rw [cell_of_row _ _ 0 _ _ _ kW]; rfl
    by_cases hwi : wh = (i : Int)
    · obtain ⟨hp0, hp1⟩ := pw_here wh i hwi
      have hbq : ((i : Int) == wh) = true := by simp; omega
      have hbd : decide ((i : Int) = wh) = true := by simp; omega
      rw [hp0] at kC kD
      have hz : n + ((0 : Nat) : Int) = n := by simp
      rw [hz, show kat key 0 = key from rfl] at kC kD
      replace hp1 := hide hp1
      clear hz hp0 hwi
      have hn2 : n ≤ 4294967294 := by omega
      have cX := a_Next key hkl hkz n hn0 hn2 C3 (hS.below k7) (hK.below k7) gc kC
      have cP : C3.cell? ⟨gp, 0, none⟩ = some (.pointer (some ⟨gc, 0, none⟩)) := by rw [cell_of_row _ _ 0 _ _ _ kP]; rfl
      gi_wp2_with (fail)
      refine ⟨trivial, (callsIn_wide.2 (cX.mono ?_)).inRound _⟩
      rintro e_ D1 ⟨rfl, mC, hbB⟩
      have m1 := hbB.row k1 (by omega)
      have m2 := hbB.row k2 (by omega)
      have mD := hbB.row kD (by omega)
      have mN := hbB.row kN (by omega)
      have m6 : ∀ g, g < e + 3 → g ≠ gc → g ≠ gd → g ≠ e + 1 + 1 → D1.heap[g]? = w7.heap[g]? := fun g hg h1 h2 h3 => (hbB.block g (by omega) h1).trans (k6 g hg h1 h2 h3)
      have m7 := But.after k7 (by omega) hbB
      have m8 : Hid (∀ g, e + 5 ≤ g → g < A.heap.size → D1.heap[g]? = A.heap[g]?) := hide (fun g hg hl => (hbB.block g (by omega) (by omega)).trans (k8.out g hg hl))
      have m9 : A.heap.size ≤ D1.heap.size := Nat.le_trans k9 hbB.size
      clear k1 k2 kC kD kN k6 k7 k8 k9 hbB cX cP c13 c7 kW kP
      have l1 := hm_len key [1]
      have l2 := hm_len key [2]
      have hk1 : Hid (kat key 1 = hm key [2]) := hide rfl
      have cR0 := fun V => r_Next key hkl hkz n hn0 hn2 V
      generalize hm key [1] = A1 at *
      generalize hm key [2] = A2 at *
      have r0 := hp1_0 D1 (.cells (irow .u8 (zr 32)) 23)
      have hbx : Below D1.heap.size D1 ((D1.alloc (.cells (irow .u8 (zr 32)) 23)).setRow D1.heap.size (irow .u8 A1)) := below_setRow ((Below.refl _ _).alloc (Nat.le_refl _) _) (Nat.le_refl _) _
      have n1 := keep hbx m1
      have n2 := keep hbx m2
      have nC := keep hbx mC
      have nD := keep hbx mD
      have nN := keep hbx mN
      have n6 : ∀ g, g < e + 3 → g ≠ gc → g ≠ gd → g ≠ e + 1 + 1 → ((D1.alloc (.cells (irow .u8 (zr 32)) 23)).setRow D1.heap.size (irow .u8 A1)).heap[g]? = w7.heap[g]? := fun g hg h1 h2 h3 => (hbx.block g (by omega)).trans (m6 g hg h1 h2 h3)
      have n7 := Below.after m7 hbx
      have n8 : Hid (∀ g, e + 5 ≤ g → g < A.heap.size → ((D1.alloc (.cells (irow .u8 (zr 32)) 23)).setRow D1.heap.size (irow .u8 A1)).heap[g]? = A.heap[g]?) := hide (fun g hg hl => (hbx.block g (by omega)).trans (m8.out g hg hl))
      have n9 : A.heap.size ≤ ((D1.alloc (.cells (irow .u8 (zr 32)) 23)).setRow D1.heap.size (irow .u8 A1)).heap.size := Nat.le_trans m9 hbx.size
      clear m1 m2 mC mD mN m6 m7 m8 m9 hbx
      gi_wp2_with (first | (refine wpListIn_alloc rfl 23 rfl (irow .u8 (zr 32)) zkey ?_) | (refine wpListIn_store_row rfl 23 _ _ rfl (D1.heap.size) (irow .u8 A1) rfl rfl 23 _ r0 (infok8 _ l1) (fit32 _ _ (zr_len 32) l1) (irow_one _ _) ?_; refine wpListIn_stay ?_) | fail)
      unfold WpStayI
      clear r0
      generalize ((D1.alloc (.cells (irow .u8 (zr 32)) 23)).setRow D1.heap.size (irow .u8 A1)) = D2 at *
      gi_wp2_with (first | (refine wpListIn_load_want rfl 28 _ rfl gd rfl 28 (chc key n) (0, 0) _ nD Tryd.underlying28 rfl (infoR _ hkl _) ?_) | fail)
      refine ⟨trivial, (callsIn_wide.2 ((cR0 D2).mono ?_)).inRound _⟩
      rintro e_ D3 ⟨rfl, hb⟩
      have o1 := keep hb n1
      have o2 := keep hb n2
      have oC := keep hb nC
      have oD := keep hb nD
      have oN := keep hb nN
      have o6 : ∀ g, g < e + 3 → g ≠ gc → g ≠ gd → g ≠ e + 1 + 1 → D3.heap[g]? = w7.heap[g]? := fun g hg h1 h2 h3 => (hb.block g (by omega)).trans (n6 g hg h1 h2 h3)
      have o7 := Below.after n7 hb
      have o8 : Hid (∀ g, e + 5 ≤ g → g < A.heap.size → D3.heap[g]? = A.heap[g]?) := hide (fun g hg hl => (hb.block g (by omega)).trans (n8.out g hg hl))
      have o9 : A.heap.size ≤ D3.heap.size := Nat.le_trans n9 hb.size
      clear n1 n2 nC nD nN n6 n7 n8 n9 hb
      clear cR0
      have z1 := hp2_0 D3 (.cells (chc (zr 32) 0) 28) (.cells (irow .u8 (zr 32)) 23)
      have z2 := hp2_1 D3 (.cells (chc (zr 32) 0) 28) (.cells (irow .u8 (zr 32)) 23)
      have z3 := (setRow_other ((D3.alloc (.cells (chc (zr 32) 0) 28)).alloc (.cells (irow .u8 (zr 32)) 23)) D3.heap.size (D3.heap.size + 1) (chc A2 (n + 1)) (by omega)).trans z2
      have rE := (setRow_other (((D3.alloc (.cells (chc (zr 32) 0) 28)).alloc (.cells (irow .u8 (zr 32)) 23)).setRow D3.heap.size (chc A2 (n + 1))) (D3.heap.size + 1) D3.heap.size (irow .u8 A1) (by omega)).trans (setRow_heap ((D3.alloc (.cells (chc (zr 32) 0) 28)).alloc (.cells (irow .u8 (zr 32)) 23)) D3.heap.size _ (chc A2 (n + 1)) _ _ z1)
      have hbF : Below D3.heap.size D3 ((((D3.alloc (.cells (chc (zr 32) 0) 28)).alloc (.cells (irow .u8 (zr 32)) 23)).setRow D3.heap.size (chc A2 (n + 1))).setRow (D3.heap.size + 1) (irow .u8 A1)) := below_setRow (below_setRow (((Below.refl _ _).alloc (Nat.le_refl _) _).alloc (by simp) _) (Nat.le_refl _) _) (Nat.le_succ _) _
      have p1 := keep hbF o1
      have p2 := keep hbF o2
      have pC := keep hbF oC
      have pD := keep hbF oD
      have pN := keep hbF oN
      have p6 : ∀ g, g < e + 3 → g ≠ gc → g ≠ gd → g ≠ e + 1 + 1 → ((((D3.alloc (.cells (chc (zr 32) 0) 28)).alloc (.cells (irow .u8 (zr 32)) 23)).setRow D3.heap.size (chc A2 (n + 1))).setRow (D3.heap.size + 1) (irow .u8 A1)).heap[g]? = w7.heap[g]? := fun g hg h1 h2 h3 => (hbF.block g (by omega)).trans (o6 g hg h1 h2 h3)
      have p7 := Below.after o7 hbF
      have p8 : Hid (∀ g, e + 5 ≤ g → g < A.heap.size → ((((D3.alloc (.cells (chc (zr 32) 0) 28)).alloc (.cells (irow .u8 (zr 32)) 23)).setRow D3.heap.size (chc A2 (n + 1))).setRow (D3.heap.size + 1) (irow .u8 A1)).heap[g]? = A.heap[g]?) := hide (fun g hg hl => (hbF.block g (by omega)).trans (o8.out g hg hl))
      have p9 : A.heap.size ≤ ((((D3.alloc (.cells (chc (zr 32) 0) 28)).alloc (.cells (irow .u8 (zr 32)) 23)).setRow D3.heap.size (chc A2 (n + 1))).setRow (D3.heap.size + 1) (irow .u8 A1)).heap.size := Nat.le_trans o9 hbF.size
      clear o1 o2 oC oD oN o6 o7 o8 o9 hbF
      gi_wp2_with (first | (refine wpListIn_alloc rfl 28 rfl (chc (zr 32) 0) zchr ?_) | (refine wpListIn_alloc rfl 23 rfl (irow .u8 (zr 32)) zkey ?_) | (refine wpListIn_store_row rfl 28 _ _ rfl (D3.heap.size) (chc A2 (n + 1)) rfl rfl 28 _ z1 (infoR _ l2 _) (by rw [chc_size _ (zr_len 32), chc_size _ l2]) (chc_one _ _) ?_; refine wpListIn_stay ?_) | fail)
      unfold WpStayI
      gi_wp2_with (first | (refine wpListIn_store_row rfl 23 _ _ rfl (D3.heap.size + 1) (irow .u8 A1) rfl rfl 23 _ z3 (infok8 _ l1) (fit32 _ _ (zr_len 32) l1) (irow_one _ _) ?_; refine wpListIn_stay ?_) | fail)
      unfold WpStayI
      clear z1 z2 z3
      generalize ((((D3.alloc (.cells (chc (zr 32) 0) 28)).alloc (.cells (irow .u8 (zr 32)) 23)).setRow D3.heap.size (chc A2 (n + 1))).setRow (D3.heap.size + 1) (irow .u8 A1)) = D4 at *
      gi_wp2_with (first | (refine wpListIn_load_want rfl 28 _ rfl D3.heap.size rfl 28 (chc A2 (n + 1)) (0, 0) _ rE Tryd.underlying28 rfl (infoR _ l2 _) ?_) | (refine wpListIn_store_row rfl 28 _ _ rfl (gd) (chc A2 (n + 1)) rfl rfl 28 _ pD (infoR _ l2 _) (by rw [chc_size _ hkl, chc_size _ l2]) (chc_one _ _) ?_; refine wpListIn_stay ?_) | fail)
      unfold WpStayI
      have u1 := (setRow_other D4 gd (e + 3 + 1) (chc A2 (n + 1)) (by omega)).trans p1
      have u2 := (setRow_other D4 gd (e + 3) (chc A2 (n + 1)) (by omega)).trans p2
      have uC := (setRow_other D4 gd gc (chc A2 (n + 1)) (by omega)).trans pC
      have uN := (setRow_other D4 gd (e + 1 + 1) (chc A2 (n + 1)) (by omega)).trans pN
      have uD := setRow_heap D4 gd _ (chc A2 (n + 1)) _ _ pD
      have u6 : ∀ g, g < e + 3 → g ≠ gc → g ≠ gd → g ≠ e + 1 + 1 → (D4.setRow gd (chc A2 (n + 1))).heap[g]? = w7.heap[g]? := fun g hg h1 h2 h3 => (setRow_other D4 gd g _ h2).trans (p6 g hg h1 h2 h3)
      have u7 := below_setRow p7 (show w.heap.size ≤ gd by omega) (chc A2 (n + 1))
      have u8 : Hid (∀ g, e + 5 ≤ g → g < A.heap.size → (D4.setRow gd (chc A2 (n + 1))).heap[g]? = A.heap[g]?) := hide (fun g hg hl => (setRow_other D4 gd g _ (by omega)).trans (p8.out g hg hl))
      have u9 : A.heap.size ≤ (D4.setRow gd (chc A2 (n + 1))).heap.size := by rw [size_setRow]; exact p9
      have hcv : chc (kat key (pw wh (i + 1))) (n + ((pw wh (i + 1) : Nat) : Int)) = chc A2 (n + 1) := by rw [hp1.out, hk1.out]; rfl
      replace hcv := hide hcv
      clear p1 p2 pC pD pN p6 p7 p8 p9 rE
      generalize (D4.setRow gd (chc A2 (n + 1))) = D5 at *
      have c13 : D5.cell? ⟨e + 1 + 1, 0, none⟩ = some (.int .i64 (i : Int)) := by rw [cell_of_row _ _ 0 _ _ _ uN]; rfl
      have f13 : D5.frozen? ⟨e + 1 + 1, 0, none⟩ = false := by simp [World.frozen?, uN]
      have hsm : (i : Int) + 1 ≤ 9223372036854775807 := by omega
      gi_wp2_with (fail)
      have p1 := heap_other (g := e + 1 + 1) (j := 0) (v := .int .i64 ((i : Int) + 1)) u1 (by omega)
      have p2 := heap_other (g := e + 1 + 1) (j := 0) (v := .int .i64 ((i : Int) + 1)) u2 (by omega)
      have pC := heap_other (g := e + 1 + 1) (j := 0) (v := .int .i64 ((i : Int) + 1)) uC (by omega)
      have pD := heap_other (g := e + 1 + 1) (j := 0) (v := .int .i64 ((i : Int) + 1)) uD (by omega)
      have pN : (D5.setCell ⟨e + 1 + 1, 0, none⟩ (.int .i64 ((i : Int) + 1))).heap[e + 1 + 1]? = some (.cells #[.int .i64 ((i + 1 : Nat) : Int)] 3 (0, 0)) := row_set uN 0 (.int .i64 ((i : Int) + 1))
      have p6 : ∀ g, g < e + 3 → g ≠ gc → g ≠ gd → g ≠ e + 1 + 1 → (D5.setCell ⟨e + 1 + 1, 0, none⟩ (.int .i64 ((i : Int) + 1))).heap[g]? = w7.heap[g]? := fun g hg h1 h2 h3 => (heap_setCell_other D5 ⟨e + 1 + 1, 0, none⟩ g _ h3).trans (u6 g hg h1 h2 h3)
      have p7 := u7.setCell (p := ⟨e + 1 + 1, 0, none⟩) (show w.heap.size ≤ e + 1 + 1 by omega) (.int .i64 ((i : Int) + 1))
      have p8 : Hid (∀ g, e + 5 ≤ g → g < e + 5 + 3 → (D5.setCell ⟨e + 1 + 1, 0, none⟩ (.int .i64 ((i : Int) + 1))).heap[g]? = A.heap[g]?) := hide (fun g hg hl => (heap_setCell_other D5 ⟨e + 1 + 1, 0, none⟩ g _ (by show g ≠ e + 1 + 1; omega)).trans (u8.out g hg (by omega)))
      have p9 : A.heap.size ≤ (D5.setCell ⟨e + 1 + 1, 0, none⟩ (.int .i64 ((i : Int) + 1))).heap.size := Nat.le_trans u9 (grownBy_setCell' D5 (e + 1 + 1) _).size
      rw [← hcv.out] at pC pD
      generalize (D5.setCell ⟨e + 1 + 1, 0, none⟩ (.int .i64 ((i : Int) + 1))) = w8 at *
      refine ⟨_, _, run_endRound none p1, .inl ⟨rfl, ⟨?_, ?_, ?_, ?_, ?_, ?_, ?_⟩, ?_, ?_⟩⟩
      · rw [World.putObj_heap_same (lt_of_row p1)]; simp [hrec]
      · exact (World.putObj_heap_other (by omega)).trans p2
      · exact (World.putObj_heap_other (by omega)).trans pC
      · exact (World.putObj_heap_other (by omega)).trans pD
      · exact (World.putObj_heap_other (by omega)).trans pN
      · exact fun g hg h1 h2 h3 => (World.putObj_heap_other (by omega)).trans (p6 g hg h1 h2 h3)
      · exact p7.grown (grownBy_putObj' _ _ _) p7.size (fun k e => by cases e; omega)
      · rw [World.putObj_size]; exact p9
      · exact fun g hg hl => (World.putObj_heap_other (by omega)).trans (p8.out g hg (by omega))
    · have hbq : ((i : Int) == wh) = false := by simp; omega
      have hbd : decide ((i : Int) = wh) = false := by simp; omega
      have hpw := pw_else wh i hwi
      replace hpw := hpw
      clear hwi
      have f13 : C3.frozen? ⟨e + 1 + 1, 0, none⟩ = false := by simp [World.frozen?, kN]
      have hsm : (i : Int) + 1 ≤ 9223372036854775807 := by omega
      gi_wp2_with (fail)
      have p1 := heap_other (g := e + 1 + 1) (j := 0) (v := .int .i64 ((i : Int) + 1)) k1 (by omega)
      have p2 := heap_other (g := e + 1 + 1) (j := 0) (v := .int .i64 ((i : Int) + 1)) k2 (by omega)
      have pC := heap_other (g := e + 1 + 1) (j := 0) (v := .int .i64 ((i : Int) + 1)) kC (by omega)
      have pD := heap_other (g := e + 1 + 1) (j := 0) (v := .int .i64 ((i : Int) + 1)) kD (by omega)
      have pN : (C3.setCell ⟨e + 1 + 1, 0, none⟩ (.int .i64 ((i : Int) + 1))).heap[e + 1 + 1]? = some (.cells #[.int .i64 ((i + 1 : Nat) : Int)] 3 (0, 0)) := row_set kN 0 (.int .i64 ((i : Int) + 1))
      have p6 : ∀ g, g < e + 3 → g ≠ gc → g ≠ gd → g ≠ e + 1 + 1 → (C3.setCell ⟨e + 1 + 1, 0, none⟩ (.int .i64 ((i : Int) + 1))).heap[g]? = w7.heap[g]? := fun g hg h1 h2 h3 => (heap_setCell_other C3 ⟨e + 1 + 1, 0, none⟩ g _ h3).trans (k6 g hg h1 h2 h3)
      have p7 := k7.setCell (p := ⟨e + 1 + 1, 0, none⟩) (show w.heap.size ≤ e + 1 + 1 by omega) (.int .i64 ((i : Int) + 1))
      have p8 : Hid (∀ g, e + 5 ≤ g → g < e + 5 + 3 → (C3.setCell ⟨e + 1 + 1, 0, none⟩ (.int .i64 ((i : Int) + 1))).heap[g]? = A.heap[g]?) := hide (fun g hg hl => (heap_setCell_other C3 ⟨e + 1 + 1, 0, none⟩ g _ (by show g ≠ e + 1 + 1; omega)).trans (k8.out g hg (by omega)))
      have p9 : A.heap.size ≤ (C3.setCell ⟨e + 1 + 1, 0, none⟩ (.int .i64 ((i : Int) + 1))).heap.size := Nat.le_trans k9 (grownBy_setCell' C3 (e + 1 + 1) _).size
      rw [← hpw] at pC
      rw [← hpw] at pD
      generalize (C3.setCell ⟨e + 1 + 1, 0, none⟩ (.int .i64 ((i : Int) + 1))) = w8 at *
      refine ⟨_, _, run_endRound none p1, .inl ⟨rfl, ⟨?_, ?_, ?_, ?_, ?_, ?_, ?_⟩, ?_, ?_⟩⟩
      · rw [World.putObj_heap_same (lt_of_row p1)]; simp [hrec]
      · exact (World.putObj_heap_other (by omega)).trans p2
      · exact (World.putObj_heap_other (by omega)).trans pC
      · exact (World.putObj_heap_other (by omega)).trans pD
      · exact (World.putObj_heap_other (by omega)).trans pN
      · exact fun g hg h1 h2 h3 => (World.putObj_heap_other (by omega)).trans (p6 g hg h1 h2 h3)
      · exact p7.grown (grownBy_putObj' _ _ _) p7.size (fun k e => by cases e; omega)
      · rw [World.putObj_size]; exact p9
      · exact fun g hg hl => (World.putObj_heap_other (by omega)).trans (p8.out g hg (by omega))
  refine (a_ahead1 key hkl hkz n hn0 hn1 sp gc e (e + 1) (e + 3 + 1) (StJ w w7 (e + 3) gc gd (e + 1 + 1) key n wh (rec .ready none)) (fun _ _ => False) W1 zq0 zq1 zc (fun i A h => ⟨hS.below h.2.2.2.2.2.2, hK.below h.2.2.2.2.2.2⟩) ?_ ?_ hy_).mono ?_
  · clear hy_
    rw [hs6]
    rintro i A C ⟨g1, g2, gC, gD, gN, g6, g7⟩ hB hAs
    exact ⟨hB.row g1 (by omega), hB.row g2 (by omega), hB.row gC (by omega), hB.row gD (by omega), hB.row gN (by omega), fun g hg h1 h2 h3 => (hB.block g (by omega) (by omega)).trans (g6 g hg h1 h2 h3), But.after g7 (by omega) hB⟩
  · clear hy_
    intro C hb hC
    have e0 : chc (kat key (pw wh 0)) (n + ((pw wh 0 : Nat) : Int)) = chc key n := by rw [pw_zero]; simp [kat]
    exact ⟨keep hb y1, keep hb y0, by rw [e0]; exact keep hb zc, by rw [e0]; exact keep hb zd, keep hb zq2, fun g hg _ _ _ => (hb.block g (by omega)).trans (zf g hg), Below.after zw hb⟩
  clear hy_ y0 y1 zq0 zq1 zq2 zc zd zw zf
  rw [hM.out]
  rintro e_ w8 ⟨⟨r, rfl⟩, (hJ | ⟨_, _, hF⟩)⟩
  rotate_left
  · exact hF.elim
  obtain ⟨g1, g2, gC, gD, gN, g6, g7⟩ := hJ
  refine ⟨⟨_, rfl⟩, .inl ⟨g1, ?_⟩⟩
  have hj5 : e + 3 + 1 < w8.heap.size := lt_of_row g1
  have hoth : ∀ g, g ≠ e + 3 + 1 → (w8.putObj (e + 3 + 1) (.loop (rec .exhausted none))).heap[g]? = w8.heap[g]? := fun g hg => World.putObj_heap_other hg
  have hsz5 : (w8.putObj (e + 3 + 1) (.loop (rec .exhausted none))).heap.size = w8.heap.size := World.putObj_size
  have Kd := (hoth (e + 3) (by omega)).trans g2
  have KC := (hoth gc (by omega)).trans gC
  have KD := (hoth gd (by omega)).trans gD
  have KN := (hoth (e + 1 + 1) (by omega)).trans gN
  have K6 : ∀ g, g < e + 3 → g ≠ gc → g ≠ gd → g ≠ e + 1 + 1 → (w8.putObj (e + 3 + 1) (.loop (rec .exhausted none))).heap[g]? = w7.heap[g]? := fun g hg h1 h2 h3 => (hoth g (by omega)).trans (g6 g hg h1 h2 h3)
  replace R0 := (K6 _ (by omega) (by omega) (by omega) (by omega)).trans R0
  replace R1 := (K6 _ (by omega) (by omega) (by omega) (by omega)).trans R1
  replace Rp := (K6 _ (by omega) (by omega) (by omega) (by omega)).trans Rp
  replace O0 := (K6 _ (by omega) (by omega) (by omega) (by omega)).trans O0
  replace Q0 := (K6 _ (by omega) (by omega) (by omega) (by omega)).trans Q0
  replace Q1 := (K6 _ (by omega) (by omega) (by omega) (by omega)).trans Q1
  replace hw := g7.grown (grownBy_putObj' w8 (e + 3 + 1) (.loop (rec .exhausted none))) g7.size (fun k e => by cases e; omega)
  rw [← hsz5] at hj5
  clear hoth hsz5 g1 g2 gC gD gN g6 g7 K6 R2 O1 Q2 Rc Rd hV hU hgi hgn hma hVl hUl hAp
  generalize w8.putObj (e + 3 + 1) (.loop (rec .exhausted none)) = w9 at *
  clear hrec hs6
  have hPl := kat_len hkl (pw wh M)
  have hPz := kat_bd hkz (pw wh M)
  have hP0 : 0 ≤ n + ((pw wh M : Nat) : Int) := by omega
  have hP1 : n + ((pw wh M : Nat) : Int) ≤ 4294967295 := by
    have : pw wh M ≤ 1 := by unfold pw; split <;> omega
    have h2 : pw wh M ≤ M := by unfold pw; split <;> omega
    omega
  generalize kat key (pw wh M) = k2 at *
  generalize n + ((pw wh M : Nat) : Int) = n2 at *
  have cN : GivesB w9 9 #[.pointer (some ⟨gc, 0, none⟩)] (.int .u32 n2) := fun V h => a_N k2 hPl n2 V gc (keep h KC)
  have cK : GivesB w9 10 #[.pointer (some ⟨gc, 0, none⟩)] (.agg (irow .u8 k2)) := fun V h => a_Key k2 hPl n2 V gc (keep h KC)
  have eK2 := eqKs k2 hPl
  have HD := keepr KD
  go_wp2_with (fail)
  have q13 : ∀ p : Regrown, (grow (redrawn w9 p.d) p.os).cell? ⟨e + 1 + 1, 0, none⟩ = some (.int .i64 (M : Int)) := fun p => cell_regrown (by rw [cell_of_row _ _ 0 _ _ _ KN]; rfl) p.d p.os
  have qn : ∀ p : Regrown, (grow (redrawn w9 p.d) p.os).cell? ⟨gn, 0, none⟩ = some (.slice va M vc) := fun p => cell_regrown (by rw [cell_of_row _ _ 0 _ _ _ O0]; rfl) p.d p.os
  have qp : ∀ p : Regrown, (grow (redrawn w9 p.d) p.os).cell? ⟨gp, 0, none⟩ = some (.pointer (some ⟨gc, 0, none⟩)) := fun p => cell_regrown (by rw [cell_of_row _ _ 0 _ _ _ Rp]; rfl) p.d p.os
  have qd : ∀ p : Regrown, (grow (redrawn w9 p.d) p.os).cell? ⟨gd, 32, none⟩ = some (.int .u32 n2) := fun p => cell_regrown (by rw [cell_of_row _ _ 32 _ _ _ KD, chc_n _ hPl]) p.d p.os
  refine wp_region_quiet_below (by kernel_rfl) (by kernel_rfl) ?_
  go_big_quiet_step (fail)
  go_big_quiet_step (fail)
  go_big_quiet_step (fail)
  go_big_quiet_step (fail)
  go_big_quiet_step (fail)
  go_big_quiet_step (fail)
  go_big_quiet_step (exact cN.re)
  go_big_quiet_step (fail)
  go_big_quiet_step (fail)
  go_big_quiet_step (fail)
  go_big_quiet_step (fail)
  go_big_quiet_step (fail)
  go_big_quiet_step (fail)
  go_big_quiet_step (exact cK.re)
  go_big_quiet_step (fail)
  refine wpQuiet_load_part rfl 23 _ rfl gd 0 rfl 28 (chc k2 n2) (0, 0) (irow .u8 k2) _ HD.out (chc_key _ hPl _) Tryd.underlying23 rfl (infok8 _ hPl) ?_
  simp only [Act.put, List.setIfInBounds_toArray, List.set_cons_succ, List.set_cons_zero]
  go_big_quiet_step (fail)
  go_big_quiet_step (fail)
  refine wpQuiet_nil ?_
  rintro _ ⟨p, rfl⟩
  have hb := below_regrown w9 p.d p.os
  generalize grow (redrawn w9 p.d) p.os = w10 at *
  clear q13 qn qp qd
  replace R0 := keep hb R0
  replace R1 := keep hb R1
  replace Kd := keep hb Kd
  replace KC := keep hb KC
  replace KD := keep hb KD
  replace KN := keep hb KN
  replace Q0 := keep hb Q0
  replace Q1 := keep hb Q1
  replace hw := Below.after hw hb
  have sw10 := hb.size
  clear hb
  clear cN cK HD
  have cA := r_Ahead k2 hPl hPz n2 hP0 hP1 sp (by omega) w10
  go_wp2_with (first | (refine wpList_load_want rfl 28 _ rfl (gd) rfl 28 (chc k2 n2) (0, 0) _ KD Tryd.underlying28 rfl (infoR _ hPl _) ?_) | fail)
  refine cA.mono ?_
  rintro e_ x4 ⟨v, u, rfl, hV, hU, hAp, hb⟩
  have sy4 := hb.size
  replace R0 := keep hb R0
  replace R1 := keep hb R1
  replace KC := keep hb KC
  replace KD := keep hb KD
  replace KN := keep hb KN
  replace Q0 := keep hb Q0
  replace Q1 := keep hb Q1
  replace Kd := keep hb Kd
  replace hw := Below.after hw hb
  clear hb cA
  obtain ⟨va2, vc2, hve⟩ := slen_own hV
  obtain ⟨ua2, uc2, hue⟩ := slen_own hU
  rw [nums_len] at hve
  rw [msgs_len] at hue
  obtain ⟨M2, hM2⟩ : ∃ M_, ahm n2 sp = M_ := ⟨_, rfl⟩
  rw [hM2] at hve hue hV hU
  have hM21 : n2 + (M2 : Int) ≤ 4294967295 := by rw [← hM2]; unfold ahm; omega
  replace hM2 := hide hM2
  subst hve
  subst hue
  have P0 := hp2_0 x4 (.cells #[.slice va2 M2 vc2] 29) (.cells #[.slice ua2 M2 uc2] 30)
  have P1 := hp2_1 x4 (.cells #[.slice va2 M2 vc2] 29) (.cells #[.slice ua2 M2 uc2] 30)
  have hb : Below x4.heap.size x4 ((x4.alloc (.cells #[.slice va2 M2 vc2] 29)).alloc (.cells #[.slice ua2 M2 uc2] 30)) := ((Below.refl _ _).alloc (Nat.le_refl _) _).alloc (by simp) _
  have sy5 : x4.heap.size + 2 = ((x4.alloc (.cells #[.slice va2 M2 vc2] 29)).alloc (.cells #[.slice ua2 M2 uc2] 30)).heap.size := by simp
  have hVl : ∀ k, (Value.slice va2 M2 vc2).ownBlock = some k → w10.heap.size ≤ k ∧ k < x4.heap.size := fun k e => hV.lt k e
  have hUl : ∀ k, (Value.slice ua2 M2 uc2).ownBlock = some k → w10.heap.size ≤ k ∧ k < x4.heap.size := fun k e => hU.lt k e
  replace R0 := keep hb R0
  replace R1 := keep hb R1
  replace KC := keep hb KC
  replace KD := keep hb KD
  replace KN := keep hb KN
  replace Q0 := keep hb Q0
  replace Q1 := keep hb Q1
  replace Kd := keep hb Kd
  replace hw := Below.after hw hb
  replace hV := OwnU.keep hV hb
  replace hU := hU.keep hb
  clear hb
  go_upto_region 27 with fail
  try simp only [size_alloc1, Act.put, List.setIfInBounds_toArray, List.set_cons_succ, List.set_cons_zero]
  generalize (x4.alloc (.cells #[.slice va2 M2 vc2] 29)).alloc (.cells #[.slice ua2 M2 uc2] 30) = x5 at *
  have lx4 : e + 3 + 1 < x4.heap.size := by omega
  have lx10 : e + 3 + 1 < w10.heap.size := by have := sw10; omega
  generalize x4.heap.size = hn at *
  have c13 : x5.cell? ⟨e + 1 + 1, 0, none⟩ = some (.int .i64 (M : Int)) := by rw [cell_of_row _ _ 0 _ _ _ KN]; rfl
  have f13 : x5.frozen? ⟨e + 1 + 1, 0, none⟩ = false := by simp [World.frozen?, KN]
  go_upto_region 28 with fail
  have X13 := row_set KN 0 (.int .i64 0)
  have X0 := heap_other (g := e + 1 + 1) (j := 0) (v := .int .i64 0) R0 (by omega)
  have X1 := heap_other (g := e + 1 + 1) (j := 0) (v := .int .i64 0) R1 (by omega)
  have XC := heap_other (g := e + 1 + 1) (j := 0) (v := .int .i64 0) KC (by omega)
  have XQ0 := heap_other (g := e + 1 + 1) (j := 0) (v := .int .i64 0) Q0 (by omega)
  have XQ1 := heap_other (g := e + 1 + 1) (j := 0) (v := .int .i64 0) Q1 (by omega)
  have XK := heap_other (g := e + 1 + 1) (j := 0) (v := .int .i64 0) Kd (by omega)
  have XP0 := heap_other (g := e + 1 + 1) (j := 0) (v := .int .i64 0) P0 (by omega)
  have XP1 := heap_other (g := e + 1 + 1) (j := 0) (v := .int .i64 0) P1 (by omega)
  have XV : OwnU (x5.setCell ⟨e + 1 + 1, 0, none⟩ (.int .i64 0)) w10.heap.size (.slice va2 M2 vc2) (nums n2 M2) := hV.move (fun k o e h => heap_other h (by have := hVl k e; omega))
  have XU : OwnK (x5.setCell ⟨e + 1 + 1, 0, none⟩ (.int .i64 0)) w10.heap.size (.slice ua2 M2 uc2) (msgs k2 M2) := hU.move (fun k o e h => heap_other h (by have := hUl k e; omega))
  replace hw := hw.setCell (p := ⟨e + 1 + 1, 0, none⟩) (show w.heap.size ≤ e + 1 + 1 by omega) (.int .i64 0)
  have sy6 : (x5.setCell ⟨e + 1 + 1, 0, none⟩ (.int .i64 0)).heap.size = x5.heap.size := by simp
  clear R0 R1 KC KD KN Q0 Q1 Kd P0 P1 hV hU c13 f13
  generalize x5.setCell ⟨e + 1 + 1, 0, none⟩ (.int .i64 0) = x6 at *
  obtain ⟨f, hf⟩ : ∃ f_, x6.heap.size = f_ := ⟨_, rfl⟩
  have lf : hn + 2 = f := by omega
  replace lf : hn + 1 < f := by omega
  clear sy5 sy6 sy4
  have hgi : Hid (∀ i, i < M2 → (msgs k2 M2).getD i [] = mat k2 i) := hide (msgs_get k2 M2)
  have hma : Hid (∀ k ∈ msgs k2 M2, k.length = 32) := hide (msgs_all k2 M2)
  go_wp2_with (fail)
  refine wp_range_clo (gf := 13) (lb := #[.pointer (some ⟨e, 0, none⟩), .pointer (some ⟨e + 1, 0, none⟩)]) rfl (enters_of Tryd.func13 (by kernel_rfl) rfl) ?_
  intro fn rec hrec
  rw [hf] at hrec ⊢
  have y0 := hp2_0 x6 (.deferred (some [])) (.loop (rec .ready none))
  have y1 := hp2_1 x6 (.deferred (some [])) (.loop (rec .ready none))
  have hb0 : Below x6.heap.size x6 ((x6.alloc (.deferred (some []))).alloc (.loop (rec .ready none))) := ((Below.refl _ _).alloc (Nat.le_refl _) _).alloc (by simp) _
  have hs6 : ((x6.alloc (.deferred (some []))).alloc (.loop (rec .ready none))).heap.size = f + 2 := by rw [size_alloc1, size_alloc1, hf]
  rw [hf] at y0 y1
  have zq0 := keep hb0 XQ0
  have zq1 := keep hb0 XQ1
  have zc := keep hb0 XC
  have zn := keep hb0 X13
  have zw := Below.after hw hb0
  have zf : ∀ g, g < f → ((x6.alloc (.deferred (some []))).alloc (.loop (rec .ready none))).heap[g]? = x6.heap[g]? := fun g hg => hb0.block g (by omega)
  generalize (x6.alloc (.deferred (some []))).alloc (.loop (rec .ready none)) = W2 at *
  clear hb0
  replace hf := hide hf
  have hy_ : ∀ (i : Nat) A, i < ahm n2 sp → St2 w x6 f (e + 1 + 1) (rec .ready none) i A → W2.heap.size + 3 ≤ A.heap.size → YieldAt Fence.wide 2 Tryd.prog (f + 1) #[.int .u32 (n2 + (i : Int)), .agg (irow .u8 (mat k2 i))] A fun e_ A' => (e_ = .returned (.bool true) ∧ St2 w x6 f (e + 1 + 1) (rec .ready none) (i + 1) A' ∧ A.heap.size ≤ A'.heap.size ∧ ∀ g, W2.heap.size ≤ g → g < W2.heap.size + 3 → A'.heap[g]? = A.heap[g]?) ∨ (e_ = .returned (.bool false) ∧ False) := by
    clear y0 y1 zq0 zq1 zc zn zw zf
    rw [hs6, hM2.out]
    clear hs6
    rintro i A hi ⟨g1, g2, gN, g6, g7⟩ hAs
    have hy := run_yield (P := Tryd.prog) (args := #[.int .u32 (n2 + (i : Int)), .agg (irow .u8 (mat k2 i))]) g1 (by rw [hrec]; rfl)
    rw [hrec] at hy
    refine ⟨fn, _, _, _, hy, roundIn_of_wpIn trivial ?_⟩
    clear hy
    have hml := mat_len k2 i
    have hmi := hgi.out i hi
    obtain ⟨bU, capU, curU, hUe, hUr, hUx⟩ := XU.part hma.out i (by rw [msgs_len]; exact hi)
    rw [hmi] at hUx
    replace hmi := hide hmi
    obtain ⟨X, hX⟩ : ∃ X_, mat k2 i = X_ := ⟨_, rfl⟩
    rw [hX] at hml hUx ⊢
    replace hX := hide hX
    have r0 := hp1_0 A (.cells (irow .u8 (zr 32)) 23)
    have hbx : Below A.heap.size A ((A.alloc (.cells (irow .u8 (zr 32)) 23)).setRow A.heap.size (irow .u8 X)) := below_setRow ((Below.refl _ _).alloc (Nat.le_refl _) _) (Nat.le_refl _) _
    have rB := setRow_heap _ A.heap.size _ (irow .u8 X) _ _ r0
    gi_wp2_with (first | (refine wpListIn_alloc rfl 23 rfl (irow .u8 (zr 32)) zkey ?_) | (refine wpListIn_store_row rfl 23 _ _ rfl A.heap.size (irow .u8 X) rfl rfl 23 _ r0 (infok8 _ hml) (fit32 _ _ (zr_len 32) hml) (irow_one _ _) ?_) | fail)
    have hsC : A.heap.size < ((A.alloc (.cells (irow .u8 (zr 32)) 23)).setRow A.heap.size (irow .u8 X)).heap.size := lt_of_row rB
    generalize (A.alloc (.cells (irow .u8 (zr 32)) 23)).setRow A.heap.size (irow .u8 X) = C1 at *
    clear r0
    have e1 := keep hbx g1
    refine ⟨_, run_beginRound e1 (by rw [hrec]), ?_⟩
    have hoth : ∀ g, g ≠ f + 1 → (C1.putObj (f + 1) (.loop { rec .ready none with state := .busy })).heap[g]? = C1.heap[g]? := fun g hg => World.putObj_heap_other hg
    have e1' : (C1.putObj (f + 1) (.loop { rec .ready none with state := .busy })).heap[f + 1]? = some (.loop { rec .ready none with state := .busy }) := World.putObj_heap_same (lt_of_row e1)
    have e2 := (hoth f (by omega)).trans (keep hbx g2)
    have eN := (hoth (e + 1 + 1) (by omega)).trans (keep hbx gN)
    have e6 : ∀ g, g < f → g ≠ e + 1 + 1 → (C1.putObj (f + 1) (.loop { rec .ready none with state := .busy })).heap[g]? = x6.heap[g]? := fun g hg h3 => (hoth g (by omega)).trans ((hbx.block g (by omega)).trans (g6 g hg h3))
    have e7 : Below w.heap.size w (C1.putObj (f + 1) (.loop { rec .ready none with state := .busy })) := (Below.after g7 hbx).grown (grownBy_putObj' _ _ _) (by have := g7.size; have := hbx.size; omega) (fun k e => by cases e; omega)
    have e8 : Hid (∀ g, f + 2 ≤ g → g < A.heap.size → (C1.putObj (f + 1) (.loop { rec .ready none with state := .busy })).heap[g]? = A.heap[g]?) := hide (fun g hg hl => (hoth g (by omega)).trans (hbx.block g hl))
    have rB2 := (hoth A.heap.size (by omega)).trans rB
    have hszC : (C1.putObj (f + 1) (.loop { rec .ready none with state := .busy })).heap.size = C1.heap.size := World.putObj_size
    generalize (C1.putObj (f + 1) (.loop { rec .ready none with state := .busy })) = C2 at *
    clear hoth rB hbx e1 g1 g2 gN g6
    rw [← hszC] at hsC
    clear hszC
    rw [msgs_len] at hUe
    injection hUe with h1_ h2_ h3_
    subst h1_
    subst h3_
    clear h2_
    have hbU := hUl bU rfl
    obtain ⟨bV, capV, hVe, hbV, cV⟩ : ∃ bV capV, Value.slice va2 M2 vc2 = Value.slice (some ⟨bV, 0, none⟩) M2 capV ∧ (w10.heap.size ≤ bV ∧ bV < hn) ∧ x6.cell? ⟨bV, i, none⟩ = some (.int .u32 (n2 + (i : Int))) := by
      rcases XV.2 with ⟨_, h0⟩ | ⟨bV, capV, curV, he, _⟩
      · rw [nums_len] at h0; omega
      · rw [nums_len] at he
        have hb_ := hVl bV (by rw [he]; rfl)
        have hV2 := XV
        rw [he] at hV2
        have hc_ := World.ownsRow.cells hV2 (g := bV) rfl i (.int .u32 (n2 + (i : Int))) (by simp [nums, hi])
        rw [addr_add, Nat.zero_add] at hc_
        exact ⟨bV, capV, he, hb_, hc_⟩
    injection hVe with h1_ h2_ h3_
    subst h1_
    subst h3_
    clear h2_
    have hUr2 := (e6 bU (by omega) (by omega)).trans hUr
    have cV2 : C2.cell? ⟨bV, i, none⟩ = some (.int .u32 (n2 + (i : Int))) := by
      have hh := e6 bV (by omega) (by omega)
      simp only [World.cell?] at cV ⊢
      rw [hh]
      exact cV
    have eO0 := (e6 hn (by omega) (by omega)).trans XP0
    have eO1 := (e6 (hn + 1) (by omega) (by omega)).trans XP1
    have q13 : ∀ p : Regrown, (grow (redrawn C2 p.d) p.os).cell? ⟨e + 1 + 1, 0, none⟩ = some (.int .i64 (i : Int)) := fun p => cell_regrown (by rw [cell_of_row _ _ 0 _ _ _ eN]; rfl) p.d p.os
    have qn : ∀ p : Regrown, (grow (redrawn C2 p.d) p.os).cell? ⟨hn, 0, none⟩ = some (.slice (some ⟨bV, 0, none⟩) M2 vc2) := fun p => cell_regrown (by rw [cell_of_row _ _ 0 _ _ _ eO0]; rfl) p.d p.os
    have qk : ∀ p : Regrown, (grow (redrawn C2 p.d) p.os).cell? ⟨hn + 1, 0, none⟩ = some (.slice (some ⟨bU, 0, none⟩) M2 uc2) := fun p => cell_regrown (by rw [cell_of_row _ _ 0 _ _ _ eO1]; rfl) p.d p.os
    have qv : ∀ p : Regrown, (grow (redrawn C2 p.d) p.os).cell? ⟨bV, i, none⟩ = some (.int .u32 (n2 + (i : Int))) := fun p => cell_regrown cV2 p.d p.os
    have HB := keepr rB2
    have HU := keepr hUr2
    have hd1 : decide ((i : Int) ≥ (M2 : Int)) = false := by simp; omega
    have hd2 : decide ((M2 : Int) ≤ (i : Int)) = false := by simp; omega
    have hd3 : decide (M2 ≤ i) = false := by simp; omega
    have hd4 : ¬ M2 ≤ i := by omega
    have hi1 : 0 ≤ (i : Int) ∧ (i : Int) < (M2 : Int) := by omega
    have eX := eqKs X hml
    gi_wp2_with (fail)
    refine wpIn_region_quiet_round (f + 1) (by kernel_rfl) (by kernel_rfl) (by kernel_rfl) ?_
    gi_big_quiet_step (fail)
    gi_big_quiet_step (fail)
    gi_big_quiet_step (fail)
    gi_big_quiet_step (fail)
    gi_big_quiet_step (fail)
    gi_big_quiet_step (fail)
    gi_big_quiet_step (fail)
    gi_big_quiet_step (fail)
    gi_big_quiet_step (fail)
    gi_big_quiet_step (fail)
    gi_big_quiet_step (fail)
    gi_big_quiet_step (fail)
    gi_big_quiet_step (fail)
    refine wpQuietIn_load_part rfl 23 _ rfl (A.heap.size) 0 rfl 23 (irow .u8 X) (0, 0) (irow .u8 X) _ HB.out (all_row _) Tryd.underlying23 rfl (infok8 _ hml) ?_
    simp only [Act.put, List.setIfInBounds_toArray, List.set_cons_succ, List.set_cons_zero]
    gi_big_quiet_step (fail)
    gi_big_quiet_step (fail)
    gi_big_quiet_step (fail)
    refine wpQuietIn_load_part rfl 23 _ rfl (bU) (i * 32) rfl 23 curU (0, 0) (irow .u8 X) _ HU.out hUx Tryd.underlying23 rfl (infok8 _ hml) ?_
    simp only [Act.put, List.setIfInBounds_toArray, List.set_cons_succ, List.set_cons_zero]
    gi_big_quiet_step (fail)
    gi_big_quiet_step (fail)
    refine wpQuietIn_nil ?_
    rintro _ ⟨p, rfl⟩
    have hb := below_regrown C2 p.d p.os
    generalize grow (redrawn C2 p.d) p.os = C3 at *
    have k1 := keep hb e1'
    have k2_ := keep hb e2
    have kN := keep hb eN
    have k6 : ∀ g, g < f → g ≠ e + 1 + 1 → C3.heap[g]? = x6.heap[g]? := fun g hg h3 => (hb.block g (by omega)).trans (e6 g hg h3)
    have k7 := Below.after e7 hb
    have k8 : Hid (∀ g, f + 2 ≤ g → g < A.heap.size → C3.heap[g]? = A.heap[g]?) := hide (fun g hg hl => (hb.block g (by omega)).trans (e8.out g hg hl))
    have k9 : A.heap.size ≤ C3.heap.size := by have := hb.size; omega
    clear e1' e2 eN e6 e7 e8 hb q13 qn qk qv HB HU eX hd1 hd2 hd3 hd4 hi1 cV2 eO0 eO1 hUr2 rB2 hUx
    have c13 : C3.cell? ⟨e + 1 + 1, 0, none⟩ = some (.int .i64 (i : Int)) := by rw [cell_of_row _ _ 0 _ _ _ kN]; rfl
    have f13 : C3.frozen? ⟨e + 1 + 1, 0, none⟩ = false := by simp [World.frozen?, kN]
    have hsm : (i : Int) + 1 ≤ 9223372036854775807 := by omega
    gi_wp2_with (fail)
    have p1 := heap_other (g := e + 1 + 1) (j := 0) (v := .int .i64 ((i : Int) + 1)) k1 (by omega)
    have p2 := heap_other (g := e + 1 + 1) (j := 0) (v := .int .i64 ((i : Int) + 1)) k2_ (by omega)
    have pN : (C3.setCell ⟨e + 1 + 1, 0, none⟩ (.int .i64 ((i : Int) + 1))).heap[e + 1 + 1]? = some (.cells #[.int .i64 ((i + 1 : Nat) : Int)] 3 (0, 0)) := row_set kN 0 (.int .i64 ((i : Int) + 1))
    have p6 : ∀ g, g < f → g ≠ e + 1 + 1 → (C3.setCell ⟨e + 1 + 1, 0, none⟩ (.int .i64 ((i : Int) + 1))).heap[g]? = x6.heap[g]? := fun g hg h3 => (heap_setCell_other C3 ⟨e + 1 + 1, 0, none⟩ g _ h3).trans (k6 g hg h3)
    have p7 := k7.setCell (p := ⟨e + 1 + 1, 0, none⟩) (show w.heap.size ≤ e + 1 + 1 by omega) (.int .i64 ((i : Int) + 1))
    have p8 : Hid (∀ g, f + 2 ≤ g → g < f + 2 + 3 → (C3.setCell ⟨e + 1 + 1, 0, none⟩ (.int .i64 ((i : Int) + 1))).heap[g]? = A.heap[g]?) := hide (fun g hg hl => (heap_setCell_other C3 ⟨e + 1 + 1, 0, none⟩ g _ (by show g ≠ e + 1 + 1; omega)).trans (k8.out g hg (by omega)))
    have p9 : A.heap.size ≤ (C3.setCell ⟨e + 1 + 1, 0, none⟩ (.int .i64 ((i : Int) + 1))).heap.size := Nat.le_trans k9 (grownBy_setCell' C3 (e + 1 + 1) _).size
    generalize (C3.setCell ⟨e + 1 + 1, 0, none⟩ (.int .i64 ((i : Int) + 1))) = w8 at *
    refine ⟨_, _, run_endRound none p1, .inl ⟨rfl, ⟨?_, ?_, ?_, ?_, ?_⟩, ?_, ?_⟩⟩
    · rw [World.putObj_heap_same (lt_of_row p1)]; simp [hrec]
    · exact (World.putObj_heap_other (by omega)).trans p2
    · exact (World.putObj_heap_other (by omega)).trans pN
    · exact fun g hg h3 => (World.putObj_heap_other (by omega)).trans (p6 g hg h3)
    · exact p7.grown (grownBy_putObj' _ _ _) p7.size (fun k e => by cases e; omega)
    · rw [World.putObj_size]; exact p9
    · exact fun g hg hl => (World.putObj_heap_other (by omega)).trans (p8.out g hg (by omega))
  refine (a_ahead1 k2 hPl hPz n2 hP0 hP1 sp gc e (e + 1) (f + 1) (St2 w x6 f (e + 1 + 1) (rec .ready none)) (fun _ _ => False) W2 zq0 zq1 zc (fun i A h => ⟨hS.below h.2.2.2.2, hK.below h.2.2.2.2⟩) ?_ ?_ hy_).mono ?_
  · clear hy_
    rw [hs6]
    rintro i A C ⟨g1, g2, gN, g6, g7⟩ hB hAs
    exact ⟨hB.row g1 (by omega), hB.row g2 (by omega), hB.row gN (by omega), fun g hg h3 => (hB.block g (by omega) (by omega)).trans (g6 g hg h3), But.after g7 (by omega) hB⟩
  · clear hy_
    intro C hb hC
    exact ⟨keep hb y1, keep hb y0, keep hb zn, fun g hg _ => (hb.block g (by omega)).trans (zf g hg), Below.after zw hb⟩
  clear hy_ y0 y1 zq0 zq1 zc zn zw zf
  rw [hM2.out]
  rintro e_ x8 ⟨⟨r, rfl⟩, (hJ | ⟨_, _, hF⟩)⟩
  rotate_left
  · exact hF.elim
  obtain ⟨g1, g2, gN, g6, g7⟩ := hJ
  refine ⟨⟨_, rfl⟩, .inl ⟨g1, ?_⟩⟩
  have hoth : ∀ g, g ≠ f + 1 → (x8.putObj (f + 1) (.loop (rec .exhausted none))).heap[g]? = x8.heap[g]? := fun g hg => World.putObj_heap_other hg
  have Kf := (hoth f (by omega)).trans g2
  have KN := (hoth (e + 1 + 1) (by omega)).trans gN
  replace X0 := ((hoth _ (by omega)).trans (g6 _ (by omega) (by omega))).trans X0
  replace X1 := ((hoth _ (by omega)).trans (g6 _ (by omega) (by omega))).trans X1
  replace XK := ((hoth _ (by omega)).trans (g6 _ (by omega) (by omega))).trans XK
  replace XP0 := ((hoth _ (by omega)).trans (g6 _ (by omega) (by omega))).trans XP0
  replace hw := g7.grown (grownBy_putObj' x8 (f + 1) (.loop (rec .exhausted none))) g7.size (fun k e => by cases e; omega)
  clear hoth g1 g2 gN g6 g7 hrec hs6 XV XU XP1 XQ0 XQ1 XC X13 hVl hUl hAp hgi hma
  generalize x8.putObj (f + 1) (.loop (rec .exhausted none)) = x9 at *
  have cS := a_Step key hkl hkz x9 (hS.below hw) (hK.below hw)
  have cT := fun V => r_Step key hkl hkz V
  have l1 := hm_len key [1]
  have l2 := hm_len key [2]
  generalize hm key [1] = A1 at *
  generalize hm key [2] = A2 at *
  go_wp2_with (first | (refine wpList_load_want rfl 23 _ rfl (w.heap.size) rfl 23 (irow .u8 key) (0, 0) _ X0 Tryd.underlying23 rfl (infok8 _ hkl) ?_) | fail)
  refine cS.mono ?_
  rintro e_ x10 ⟨rfl, hb⟩
  replace X0 := keep hb X0
  replace X1 := keep hb X1
  replace XK := keep hb XK
  replace XP0 := keep hb XP0
  replace Kf := keep hb Kf
  replace KN := keep hb KN
  replace hw := Below.after hw hb
  clear hb cS
  have z1 := hp2_0 x10 (.cells (irow .u8 (zr 32)) 23) (.cells (irow .u8 (zr 32)) 23)
  have z2 := hp2_1 x10 (.cells (irow .u8 (zr 32)) 23) (.cells (irow .u8 (zr 32)) 23)
  have z3 := (setRow_other ((x10.alloc (.cells (irow .u8 (zr 32)) 23)).alloc (.cells (irow .u8 (zr 32)) 23)) (x10.heap.size) (x10.heap.size + 1) (irow .u8 A2) (by omega)).trans z2
  have S1 := (setRow_other (((x10.alloc (.cells (irow .u8 (zr 32)) 23)).alloc (.cells (irow .u8 (zr 32)) 23)).setRow (x10.heap.size) (irow .u8 A2)) (x10.heap.size + 1) (x10.heap.size) (irow .u8 A1) (by omega)).trans (setRow_heap ((x10.alloc (.cells (irow .u8 (zr 32)) 23)).alloc (.cells (irow .u8 (zr 32)) 23)) (x10.heap.size) _ (irow .u8 A2) _ _ z1)
  have hbF : Below x10.heap.size x10 ((((x10.alloc (.cells (irow .u8 (zr 32)) 23)).alloc (.cells (irow .u8 (zr 32)) 23)).setRow (x10.heap.size) (irow .u8 A2)).setRow (x10.heap.size + 1) (irow .u8 A1)) := below_setRow (below_setRow (((Below.refl _ _).alloc (Nat.le_refl _) _).alloc (by simp) _) (Nat.le_refl _) (irow .u8 A2)) (Nat.le_succ _) (irow .u8 A1)
  go_wp2_with (first | (refine wpList_alloc rfl 23 rfl (irow .u8 (zr 32)) zkey ?_) | (refine wpList_store_row rfl 23 _ _ rfl (x10.heap.size) (irow .u8 A2) rfl rfl 23 _ z1 (infok8 _ l2) (fit32 _ _ (zr_len 32) l2) (irow_one _ _) ?_; refine wpList_stay ?_) | fail)
  unfold WpStay
  go_wp2_with (first | (refine wpList_store_row rfl 23 _ _ rfl (x10.heap.size + 1) (irow .u8 A1) rfl rfl 23 _ z3 (infok8 _ l1) (fit32 _ _ (zr_len 32) l1) (irow_one _ _) ?_; refine wpList_stay ?_) | fail)
  unfold WpStay
  replace X0 := keep hbF X0
  replace X1 := keep hbF X1
  replace XK := keep hbF XK
  replace XP0 := keep hbF XP0
  replace Kf := keep hbF Kf
  replace KN := keep hbF KN
  replace hw := Below.after hw hbF
  clear hbF z1 z2 z3
  generalize ((((x10.alloc (.cells (irow .u8 (zr 32)) 23)).alloc (.cells (irow .u8 (zr 32)) 23)).setRow (x10.heap.size) (irow .u8 A2)).setRow (x10.heap.size + 1) (irow .u8 A1)) = x11 at *
  generalize x10.heap.size = gs at *
  go_wp2_with (first | (refine wpList_load_want rfl 23 _ rfl (w.heap.size) rfl 23 (irow .u8 key) (0, 0) _ X0 Tryd.underlying23 rfl (infok8 _ hkl) ?_) | fail)
  refine (cT x11).mono ?_
  rintro e_ x12 ⟨rfl, hb⟩
  replace X0 := keep hb X0
  replace X1 := keep hb X1
  replace XK := keep hb XK
  replace XP0 := keep hb XP0
  replace Kf := keep hb Kf
  replace KN := keep hb KN
  replace S1 := keep hb S1
  replace hw := Below.after hw hb
  clear hb cT
  have z1 := hp2_0 x12 (.cells (irow .u8 (zr 32)) 23) (.cells (irow .u8 (zr 32)) 23)
  have z2 := hp2_1 x12 (.cells (irow .u8 (zr 32)) 23) (.cells (irow .u8 (zr 32)) 23)
  have z3 := (setRow_other ((x12.alloc (.cells (irow .u8 (zr 32)) 23)).alloc (.cells (irow .u8 (zr 32)) 23)) (x12.heap.size) (x12.heap.size + 1) (irow .u8 A2) (by omega)).trans z2
  have S2 := (setRow_other (((x12.alloc (.cells (irow .u8 (zr 32)) 23)).alloc (.cells (irow .u8 (zr 32)) 23)).setRow (x12.heap.size) (irow .u8 A2)) (x12.heap.size + 1) (x12.heap.size) (irow .u8 A1) (by omega)).trans (setRow_heap ((x12.alloc (.cells (irow .u8 (zr 32)) 23)).alloc (.cells (irow .u8 (zr 32)) 23)) (x12.heap.size) _ (irow .u8 A2) _ _ z1)
  have hbF : Below x12.heap.size x12 ((((x12.alloc (.cells (irow .u8 (zr 32)) 23)).alloc (.cells (irow .u8 (zr 32)) 23)).setRow (x12.heap.size) (irow .u8 A2)).setRow (x12.heap.size + 1) (irow .u8 A1)) := below_setRow (below_setRow (((Below.refl _ _).alloc (Nat.le_refl _) _).alloc (by simp) _) (Nat.le_refl _) (irow .u8 A2)) (Nat.le_succ _) (irow .u8 A1)
  go_wp2_with (first | (refine wpList_alloc rfl 23 rfl (irow .u8 (zr 32)) zkey ?_) | (refine wpList_store_row rfl 23 _ _ rfl (x12.heap.size) (irow .u8 A2) rfl rfl 23 _ z1 (infok8 _ l2) (fit32 _ _ (zr_len 32) l2) (irow_one _ _) ?_; refine wpList_stay ?_) | fail)
  unfold WpStay
  go_wp2_with (first | (refine wpList_store_row rfl 23 _ _ rfl (x12.heap.size + 1) (irow .u8 A1) rfl rfl 23 _ z3 (infok8 _ l1) (fit32 _ _ (zr_len 32) l1) (irow_one _ _) ?_; refine wpList_stay ?_) | fail)
  unfold WpStay
  replace X0 := keep hbF X0
  replace X1 := keep hbF X1
  replace XK := keep hbF XK
  replace XP0 := keep hbF XP0
  replace Kf := keep hbF Kf
  replace KN := keep hbF KN
  replace S1 := keep hbF S1
  replace hw := Below.after hw hbF
  clear hbF z1 z2 z3
  generalize ((((x12.alloc (.cells (irow .u8 (zr 32)) 23)).alloc (.cells (irow .u8 (zr 32)) 23)).setRow (x12.heap.size) (irow .u8 A2)).setRow (x12.heap.size + 1) (irow .u8 A1)) = x13 at *
  generalize x12.heap.size = gt at *
  have cc : x13.cell? ⟨e + 1 + 1, 0, none⟩ = some (.int .i64 (M2 : Int)) := by rw [cell_of_row _ _ 0 _ _ _ KN]; rfl
  have cm : x13.cell? ⟨hn, 0, none⟩ = some (.slice va2 M2 vc2) := by rw [cell_of_row _ _ 0 _ _ _ XP0]; rfl
  have cb : x13.cell? ⟨w.heap.size + 1, 0, none⟩ = some (.bool false) := by rw [cell_of_row _ _ 0 _ _ _ X1]; rfl
  have fb : x13.frozen? ⟨w.heap.size + 1, 0, none⟩ = false := by simp [World.frozen?, X1]
  have eA := eqKs A2 l2
  go_wp2_with (first | (refine wpList_load_want rfl 23 _ rfl (gs) rfl 23 (irow .u8 A2) (0, 0) _ S1 Tryd.underlying23 rfl (infok8 _ l2) ?_) | (refine wpList_load_want rfl 23 _ rfl (gt) rfl 23 (irow .u8 A2) (0, 0) _ S2 Tryd.underlying23 rfl (infok8 _ l2) ?_) | fail)
  have Kf' := heap_other (g := w.heap.size + 1) (j := 0) (v := .bool true) Kf (by omega)
  have XK' := heap_other (g := w.heap.size + 1) (j := 0) (v := .bool true) XK (by omega)
  have X1' := row_set X1 0 (.bool true)
  have hw' := hw.setCell (p := ⟨w.heap.size + 1, 0, none⟩) (show w.heap.size ≤ w.heap.size + 1 by omega) (.bool true)
  generalize x13.setCell ⟨w.heap.size + 1, 0, none⟩ (.bool true) = x14 at *
  refine ⟨by simp, .inl ⟨_, _, rfl, run_takeDeferred Kf', ?_⟩⟩
  have XK2 : (x14.putObj f (.deferred none)).heap[e + 3]? = some (.deferred (some [])) := (World.putObj_heap_other (by omega)).trans XK'
  have X12 : (x14.putObj f (.deferred none)).heap[w.heap.size + 1]? = some (.cells #[.bool true] 4 (0, 0)) := (World.putObj_heap_other (by omega)).trans X1'
  have hw2 := hw'.grown (grownBy_putObj' x14 f (.deferred none)) hw'.size (fun k e => by cases e; omega)
  generalize x14.putObj f (.deferred none) = x15 at *
  refine ⟨by simp, .inl ⟨_, _, rfl, run_takeDeferred XK2, ?_⟩⟩
  refine ⟨_, results_cell_bool Tryd.results3 _ _ (w.heap.size + 1) _ rfl (row_load ((World.putObj_heap_other (by omega)).trans X12)), rfl, hw2.grown (grownBy_putObj' _ _ _) hw2.size (fun k e => by cases e; omega)⟩
theorem still_any (key : List Int) (hkl : key.length = 32) (hkz : ∀ z ∈ key, 0 ≤ z ∧ z < 256) (n : Int) (hn0 : 0 ≤ n) (hn1 : n ≤ 4294967295) (st : Int) (w : World) (hS : Sta w) (hK : Kon w) : Calls Tryd.prog 3 #[.agg (irow .u8 key), .int .u32 n, .int .i64 st] w fun e w' => e = .returned (.bool true) ∧ Below w.heap.size w w' := by
  have h1 : (st.tmod 12).natAbs < 12 := by
    rw [Int.natAbs_tmod]
    exact Nat.mod_lt _ (by decide)
  exact still_aux key hkl hkz n hn0 hn1 st _ _ rfl rfl (by omega) w hS hK

end Go.Proofs.YtkickbgiidhpfaaDoor
