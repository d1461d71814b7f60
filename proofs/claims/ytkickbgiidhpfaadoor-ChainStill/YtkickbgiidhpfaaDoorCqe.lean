import Derived.Test.YtkickbgiidhpfaaDoorProg
import Derived.WalkKit
import Derived.WalkSpells
import Derived.WalkLawsBesides
import Derived.Lib.QuietBelow
import Derived.BigQuiet
import Derived.OrdersHeld
import Derived.OwnWalk
import Derived.Deep.RegionHeld3
import Derived.Test.YtkickbgiidhpfaaDoorKa
import Derived.Test.YtkickbgiidhpfaaDoorCqd
namespace Go.Proofs.YtkickbgiidhpfaaDoor
open Go Go.RowKit Go.Sort
attribute [local go_sem] setCell_drewN alloc_drewN

/-- All blocks but one have stayed. -/
structure But (g : Nat) (w w' : World) : Prop where
  os : w'.os = w.os
  tape : w'.tape = w.tape
  output : w'.output = w.output
  size : w.heap.size ≤ w'.heap.size
  block : ∀ k, k < w.heap.size → k ≠ g → w'.heap[k]? = w.heap[k]?
theorem But.refl (g : Nat) (w : World) : But g w w := ⟨rfl, rfl, rfl, Nat.le_refl _, fun _ _ _ => rfl⟩
theorem But.trans {g : Nat} {a b c : World} (h : But g a b) (k : But g b c) : But g a c :=
  ⟨k.os.trans h.os, k.tape.trans h.tape, k.output.trans h.output, Nat.le_trans h.size k.size, fun i hi hg => (k.block i (Nat.lt_of_lt_of_le hi h.size) hg).trans (h.block i hi hg)⟩
theorem But.of {g : Nat} {w w' : World} (h : Below w.heap.size w w') : But g w w' := ⟨h.os, h.tape, h.output, h.size, fun k hk _ => h.block k hk⟩
theorem But.below {g B : Nat} {w w' : World} (h : But g w w') (h1 : B ≤ g) (h2 : B ≤ w.heap.size) : Below B w w' := ⟨h.os, h.tape, h.output, h.size, fun k hk => h.block k (by omega) (by omega)⟩
theorem But.after {g : Nat} {W w w' : World} (h0 : Below W.heap.size W w) (h1 : W.heap.size ≤ g) (h : But g w w') : Below W.heap.size W w' := h0.trans (h.below h1 h0.size)
theorem But.row {g : Nat} {w w' : World} (h : But g w w') {k : Nat} {o : Obj} (hk : w.heap[k]? = some o) (hg : k ≠ g) : w'.heap[k]? = some o :=
  (h.block k (Array.getElem?_eq_some_iff.1 hk).1 hg).trans hk
theorem But.set {g : Nat} (w : World) (v : Value) : But g w (w.setCell ⟨g, 0, none⟩ v) :=
  ⟨rfl, rfl, rfl, Nat.le_of_eq (by simp), fun k _ hk => heap_setCell_other w _ k v hk⟩
theorem results_slot_cell {P : Program} {fn : Func} {p q : Tmp} {ty : TypeId} (h : fn.results = #[.tmp q, .cell p ty]) (tmps : Array Value) (w : World) (g : Nat) (t : TypeId) (cs : Array Value) (fr : Nat × Nat) (d : TypeDesc)
    (hp : tmps.getD p undef = .pointer (some ⟨g, 0, none⟩)) (hg : w.heap[g]? = some (.cells cs t fr))
    (hu : P.underlying ty = some d) (hd : (match d with | .struct _ | .array _ _ => true | _ => false) = true) (hi : (P.info? ty).map (·.size) = some cs.size) :
    (results fn tmps).run P w = .ok (.tuple #[tmps.getD q undef, .agg cs]) w := by
  have hp' : tmps[p]?.getD undef = .pointer (some ⟨g, 0, none⟩) := by simpa using hp
  simp [results, h, hp', asAddr, run_loadVar_row w g t ty cs fr d hg hu hd hi]
theorem results_cell_slot {P : Program} {fn : Func} {p q : Tmp} {ty : TypeId} (h : fn.results = #[.cell p ty, .tmp q]) (tmps : Array Value) (w : World) (g : Nat) (t : TypeId) (cs : Array Value) (fr : Nat × Nat) (d : TypeDesc)
    (hp : tmps.getD p undef = .pointer (some ⟨g, 0, none⟩)) (hg : w.heap[g]? = some (.cells cs t fr))
    (hu : P.underlying ty = some d) (hd : (match d with | .struct _ | .array _ _ => true | _ => false) = true) (hi : (P.info? ty).map (·.size) = some cs.size) :
    (results fn tmps).run P w = .ok (.tuple #[.agg cs, tmps.getD q undef]) w := by
  have hp' : tmps[p]?.getD undef = .pointer (some ⟨g, 0, none⟩) := by simpa using hp
  simp [results, h, hp', asAddr, run_loadVar_row w g t ty cs fr d hg hu hd hi]
/-- A chain's cells. -/
def chc (key : List Int) (n : Int) : Array Value := ((key.map (Value.int .u8)) ++ [Value.int .u32 n]).toArray
theorem chc_size (key : List Int) (hkl : key.length = 32) (n : Int) : (chc key n).size = 33 := by simp [chc, hkl]
theorem chc_one (key : List Int) (n : Int) : (chc key n).all (·.oneCell') = true := by
  simp [chc, Value.oneCell']
theorem chc_key (key : List Int) (hkl : key.length = 32) (n : Int) : (chc key n).extract 0 (0 + (irow .u8 key).size) = (irow .u8 key) := by
  apply Array.ext'
  simp [chc, irow, hkl]
theorem chc_n (key : List Int) (hkl : key.length = 32) (n : Int) : (chc key n)[32]? = some (.int .u32 n) := by
  simp [chc, hkl]
theorem infoC (key : List Int) (hkl : key.length = 32) (n : Int) : (Tryd.prog.info? 47).map (·.size) = some (chc key n).size := by
  rw [chc_size key hkl]; kernel_rfl
theorem infoR (key : List Int) (hkl : key.length = 32) (n : Int) : (Tryd.prog.info? 28).map (·.size) = some (chc key n).size := by
  rw [chc_size key hkl]; kernel_rfl
theorem ovw_mid : ∀ (c pre a b : List Value), a.length = c.length → ovw (pre ++ (a ++ b)).toArray pre.length c = (pre ++ (c ++ b)).toArray
  | [], pre, a, b, h => by
    obtain rfl : a = [] := List.length_eq_zero_iff.1 h
    rfl
  | v :: r, pre, [], b, h => by simp at h
  | v :: r, pre, x :: a, b, h => by
    have e : (pre ++ (x :: a ++ b)).toArray.setIfInBounds pre.length v = (pre ++ [v] ++ (a ++ b)).toArray := by simp
    have i := ovw_mid r (pre ++ [v]) a b (by simpa using h)
    rw [ovw, e]
    simp only [List.length_append, List.length_cons, List.length_nil, List.append_assoc] at i ⊢
    exact i
theorem chc_setk (key k2 : List Int) (hkl : key.length = 32) (h2 : k2.length = 32) (n : Int) : ovw (chc key n) 0 (irow .u8 k2).toList = chc k2 n := ovw_mid (k2.map (Value.int .u8)) [] (key.map (Value.int .u8)) [.int .u32 n] (by simp [hkl, h2])
theorem len32 (l : List Int) (h : l.length = 32) : ∃ x0 x1 x2 x3 x4 x5 x6 x7 x8 x9 x10 x11 x12 x13 x14 x15 x16 x17 x18 x19 x20 x21 x22 x23 x24 x25 x26 x27 x28 x29 x30 x31, l = [x0, x1, x2, x3, x4, x5, x6, x7, x8, x9, x10, x11, x12, x13, x14, x15, x16, x17, x18, x19, x20, x21, x22, x23, x24, x25, x26, x27, x28, x29, x30, x31] := by
  match l, h with
  | [x0, x1, x2, x3, x4, x5, x6, x7, x8, x9, x10, x11, x12, x13, x14, x15, x16, x17, x18, x19, x20, x21, x22, x23, x24, x25, x26, x27, x28, x29, x30, x31], _ => exact ⟨x0, x1, x2, x3, x4, x5, x6, x7, x8, x9, x10, x11, x12, x13, x14, x15, x16, x17, x18, x19, x20, x21, x22, x23, x24, x25, x26, x27, x28, x29, x30, x31, rfl⟩
theorem chc_setn (key : List Int) (hkl : key.length = 32) (n m : Int) : (chc key n).setIfInBounds 32 (.int .u32 m) = chc key m := by
  apply Array.ext'
  simp [chc, hkl]
theorem builtC (key : List Int) (hkl : key.length = 32) (n : Int) : Tryd.prog.built 47 [(0, .agg (irow .u8 key)), (1, .int .u32 n)] = some (chc key n) := by
  obtain ⟨x0, x1, x2, x3, x4, x5, x6, x7, x8, x9, x10, x11, x12, x13, x14, x15, x16, x17, x18, x19, x20, x21, x22, x23, x24, x25, x26, x27, x28, x29, x30, x31, rfl⟩ := len32 key hkl
  kernel_rfl
theorem builtR (key : List Int) (hkl : key.length = 32) (n : Int) : Tryd.prog.built 28 [(0, .agg (irow .u8 key)), (1, .int .u32 n)] = some (chc key n) := by
  obtain ⟨x0, x1, x2, x3, x4, x5, x6, x7, x8, x9, x10, x11, x12, x13, x14, x15, x16, x17, x18, x19, x20, x21, x22, x23, x24, x25, x26, x27, x28, x29, x30, x31, rfl⟩ := len32 key hkl
  kernel_rfl
theorem zchc (W : World) : (Instr.alloc 47 true (.tuple #[])).run Tryd.prog W = .ok (.pointer (some ⟨W.heap.size, 0, none⟩)) (W.alloc (.cells (chc (zr 32) 0) 47)) := by kernel_rfl
theorem zchr (W : World) : (Instr.alloc 28 true (.tuple #[])).run Tryd.prog W = .ok (.pointer (some ⟨W.heap.size, 0, none⟩)) (W.alloc (.cells (chc (zr 32) 0) 28)) := by kernel_rfl
theorem bC (cs : Array Value) (W : World) : (Instr.box 47 (.agg cs)).run Tryd.prog W = .ok (.pointer (some ⟨W.heap.size, 0, none⟩)) (W.alloc (.cells cs 47)) := by kernel_rfl
theorem bR (cs : Array Value) (W : World) : (Instr.box 28 (.agg cs)).run Tryd.prog W = .ok (.pointer (some ⟨W.heap.size, 0, none⟩)) (W.alloc (.cells cs 28)) := by kernel_rfl
theorem cell_n {W : World} {g : Nat} (key : List Int) (hkl : key.length = 32) {n : Int} {t : TypeId} (h : W.heap[g]? = some (.cells (chc key n) t (0, 0))) : W.cell? ⟨g, 32, none⟩ = some (.int .u32 n) := by
  rw [cell_of_row W g 32 _ _ _ h, chc_n key hkl]
set_option maxRecDepth 100000 in
set_option maxHeartbeats 4000000 in
theorem a_New (key : List Int) (hkl : key.length = 32) (n : Int) (w : World) : Calls Tryd.prog 4 #[.agg (irow .u8 key), .int .u32 n] w fun e w' => ∃ g, e = .returned (.pointer (some ⟨g, 0, none⟩)) ∧ w.heap.size ≤ g ∧ w'.heap[g]? = some (.cells (chc key n) 47 (0, 0)) ∧ Below w.heap.size w w' := by
  have R0 := hp1_0 w (.cells (irow .u8 key) 23)
  have hb := builtC key hkl n
  have RF := hp2_1 w (.cells (irow .u8 key) 23) (.cells (chc key n) 47)
  have hw : Below w.heap.size w ((w.alloc (.cells (irow .u8 key) 23)).alloc (.cells (chc key n) 47)) := ((Below.refl _ _).alloc (Nat.le_refl _) _).alloc (by simp) _
  go_enter Tryd.func4, Tryd.ntmps4
  go_wp2_with (first | (refine wpList_box rfl 23 _ rfl _ rfl (bK _) ?_) | (refine wpList_load_want rfl 23 _ rfl (w.heap.size) rfl 23 (irow .u8 key) (0, 0) _ R0 Tryd.underlying23 rfl (infok8 _ hkl) ?_) | (refine wpList_build_as rfl 47 _ rfl [(0, .agg (irow .u8 key)), (1, .int .u32 n)] rfl (chc key n) hb ?_) | (refine wpList_box rfl 47 _ rfl _ rfl (bC _) ?_) | fail)
  try simp only [size_alloc1, Act.put, List.setIfInBounds_toArray, List.set_cons_succ, List.set_cons_zero]
  go_ret
  exact ⟨_, rfl, Nat.le_succ _, RF, hw⟩
set_option maxRecDepth 100000 in
set_option maxHeartbeats 4000000 in
theorem a_Key (key : List Int) (hkl : key.length = 32) (n : Int) (w : World) (g : Nat) (rM : w.heap[g]? = some (.cells (chc key n) 47 (0, 0))) : Calls Tryd.prog 10 #[.pointer (some ⟨g, 0, none⟩)] w fun e w' => e = .returned (.agg (irow .u8 key)) ∧ Below w.heap.size w w' := by
  have Z := (.cells (irow .u8 (zr 32)) 23 : Obj)
  have R0 := hp1_0 w (.cells (irow .u8 (zr 32)) 23)
  have hba : Below w.heap.size w (w.alloc (.cells (irow .u8 (zr 32)) 23)) := (Below.refl _ _).alloc (Nat.le_refl _) _
  have r1 := keep hba rM
  go_enter Tryd.func10, Tryd.ntmps10
  go_wp2_with (first | (refine wpList_alloc rfl 23 rfl (irow .u8 (zr 32)) zkey ?_) | (refine wpList_load_part rfl 23 _ rfl (g) 0 rfl 47 (chc key n) (0, 0) (irow .u8 key) _ r1 (chc_key _ hkl _) Tryd.underlying23 rfl (infok8 _ hkl) ?_) | (refine wpList_store_row rfl 23 _ _ rfl (w.heap.size) (irow .u8 key) rfl rfl 23 _ R0 (infok8 _ hkl) (fit32 _ _ (zr_len 32) hkl) (irow_one _ _) ?_) | fail)
  exact bodyPost_ret (results_cell_row Tryd.results10 _ _ w.heap.size _ _ _ _ rfl (setRow_heap _ w.heap.size _ (irow .u8 key) _ _ R0) Tryd.underlying23 rfl (infok8 _ hkl)) rfl ⟨rfl, below_setRow hba (Nat.le_refl _) (irow .u8 key)⟩
set_option maxRecDepth 100000 in
set_option maxHeartbeats 4000000 in
theorem a_N (key : List Int) (hkl : key.length = 32) (n : Int) (w : World) (g : Nat) (rM : w.heap[g]? = some (.cells (chc key n) 47 (0, 0))) : Calls Tryd.prog 9 #[.pointer (some ⟨g, 0, none⟩)] w fun e w' => e = .returned (.int .u32 n) ∧ Below w.heap.size w w' := by
  have c0 := cell_n key hkl rM
  go_enter Tryd.func9, Tryd.ntmps9
  go_wp2_with (fail)
  go_ret
  exact ⟨rfl, Below.refl _ _⟩
set_option maxRecDepth 100000 in
set_option maxHeartbeats 4000000 in
theorem a_left (key : List Int) (hkl : key.length = 32) (n : Int) (hn0 : 0 ≤ n) (hn1 : n ≤ 4294967295) (w : World) (g : Nat) (rM : w.heap[g]? = some (.cells (chc key n) 47 (0, 0))) : Calls Tryd.prog 16 #[.pointer (some ⟨g, 0, none⟩)] w fun e w' => e = .returned (.int .i64 (4294967295 - n)) ∧ w' = w := by
  have c0 := cell_n key hkl rM
  go_enter Tryd.func16, Tryd.ntmps16
  go_wp2_with (fail)
  go_ret
  exact ⟨by go_num, rfl⟩
theorem but_row {g : Nat} {w w' : World} (h : But g w w') (k : Nat) (cs : Array Value) (hk : w.heap.size ≤ k ∨ k = g) : But g w (w'.setRow k cs) :=
  ⟨h.os, h.tape, h.output, by rw [setRow_size]; exact h.size, fun j hj hg => (setRow_other w' k j cs (by omega)).trans (h.block j hj hg)⟩
set_option maxRecDepth 100000 in
set_option maxHeartbeats 4000000 in
theorem a_step_aux (key A2 A1 : List Int) (hkl : key.length = 32) (l2 : A2.length = 32) (l1 : A1.length = 32) (n : Int) (hn0 : 0 ≤ n) (hn1 : n ≤ 4294967294) (w : World) (g : Nat) (rM : w.heap[g]? = some (.cells (chc key n) 47 (0, 0)))
    (cS : ∀ V, Below w.heap.size w V → Calls Tryd.prog 11 #[.agg (irow .u8 key)] V fun e w' => e = .returned (.tuple #[.agg (irow .u8 A2), .agg (irow .u8 A1)]) ∧ Below V.heap.size V w') :
    Calls Tryd.prog 15 #[.pointer (some ⟨g, 0, none⟩)] w fun e w' => e = .returned (.tuple #[.int .u32 n, .agg (irow .u8 A1)]) ∧ w'.heap[g]? = some (.cells (chc A2 (n + 1)) 47 (0, 0)) ∧ But g w w' := by
  have R0 := hp1_0 w (.cells (irow .u8 (zr 32)) 23)
  have hw : Below w.heap.size w (w.alloc (.cells (irow .u8 (zr 32)) 23)) := (Below.refl _ _).alloc (Nat.le_refl _) _
  have hgl := lt_of_row rM
  replace rM := keep hw rM
  have hl0 : w.heap.size < (w.alloc (.cells (irow .u8 (zr 32)) 23)).heap.size := lt_of_row R0
  go_enter Tryd.func15, Tryd.ntmps15
  go_wp2_with (first | (refine wpList_alloc rfl 23 rfl (irow .u8 (zr 32)) zkey ?_) | (refine wpList_load_part rfl 23 _ rfl (g) 0 rfl 47 (chc key n) (0, 0) (irow .u8 key) _ rM (chc_key _ hkl _) Tryd.underlying23 rfl (infok8 _ hkl) ?_) | fail)
  try simp only [size_alloc1, Act.put, List.setIfInBounds_toArray, List.set_cons_succ, List.set_cons_zero]
  generalize w.alloc (.cells (irow .u8 (zr 32)) 23) = w0 at *
  refine (cS w0 hw).mono ?_
  rintro e_ w1 ⟨rfl, hb⟩
  have hs1 := hb.size
  replace R0 := keep hb R0
  replace rM := keep hb rM
  replace hw := Below.after hw hb
  clear hb cS
  have zc0 := hp2_0 w1 (.cells (irow .u8 (zr 32)) 23) (.cells (irow .u8 (zr 32)) 23)
  have zc1 := hp2_1 w1 (.cells (irow .u8 (zr 32)) 23) (.cells (irow .u8 (zr 32)) 23)
  have yc00 := setRow_heap ((w1.alloc (.cells (irow .u8 (zr 32)) 23)).alloc (.cells (irow .u8 (zr 32)) 23)) (w1.heap.size) _ (irow .u8 A2) _ _ zc0
  have yc01 := (setRow_other ((w1.alloc (.cells (irow .u8 (zr 32)) 23)).alloc (.cells (irow .u8 (zr 32)) 23)) (w1.heap.size) (w1.heap.size + 1) (irow .u8 A2) (by omega)).trans zc1
  have yc10 := (setRow_other (((w1.alloc (.cells (irow .u8 (zr 32)) 23)).alloc (.cells (irow .u8 (zr 32)) 23)).setRow (w1.heap.size) (irow .u8 A2)) (w1.heap.size + 1) (w1.heap.size) (irow .u8 A1) (by omega)).trans yc00
  have yc11 := setRow_heap (((w1.alloc (.cells (irow .u8 (zr 32)) 23)).alloc (.cells (irow .u8 (zr 32)) 23)).setRow (w1.heap.size) (irow .u8 A2)) (w1.heap.size + 1) _ (irow .u8 A1) _ _ yc01
  have hbF : Below w1.heap.size w1 ((((w1.alloc (.cells (irow .u8 (zr 32)) 23)).alloc (.cells (irow .u8 (zr 32)) 23)).setRow (w1.heap.size) (irow .u8 A2)).setRow (w1.heap.size + 1) (irow .u8 A1)) := (below_setRow (below_setRow (((Below.refl _ _).alloc (Nat.le_refl _) _).alloc (by simp) _) (show w1.heap.size ≤ w1.heap.size by omega) (irow .u8 A2)) (show w1.heap.size ≤ w1.heap.size + 1 by omega) (irow .u8 A1))
  go_wp2_with (first | (refine wpList_alloc rfl 23 rfl (irow .u8 (zr 32)) zkey ?_) | (refine wpList_store_row rfl 23 _ _ rfl (w1.heap.size) (irow .u8 A2) rfl rfl 23 _ zc0 (infok8 _ l2) (fit32 _ _ (zr_len 32) l2) (irow_one _ _) ?_; refine wpList_stay ?_) | fail)
  unfold WpStay
  go_wp2_with (first | (refine wpList_store_row rfl 23 _ _ rfl (w1.heap.size + 1) (irow .u8 A1) rfl rfl 23 _ yc01 (infok8 _ l1) (fit32 _ _ (zr_len 32) l1) (irow_one _ _) ?_; refine wpList_stay ?_) | fail)
  unfold WpStay
  replace R0 := keep hbF R0
  replace rM := keep hbF rM
  replace hw := Below.after hw hbF
  clear hbF zc0 zc1 yc00 yc01
  generalize ((((w1.alloc (.cells (irow .u8 (zr 32)) 23)).alloc (.cells (irow .u8 (zr 32)) 23)).setRow (w1.heap.size) (irow .u8 A2)).setRow (w1.heap.size + 1) (irow .u8 A1)) = w2 at *
  generalize w1.heap.size = g1 at *
  have c0 := cell_n key hkl rM
  have k0 := setRow_heap w2 g _ (chc A2 n) _ _ rM
  have c3 := cell_n A2 l2 k0
  have f3 : (w2.setRow g (chc A2 n)).frozen? ⟨g, 32, none⟩ = false := by simp [World.frozen?, k0]
  go_wp2_with (first | (refine wpList_load_want rfl 23 _ rfl (g1) rfl 23 (irow .u8 A2) (0, 0) _ yc10 Tryd.underlying23 rfl (infok8 _ l2) ?_) | (refine wpList_store_part rfl 23 _ _ rfl g 0 (irow .u8 A2) rfl rfl 47 _ (chc A2 n) rM (by rw [irow_size, l2, chc_size key hkl]; decide) (chc_setk key A2 hkl l2 n) (infok8 _ l2) (irow_one _ _) ?_; refine wpList_stay ?_) | fail)
  unfold WpStay
  go_wp2_with (fail)
  have e4 := setCell_eq_setRow (w2.setRow g (chc A2 n)) g 32 _ _ _ (.int .u32 (n + 1)) k0
  rw [chc_setn A2 l2] at e4
  rw [e4]
  have b4 := but_row (but_row (But.of hw) g (chc A2 n) (.inr rfl)) g (chc A2 (n + 1)) (.inr rfl)
  have r4 := setRow_heap _ g _ (chc A2 (n + 1)) _ _ k0
  replace R0 := (setRow_other (w2.setRow g (chc A2 n)) g w.heap.size (chc A2 (n + 1)) (by omega)).trans ((setRow_other w2 g w.heap.size (chc A2 n) (by omega)).trans R0)
  replace yc11 := (setRow_other (w2.setRow g (chc A2 n)) g (g1 + 1) (chc A2 (n + 1)) (by omega)).trans ((setRow_other w2 g (g1 + 1) (chc A2 n) (by omega)).trans yc11)
  clear e4 c0 c3 f3 k0 rM yc10
  generalize (w2.setRow g (chc A2 n)).setRow g (chc A2 (n + 1)) = w4 at *
  clear hw
  have hw := b4
  clear b4
  have hbd : Below w4.heap.size w4 w4.drew := below_drN (Below.refl _ _) 1
  replace R0 := keep hbd R0
  replace yc11 := keep hbd yc11
  replace r4 := keep hbd r4
  replace hw := But.trans hw (But.of hbd)
  clear hbd
  refine wp_region_noPanic ?_
  refine wp_region_held (S := fun W => W.heap[g1 + 1]? = some (.cells (irow .u8 A1) 23 (0, 0))) (by kernel_rfl) ?_
  change wpAnyH _ _ _ _ _ _ _ _ (World.drew _)
  generalize w4.drew = w5 at *
  refine wpAnyH_take (i := 0) (v := ?v1) rfl (by kernel_rfl) (by kernel_rfl) (by kernel_rfl) (fun _ _ _ h => h) (Or.inl ⟨by rfl, ?y1⟩) (yc11) ?r1
  case y1 =>
    intro w_ hS_
    go_simp
    try with_reducible rfl
  simp only [Act.put, List.getElem_toArray, List.getElem_cons_zero, List.setIfInBounds_toArray, List.set_cons_succ, List.set_cons_zero]
  refine wpAnyH_take (i := 1) (v := .agg (irow .u8 A1)) rfl (by kernel_rfl) (by kernel_rfl) (by kernel_rfl) (fun _ _ _ h => h) (Or.inl ⟨by rfl, ?y2⟩) (yc11) ?r2
  case y2 =>
    intro w_ hS_
    simp only [List.getElem_toArray, List.getElem_cons_succ, List.getElem_cons_zero]
    exact run_load_part 23 _ (by rfl) (g1 + 1) 0 (by rfl) 23 (irow .u8 A1) (0, 0) (irow .u8 A1) _ (hS_) (all_row _) Tryd.underlying23 rfl (infok8 _ l1)
  simp only [Act.put, List.getElem_toArray, List.getElem_cons_succ, List.getElem_cons_zero, List.setIfInBounds_toArray, List.set_cons_succ, List.set_cons_zero]
  refine wpAnyH_take (i := 2) (v := ?v3) rfl (by kernel_rfl) (by kernel_rfl) (by kernel_rfl) (fun _ _ _ h => h) (Or.inl ⟨by rfl, ?y3⟩) (yc11) ?r3
  case y3 =>
    intro w_ hS_
    go_simp
    try with_reducible rfl
  simp only [Act.put, List.getElem_toArray, List.getElem_cons_succ, List.getElem_cons_zero, List.setIfInBounds_toArray, List.set_cons_succ, List.set_cons_zero]
  refine wpAnyH_one (k := 3) (fuel := 0) (by kernel_rfl) rfl (by kernel_rfl) (fun K_ hK_ => ?_)
  refine wp_store_row 23 _ _ rfl w.heap.size (irow .u8 A1) rfl rfl 23 _ R0 (infok8 _ l1) (fit32 _ _ (zr_len 32) l1) (irow_one _ _) ?_
  replace yc11 := (setRow_other w5 w.heap.size (g1 + 1) (irow .u8 A1) (by omega)).trans yc11
  replace r4 := (setRow_other w5 w.heap.size g (irow .u8 A1) (by omega)).trans r4
  replace R0 := setRow_heap w5 w.heap.size _ (irow .u8 A1) _ _ R0
  replace hw := but_row hw w.heap.size (irow .u8 A1) (.inl (Nat.le_refl _))
  refine hK_ _ _ (yc11) ?_
  simp only [Act.put]
  clear hK_
  generalize w5.setRow w.heap.size (irow .u8 A1) = w6 at *
  refine wpAnyH_done (by kernel_rfl) ?_ _
  refine NoPanic.normal ?_
  go_wp2
  exact bodyPost_ret (results_slot_cell Tryd.results15 _ _ w.heap.size _ _ _ _ rfl R0 Tryd.underlying23 rfl (infok8 _ l1)) rfl ⟨rfl, r4, hw⟩
theorem a_step (key : List Int) (hkl : key.length = 32) (hkz : ∀ z ∈ key, 0 ≤ z ∧ z < 256) (n : Int) (hn0 : 0 ≤ n) (hn1 : n ≤ 4294967294) (w : World) (hS : Sta w) (hK : Kon w) (g : Nat) (rM : w.heap[g]? = some (.cells (chc key n) 47 (0, 0))) :
    Calls Tryd.prog 15 #[.pointer (some ⟨g, 0, none⟩)] w fun e w' => e = .returned (.tuple #[.int .u32 n, .agg (irow .u8 (hm key [1]))]) ∧ w'.heap[g]? = some (.cells (chc (hm key [2]) (n + 1)) 47 (0, 0)) ∧ But g w w' :=
  a_step_aux key (hm key [2]) (hm key [1]) hkl (hm_len _ _) (hm_len _ _) n hn0 hn1 w g rM (fun V h => a_Step key hkl hkz V (hS.below h) (hK.below h))
theorem zbt11 : Tryd.prog.built 23 [] = some (irow .u8 (zr 32)) := by kernel_rfl
set_option maxRecDepth 100000 in
set_option maxHeartbeats 4000000 in
theorem a_Next_end (key : List Int) (hkl : key.length = 32) (w : World) (g : Nat) (rM : w.heap[g]? = some (.cells (chc key 4294967295) 47 (0, 0))) :
    Calls Tryd.prog 7 #[.pointer (some ⟨g, 0, none⟩)] w fun e w' => e = .returned (.tuple #[.agg (irow .u8 (zr 32)), .int .i64 110]) ∧ Below w.heap.size w w' := by
  have R0 := hp1_0 w (.cells (irow .u8 (zr 32)) 23)
  have hw : Below w.heap.size w (w.alloc (.cells (irow .u8 (zr 32)) 23)) := (Below.refl _ _).alloc (Nat.le_refl _) _
  replace rM := keep hw rM
  go_enter Tryd.func7, Tryd.ntmps7
  go_wp2_with (first | (refine wpList_alloc rfl 23 rfl (irow .u8 (zr 32)) zkey ?_) | fail)
  try simp only [size_alloc1, Act.put, List.setIfInBounds_toArray, List.set_cons_succ, List.set_cons_zero]
  generalize w.alloc (.cells (irow .u8 (zr 32)) 23) = w0 at *
  refine (a_left key hkl 4294967295 (by decide) (by decide) w0 g rM).mono ?_
  rintro e_ wL ⟨rfl, hwl⟩
  rw [hwl]
  clear hwl wL
  go_wp2_with (first | (refine wpList_build_as rfl 23 _ rfl [] rfl (irow .u8 (zr 32)) zbt11 ?_) | (refine wpList_store_row rfl 23 _ _ rfl (w.heap.size) (irow .u8 (zr 32)) rfl rfl 23 _ R0 (infok8 _ (zr_len 32)) rfl (irow_one _ _) ?_) | fail)
  exact bodyPost_ret (results_cell_slot Tryd.results7 _ _ w.heap.size _ _ _ _ rfl (setRow_heap _ w.heap.size _ (irow .u8 (zr 32)) _ _ R0) Tryd.underlying23 rfl (infok8 _ (zr_len 32))) rfl ⟨rfl, below_setRow hw (Nat.le_refl _) _⟩
set_option maxRecDepth 100000 in
set_option maxHeartbeats 4000000 in
theorem a_Next_aux (key A2 A1 : List Int) (hkl : key.length = 32) (l1 : A1.length = 32) (n : Int) (hn0 : 0 ≤ n) (hn1 : n ≤ 4294967294) (w : World) (g : Nat) (rM : w.heap[g]? = some (.cells (chc key n) 47 (0, 0)))
    (cS : ∀ V, Below w.heap.size w V → Calls Tryd.prog 15 #[.pointer (some ⟨g, 0, none⟩)] V fun e w' => e = .returned (.tuple #[.int .u32 n, .agg (irow .u8 A1)]) ∧ w'.heap[g]? = some (.cells (chc A2 (n + 1)) 47 (0, 0)) ∧ But g V w') :
    Calls Tryd.prog 7 #[.pointer (some ⟨g, 0, none⟩)] w fun e w' => e = .returned (.tuple #[.agg (irow .u8 A1), .int .i64 0]) ∧ w'.heap[g]? = some (.cells (chc A2 (n + 1)) 47 (0, 0)) ∧ But g w w' := by
  have R0 := hp1_0 w (.cells (irow .u8 (zr 32)) 23)
  have hw : Below w.heap.size w (w.alloc (.cells (irow .u8 (zr 32)) 23)) := (Below.refl _ _).alloc (Nat.le_refl _) _
  have hgl := lt_of_row rM
  replace rM := keep hw rM
  have hd : ((4294967295 - n) == 0) = false := by simp; omega
  have hd2 : decide (4294967295 - n = 0) = false := by simp; omega
  go_enter Tryd.func7, Tryd.ntmps7
  go_wp2_with (first | (refine wpList_alloc rfl 23 rfl (irow .u8 (zr 32)) zkey ?_) | fail)
  try simp only [size_alloc1, Act.put, List.setIfInBounds_toArray, List.set_cons_succ, List.set_cons_zero]
  generalize w.alloc (.cells (irow .u8 (zr 32)) 23) = w0 at *
  refine (a_left key hkl n hn0 (by omega) w0 g rM).mono ?_
  rintro e_ wL ⟨rfl, hwl⟩
  rw [hwl]
  clear hwl wL
  go_wp2_with (fail)
  refine (cS w0 hw).mono ?_
  rintro e_ w1 ⟨rfl, r1, hb⟩
  have lR := lt_of_row R0
  replace R0 := hb.row R0 (by omega)
  have hB := (But.of (g := g) hw).trans hb
  have hs0 := hw.size
  have hs1 := hb.size
  clear hb hd hd2 rM
  have zd0 := hp1_0 w1 (.cells (irow .u8 (zr 32)) 23)
  have yd00 := setRow_heap (w1.alloc (.cells (irow .u8 (zr 32)) 23)) (w1.heap.size) _ (irow .u8 A1) _ _ zd0
  have hbF : Below w1.heap.size w1 ((w1.alloc (.cells (irow .u8 (zr 32)) 23)).setRow (w1.heap.size) (irow .u8 A1)) := (below_setRow ((Below.refl _ _).alloc (Nat.le_refl _) _) (show w1.heap.size ≤ w1.heap.size by omega) (irow .u8 A1))
  have R0k := keep hbF R0
  have r1k := keep hbF r1
  have RF := setRow_heap ((w1.alloc (.cells (irow .u8 (zr 32)) 23)).setRow (w1.heap.size) (irow .u8 A1)) w.heap.size _ (irow .u8 A1) _ _ R0k
  have rF := (setRow_other ((w1.alloc (.cells (irow .u8 (zr 32)) 23)).setRow (w1.heap.size) (irow .u8 A1)) w.heap.size g (irow .u8 A1) (by omega)).trans r1k
  have BF := but_row (hB.trans (But.of hbF)) w.heap.size (irow .u8 A1) (.inl (Nat.le_refl _))
  go_wp2_with (first | (refine wpList_alloc rfl 23 rfl (irow .u8 (zr 32)) zkey ?_) | (refine wpList_store_row rfl 23 _ _ rfl (w1.heap.size) (irow .u8 A1) rfl rfl 23 _ zd0 (infok8 _ l1) (fit32 _ _ (zr_len 32) l1) (irow_one _ _) ?_; refine wpList_stay ?_) | fail)
  unfold WpStay
  generalize ((w1.alloc (.cells (irow .u8 (zr 32)) 23)).setRow (w1.heap.size) (irow .u8 A1)) = w3 at *
  go_wp2_with (first | (refine wpList_load_want rfl 23 _ rfl (w1.heap.size) rfl 23 (irow .u8 A1) (0, 0) _ yd00 Tryd.underlying23 rfl (infok8 _ l1) ?_) | (refine wpList_store_row rfl 23 _ _ rfl (w.heap.size) (irow .u8 A1) rfl rfl 23 _ R0k (infok8 _ l1) (fit32 _ _ (zr_len 32) l1) (irow_one _ _) ?_) | fail)
  exact bodyPost_ret (results_cell_slot Tryd.results7 _ _ w.heap.size _ _ _ _ rfl RF Tryd.underlying23 rfl (infok8 _ l1)) rfl ⟨rfl, rF, BF⟩
theorem a_Next (key : List Int) (hkl : key.length = 32) (hkz : ∀ z ∈ key, 0 ≤ z ∧ z < 256) (n : Int) (hn0 : 0 ≤ n) (hn1 : n ≤ 4294967294) (w : World) (hS : Sta w) (hK : Kon w) (g : Nat) (rM : w.heap[g]? = some (.cells (chc key n) 47 (0, 0))) :
    Calls Tryd.prog 7 #[.pointer (some ⟨g, 0, none⟩)] w fun e w' => e = .returned (.tuple #[.agg (irow .u8 (hm key [1])), .int .i64 0]) ∧ w'.heap[g]? = some (.cells (chc (hm key [2]) (n + 1)) 47 (0, 0)) ∧ But g w w' :=
  a_Next_aux key (hm key [2]) (hm key [1]) hkl (hm_len _ _) n hn0 hn1 w g rM (fun V h => a_step key hkl hkz n hn0 hn1 V (hS.below h) (hK.below h) g (keep h rM))

end Go.Proofs.YtkickbgiidhpfaaDoor
