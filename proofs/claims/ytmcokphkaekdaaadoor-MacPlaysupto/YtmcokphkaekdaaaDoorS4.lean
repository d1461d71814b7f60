import Derived.Test.YtmcokphkaekdaaaDoorProg
import Derived.WalkKit
import Derived.WalkSpells
import Derived.WalkLawsBesides
import Derived.Lib.QuietBelow
import Derived.BigQuiet
import Derived.Test.YtmcokphkaekdaaaDoorS0
import Derived.Test.YtmcokphkaekdaaaDoorS3
import Derived.Laws.BytesArg
import Derived.OwnWalk
import Derived.Deep.RegionLaw
import Derived.Deep.RegionHeld3
namespace Go.Proofs.YtmcokphkaekdaaaDoor
open Go Go.RowKit Go.Sort
attribute [local go_sem] setCell_drewN alloc_drewN

/-- The marks behind what is handed. -/
def mk4 (k : Nat) : List Int := (List.range k).map fun (i : Nat) => 100 + (i : Int)
theorem mk4_len (k : Nat) : (mk4 k).length = k := by simp [mk4]
theorem mk4_get (k i : Nat) (h : i < k) : (mk4 k).getD i 0 = 100 + (i : Int) := by
  simp [mk4, List.getD_eq_getElem?_getD, List.getElem?_map, List.getElem?_range h]
/-- Some marks are there, zeros behind them. -/
def mz (k : Nat) : List Int := mk4 k ++ zr (80 - k)
theorem mz_len (k : Nat) (h : k ≤ 80) : (mz k).length = 80 := by simp [mz, mk4_len, zr_len]; omega
theorem mz_set (k : Nat) (h : k < 80) : (mz k).set k (100 + (k : Int)) = mz (k + 1) := by
  have e1 : zr (80 - k) = 0 :: zr (80 - (k + 1)) := by
    rw [show 80 - k = (80 - (k + 1)) + 1 by omega]; rfl
  have e2 : mk4 (k + 1) = mk4 k ++ [100 + (k : Int)] := by simp [mk4, List.range_succ]
  rw [mz, mz, e1, e2, List.set_append_right _ _ (by rw [mk4_len]; exact Nat.le_refl _), mk4_len, Nat.sub_self, List.set_cons_zero, List.append_assoc]
  rfl
theorem bmz_set (bs : List Int) (k : Nat) (h : k < 80) : (bs ++ mz k).set (bs.length + k) (100 + (k : Int)) = bs ++ mz (k + 1) := by
  rw [List.set_append_right _ _ (by omega), Nat.add_sub_cancel_left, mz_set k h]
/-- The bytes turned about and changed. -/
def tn4 (bs : List Int) : List Int := xl bs.reverse 51
theorem tn4_len (bs : List Int) : (tn4 bs).length = bs.length := by simp [tn4, xl_len]
theorem tn4_bd (bs : List Int) : ∀ z ∈ tn4 bs, 0 ≤ z ∧ z < 256 := xl_bd _ _
theorem tn4_get (bs : List Int) (i : Nat) (h : i < bs.length) : (tn4 bs).getD i 0 = bits .xor .u8 (bs.getD (bs.length - 1 - i) 0) 51 := by
  rw [tn4, xl_get _ _ _ (by simpa using h), List.getD_eq_getElem?_getD, List.getElem?_reverse h, List.getD_eq_getElem?_getD]
theorem make_len (n : Nat) (hn : n ≤ 140737488355328) (w : World) : (Instr.makeSlice 22 (.int .i64 (n : Int)) (.int .i64 (n : Int))).run Tryd.prog w = .ok (.slice (some ⟨w.heap.size, 0, none⟩) n n) (w.alloc (.cells (irow .u8 (zr n)) 5)) := make_i64 n (by omega) w
theorem conv_bys {W : World} {v : Value} {bs : List Int} (h : Bys W v bs) : (convert 22 9 v).run Tryd.prog W = .ok (.string (strOfNums bs)) W := by
  obtain ⟨ao, cap, rfl, _, hc, _⟩ := h
  cases ao with
  | none =>
    have : bs = [] := by
      cases bs with
      | nil => rfl
      | cons x xs => obtain ⟨b, off, e, _⟩ := hc 0 (by simp); cases e
    subst this
    exact run_convert_bytes_nil W 22 5 Tryd.underlying22 Tryd.underlying5 _ _ 9 Tryd.underlying9
  | some ad =>
    rcases Nat.eq_zero_or_pos bs.length with e0 | e0
    · have : bs = [] := List.eq_nil_of_length_eq_zero e0
      subst this
      obtain ⟨b, off, sp⟩ := ad
      rw [run_convert_bytes_string W 22 9 5 _ _ _ Tryd.underlying22 Tryd.underlying5 Tryd.underlying9]
      have := run_bytesToString (P := Tryd.prog) W ⟨b, off, sp⟩ 0 cap [] (by rfl)
      exact this
    · obtain ⟨b, off, e, _⟩ := hc 0 e0
      cases e
      exact run_convert_bytes_arg W 22 5 Tryd.underlying22 Tryd.underlying5 b off bs.length cap bs rfl (fun i hi => by
        obtain ⟨b', off', e, _, h⟩ := hc i hi
        cases e
        exact h) 9 Tryd.underlying9
theorem str_inj {a b : List Int} (ha : ∀ z ∈ a, 0 ≤ z ∧ z < 256) (hb : ∀ z ∈ b, 0 ≤ z ∧ z < 256) (h : strOfNums a = strOfNums b) : a = b := by
  have h1 := congrArg (fun x => x.data.toList) h
  simp only [strOfNums_data] at h1
  have key : ∀ (a b : List Int), (∀ z ∈ a, 0 ≤ z ∧ z < 256) → (∀ z ∈ b, 0 ≤ z ∧ z < 256) → a.map (fun n => UInt8.ofNat n.toNat) = b.map (fun n => UInt8.ofNat n.toNat) → a = b := by
    intro a
    induction a with
    | nil => intro b _ _ h; cases b with
      | nil => rfl
      | cons y ys => simp at h
    | cons x xs ih => intro b ha hb h; cases b with
      | nil => simp at h
      | cons y ys =>
        simp only [List.map_cons, List.cons.injEq] at h
        have hx := ha x (by simp)
        have hy := hb y (by simp)
        have e := congrArg UInt8.toNat h.1
        simp only [UInt8.toNat_ofNat'] at e
        rw [Nat.mod_eq_of_lt (by omega), Nat.mod_eq_of_lt (by omega)] at e
        have exy : x = y := by omega
        rw [exy, ih ys (fun z h => ha z (by simp [h])) (fun z h => hb z (by simp [h])) h.2]
  exact key a b ha hb h1
theorem str_dec {a b : List Int} (ha : ∀ z ∈ a, 0 ≤ z ∧ z < 256) (hb : ∀ z ∈ b, 0 ≤ z ∧ z < 256) : ((strOfNums a).toList == (strOfNums b).toList) = decide (a = b) := by
  by_cases h : a = b
  · subst h; simp
  · rw [decide_eq_false h, beq_eq_false_iff_ne]
    intro e
    rw [ByteArray.toList_eq, ByteArray.toList_eq] at e
    exact h (str_inj ha hb (Go.WideShapes.bytes_inj e))
set_option maxRecDepth 100000 in
set_option maxHeartbeats 4000000 in
theorem l_same (a b : List Int) (w : World) (u v : Value) (hu : Bys w u a) (hv : Bys w v b) : Calls Tryd.prog 26 #[u, v] w fun e w' => e = .returned (.bool (decide (a = b))) ∧ Below w.heap.size w w' := by
  have c1 := conv_bys hu
  have c2 := conv_bys hv
  obtain ⟨ao, cap, rfl, _, _, hza⟩ := hu
  obtain ⟨bo, bcap, rfl, _, _, hzb⟩ := hv
  go_enter Tryd.func26, Tryd.ntmps26
  have hd := str_dec hza hzb
  go_wp2
  go_ret
  exact ⟨rfl, Below.refl _ _⟩
set_option maxRecDepth 100000 in
set_option maxHeartbeats 4000000 in
theorem l_hand (bs : List Int) (w : World) (v : Value) (hB : Bys w v bs) (hl : bs.length ≤ 140737488355200) : Calls Tryd.prog 9 #[v] w fun e w' => e = .returned (.slice (some ⟨w.heap.size, 0, none⟩) (bs.length + 80) (bs.length + 80)) ∧ w'.heap[w.heap.size]? = some (.cells (irow .u8 (bs ++ mk4 80)) 5 (0, 0)) ∧ Below w.heap.size w w' := by
  have hmk := make_len (bs.length + 80) (by omega) w
  rw [show ((bs.length + 80 : Nat) : Int) = (bs.length : Int) + 80 by omega] at hmk
  have r0 := hp1_0 w (.cells (irow .u8 (zr (bs.length + 80))) 5)
  have hw : Below w.heap.size w (w.alloc (.cells (irow .u8 (zr (bs.length + 80))) 5)) := (Below.refl _ _).alloc (Nat.le_refl _) _
  have hcp := copy_bys (o := 0) (dLen := bs.length + 80) (dCap := bs.length + 80) r0 (hB.keep hw) (by omega) (by rw [zr_len]; omega)
  have ez : (zr (bs.length + 80)).take 0 ++ bs ++ (zr (bs.length + 80)).drop (0 + bs.length) = bs ++ mz 0 := by
    rw [List.take_zero, List.nil_append, zr_drop, Nat.zero_add, Nat.add_sub_cancel_left]; rfl
  rw [ez] at hcp
  have hgo : goInt bs.length = .int .i64 (bs.length : Int) := rfl
  rw [hgo] at hcp
  have r1 := setRow_heap _ (w.heap.size) _ (irow .u8 (bs ++ mz 0)) _ _ r0
  replace hw := below_setRow hw (Nat.le_refl _) (irow .u8 (bs ++ mz 0))
  obtain ⟨ao, cap, rfl, _⟩ := id hB
  go_enter Tryd.func9, Tryd.ntmps9
  go_wp2
  generalize (w.alloc (.cells (irow .u8 (zr (bs.length + 80))) 5)).setRow w.heap.size (irow .u8 (bs ++ mz 0)) = w1 at *
  clear hcp ez hgo hmk r0
  go_loopw [4] (fun i wr => ∃ k : Nat, k ≤ 80 ∧ i = .int .i64 k ∧ wr.heap[w.heap.size]? = some (.cells (irow .u8 (bs ++ mz k)) 5 (0, 0)) ∧ Below w.heap.size w wr) (fun i _ => 80 - (intOf i).toNat)
  case atStart => exact ⟨0, by omega, rfl, r1, hw⟩
  case round =>
    clear r1 hw
    obtain ⟨k, hk, rfl, r1, hw⟩ := hrel
    by_cases hlt : k < 80
    · have hd : decide ((k : Int) < 80) = true := by simp; omega
      have hmod : (100 + (k : Int)) % 256 = 100 + (k : Int) := by omega
      have hml := mz_len k (by omega)
      have cf := row_frozen r1 (bs.length + k)
      have cc := irow_cell r1 (j := bs.length + k) (by rw [List.length_append]; omega)
      have r2 := irow_set r1 (bs.length + k) (100 + (k : Int))
      rw [bmz_set bs k hlt] at r2
      have hw2 := hw.setCell (show w.heap.size ≤ (⟨w.heap.size, bs.length + k, none⟩ : Addr).block from Nat.le_refl _) (.int .u8 (100 + (k : Int)))
      clear r1 hw hml
      generalize (bs ++ mz k).getD (bs.length + k) 0 = z at *
      go_wp2
      refine ⟨⟨k + 1, by omega, by go_num, r2, hw2⟩, ?_⟩
      simp [intOf]; omega
    · obtain rfl : k = 80 := by omega
      have hd : decide ((80 : Int) < 80) = false := by decide
      have e80 : bs ++ mz 80 = bs ++ mk4 80 := by rw [mz, Nat.sub_self]; simp [zr]
      rw [e80] at r1
      go_wp2
      go_ret
      exact ⟨rfl, r1, hw⟩
set_option maxRecDepth 100000 in
set_option maxHeartbeats 4000000 in
theorem l_left (bs : List Int) (g : Nat) (w : World) (v : Value) (hB : Bys w v bs) (hl : bs.length ≤ 140737488355200) (rg : w.heap[g]? = some (.cells (irow .u8 (bs ++ mk4 80)) 5 (0, 0))) : Calls Tryd.prog 12 #[.slice (some ⟨g, 0, none⟩) (bs.length + 80) (bs.length + 80), v] w fun e w' => e = .returned (.bool true) ∧ Below w.heap.size w w' := by
  have hml := mk4_len 80
  have sl := slice_to (some ⟨g, 0, none⟩) (bs.length + 80) (bs.length + 80) bs.length (by omega)
  have hBl := Bys.of_prefix rg (by omega) (bys_bd hB) (bs.length + 80)
  have cS := l_same bs bs w _ _ hBl hB
  rw [decide_eq_true rfl] at cS
  replace cS := cS
  obtain ⟨ao, cap, rfl, _⟩ := id hB
  go_enter Tryd.func12, Tryd.ntmps12
  go_wp2
  go_loopw [5] (fun i wr => ∃ k : Nat, k ≤ 80 ∧ i = .int .i64 k ∧ wr = w) (fun i _ => 80 - (intOf i).toNat)
  case atStart => exact ⟨0, by omega, rfl, rfl⟩
  case round =>
    obtain ⟨k, hk, rfl, rfl⟩ := hrel
    by_cases hlt : k < 80
    · have hd : decide ((k : Int) < 80) = true := by simp; omega
      have hmod : (100 + (k : Int)) % 256 = 100 + (k : Int) := by omega
      have cc := irow_cell rg (j := bs.length + k) (by rw [List.length_append]; omega)
      have eg : (bs ++ mk4 80).getD (bs.length + k) 0 = 100 + (k : Int) := by
        rw [List.getD_eq_getElem?_getD, List.getElem?_append_right (by omega), Nat.add_sub_cancel_left, ← List.getD_eq_getElem?_getD, mk4_get 80 k hlt]
      rw [eg] at cc
      clear cS hBl hB rg eg
      go_wp2
      refine ⟨⟨k + 1, by omega, by go_num, trivial⟩, ?_⟩
      simp [intOf]; omega
    · obtain rfl : k = 80 := by omega
      have hd : decide ((80 : Int) < 80) = false := by decide
      go_wp2_with (fail)
      refine cS.mono ?_
      rintro e_ w1 ⟨rfl, hb⟩
      go_wp2
      go_ret
      exact ⟨rfl, hb⟩
set_option maxRecDepth 100000 in
set_option maxHeartbeats 4000000 in
theorem l_turned (bs : List Int) (g : Nat) (w : World) (v : Value) (hB : Bys w v bs) (hl : bs.length ≤ 140737488355200) (rg : w.heap[g]? = some (.cells (irow .u8 (bs ++ mk4 80)) 5 (0, 0))) : Calls Tryd.prog 13 #[.slice (some ⟨g, 0, none⟩) (bs.length + 80) (bs.length + 80), v] w fun e w' => e = .returned (.slice (some ⟨w.heap.size, 0, none⟩) bs.length bs.length) ∧ w'.heap[w.heap.size]? = some (.cells (irow .u8 (tn4 bs)) 5 (0, 0)) ∧ w'.heap[g]? = some (.cells (irow .u8 (tn4 bs ++ mk4 80)) 5 (0, 0)) ∧ w.grownBy w' (some g) := by
  have hlg := lt_of_row rg
  have hmk := make_len bs.length (by omega) w
  have r0 : (w.alloc (.cells (irow .u8 (zr bs.length)) 5)).heap[w.heap.size]? = some (.cells (irow .u8 (mix (tn4 bs) (zr bs.length) 0)) 5 (0, 0)) := by rw [mix_zero]; exact hp1_0 w _
  have hw : Below w.heap.size w (w.alloc (.cells (irow .u8 (zr bs.length)) 5)) := (Below.refl _ _).alloc (Nat.le_refl _) _
  have htl := tn4_len bs
  have htg := tn4_get bs
  have hzl := zr_len bs.length
  obtain ⟨ao, cap, rfl, _, hc, _⟩ := id hB
  go_enter Tryd.func13, Tryd.ntmps13
  go_wp2
  generalize (w.alloc (.cells (irow .u8 (zr bs.length)) 5)) = w1 at *
  clear hmk
  go_loopw [6] (fun i wr => ∃ k : Nat, k ≤ bs.length ∧ i = .int .i64 k ∧ wr.heap[w.heap.size]? = some (.cells (irow .u8 (mix (tn4 bs) (zr bs.length) k)) 5 (0, 0)) ∧ Below w.heap.size w wr) (fun i _ => bs.length - (intOf i).toNat)
  case atStart => exact ⟨0, by omega, rfl, r0, hw⟩
  case round =>
    clear r0 hw
    obtain ⟨k, hk, rfl, r0, hw⟩ := hrel
    by_cases hlt : k < bs.length
    · have hd : decide ((k : Int) < (bs.length : Int)) = true := by simp; omega
      obtain ⟨b, off, rfl, hb1, hb2⟩ := hc (bs.length - 1 - k) (by omega)
      replace hb2 := (hw.cell (p := ⟨b, off + (bs.length - 1 - k), none⟩) hb1).trans hb2
      have hset := mix_set (tn4 bs) (zr bs.length) k (by omega) (by omega)
      rw [htg k hlt] at hset
      have hml := mix_length (tn4 bs) (zr bs.length) k (by omega) (by omega)
      have cf := row_frozen r0 k
      have cc := irow_cell r0 (j := k) (by omega)
      have r2 := irow_set r0 k (bits .xor .u8 (bs.getD (bs.length - 1 - k) 0) 51)
      rw [hset] at r2
      have hw2 := hw.setCell (show w.heap.size ≤ (⟨w.heap.size, k, none⟩ : Addr).block from Nat.le_refl _) (.int .u8 (bits .xor .u8 (bs.getD (bs.length - 1 - k) 0) 51))
      have ej2 : (bs.length : Int) - 1 - (k : Int) = ((bs.length - 1 - k : Nat) : Int) := by omega
      clear r0 hw hset hml hc htg hB
      generalize bs.getD (bs.length - 1 - k) 0 = z at *
      generalize (mix (tn4 bs) (zr bs.length) k).getD k 0 = y at *
      go_wp2
      refine ⟨⟨k + 1, by omega, by go_num, r2, hw2⟩, ?_⟩
      simp [intOf]; omega
    · obtain rfl : k = bs.length := by omega
      have hd : decide ((bs.length : Int) < (bs.length : Int)) = false := by simp
      have em := mix_all (tn4 bs) (zr bs.length) (by omega)
      rw [hzl] at em
      rw [em] at r0
      have rg2 := keep hw rg
      have hBo := Bys.of_row r0 (by omega) (tn4_bd bs) bs.length
      have hcp := copy_bys (o := 0) (dLen := bs.length + 80) (dCap := bs.length + 80) rg2 hBo (by omega) (by rw [List.length_append]; omega)
      have ez : (bs ++ mk4 80).take 0 ++ tn4 bs ++ (bs ++ mk4 80).drop (0 + (tn4 bs).length) = tn4 bs ++ mk4 80 := by
        rw [List.take_zero, List.nil_append, Nat.zero_add, htl, List.drop_left]
      rw [ez] at hcp
      have hgo : goInt (tn4 bs).length = .int .i64 ((tn4 bs).length : Int) := rfl
      rw [hgo, htl] at hcp
      have r1 := setRow_heap _ g _ (irow .u8 (tn4 bs ++ mk4 80)) _ _ rg2
      have r3 : (wr.setRow g (irow .u8 (tn4 bs ++ mk4 80))).heap[w.heap.size]? = _ := (setRow_other wr g (w.heap.size) (irow .u8 (tn4 bs ++ mk4 80)) (by omega)).trans r0
      have hgr : w.grownBy (wr.setRow g (irow .u8 (tn4 bs ++ mk4 80))) (some g) := grown_setRow _ (grown_below (World.grownBy.refl _ _) hw)
      clear hc htg hB r0 hw
      go_wp2
      go_ret
      exact ⟨rfl, r3, r1, hgr⟩

end Go.Proofs.YtmcokphkaekdaaaDoor

namespace Go.Proofs.YtmcokphkaekdaaaDoor
open Go Go.RowKit Go.Sort
attribute [local go_sem] setCell_drewN alloc_drewN

/-- A call that answers v in every world that keeps what was in w. -/
def GivesB (w : World) (f : FuncId) (args : Array Value) (v : Value) : Prop := ∀ W, Below w.heap.size w W → Calls Tryd.prog f args W fun e w' => e = .returned v ∧ Below W.heap.size W w'
theorem GivesB.keep {w W : World} {f : FuncId} {args : Array Value} {v : Value} (h : GivesB w f args v) (hb : Below w.heap.size w W) : GivesB W f args v := fun V hV => h V (Below.after hb hV)
theorem GivesB.re {w : World} {f : FuncId} {args : Array Value} {v : Value} (h : GivesB w f args v) {d : Nat} {os : Array Obj} : Calls Tryd.prog f args (grow (redrawn w d) os) fun e w'' => e = .returned v ∧ ∃ p : Regrown, w'' = grow (redrawn w p.d) p.os := Calls.regrown_of (h _ (below_regrown w d os))
theorem GivesB.at {w : World} {f : FuncId} {args : Array Value} {v : Value} (h : GivesB w f args v) : Calls Tryd.prog f args w fun e w' => e = .returned v ∧ Below w.heap.size w w' := h w (Below.refl _ _)
theorem eqHm (l : List Int) (hl : l.length = 32) (W : World) : (Op.equalIn 10000 25 (.agg (irow .u8 l)) (.agg (irow .u8 l))).run Tryd.prog W = .ok true W := by
  rw [eqK _ _ hl hl]; simp
set_option maxRecDepth 100000 in
set_option maxHeartbeats 4000000 in
theorem macSums_any (key bs : List Int) (w : World) (vk vb : Value) (hS : Sta w) (hK : Kon w) (hKy : BysN w vk key) (hB : BysN w vb bs) : Calls Tryd.prog 3 #[vk, vb] w fun e w' => e = .returned (.bool true) ∧ Below w.heap.size w w' := by
  have hkz := bys_bd hKy.1
  have hbz := bys_bd hB.1
  have hkl : key.length ≤ 140737488351232 := hKy.2.1
  have hbl : bs.length ≤ 140737488351232 := hB.2.1
  replace hKy := hKy.toM
  replace hB := hB.toM
  have sl1 : ∀ g W, _ := fun g W => slice_to (some ⟨g, 0, none⟩) (key.length + 80) (key.length + 80) key.length (by omega) W
  have sl2 : ∀ g W, _ := fun g W => slice_to (some ⟨g, 0, none⟩) (bs.length + 80) (bs.length + 80) bs.length (by omega) W
  have hHl := hm_len key bs
  have heq := eqHm _ hHl
  obtain ⟨uk, ukc, rfl, _⟩ := id hKy.1
  obtain ⟨ub, ubc, rfl, _⟩ := id hB.1
  go_enter Tryd.func3, Tryd.ntmps3
  go_wp2_with (fail)
  refine (l_hand key w _ hKy.1 (by omega)).mono ?_
  rintro e_ w1 ⟨rfl, rk, hw⟩
  have lgk := lt_of_row rk
  go_wp2_with (fail)
  refine (l_hand bs w1 _ (hB.1.keep hw) (by omega)).mono ?_
  rintro e_ w2 ⟨rfl, ri, hb⟩
  replace rk := keep hb rk
  replace hw := Below.after hw hb
  clear hb
  generalize w1.heap.size = gi at *
  have cA : GivesB w2 10 #[.slice (some ⟨w.heap.size, 0, none⟩) key.length (key.length + 80), .slice (some ⟨gi, 0, none⟩) bs.length (bs.length + 80)] (.agg (irow .u8 (hm key bs))) := fun W hW => a_macSum key bs W _ _ ((hS.below hw).below hW) ((hK.below hw).below hW) (Bys.of_prefix (keep hW rk) (by omega) hkz _) (fun a l c h => by cases h; omega) (by omega) (Bys.of_prefix (keep hW ri) (by omega) hbz _) (fun a l c h => by cases h; omega) (by omega)
  have cR : GivesB w2 11 #[.slice uk key.length ukc, .slice ub bs.length ubc] (.agg (irow .u8 (hm key bs))) := fun W hW => r_sum4 key bs W _ _ ((hKy.keep hw).keep hW) ((hB.keep hw).keep hW) (by omega)
  have cL1 : GivesB w2 12 #[.slice (some ⟨w.heap.size, 0, none⟩) (key.length + 80) (key.length + 80), .slice uk key.length ukc] (.bool true) := fun W hW => l_left key _ W _ ((hKy.1.keep hw).keep hW) (by omega) (keep hW rk)
  have cL2 : GivesB w2 12 #[.slice (some ⟨gi, 0, none⟩) (bs.length + 80) (bs.length + 80), .slice ub bs.length ubc] (.bool true) := fun W hW => l_left bs _ W _ ((hB.1.keep hw).keep hW) (by omega) (keep hW ri)
  generalize eH : hm key bs = H at *
  replace eH := hide eH
  go_wp2_with (fail)
  refine wp_region_alloc_ex 9 10 [7] (fun _ => .cells (irow .u8 (zr 32)) 25 (0, 0)) (by kernel_rfl) (by decide) (by decide) (by kernel_rfl) (by kernel_rfl) (by kernel_rfl) (by kernel_rfl) (by kernel_rfl) (by kernel_rfl) (by kernel_rfl) (by kernel_rfl) (by decide) (by decide) ?_ ?_
  · intro s l u
    obtain rfl : s = 9 := by omega
    exact ⟨_, _, rfl, rfl, rfl, rfl, fun a w => by kernel_rfl⟩
  apply Exists.intro
  constructor
  · intro v_ hb
    have Hrk := keepr (keep hb rk)
    have Hri := keepr (keep hb ri)
    have CcA := cA.keep hb
    have CcR := cR.keep hb
    have CcL1 := cL1.keep hb
    have CcL2 := cL2.keep hb
    clear hb; dsimp only [List.take]
    go_big_quiet_step (fail)
    go_big_quiet_step (fail)
    go_big_quiet_step (fail)
    go_big_quiet_step (fail)
    go_big_quiet_step (fail)
    go_big_quiet_step (fail)
    go_big_quiet_step (fail)
    go_big_quiet_step (fail)
    go_big_quiet_step (exact CcA.re)
    refine wpQuiet_nil ?_
    rfl
  intro w3 g_ hb hg hd_
  obtain ⟨lg_, rx⟩ := hg 7 (by simp)
  replace rx : w3.heap[g_ 7]? = some (.cells (irow .u8 (zr 32)) 25 (0, 0)) := rx
  simp only [List.drop, puts, ptrs, List.map, List.foldl, Act.put, List.setIfInBounds_toArray, List.set_cons_succ, List.set_cons_zero]
  clear hg hd_
  generalize g_ 7 = gx at *
  refine wpList_store_row rfl 25 _ _ rfl (gx) (irow .u8 H) rfl rfl 25 _ rx (infok8 _ hHl) (fit32 _ _ (zr_len 32) hHl) (irow_one _ _) ?_
  simp only [Act.put]
  replace rx := setRow_heap w3 (gx) _ (irow .u8 H) _ _ rx
  have hs_gx := hw.size
  have lo_gx : w.heap.size ≤ gx := by omega
  replace hb := below_setRow hb lg_ (irow .u8 H)
  generalize w3.setRow (gx) (irow .u8 H) = w4 at *
  clear lg_
  replace rk := keep hb rk
  replace ri := keep hb ri
  replace cA := cA.keep hb
  replace cR := cR.keep hb
  replace cL1 := cL1.keep hb
  replace cL2 := cL2.keep hb
  replace hw := Below.after hw hb
  clear hb
  go_wp2_with (fail)
  have Hrk := keepr rk
  have Hri := keepr ri
  have Hrx := keepr rx
  refine wp_region_quiet_below (by kernel_rfl) (by kernel_rfl) ?_
  refine wpQuiet_load_row rfl 25 _ rfl (gx) rfl 25 (irow .u8 H) (0, 0) _ Hrx.out Tryd.underlying25 rfl (infok8 _ hHl) ?_
  simp only [Act.put, List.setIfInBounds_toArray, List.set_cons_succ, List.set_cons_zero]
  go_big_quiet_step (fail)
  go_big_quiet_step (fail)
  go_big_quiet_step (exact cR.re)
  go_big_quiet_step (fail)
  go_big_quiet_step (fail)
  go_big_quiet_step (fail)
  go_big_quiet_step (fail)
  go_big_quiet_step (exact cL1.re)
  go_big_quiet_step (fail)
  go_big_quiet_step (fail)
  go_big_quiet_step (fail)
  go_big_quiet_step (fail)
  go_big_quiet_step (fail)
  go_big_quiet_step (exact cL2.re)
  go_big_quiet_step (fail)
  go_big_quiet_step (fail)
  refine wpQuiet_nil ?_
  rintro _ ⟨p, rfl⟩
  have hb := below_regrown w4 p.d p.os
  generalize grow (redrawn w4 p.d) p.os = w5 at *
  clear Hrk Hri Hrx
  replace rk := keep hb rk
  replace ri := keep hb ri
  replace rx := keep hb rx
  replace cA := cA.keep hb
  replace cR := cR.keep hb
  replace cL1 := cL1.keep hb
  replace cL2 := cL2.keep hb
  replace hw := Below.after hw hb
  clear hb
  clear cA cR cL1 cL2 heq rx
  have hs5 := hw.size
  go_wp2_with (fail)
  refine (l_turned key w.heap.size w5 _ (hKy.1.keep hw) (by omega) rk).mono ?_
  rintro e_ w6 ⟨rfl, ro, rk6, hgr⟩
  have lr := lt_of_row ri
  have l5 := lt_of_row rk
  replace ri : w6.heap[gi]? = _ := (hgr.block gi lr (by intro e; injection e with e; omega)).trans ri
  replace hw := hw.grown hgr hw.size (fun k h => by injection h with h; omega)
  clear hgr
  generalize w5.heap.size = g1 at *
  have hs6 := hw.size
  have l1 := lt_of_row ro
  go_wp2_with (fail)
  refine (l_turned bs gi w6 _ (hB.1.keep hw) (by omega) ri).mono ?_
  rintro e_ w7 ⟨rfl, ro2, ri7, hgr⟩
  have lk := lt_of_row rk6
  replace ro : w7.heap[g1]? = _ := (hgr.block g1 l1 (by intro e; injection e with e; omega)).trans ro
  replace rk6 : w7.heap[w.heap.size]? = _ := (hgr.block w.heap.size lk (by intro e; injection e with e; omega)).trans rk6
  replace hw := hw.grown hgr hw.size (fun k h => by injection h with h; omega)
  clear hgr ri
  generalize w6.heap.size = g2 at *
  have hHl2 := hm_len (tn4 key) (tn4 bs)
  have heq := eqHm _ hHl2
  have tk := tn4_len key
  have tb := tn4_len bs
  have hz1 := tn4_bd key
  have hz2 := tn4_bd bs
  have p1 : ∀ W, Below w7.heap.size w7 W → Bys W (.slice (some ⟨w.heap.size, 0, none⟩) key.length (key.length + 80)) (tn4 key) := fun W hW => by rw [← tk]; exact Bys.of_prefix (keep hW rk6) (by omega) hz1 _
  have p2 : ∀ W, Below w7.heap.size w7 W → Bys W (.slice (some ⟨gi, 0, none⟩) bs.length (bs.length + 80)) (tn4 bs) := fun W hW => by rw [← tb]; exact Bys.of_prefix (keep hW ri7) (by omega) hz2 _
  have cA : GivesB w7 10 #[.slice (some ⟨w.heap.size, 0, none⟩) key.length (key.length + 80), .slice (some ⟨gi, 0, none⟩) bs.length (bs.length + 80)] (.agg (irow .u8 (hm (tn4 key) (tn4 bs)))) := fun W hW => a_macSum (tn4 key) (tn4 bs) W _ _ ((hS.below hw).below hW) ((hK.below hw).below hW) (p1 W hW) (fun a l c h => by cases h; omega) (by omega) (p2 W hW) (fun a l c h => by cases h; omega) (by omega)
  have cR : GivesB w7 11 #[.slice (some ⟨g1, 0, none⟩) key.length key.length, .slice (some ⟨g2, 0, none⟩) bs.length bs.length] (.agg (irow .u8 (hm (tn4 key) (tn4 bs)))) := fun W hW => r_sum4 (tn4 key) (tn4 bs) W _ _ ((NB.of_row (keep hW ro) (by omega) hz1 _ _ tk).m (by omega)) ((NB.of_row (keep hW ro2) (by omega) hz2 _ _ tb).m (by omega)) (by omega)
  clear p1 p2 rk6 ri7 ro ro2
  generalize hm (tn4 key) (tn4 bs) = H2 at *
  go_wp2_with (fail)
  refine wp_region_quiet_below (by kernel_rfl) (by kernel_rfl) ?_
  go_big_quiet_step (fail)
  go_big_quiet_step (fail)
  go_big_quiet_step (fail)
  go_big_quiet_step (fail)
  go_big_quiet_step (fail)
  go_big_quiet_step (fail)
  go_big_quiet_step (fail)
  go_big_quiet_step (fail)
  go_big_quiet_step (exact cA.re)
  go_big_quiet_step (fail)
  go_big_quiet_step (fail)
  go_big_quiet_step (exact cR.re)
  go_big_quiet_step (fail)
  go_big_quiet_step (fail)
  refine wpQuiet_nil ?_
  rintro _ ⟨p, rfl⟩
  have hb := below_regrown w7 p.d p.os
  generalize grow (redrawn w7 p.d) p.os = w8 at *
  replace cA := cA.keep hb
  replace cR := cR.keep hb
  replace hw := Below.after hw hb
  clear hb
  go_wp2
  go_ret
  exact ⟨rfl, hw⟩
set_option maxRecDepth 100000 in
set_option maxHeartbeats 4000000 in
theorem macExtracts_any (key bs : List Int) (w : World) (vk vb : Value) (hS : Sta w) (hK : Kon w) (hKy : BysN w vk key) (hB : BysN w vb bs) : Calls Tryd.prog 5 #[vk, vb] w fun e w' => e = .returned (.bool true) ∧ Below w.heap.size w w' := by
  have hkz := bys_bd hKy.1
  have hbz := bys_bd hB.1
  have hkl : key.length ≤ 140737488351232 := hKy.2.1
  have hbl : bs.length ≤ 140737488351232 := hB.2.1
  replace hKy := hKy.toM
  replace hB := hB.toM
  have sl1 : ∀ g W, _ := fun g W => slice_to (some ⟨g, 0, none⟩) (key.length + 80) (key.length + 80) key.length (by omega) W
  have sl2 : ∀ g W, _ := fun g W => slice_to (some ⟨g, 0, none⟩) (bs.length + 80) (bs.length + 80) bs.length (by omega) W
  have hHl := hm_len key bs
  have heq := eqHm _ hHl
  obtain ⟨uk, ukc, rfl, _⟩ := id hKy.1
  obtain ⟨ub, ubc, rfl, _⟩ := id hB.1
  go_enter Tryd.func5, Tryd.ntmps5
  go_wp2_with (fail)
  refine (l_hand key w _ hKy.1 (by omega)).mono ?_
  rintro e_ w1 ⟨rfl, rk, hw⟩
  have lgk := lt_of_row rk
  go_wp2_with (fail)
  refine (l_hand bs w1 _ (hB.1.keep hw) (by omega)).mono ?_
  rintro e_ w2 ⟨rfl, ri, hb⟩
  replace rk := keep hb rk
  replace hw := Below.after hw hb
  clear hb
  generalize w1.heap.size = gi at *
  have cA : GivesB w2 22 #[.slice (some ⟨w.heap.size, 0, none⟩) key.length (key.length + 80), .slice (some ⟨gi, 0, none⟩) bs.length (bs.length + 80)] (.agg (irow .u8 (hm key bs))) := fun W hW => a_extract key bs W _ _ ((hS.below hw).below hW) ((hK.below hw).below hW) (Bys.of_prefix (keep hW rk) (by omega) hkz _) (fun a l c h => by cases h; omega) (by omega) (Bys.of_prefix (keep hW ri) (by omega) hbz _) (fun a l c h => by cases h; omega) (by omega)
  have cR : GivesB w2 23 #[.slice uk key.length ukc, .slice ub bs.length ubc] (.agg (irow .u8 (hm key bs))) := fun W hW => r_extract4 key bs W _ _ ((hKy.keep hw).keep hW) ((hB.keep hw).keep hW) (by omega)
  have cL1 : GivesB w2 12 #[.slice (some ⟨w.heap.size, 0, none⟩) (key.length + 80) (key.length + 80), .slice uk key.length ukc] (.bool true) := fun W hW => l_left key _ W _ ((hKy.1.keep hw).keep hW) (by omega) (keep hW rk)
  have cL2 : GivesB w2 12 #[.slice (some ⟨gi, 0, none⟩) (bs.length + 80) (bs.length + 80), .slice ub bs.length ubc] (.bool true) := fun W hW => l_left bs _ W _ ((hB.1.keep hw).keep hW) (by omega) (keep hW ri)
  generalize eH : hm key bs = H at *
  replace eH := hide eH
  go_wp2_with (fail)
  refine wp_region_alloc_ex 9 10 [7] (fun _ => .cells (irow .u8 (zr 32)) 25 (0, 0)) (by kernel_rfl) (by decide) (by decide) (by kernel_rfl) (by kernel_rfl) (by kernel_rfl) (by kernel_rfl) (by kernel_rfl) (by kernel_rfl) (by kernel_rfl) (by kernel_rfl) (by decide) (by decide) ?_ ?_
  · intro s l u
    obtain rfl : s = 9 := by omega
    exact ⟨_, _, rfl, rfl, rfl, rfl, fun a w => by kernel_rfl⟩
  apply Exists.intro
  constructor
  · intro v_ hb
    have Hrk := keepr (keep hb rk)
    have Hri := keepr (keep hb ri)
    have CcA := cA.keep hb
    have CcR := cR.keep hb
    have CcL1 := cL1.keep hb
    have CcL2 := cL2.keep hb
    clear hb; dsimp only [List.take]
    go_big_quiet_step (fail)
    go_big_quiet_step (fail)
    go_big_quiet_step (fail)
    go_big_quiet_step (fail)
    go_big_quiet_step (fail)
    go_big_quiet_step (fail)
    go_big_quiet_step (fail)
    go_big_quiet_step (fail)
    go_big_quiet_step (exact CcA.re)
    refine wpQuiet_nil ?_
    rfl
  intro w3 g_ hb hg hd_
  obtain ⟨lg_, rx⟩ := hg 7 (by simp)
  replace rx : w3.heap[g_ 7]? = some (.cells (irow .u8 (zr 32)) 25 (0, 0)) := rx
  simp only [List.drop, puts, ptrs, List.map, List.foldl, Act.put, List.setIfInBounds_toArray, List.set_cons_succ, List.set_cons_zero]
  clear hg hd_
  generalize g_ 7 = gx at *
  refine wpList_store_row rfl 25 _ _ rfl (gx) (irow .u8 H) rfl rfl 25 _ rx (infok8 _ hHl) (fit32 _ _ (zr_len 32) hHl) (irow_one _ _) ?_
  simp only [Act.put]
  replace rx := setRow_heap w3 (gx) _ (irow .u8 H) _ _ rx
  have hs_gx := hw.size
  have lo_gx : w.heap.size ≤ gx := by omega
  replace hb := below_setRow hb lg_ (irow .u8 H)
  generalize w3.setRow (gx) (irow .u8 H) = w4 at *
  clear lg_
  replace rk := keep hb rk
  replace ri := keep hb ri
  replace cA := cA.keep hb
  replace cR := cR.keep hb
  replace cL1 := cL1.keep hb
  replace cL2 := cL2.keep hb
  replace hw := Below.after hw hb
  clear hb
  go_wp2_with (fail)
  have Hrk := keepr rk
  have Hri := keepr ri
  have Hrx := keepr rx
  refine wp_region_quiet_below (by kernel_rfl) (by kernel_rfl) ?_
  refine wpQuiet_load_row rfl 25 _ rfl (gx) rfl 25 (irow .u8 H) (0, 0) _ Hrx.out Tryd.underlying25 rfl (infok8 _ hHl) ?_
  simp only [Act.put, List.setIfInBounds_toArray, List.set_cons_succ, List.set_cons_zero]
  go_big_quiet_step (fail)
  go_big_quiet_step (fail)
  go_big_quiet_step (exact cR.re)
  go_big_quiet_step (fail)
  go_big_quiet_step (fail)
  go_big_quiet_step (fail)
  go_big_quiet_step (fail)
  go_big_quiet_step (exact cL1.re)
  go_big_quiet_step (fail)
  go_big_quiet_step (fail)
  go_big_quiet_step (fail)
  go_big_quiet_step (fail)
  go_big_quiet_step (exact cL2.re)
  go_big_quiet_step (fail)
  go_big_quiet_step (fail)
  refine wpQuiet_nil ?_
  rintro _ ⟨p, rfl⟩
  have hb := below_regrown w4 p.d p.os
  generalize grow (redrawn w4 p.d) p.os = w5 at *
  clear Hrk Hri Hrx
  replace rk := keep hb rk
  replace ri := keep hb ri
  replace rx := keep hb rx
  replace cA := cA.keep hb
  replace cR := cR.keep hb
  replace cL1 := cL1.keep hb
  replace cL2 := cL2.keep hb
  replace hw := Below.after hw hb
  clear hb
  go_wp2
  go_ret
  exact ⟨rfl, hw⟩

end Go.Proofs.YtmcokphkaekdaaaDoor

namespace Go.Proofs.YtmcokphkaekdaaaDoor
open Go Go.RowKit Go.Sort
attribute [local go_sem] setCell_drewN alloc_drewN

/-- An append to a full row: a new block, no other turns. -/
theorem wpList_append_full {P : Program} (w : World) {ops : Array Oper} {rest : List Oper} {o : Oper} {a : Act} {Q : Exit → Act → World → Prop} (hgd : o.guard = none) (s x : Operand) (t : TypeId)
    (ho : o.op = .call { callee := .builtin .append, args := #[s, x], argTypes := #[t, t] })
    (base : Nat) (e : TypeId) (i : TypeInfo) (z : Value) (ht : P.underlying t = some (.slice e)) (hi : P.info? e = some i) (hz : i.zero = some z)
    (hsize : i.size = 1) (hby : i.bytes = 1) (hzs : z.cells.size = 1)
    (g n : Nat) (xs : List Value) (hs : a.eval s = .slice (some ⟨g, 0, none⟩) n n) (hown : w.ownsRow base e 1 (.slice (some ⟨g, 0, none⟩) n n) n xs)
    (ad : Addr) (m c : Nat) (news : List Value) (hx : a.eval x = .slice (some ad) m c) (hm : 0 < m) (hl : news.length = m * 1) (hnews : ∀ j u, news[j]? = some u → w.cell? (ad.add j) = some u) (h1 : ∀ u ∈ news, u.oneCell' = true)
    (h63 : n + m ≤ maxLen) (hbytes : (n + m) * 1 ≤ 140737488355328) (hbase : base ≤ w.heap.size)
    (h : ∀ v' w', w'.ownsRow w.heap.size e 1 v' (n + m) (xs ++ news) → w.grownBy w' none → wpList P ops Q rest (a.put o.dst v') w') : wpList P ops Q (o :: rest) a w := by
  refine wpList_plain hgd fun K hK => ?_
  obtain ⟨v', w', hr, h2, h3, _⟩ := run_append_own (P := P) w base t o.type e i z 1 1 ht hi hz hsize hby hzs (by decide) _ n xs hown ad m c news hl hnews h1 h63 hbytes hbase
  have holds : ∀ j u, xs[j]? = some u → w.cell? ((⟨g, 0, none⟩ : Addr).add j) = some u := hown.cells (g := g) rfl
  have hr2 := run_append_grow (P := P) w t o.type e i z ht hi hz ⟨g, 0, none⟩ n n xs (by rw [hsize]; exact hown.1) holds ad m c news (by rw [hsize]; exact hl) hnews (by omega) (by simp only [maxLen] at h63; omega) (growslice_fits (by omega) (by rw [hby]; exact hbytes))
  have hh := hr.symm.trans hr2
  injection hh with e1 e2
  have hown2 : w'.ownsRow w.heap.size e 1 v' (n + m) (xs ++ news) := by
    obtain ⟨q1, ⟨hv, _⟩ | ⟨g1, cap1, cur, hv, hbg, hq⟩⟩ := h2
    · rw [e1] at hv; cases hv
    · have hv' := e1.symm.trans hv
      cases hv'
      exact ⟨q1, .inr ⟨w.heap.size, _, cur, hv, Nat.le_refl _, hq⟩⟩
  have hgr : w.grownBy w' none := by
    rw [e2]
    have hq := World.grownBy_alloc w.drew (.cells (xs.toArray ++ news.toArray ++ Builtin.zeroCells z.cells (grownCap w (n + m) n e - (n + m))) e) none
    exact ⟨hq.os, hq.tape, hq.output, hq.size, hq.block⟩
  unfold Oper.wp execOp
  simp only [ho, resolve, invoke, builtin, Sem.run_bind, Sem.run_pure, Result.andThen_ok, List.map_toArray, List.map_cons, List.map_nil, hs, hx, hr]
  exact hK _ _ (h v' w' hown2 hgr)
/-- A list that was handed out: a full row, or nil. -/
def aptV (x : Option Nat × Nat) : Value := match x.1 with
  | some g => .slice (some ⟨g, 0, none⟩) x.2 x.2
  | none => .slice none 0 0
def aptN (x : Option Nat × Nat) : Nat := match x.1 with
  | some _ => x.2
  | none => 0
def aptA (x : Option Nat × Nat) : Option Addr := x.1.map fun g => ⟨g, 0, none⟩
theorem aptV_eq (x : Option Nat × Nat) : aptV x = .slice (aptA x) (aptN x) (aptN x) := by
  obtain ⟨_ | g, m⟩ := x <;> rfl
/-- The rows of such lists, with P of each. -/
def AptR (W : World) (xs : List (Option Nat × Nat)) (P : Nat → List Int → Prop) : Prop := ∀ (j g m : Nat), xs[j]? = some (some g, m) → ∃ l : List Int, l.length = m ∧ W.heap[g]? = some (.cells (irow .u8 l) 5 (0, 0)) ∧ P j l
def AptD (xs : List (Option Nat × Nat)) : Prop := ∀ (i j : Nat) (g m n : Nat), xs[i]? = some (some g, m) → xs[j]? = some (some g, n) → i = j
theorem AptR.mono {W : World} {xs : List (Option Nat × Nat)} {P Q : Nat → List Int → Prop} (h : AptR W xs P) (hq : ∀ (j : Nat) l g m, xs[j]? = some (some g, m) → l.length = m → P j l → Q j l) : AptR W xs Q := fun j g m hj => by
  obtain ⟨l, h1, h2, h3⟩ := h j g m hj
  exact ⟨l, h1, h2, hq _ _ _ _ hj h1 h3⟩
theorem AptR.kept {W W' : World} {xs : List (Option Nat × Nat)} {P : Nat → List Int → Prop} (h : AptR W xs P) (hb : Below W.heap.size W W') : AptR W' xs P := fun j g m hj => by
  obtain ⟨l, h1, h2, h3⟩ := h j g m hj
  exact ⟨l, h1, Go.Proofs.YtmcokphkaekdaaaDoor.keep hb h2, h3⟩
theorem AptR.put {W : World} {xs : List (Option Nat × Nat)} {P Q : Nat → List Int → Prop} (h : AptR W xs P) (hd : AptD xs) {k g m t : Nat} {z : Int} (hk : xs[k]? = some (some g, m)) (hp : ∀ l, l.length = m → P k l → Q k (l.set t z)) (hq : ∀ j l, j ≠ k → P j l → Q j l) : AptR (W.setCell ⟨g, t, none⟩ (.int .u8 z)) xs Q := fun j g' m' hj => by
  obtain ⟨l, h1, h2, h3⟩ := h j g' m' hj
  by_cases e : g' = g
  · subst e
    obtain rfl := hd _ _ _ _ _ hk hj
    obtain ⟨_, rfl⟩ : True ∧ m = m' := ⟨trivial, by rw [hk] at hj; cases hj; rfl⟩
    exact ⟨l.set t z, by rw [List.length_set]; exact h1, irow_set h2 t z, hp l h1 h3⟩
  · refine ⟨l, h1, heap_other h2 e, hq j l (fun ej => e ?_) h3⟩
    subst ej
    rw [hk] at hj
    cases hj
    rfl
theorem getD_set_if (l : List Int) (t u : Nat) (z : Int) (h : t < l.length) : (l.set t z).getD u 0 = if u = t then z else l.getD u 0 := by
  rw [List.getD_eq_getElem?_getD, List.getD_eq_getElem?_getD, List.getElem?_set]
  by_cases e : t = u
  · subst e; simp [h]
  · rw [if_neg e, if_neg (Ne.symm e)]
theorem own_lower {W : World} {b c n : Nat} {e : TypeId} {v : Value} {ys : List Value} (h : W.ownsRow b e 1 v n ys) (hc : c ≤ b) : W.ownsRow c e 1 v n ys := by
  obtain ⟨q1, q2 | ⟨g1, cap1, cur, hv, hbg, hq⟩⟩ := h
  · exact ⟨q1, .inl q2⟩
  · exact ⟨q1, .inr ⟨g1, cap1, cur, hv, Nat.le_trans hc hbg, hq⟩⟩
theorem apt_some {x : Option Nat × Nat} {t : Nat} (h : t < aptN x) : ∃ g m, x = (some g, m) := by
  obtain ⟨_ | g, m⟩ := x
  · simp [aptN] at h
  · exact ⟨g, m, rfl⟩
theorem apt_row {W : World} {gl : Nat} {xs : List (Option Nat × Nat)} (hg : W.heap[gl]? = some (.cells (xs.map aptV).toArray 22 (0, 0))) (i : Nat) (hi : i < xs.length) : W.cell? ⟨gl, i, none⟩ = some (.slice (aptA (xs.getD i (none, 0))) (aptN (xs.getD i (none, 0))) (aptN (xs.getD i (none, 0)))) := by
  rw [cell_of hg (show (xs.map aptV).toArray[i]? = some (aptV (xs.getD i (none, 0))) by rw [List.getElem?_toArray, List.getElem?_map, List.getElem?_eq_getElem hi, List.getD_eq_getElem?_getD, List.getElem?_eq_getElem hi]; rfl), aptV_eq]
set_option maxRecDepth 100000 in
set_option maxHeartbeats 4000000 in
theorem l_apart (xs : List (Option Nat × Nat)) (gl lo : Nat) (w : World) (hloW : lo ≤ w.heap.size) (hn : xs.length ≤ 50) (hg : w.heap[gl]? = some (.cells (xs.map aptV).toArray 22 (0, 0))) (hr : AptR w xs fun _ _ => True) (hd : AptD xs) (hlo : ∀ (i : Nat) g m, xs[i]? = some (some g, m) → lo ≤ g ∧ g ≠ gl ∧ m ≤ 140737488350000) : Calls Tryd.prog 27 #[.slice (some ⟨gl, 0, none⟩) xs.length xs.length] w fun e w' => e = .returned (.bool true) ∧ Below lo w w' := by
  have lgl := lt_of_row hg
  have hrow := fun (W : World) h => apt_row (W := W) (gl := gl) (xs := xs) h
  go_enter Tryd.func27, Tryd.ntmps27
  go_wp2
  go_loopw [3] (fun i wr => ∃ k : Nat, k ≤ xs.length ∧ i = .int .i64 k ∧ AptR wr xs (fun j l => j < k → ∀ t, t < l.length → l.getD t 0 = 1 + (j : Int)) ∧ wr.heap[gl]? = some (.cells (xs.map aptV).toArray 22 (0, 0)) ∧ Below lo w wr) (fun i _ => xs.length - (intOf i).toNat)
  case atStart => exact ⟨0, by omega, rfl, hr.mono (fun j l _ _ _ _ _ h => by omega), hg, Below.refl _ _⟩
  case round =>
    clear hg hr
    obtain ⟨k, hk, rfl, hr, hg, hw⟩ := hrel
    by_cases hlt : k < xs.length
    · have hdk : decide ((k : Int) < (xs.length : Int)) = true := by simp; omega
      have hmod : (1 + (k : Int)) % 256 = 1 + (k : Int) := by omega
      obtain ⟨x, hxk⟩ : ∃ x, xs[k]? = some x := ⟨_, List.getElem?_eq_getElem hlt⟩
      have hrk := fun W h => hrow W h k hlt
      rw [show xs.getD k (none, 0) = x by rw [List.getD_eq_getElem?_getD, hxk]; rfl] at hrk
      replace hrk := hide hrk
      replace hrow := hide hrow
      go_wp2
      go_loopw [4] (fun i wr => ∃ t : Nat, t ≤ aptN x ∧ i = .int .i64 t ∧ AptR wr xs (fun j l => (j < k → ∀ t, t < l.length → l.getD t 0 = 1 + (j : Int)) ∧ (j = k → ∀ u, u < t → l.getD u 0 = 1 + (j : Int))) ∧ wr.heap[gl]? = some (.cells (xs.map aptV).toArray 22 (0, 0)) ∧ Below lo w wr) (fun i _ => aptN x - (intOf i).toNat)
      case atStart => exact ⟨0, by omega, rfl, hr.mono (fun j l _ _ _ _ h => ⟨h, fun _ u hu => by omega⟩), hg, hw⟩
      case round =>
        clear hr hg hw
        obtain ⟨t, ht, rfl, hr, hg, hw⟩ := hrel
        have hcl := hrk.out _ hg
        by_cases hlt2 : t < aptN x
        · have hdt : decide ((t : Int) < (aptN x : Int)) = true := by simp; omega
          obtain ⟨g, m, rfl⟩ := apt_some hlt2
          change wr.cell? ⟨gl, k, none⟩ = some (.slice (some ⟨g, 0, none⟩) m m) at hcl
          change t < m at hlt2
          change decide ((t : Int) < (m : Int)) = true at hdt
          obtain ⟨l, hl, rl, hP⟩ := hr k g m hxk
          obtain ⟨hlg, hgg, hmm⟩ := hlo k g m hxk
          have c1 := irow_cell rl (j := t) (by omega)
          have c2 := row_frozen rl t
          have hr2 : AptR (wr.setCell ⟨g, t, none⟩ (.int .u8 (1 + (k : Int)))) xs (fun j l => (j < k → ∀ t, t < l.length → l.getD t 0 = 1 + (j : Int)) ∧ (j = k → ∀ u, u < t + 1 → l.getD u 0 = 1 + (j : Int))) := hr.put hd hxk (fun l hl h => ⟨fun hkk => by omega, fun _ u hu => by
            rw [getD_set_if l t u _ (by omega)]
            split
            · rfl
            · exact h.2 rfl u (by omega)⟩) (fun j l hj h => ⟨h.1, fun e => absurd e hj⟩)
          have hg2 : (wr.setCell ⟨g, t, none⟩ (.int .u8 (1 + (k : Int)))).heap[gl]? = _ := heap_other hg (Ne.symm hgg)
          have hw2 := hw.setCell (show lo ≤ (⟨g, t, none⟩ : Addr).block from hlg) (.int .u8 (1 + (k : Int)))
          clear hr hg hw hP rl hl
          generalize l.getD t 0 = z at *
          go_wp2
          refine ⟨⟨t + 1, by show t + 1 ≤ m; omega, by go_num, hr2, hg2, hw2⟩, ?_⟩
          simp [intOf, aptN]; omega
        · obtain rfl : t = aptN x := by omega
          have hdt : decide ((aptN x : Int) < (aptN x : Int)) = false := by simp
          have hr2 : AptR wr xs (fun j l => j < k + 1 → ∀ t, t < l.length → l.getD t 0 = 1 + (j : Int)) := hr.mono (fun j l g m hj hl h hjk t ht => by
            rcases Nat.lt_or_ge j k with q | q
            · exact h.1 q t ht
            · obtain rfl : j = k := by omega
              refine h.2 rfl t ?_
              rw [hxk] at hj
              cases hj
              show t < m
              omega)
          clear hr
          go_wp2
          refine ⟨⟨k + 1, by omega, by go_num, hr2, hg, hw⟩, ?_⟩
          simp [intOf]; omega
    · obtain rfl : k = xs.length := by omega
      have hdk : decide ((xs.length : Int) < (xs.length : Int)) = false := by simp
      replace hr : AptR wr xs (fun j l => ∀ t, t < l.length → l.getD t 0 = 1 + (j : Int)) := hr.mono (fun j l g m hj hl h => h (List.getElem?_eq_some_iff.1 hj).1)
      replace hrow := hide hrow
      go_wp2
      go_loopw [5, 6] (fun i _ wr => ∃ k : Nat, k ≤ xs.length ∧ i = .int .i64 k ∧ AptR wr xs (fun j l => ∀ t, t < l.length → l.getD t 0 = 1 + (j : Int)) ∧ wr.heap[gl]? = some (.cells (xs.map aptV).toArray 22 (0, 0)) ∧ Below lo w wr) (fun i _ _ => xs.length - (intOf i).toNat)
      case atStart => exact ⟨0, by omega, rfl, hr, hg, hw⟩
      case round =>
        clear hr hg hw hdk
        obtain ⟨k, hk, rfl, hr, hg, hw⟩ := hrel
        by_cases hlt2 : k < xs.length
        · have hdk : decide ((k : Int) < (xs.length : Int)) = true := by simp; omega
          have hmod : (201 + (k : Int)) % 256 = 201 + (k : Int) := by omega
          obtain ⟨x, hxk⟩ : ∃ x, xs[k]? = some x := ⟨_, List.getElem?_eq_getElem hlt2⟩
          have hcl := hrow.out _ hg k hlt2
          rw [show xs.getD k (none, 0) = x by rw [List.getD_eq_getElem?_getD, hxk]; rfl] at hcl
          obtain ⟨i0, hi, hz0, hz1, hz2⟩ := info8
          have hmN : aptN x ≤ 140737488350000 := by
            obtain ⟨_ | g, m⟩ := x
            · exact Nat.zero_le _
            · exact (hlo k g m hxk).2.2
          go_wp2
          generalize wr = wo at *
          generalize eB : wo.heap.size = B at *
          go_loopw [6, 7] (fun v i wr => ∃ j : Nat, j ≤ 80 ∧ i = .int .i64 j ∧ ((j = 0 ∧ v = .slice (aptA x) (aptN x) (aptN x)) ∨ (0 < j ∧ ∃ ys, wr.ownsRow B 5 1 v (aptN x + j) ys)) ∧ Below B wo wr) (fun _ i _ => 80 - (intOf i).toNat)
          case atStart => exact ⟨0, by omega, rfl, .inl ⟨rfl, rfl⟩, Below.refl _ _⟩
          case round =>
            obtain ⟨j, hj, rfl, hv, hwq⟩ := hrel
            clear hcl
            by_cases hlt3 : j < 80
            · have hdj : decide ((j : Int) < 80) = true := by simp; omega
              have hsq := hwq.size
              have hwa : Below B wo (wr.alloc (.cells #[.int .u8 (201 + (k : Int))] 5)) := hwq.alloc (by omega) _
              rcases hv with ⟨rfl, rfl⟩ | ⟨hj0, ys, hown⟩
              · obtain ⟨_ | g, m⟩ := x
                · -- nil
                  have hown_ : (wr.alloc (.cells #[.int .u8 (201 + (k : Int))] 5)).ownsRow B 5 1 (.slice none 0 0) 0 [] := ⟨rfl, .inl ⟨rfl, rfl⟩⟩
                  change Code.wp _ _ _ _ _
                  simp only [aptA, aptN, Option.map_none]
                  go_wp2_with (at_builtin; refine wpList_append_own _ rfl (.tmp 48) (.tmp 52) 22 rfl B 5 i0 (.int .u8 0) 1 1 Tryd.underlying22 hi hz0 hz1 hz2 rfl (by decide) (.slice none 0 0) 0 [] rfl hown_ ⟨wr.heap.size, 0, none⟩ 1 1 [.int .u8 (201 + (k : Int))] rfl rfl (new_cell wr (201 + (k : Int))) (by simp [Value.oneCell']) (by unfold maxLen; omega) (by omega) (by rw [size_alloc1]; omega) ?_)
                  intro v' w2 hown2 hgrow _
                  replace hwa := hwa.grown hgrow (by rw [size_alloc1]; omega) (fun k h => (hown_.lt k h).1)
                  clear hgrow hown_ hwq
                  obtain ⟨ao', cap', rfl⟩ := slen_own hown2
                  go_wp2
                  refine ⟨⟨1, by omega, by go_num, .inr ⟨by omega, _, hown2⟩, hwa⟩, ?_⟩
                  simp [intOf]
                · -- a full row
                  obtain ⟨l, hl, rl, _⟩ := hr k g m hxk
                  have lg := lt_of_row rl
                  have rl2 : (wr.alloc (.cells #[.int .u8 (201 + (k : Int))] 5)).heap[g]? = some (.cells (irow .u8 l) 5 (0, 0)) := (hwa.block g (by omega)).trans rl
                  have hown_ : (wr.alloc (.cells #[.int .u8 (201 + (k : Int))] 5)).ownsRow 0 5 1 (.slice (some ⟨g, 0, none⟩) m m) m (l.map (Value.int .u8)) := ⟨by simp [hl], .inr ⟨g, m, _, rfl, Nat.zero_le _, rl2, Nat.le_refl _, by unfold maxLen; change m ≤ _ at hmN; omega, by rw [irow_size]; omega, by rw [Nat.mul_one]; exact List.take_of_length_le (by simp [irow, hl])⟩⟩
                  change m ≤ _ at hmN
                  simp only [aptA, aptN, Option.map_some]
                  go_wp2_with (at_builtin; refine wpList_append_full _ rfl (.tmp 48) (.tmp 52) 22 rfl 0 5 i0 (.int .u8 0) Tryd.underlying22 hi hz0 hz1 hz2 rfl g m _ rfl hown_ ⟨wr.heap.size, 0, none⟩ 1 1 [.int .u8 (201 + (k : Int))] rfl (by decide) rfl (new_cell wr (201 + (k : Int))) (by simp [Value.oneCell']) (by unfold maxLen; omega) (by omega) (Nat.zero_le _) ?_)
                  intro v' w2 hown2 hgrow
                  replace hown2 : w2.ownsRow B 5 1 v' (m + 1) _ := own_lower hown2 (by show B ≤ _; omega)
                  replace hwa := hwa.grown hgrow (by rw [size_alloc1]; omega) (fun k h => by cases h)
                  clear hgrow hown_ hwq rl rl2
                  obtain ⟨ao', cap', rfl⟩ := slen_own hown2
                  go_wp2
                  refine ⟨⟨1, by omega, by go_num, .inr ⟨by omega, _, hown2⟩, hwa⟩, ?_⟩
                  simp [intOf]
              · have hown_ := hown.alloc (.cells #[.int .u8 (201 + (k : Int))] 5)
                obtain ⟨ao0, cap0, rfl⟩ := slen_own hown
                generalize aptN x = m at *
                go_wp2_with (at_builtin; refine wpList_append_own _ rfl (.tmp 48) (.tmp 52) 22 rfl B 5 i0 (.int .u8 0) 1 1 Tryd.underlying22 hi hz0 hz1 hz2 rfl (by decide) _ (m + j) ys rfl hown_ ⟨wr.heap.size, 0, none⟩ 1 1 [.int .u8 (201 + (k : Int))] rfl rfl (new_cell wr (201 + (k : Int))) (by simp [Value.oneCell']) (by unfold maxLen; omega) (by omega) (by rw [size_alloc1]; omega) ?_)
                intro v' w2 hown2 hgrow _
                replace hwa := hwa.grown hgrow (by rw [size_alloc1]; omega) (fun k h => (hown_.lt k h).1)
                clear hgrow hown_ hown hwq
                obtain ⟨ao', cap', rfl⟩ := slen_own hown2
                go_wp2
                refine ⟨⟨j + 1, by omega, by go_num, .inr ⟨by omega, _, hown2⟩, hwa⟩, ?_⟩
                simp [intOf]; omega
            · obtain rfl : j = 80 := by omega
              have hdj : decide ((80 : Int) < 80) = false := by decide
              rcases hv with ⟨h0, _⟩ | ⟨_, ys, hown⟩
              · omega
              obtain ⟨ao0, cap0, rfl⟩ := slen_own hown
              have hwq' : Below wo.heap.size wo wr := by rw [eB]; exact hwq
              have hcl := hrow.out _ (keep hwq' hg) k hlt2
              rw [show xs.getD k (none, 0) = x by rw [List.getD_eq_getElem?_getD, hxk]; rfl] at hcl
              have hr2 := hr.kept hwq'
              have hg2 := keep hwq' hg
              have hso := hw.size
              have hw2 : Below lo w wr := hw.trans (hwq.mono (by omega))
              clear hr hg hw hwq hown hwq'
              go_wp2
              refine ⟨⟨k + 1, by omega, by go_num, hr2, hg2, hw2⟩, ?_⟩
              simp [intOf]; omega
        · obtain rfl : k = xs.length := by omega
          have hdk : decide ((xs.length : Int) < (xs.length : Int)) = false := by simp
          go_wp2
          go_loopw [8] (fun i wr => ∃ k : Nat, k ≤ xs.length ∧ i = .int .i64 k ∧ AptR wr xs (fun j l => ∀ t, t < l.length → l.getD t 0 = 1 + (j : Int)) ∧ wr.heap[gl]? = some (.cells (xs.map aptV).toArray 22 (0, 0)) ∧ Below lo w wr) (fun i _ => xs.length - (intOf i).toNat)
          case atStart => exact ⟨0, by omega, rfl, hr, hg, hw⟩
          case round =>
            clear hr hg hw hdk
            obtain ⟨k, hk, rfl, hr, hg, hw⟩ := hrel
            by_cases hlt3 : k < xs.length
            · have hdk : decide ((k : Int) < (xs.length : Int)) = true := by simp; omega
              have hmod : (1 + (k : Int)) % 256 = 1 + (k : Int) := by omega
              obtain ⟨x, hxk⟩ : ∃ x, xs[k]? = some x := ⟨_, List.getElem?_eq_getElem hlt3⟩
              have hrk := fun W h => hrow.out W h k hlt3
              rw [show xs.getD k (none, 0) = x by rw [List.getD_eq_getElem?_getD, hxk]; rfl] at hrk
              replace hrk := hide hrk
              go_wp2
              go_loopw [9] (fun i wr => ∃ t : Nat, t ≤ aptN x ∧ i = .int .i64 t ∧ AptR wr xs (fun j l => ∀ t, t < l.length → l.getD t 0 = 1 + (j : Int)) ∧ wr.heap[gl]? = some (.cells (xs.map aptV).toArray 22 (0, 0)) ∧ Below lo w wr) (fun i _ => aptN x - (intOf i).toNat)
              case atStart => exact ⟨0, by omega, rfl, hr, hg, hw⟩
              case round =>
                clear hr hg hw
                obtain ⟨t, ht, rfl, hr, hg, hw⟩ := hrel
                have hcl := hrk.out _ hg
                by_cases hlt4 : t < aptN x
                · have hdt : decide ((t : Int) < (aptN x : Int)) = true := by simp; omega
                  obtain ⟨g, m, rfl⟩ := apt_some hlt4
                  change wr.cell? ⟨gl, k, none⟩ = some (.slice (some ⟨g, 0, none⟩) m m) at hcl
                  change t < m at hlt4
                  change decide ((t : Int) < (m : Int)) = true at hdt
                  obtain ⟨l, hl, rl, hP⟩ := hr k g m hxk
                  have hmm := (hlo k g m hxk).2.2
                  have c1 := irow_cell rl (j := t) (by omega)
                  rw [hP t (by omega)] at c1
                  clear hP rl
                  go_wp2
                  refine ⟨⟨t + 1, by show t + 1 ≤ m; omega, by go_num, hr, hg, hw⟩, ?_⟩
                  simp [intOf, aptN]; omega
                · obtain rfl : t = aptN x := by omega
                  have hdt : decide ((aptN x : Int) < (aptN x : Int)) = false := by simp
                  go_wp2
                  refine ⟨⟨k + 1, by omega, by go_num, hr, hg, hw⟩, ?_⟩
                  simp [intOf]; omega
            · obtain rfl : k = xs.length := by omega
              have hdk : decide ((xs.length : Int) < (xs.length : Int)) = false := by simp
              go_wp2
              go_ret
              exact ⟨rfl, hw⟩

end Go.Proofs.YtmcokphkaekdaaaDoor

namespace Go.Proofs.YtmcokphkaekdaaaDoor
open Go Go.RowKit Go.Sort
attribute [local go_sem] setCell_drewN alloc_drewN

theorem ax_yes (key info : List Int) (n : Nat) (w : World) (vi : Value) (hS : Sta w) (hK : Kon w) (hkl : key.length = 32) (hkz : ∀ z ∈ key, 0 ≤ z ∧ z < 256) (hI : Bys w vi info) (hci : ∀ a l c, vi = .slice a l c → l ≤ c) (hil : info.length ≤ 4611686018427370000) (hn : n ≤ 8160) :
    Calls Tryd.prog 24 #[.agg (irow .u8 key), vi, .int .i64 (n : Int)] w fun e w' => ∃ v, e = .returned v ∧ ∃ g, v = .tuple #[.slice (some ⟨g, 0, none⟩) n n, .int .i64 0] ∧ w.heap.size ≤ g ∧ w'.heap[g]? = some (.cells (irow .u8 (xpd key info n)) 5 (0, 0)) ∧ Below w.heap.size w w' :=
  (a_expand key info n w vi hS hK hkl hkz hI hci hil hn).mono fun _ _ ⟨v, g, h1, h2⟩ => ⟨v, h1, g, h2⟩
theorem loadK {W : World} {g : Nat} {l : List Int} {t : TypeId} (hg : W.heap[g]? = some (.cells (irow .u8 l) t (0, 0))) (hl : l.length = 32) : (loadCells ⟨g, 0, none⟩ 32).run Tryd.prog W = .ok (irow .u8 l) W := by
  have h := run_loadCells_list (P := Tryd.prog) W ⟨g, 0, none⟩ (l.map (Value.int .u8)) (fun j v hj => by
    have hjl : j < l.length := by have := (List.getElem?_eq_some_iff.1 hj).1; simpa using this
    rw [addr_add, Nat.zero_add, irow_cell hg hjl]
    simp only [List.getElem?_map, List.getElem?_eq_getElem hjl, Option.map_some] at hj
    rw [← hj, List.getD_eq_getElem?_getD, List.getElem?_eq_getElem hjl]
    rfl)
  rw [List.length_map, hl] at h
  exact h
theorem l_same_eq (a : List Int) (w : World) (u v : Value) (hu : Bys w u a) (hv : Bys w v a) : Calls Tryd.prog 26 #[u, v] w fun e w' => e = .returned (.bool true) ∧ Below w.heap.size w w' := by
  have h := l_same a a w u v hu hv
  rw [decide_eq_true rfl] at h
  exact h
theorem aptT_nil (W : World) : AptR W [] fun _ _ => True := fun j g m h => by simp at h
theorem aptT_none {W : World} {m : Nat} {xs : List (Option Nat × Nat)} (h : AptR W xs fun _ _ => True) : AptR W ((none, m) :: xs) fun _ _ => True := fun j g m hj => by
  cases j with
  | zero => simp at hj
  | succ j => exact h j g m hj
theorem aptT_some {W : World} {g m : Nat} {l : List Int} {xs : List (Option Nat × Nat)} (hr : W.heap[g]? = some (.cells (irow .u8 l) 5 (0, 0))) (hl : l.length = m) (h : AptR W xs fun _ _ => True) : AptR W ((some g, m) :: xs) fun _ _ => True := fun j g' m' hj => by
  cases j with
  | zero => cases hj; exact ⟨l, hl, hr, trivial⟩
  | succ j => exact h j g' m' hj
theorem Bys.of_rowN {W : World} {g n : Nat} {l : List Int} {t : TypeId} (hg : W.heap[g]? = some (.cells (irow .u8 l) t (0, 0))) (hl : l.length ≤ 9223372036854775807) (hz : ∀ z ∈ l, 0 ≤ z ∧ z < 256) (hn : l.length = n) {cap : Nat} : Bys W (.slice (some ⟨g, 0, none⟩) n cap) l := by rw [← hn]; exact Bys.of_row hg hl hz cap
set_option maxRecDepth 100000 in
set_option maxHeartbeats 4000000 in
theorem macExpands_A (key info : List Int) (n : Nat) (w : World) (vi : Value) (hS : Sta w) (hK : Kon w) (hkl : key.length = 32) (hkz : ∀ z ∈ key, 0 ≤ z ∧ z < 256) (hI : BysN w vi info) (hn : n ≤ 8160) : Calls Tryd.prog 6 #[.agg (irow .u8 key), vi, .int .i64 (n : Int)] w fun e w' => e = .returned (.bool true) ∧ Below w.heap.size w w' := by
  have hiz := bys_bd hI.1
  have hil : info.length ≤ 140737488351232 := hI.2.1
  replace hI := hI.toM
  have sl1 : ∀ g W, _ := fun g W => slice_to (some ⟨g, 0, none⟩) (info.length + 80) (info.length + 80) info.length (by omega) W
  have rK := hp1_0 w (.cells (irow .u8 key) 25)
  have hw : Below w.heap.size w (w.alloc (.cells (irow .u8 key) 25)) := (Below.refl _ _).alloc (Nat.le_refl _) _
  obtain ⟨ui, uic, rfl, _⟩ := id hI.1
  go_enter Tryd.func6, Tryd.ntmps6
  go_wp2_with (first | (refine wpList_box rfl 25 _ rfl _ rfl (bK _) ?_) | fail)
  generalize w.alloc (.cells (irow .u8 key) 25) = w0 at *
  have lK := lt_of_row rK
  refine (l_hand info w0 _ (hI.1.keep hw) (by omega)).mono ?_
  rintro e_ w1 ⟨rfl, ri, hb⟩
  replace rK := keep hb rK
  replace hw := Below.after hw hb
  clear hb
  generalize w0.heap.size = gi at *
  have li := lt_of_row ri
  go_wp2_with (fail)
  have hbd : Below w1.heap.size w1 w1.drew := below_drN (Below.refl _ _) 1
  have hBi : Bys w1.drew (.slice (some ⟨gi, 0, none⟩) info.length (info.length + 80)) info := by exact Bys.of_prefix (keep hbd ri) (by omega) hiz _
  have cX := ax_yes key info n w1.drew _ ((hS.below hw).below hbd) ((hK.below hw).below hbd) hkl hkz hBi (fun a l c h => by cases h; omega) (by omega) hn
  refine wp_region_noPanic ?_
  refine wp_region_any (by kernel_rfl) ?_
  change wpAny _ _ _ _ _ _ _ (World.drew _)
  refine wpAny_take (i := 1) (v := ?v1) rfl (by kernel_rfl) (by kernel_rfl) (by kernel_rfl) (fun _ _ _ h => h) (Or.inl ⟨by rfl, ?y1⟩) ?r1
  case y1 =>
    intro w_
    go_simp
    try with_reducible rfl
  simp only [Act.put, List.getElem_toArray, List.getElem_cons_succ, List.getElem_cons_zero, List.setIfInBounds_toArray, List.set_cons_succ, List.set_cons_zero]
  refine wpAny_take (i := 2) (v := ?v2) rfl (by kernel_rfl) (by kernel_rfl) (by kernel_rfl) (fun _ _ _ h => h) (Or.inl ⟨by rfl, ?y2⟩) ?r2
  case y2 =>
    intro w_
    go_simp
    try with_reducible rfl
  simp only [Act.put, List.getElem_toArray, List.getElem_cons_succ, List.getElem_cons_zero, List.setIfInBounds_toArray, List.set_cons_succ, List.set_cons_zero]
  refine wpAny_take (i := 3) (v := ?v3) rfl (by kernel_rfl) (by kernel_rfl) (by kernel_rfl) (fun _ _ _ h => h) (Or.inl ⟨by rfl, ?y3⟩) ?r3
  case y3 =>
    intro w_
    go_simp
    try with_reducible rfl
  simp only [Act.put, List.getElem_toArray, List.getElem_cons_succ, List.getElem_cons_zero, List.setIfInBounds_toArray, List.set_cons_succ, List.set_cons_zero]
  refine wpAny_take (i := 4) (v := ?v4) rfl (by kernel_rfl) (by kernel_rfl) (by kernel_rfl) (fun _ _ _ h => h) (Or.inl ⟨by rfl, ?y4⟩) ?r4
  case y4 =>
    intro w_
    go_simp
    try with_reducible rfl
  simp only [Act.put, List.getElem_toArray, List.getElem_cons_succ, List.getElem_cons_zero, List.setIfInBounds_toArray, List.set_cons_succ, List.set_cons_zero]
  refine wpAny_take (i := 5) (v := ?v5) rfl (by kernel_rfl) (by kernel_rfl) (by kernel_rfl) (fun _ _ _ h => h) (Or.inl ⟨by rfl, ?y5⟩) ?r5
  case y5 =>
    intro w_
    go_simp
    try with_reducible rfl
  simp only [Act.put, List.getElem_toArray, List.getElem_cons_succ, List.getElem_cons_zero, List.setIfInBounds_toArray, List.set_cons_succ, List.set_cons_zero]
  refine wpAny_ready (rs := [0]) (fuel := 6) (by kernel_rfl) (by simp) (AllReady.cons rfl (fun K' hK => ?_) AllReady.nil)
  rw [if_pos (by kernel_rfl)]
  simp only [List.getElem_toArray, List.getElem_cons_zero]
  refine wp_load_row 25 _ rfl (w.heap.size) rfl 25 (irow .u8 key) (0, 0) _ (keep hbd rK) Tryd.underlying25 rfl (infok8 _ hkl) (hK _ _ ?_)
  simp only [Act.put, List.setIfInBounds_toArray, List.set_cons_succ, List.set_cons_zero]
  clear hK
  refine wpAny_ready (rs := [6]) (fuel := 5) (by kernel_rfl) (by simp) (AllReady.cons rfl (fun K' hK => ?_) AllReady.nil)
  rw [if_pos (by kernel_rfl)]
  simp only [List.getElem_toArray, List.getElem_cons_succ, List.getElem_cons_zero]
  refine wp_call_ex (f := 24) (by kernel_rfl) (cX) (fun v_ w2 hX => hK _ _ ?_)
  simp only [Act.put, List.setIfInBounds_toArray, List.set_cons_succ, List.set_cons_zero]
  clear hK
  obtain ⟨ga, rfl, lga, ra, hb⟩ := hX
  refine wpAny_take (i := 7) (v := ?v6) rfl (by kernel_rfl) (by kernel_rfl) (by kernel_rfl) (fun _ _ _ h => h) (Or.inl ⟨by rfl, ?y6⟩) ?r6
  case y6 =>
    intro w_
    go_simp
    try with_reducible rfl
  simp only [Act.put, List.getElem_toArray, List.getElem_cons_succ, List.getElem_cons_zero, List.setIfInBounds_toArray, List.set_cons_succ, List.set_cons_zero]
  refine wpAny_take (i := 8) (v := ?v7) rfl (by kernel_rfl) (by kernel_rfl) (by kernel_rfl) (fun _ _ _ h => h) (Or.inl ⟨by rfl, ?y7⟩) ?r7
  case y7 =>
    intro w_
    go_simp
    try with_reducible rfl
  simp only [Act.put, List.getElem_toArray, List.getElem_cons_succ, List.getElem_cons_zero, List.setIfInBounds_toArray, List.set_cons_succ, List.set_cons_zero]
  refine wpAny_take (i := 9) (v := ?v8) rfl (by kernel_rfl) (by kernel_rfl) (by kernel_rfl) (fun _ _ _ h => h) (Or.inl ⟨by rfl, ?y8⟩) ?r8
  case y8 =>
    intro w_
    go_simp
    try with_reducible rfl
  simp only [Act.put, List.getElem_toArray, List.getElem_cons_succ, List.getElem_cons_zero, List.setIfInBounds_toArray, List.set_cons_succ, List.set_cons_zero]
  refine wpAny_take (i := 10) (v := ?v9) rfl (by kernel_rfl) (by kernel_rfl) (by kernel_rfl) (fun _ _ _ h => h) (Or.inl ⟨by rfl, ?y9⟩) ?r9
  case y9 =>
    intro w_
    go_simp
    try with_reducible rfl
  simp only [Act.put, List.getElem_toArray, List.getElem_cons_succ, List.getElem_cons_zero, List.setIfInBounds_toArray, List.set_cons_succ, List.set_cons_zero]
  refine wpAny_take (i := 11) (v := ?v10) rfl (by kernel_rfl) (by kernel_rfl) (by kernel_rfl) (fun _ _ _ h => h) (Or.inl ⟨by rfl, ?y10⟩) ?r10
  case y10 =>
    intro w_
    go_simp
    try with_reducible rfl
  simp only [Act.put, List.getElem_toArray, List.getElem_cons_succ, List.getElem_cons_zero, List.setIfInBounds_toArray, List.set_cons_succ, List.set_cons_zero]
  refine wpAny_done (by kernel_rfl) ?_ _
  refine NoPanic.normal ?_
  replace hb : Below w1.heap.size w1 w2 := Below.after hbd hb
  replace lga : w1.heap.size ≤ ga := lga
  clear hbd hBi cX
  have s12 := hb.size
  replace rK := keep hb rK
  replace ri := keep hb ri
  replace hw := Below.after hw hb
  clear hb
  go_wp2_with (fail)
  have la := lt_of_row ra
  have hbd : Below w2.heap.size w2 w2.drew := below_drN (Below.refl _ _) 1
  have hBi : Bys w2.drew (.slice (some ⟨gi, 0, none⟩) info.length (info.length + 80)) info := by exact Bys.of_prefix (keep hbd ri) (by omega) hiz _
  have cX := ax_yes key info 40 w2.drew _ ((hS.below hw).below hbd) ((hK.below hw).below hbd) hkl hkz hBi (fun a l c h => by cases h; omega) (by omega) (by decide)
  replace cX : Calls Tryd.prog 24 #[.agg (irow .u8 key), .slice (some ⟨gi, 0, none⟩) info.length (info.length + 80), .int .i64 40] w2.drew _ := cX
  refine wp_region_noPanic ?_
  refine wp_region_any (by kernel_rfl) ?_
  change wpAny _ _ _ _ _ _ _ (World.drew _)
  refine wpAny_take (i := 1) (v := ?v11) rfl (by kernel_rfl) (by kernel_rfl) (by kernel_rfl) (fun _ _ _ h => h) (Or.inl ⟨by rfl, ?y11⟩) ?r11
  case y11 =>
    intro w_
    go_simp
    try with_reducible rfl
  simp only [Act.put, List.getElem_toArray, List.getElem_cons_succ, List.getElem_cons_zero, List.setIfInBounds_toArray, List.set_cons_succ, List.set_cons_zero]
  refine wpAny_take (i := 2) (v := ?v12) rfl (by kernel_rfl) (by kernel_rfl) (by kernel_rfl) (fun _ _ _ h => h) (Or.inl ⟨by rfl, ?y12⟩) ?r12
  case y12 =>
    intro w_
    go_simp
    try with_reducible rfl
  simp only [Act.put, List.getElem_toArray, List.getElem_cons_succ, List.getElem_cons_zero, List.setIfInBounds_toArray, List.set_cons_succ, List.set_cons_zero]
  refine wpAny_take (i := 3) (v := ?v13) rfl (by kernel_rfl) (by kernel_rfl) (by kernel_rfl) (fun _ _ _ h => h) (Or.inl ⟨by rfl, ?y13⟩) ?r13
  case y13 =>
    intro w_
    go_simp
    try with_reducible rfl
  simp only [Act.put, List.getElem_toArray, List.getElem_cons_succ, List.getElem_cons_zero, List.setIfInBounds_toArray, List.set_cons_succ, List.set_cons_zero]
  refine wpAny_take (i := 4) (v := ?v14) rfl (by kernel_rfl) (by kernel_rfl) (by kernel_rfl) (fun _ _ _ h => h) (Or.inl ⟨by rfl, ?y14⟩) ?r14
  case y14 =>
    intro w_
    go_simp
    try with_reducible rfl
  simp only [Act.put, List.getElem_toArray, List.getElem_cons_succ, List.getElem_cons_zero, List.setIfInBounds_toArray, List.set_cons_succ, List.set_cons_zero]
  refine wpAny_ready (rs := [0]) (fuel := 6) (by kernel_rfl) (by simp) (AllReady.cons rfl (fun K' hK => ?_) AllReady.nil)
  rw [if_pos (by kernel_rfl)]
  simp only [List.getElem_toArray, List.getElem_cons_zero]
  refine wp_load_row 25 _ rfl (w.heap.size) rfl 25 (irow .u8 key) (0, 0) _ (keep hbd rK) Tryd.underlying25 rfl (infok8 _ hkl) (hK _ _ ?_)
  simp only [Act.put, List.setIfInBounds_toArray, List.set_cons_succ, List.set_cons_zero]
  clear hK
  refine wpAny_ready (rs := [5]) (fuel := 5) (by kernel_rfl) (by simp) (AllReady.cons rfl (fun K' hK => ?_) AllReady.nil)
  rw [if_pos (by kernel_rfl)]
  simp only [List.getElem_toArray, List.getElem_cons_succ, List.getElem_cons_zero]
  refine wp_call_ex (f := 24) (by kernel_rfl) (cX) (fun v_ w3 hX => hK _ _ ?_)
  simp only [Act.put, List.setIfInBounds_toArray, List.set_cons_succ, List.set_cons_zero]
  clear hK
  obtain ⟨go, rfl, lgo, ro, hb⟩ := hX
  refine wpAny_take (i := 6) (v := ?v15) rfl (by kernel_rfl) (by kernel_rfl) (by kernel_rfl) (fun _ _ _ h => h) (Or.inl ⟨by rfl, ?y15⟩) ?r15
  case y15 =>
    intro w_
    go_simp
    try with_reducible rfl
  simp only [Act.put, List.getElem_toArray, List.getElem_cons_succ, List.getElem_cons_zero, List.setIfInBounds_toArray, List.set_cons_succ, List.set_cons_zero]
  refine wpAny_take (i := 7) (v := ?v16) rfl (by kernel_rfl) (by kernel_rfl) (by kernel_rfl) (fun _ _ _ h => h) (Or.inl ⟨by rfl, ?y16⟩) ?r16
  case y16 =>
    intro w_
    go_simp
    try with_reducible rfl
  simp only [Act.put, List.getElem_toArray, List.getElem_cons_succ, List.getElem_cons_zero, List.setIfInBounds_toArray, List.set_cons_succ, List.set_cons_zero]
  refine wpAny_take (i := 8) (v := ?v17) rfl (by kernel_rfl) (by kernel_rfl) (by kernel_rfl) (fun _ _ _ h => h) (Or.inl ⟨by rfl, ?y17⟩) ?r17
  case y17 =>
    intro w_
    go_simp
    try with_reducible rfl
  simp only [Act.put, List.getElem_toArray, List.getElem_cons_succ, List.getElem_cons_zero, List.setIfInBounds_toArray, List.set_cons_succ, List.set_cons_zero]
  refine wpAny_take (i := 9) (v := ?v18) rfl (by kernel_rfl) (by kernel_rfl) (by kernel_rfl) (fun _ _ _ h => h) (Or.inl ⟨by rfl, ?y18⟩) ?r18
  case y18 =>
    intro w_
    go_simp
    try with_reducible rfl
  simp only [Act.put, List.getElem_toArray, List.getElem_cons_succ, List.getElem_cons_zero, List.setIfInBounds_toArray, List.set_cons_succ, List.set_cons_zero]
  refine wpAny_take (i := 10) (v := ?v19) rfl (by kernel_rfl) (by kernel_rfl) (by kernel_rfl) (fun _ _ _ h => h) (Or.inl ⟨by rfl, ?y19⟩) ?r19
  case y19 =>
    intro w_
    go_simp
    try with_reducible rfl
  simp only [Act.put, List.getElem_toArray, List.getElem_cons_succ, List.getElem_cons_zero, List.setIfInBounds_toArray, List.set_cons_succ, List.set_cons_zero]
  refine wpAny_done (by kernel_rfl) ?_ _
  refine NoPanic.normal ?_
  replace hb : Below w2.heap.size w2 w3 := Below.after hbd hb
  replace lgo : w2.heap.size ≤ go := lgo
  clear hbd hBi cX
  have s23 := hb.size
  replace rK := keep hb rK
  replace ri := keep hb ri
  replace ra := keep hb ra
  replace hw := Below.after hw hb
  clear hb
  have lo_ := lt_of_row ro
  go_wp2_with (fail)
  have hbd : Below w3.heap.size w3 w3.drew := below_drN (Below.refl _ _) 1
  have hBi : Bys w3.drew (.slice (some ⟨gi, 0, none⟩) info.length (info.length + 80)) info := by exact Bys.of_prefix (keep hbd ri) (by omega) hiz _
  have cX := ax_yes key info n w3.drew _ ((hS.below hw).below hbd) ((hK.below hw).below hbd) hkl hkz hBi (fun a l c h => by cases h; omega) (by omega) hn
  refine wp_region_noPanic ?_
  refine wp_region_any (by kernel_rfl) ?_
  change wpAny _ _ _ _ _ _ _ (World.drew _)
  refine wpAny_take (i := 1) (v := ?v20) rfl (by kernel_rfl) (by kernel_rfl) (by kernel_rfl) (fun _ _ _ h => h) (Or.inl ⟨by rfl, ?y20⟩) ?r20
  case y20 =>
    intro w_
    go_simp
    try with_reducible rfl
  simp only [Act.put, List.getElem_toArray, List.getElem_cons_succ, List.getElem_cons_zero, List.setIfInBounds_toArray, List.set_cons_succ, List.set_cons_zero]
  refine wpAny_take (i := 2) (v := ?v21) rfl (by kernel_rfl) (by kernel_rfl) (by kernel_rfl) (fun _ _ _ h => h) (Or.inl ⟨by rfl, ?y21⟩) ?r21
  case y21 =>
    intro w_
    go_simp
    try with_reducible rfl
  simp only [Act.put, List.getElem_toArray, List.getElem_cons_succ, List.getElem_cons_zero, List.setIfInBounds_toArray, List.set_cons_succ, List.set_cons_zero]
  refine wpAny_take (i := 3) (v := ?v22) rfl (by kernel_rfl) (by kernel_rfl) (by kernel_rfl) (fun _ _ _ h => h) (Or.inl ⟨by rfl, ?y22⟩) ?r22
  case y22 =>
    intro w_
    go_simp
    try with_reducible rfl
  simp only [Act.put, List.getElem_toArray, List.getElem_cons_succ, List.getElem_cons_zero, List.setIfInBounds_toArray, List.set_cons_succ, List.set_cons_zero]
  refine wpAny_take (i := 4) (v := ?v23) rfl (by kernel_rfl) (by kernel_rfl) (by kernel_rfl) (fun _ _ _ h => h) (Or.inl ⟨by rfl, ?y23⟩) ?r23
  case y23 =>
    intro w_
    go_simp
    try with_reducible rfl
  simp only [Act.put, List.getElem_toArray, List.getElem_cons_succ, List.getElem_cons_zero, List.setIfInBounds_toArray, List.set_cons_succ, List.set_cons_zero]
  refine wpAny_take (i := 5) (v := ?v24) rfl (by kernel_rfl) (by kernel_rfl) (by kernel_rfl) (fun _ _ _ h => h) (Or.inl ⟨by rfl, ?y24⟩) ?r24
  case y24 =>
    intro w_
    go_simp
    try with_reducible rfl
  simp only [Act.put, List.getElem_toArray, List.getElem_cons_succ, List.getElem_cons_zero, List.setIfInBounds_toArray, List.set_cons_succ, List.set_cons_zero]
  refine wpAny_ready (rs := [0]) (fuel := 6) (by kernel_rfl) (by simp) (AllReady.cons rfl (fun K' hK => ?_) AllReady.nil)
  rw [if_pos (by kernel_rfl)]
  simp only [List.getElem_toArray, List.getElem_cons_zero]
  refine wp_load_row 25 _ rfl (w.heap.size) rfl 25 (irow .u8 key) (0, 0) _ (keep hbd rK) Tryd.underlying25 rfl (infok8 _ hkl) (hK _ _ ?_)
  simp only [Act.put, List.setIfInBounds_toArray, List.set_cons_succ, List.set_cons_zero]
  clear hK
  refine wpAny_ready (rs := [6]) (fuel := 5) (by kernel_rfl) (by simp) (AllReady.cons rfl (fun K' hK => ?_) AllReady.nil)
  rw [if_pos (by kernel_rfl)]
  simp only [List.getElem_toArray, List.getElem_cons_succ, List.getElem_cons_zero]
  refine wp_call_ex (f := 24) (by kernel_rfl) (cX) (fun v_ w4 hX => hK _ _ ?_)
  simp only [Act.put, List.setIfInBounds_toArray, List.set_cons_succ, List.set_cons_zero]
  clear hK
  obtain ⟨gb, rfl, lgb, rb, hb⟩ := hX
  refine wpAny_take (i := 7) (v := ?v25) rfl (by kernel_rfl) (by kernel_rfl) (by kernel_rfl) (fun _ _ _ h => h) (Or.inl ⟨by rfl, ?y25⟩) ?r25
  case y25 =>
    intro w_
    go_simp
    try with_reducible rfl
  simp only [Act.put, List.getElem_toArray, List.getElem_cons_succ, List.getElem_cons_zero, List.setIfInBounds_toArray, List.set_cons_succ, List.set_cons_zero]
  refine wpAny_take (i := 8) (v := ?v26) rfl (by kernel_rfl) (by kernel_rfl) (by kernel_rfl) (fun _ _ _ h => h) (Or.inl ⟨by rfl, ?y26⟩) ?r26
  case y26 =>
    intro w_
    go_simp
    try with_reducible rfl
  simp only [Act.put, List.getElem_toArray, List.getElem_cons_succ, List.getElem_cons_zero, List.setIfInBounds_toArray, List.set_cons_succ, List.set_cons_zero]
  refine wpAny_take (i := 9) (v := ?v27) rfl (by kernel_rfl) (by kernel_rfl) (by kernel_rfl) (fun _ _ _ h => h) (Or.inl ⟨by rfl, ?y27⟩) ?r27
  case y27 =>
    intro w_
    go_simp
    try with_reducible rfl
  simp only [Act.put, List.getElem_toArray, List.getElem_cons_succ, List.getElem_cons_zero, List.setIfInBounds_toArray, List.set_cons_succ, List.set_cons_zero]
  refine wpAny_take (i := 10) (v := ?v28) rfl (by kernel_rfl) (by kernel_rfl) (by kernel_rfl) (fun _ _ _ h => h) (Or.inl ⟨by rfl, ?y28⟩) ?r28
  case y28 =>
    intro w_
    go_simp
    try with_reducible rfl
  simp only [Act.put, List.getElem_toArray, List.getElem_cons_succ, List.getElem_cons_zero, List.setIfInBounds_toArray, List.set_cons_succ, List.set_cons_zero]
  refine wpAny_take (i := 11) (v := ?v29) rfl (by kernel_rfl) (by kernel_rfl) (by kernel_rfl) (fun _ _ _ h => h) (Or.inl ⟨by rfl, ?y29⟩) ?r29
  case y29 =>
    intro w_
    go_simp
    try with_reducible rfl
  simp only [Act.put, List.getElem_toArray, List.getElem_cons_succ, List.getElem_cons_zero, List.setIfInBounds_toArray, List.set_cons_succ, List.set_cons_zero]
  refine wpAny_done (by kernel_rfl) ?_ _
  refine NoPanic.normal ?_
  replace hb : Below w3.heap.size w3 w4 := Below.after hbd hb
  replace lgb : w3.heap.size ≤ gb := lgb
  clear hbd hBi cX
  have s34 := hb.size
  replace rK := keep hb rK
  replace ri := keep hb ri
  replace ro := keep hb ro
  replace ra := keep hb ra
  replace hw := Below.after hw hb
  clear hb
  have lb := lt_of_row rb
  go_wp2_with (first | (refine wpList_load_want rfl 25 _ rfl (w.heap.size) rfl 25 (irow .u8 key) (0, 0) _ rK Tryd.underlying25 rfl (infok8 _ hkl) ?_) | fail)
  refine (r_expand4 key info n _ _ hkl hkz (hI.keep hw) (by omega) hn).mono ?_
  rintro e_ w5 ⟨x, rfl, hx, hb⟩
  have s45 := hb.size
  replace rK := keep hb rK
  replace ri := keep hb ri
  replace ro := keep hb ro
  replace ra := keep hb ra
  replace rb := keep hb rb
  replace hw := Below.after hw hb
  clear hb
  go_wp2_with (first | (refine wpList_load_want rfl 25 _ rfl (w.heap.size) rfl 25 (irow .u8 key) (0, 0) _ rK Tryd.underlying25 rfl (infok8 _ hkl) ?_) | fail)
  refine (r_expand4 key info 40 _ _ hkl hkz (hI.keep hw) (by omega) (by decide)).mono ?_
  rintro e_ w6 ⟨y, rfl, hy, hb⟩
  have s56 := hb.size
  replace rK := keep hb rK
  replace ri := keep hb ri
  replace ro := keep hb ro
  replace ra := keep hb ra
  replace rb := keep hb rb
  replace hx := hx.keep hb
  replace hw := Below.after hw hb
  clear hb
  go_wp2_with (fail)
  refine (l_same_eq (xpd key info n) w6 _ _ (Bys.of_rowN ra (by rw [xpd_len]; omega) (xpd_bd _ _ _) (xpd_len _ _ _)) hx.1).mono ?_
  rintro e_ w7 ⟨rfl, hb⟩
  have s67 := hb.size
  replace rK := keep hb rK
  replace ri := keep hb ri
  replace ro := keep hb ro
  replace ra := keep hb ra
  replace rb := keep hb rb
  replace hx := hx.keep hb
  replace hy := hy.keep hb
  replace hw := Below.after hw hb
  clear hb
  go_wp2_with (fail)
  refine (l_same_eq (xpd key info n) w7 _ _ (Bys.of_rowN rb (by rw [xpd_len]; omega) (xpd_bd _ _ _) (xpd_len _ _ _)) hx.1).mono ?_
  rintro e_ w8 ⟨rfl, hb⟩
  have s78 := hb.size
  replace rK := keep hb rK
  replace ri := keep hb ri
  replace ro := keep hb ro
  replace ra := keep hb ra
  replace rb := keep hb rb
  replace hx := hx.keep hb
  replace hy := hy.keep hb
  replace hw := Below.after hw hb
  clear hb
  go_wp2_with (fail)
  refine (l_same_eq (xpd key info 40) w8 _ _ (Bys.of_rowN ro (by rw [xpd_len]; omega) (xpd_bd _ _ _) (xpd_len _ _ _)) hy.1).mono ?_
  rintro e_ w9 ⟨rfl, hb⟩
  have s89 := hb.size
  replace rK := keep hb rK
  replace ri := keep hb ri
  replace ro := keep hb ro
  replace ra := keep hb ra
  replace rb := keep hb rb
  replace hx := hx.keep hb
  replace hy := hy.keep hb
  replace hw := Below.after hw hb
  clear hb
  go_wp2_with (fail)
  refine (l_left info gi w9 _ (hI.1.keep hw) (by omega) ri).mono ?_
  rintro e_ wa ⟨rfl, hb⟩
  have s9a := hb.size
  replace rK := keep hb rK
  replace ri := keep hb ri
  replace ro := keep hb ro
  replace ra := keep hb ra
  replace rb := keep hb rb
  replace hw := Below.after hw hb
  clear hb hx hy
  go_wp2_with (fail)
  have hba : Below wa.heap.size wa (wa.alloc (.cells #[.slice (some ⟨ga, 0, none⟩) n n, .slice (some ⟨go, 0, none⟩) 40 40, .slice (some ⟨gb, 0, none⟩) n n] 22)) := (Below.refl _ _).alloc (Nat.le_refl _) _
  have rgl := hp1_0 wa (.cells #[.slice (some ⟨ga, 0, none⟩) n n, .slice (some ⟨go, 0, none⟩) 40 40, .slice (some ⟨gb, 0, none⟩) n n] 22)
  have hT : AptR (wa.alloc (.cells #[.slice (some ⟨ga, 0, none⟩) n n, .slice (some ⟨go, 0, none⟩) 40 40, .slice (some ⟨gb, 0, none⟩) n n] 22)) [(some ga, n), (some go, 40), (some gb, n)] fun _ _ => True := aptT_some (keep hba ra) (xpd_len _ _ _) (aptT_some (keep hba ro) (xpd_len _ _ _) (aptT_some (keep hba rb) (xpd_len _ _ _) (aptT_nil _)))
  have hD : AptD [(some ga, n), (some go, 40), (some gb, n)] := by
    intro i j g m n hi hj
    rcases i with _ | _ | _ | i <;> rcases j with _ | _ | _ | j <;> simp at hi hj <;> omega
  have hlo : ∀ (i : Nat) g m, ([(some ga, n), (some go, 40), (some gb, n)] : List (Option Nat × Nat))[i]? = some (some g, m) → w1.heap.size ≤ g ∧ g ≠ wa.heap.size ∧ m ≤ 140737488350000 := by
    intro i g m hi
    have lwa := lt_of_row ro
    have lwb := lt_of_row rb
    have lwc := lt_of_row ra
    rcases i with _ | _ | _ | i <;> simp at hi <;> omega
  have s1a : w1.heap.size ≤ wa.heap.size := by omega
  replace rK := keep hba rK
  replace ri := keep hba ri
  replace hw := Below.after hw hba
  refine (l_apart [(some ga, n), (some go, 40), (some gb, n)] wa.heap.size w1.heap.size _ (by rw [size_alloc1]; omega) (by simp) rgl hT hD hlo).mono ?_
  rintro e_ wb ⟨rfl, hb⟩
  replace rK : wb.heap[w.heap.size]? = some (.cells (irow .u8 key) 25 (0, 0)) := (hb.block _ (by omega)).trans rK
  replace ri : wb.heap[gi]? = some (.cells (irow .u8 (info ++ mk4 80)) 5 (0, 0)) := (hb.block _ li).trans ri
  replace hw := hw.trans (hb.mono (show w.heap.size ≤ w1.heap.size by omega))
  clear hb hba rgl hT hD hlo ra rb ro
  go_wp2_with (fail)
  refine (l_left info gi wb _ (hI.1.keep hw) (by omega) ri).mono ?_
  rintro e_ wc ⟨rfl, hb⟩
  replace rK := keep hb rK
  replace ri := keep hb ri
  replace hw := Below.after hw hb
  clear hb
  have tI := tn4_len info
  have hiz2 := tn4_bd info
  go_wp2_with (fail)
  refine (l_turned info gi wc _ (hI.1.keep hw) (by omega) ri).mono ?_
  rintro e_ wd ⟨rfl, rt, rid, hgr⟩
  have lKc := lt_of_row rK
  replace rK : wd.heap[w.heap.size]? = _ := (hgr.block _ lKc (by intro e; injection e with e; omega)).trans rK
  replace hw := hw.grown hgr hw.size (fun k h => by injection h with h; omega)
  clear hgr ri
  have ri := rid
  clear rid
  generalize wc.heap.size = gt at *
  go_wp2_with (fail)
  have hbd : Below wd.heap.size wd wd.drew := below_drN (Below.refl _ _) 1
  have hBi : Bys wd.drew (.slice (some ⟨gi, 0, none⟩) info.length (info.length + 80)) (tn4 info) := by rw [← tI]; exact Bys.of_prefix (keep hbd ri) (by omega) hiz2 _
  have cX := ax_yes key (tn4 info) n wd.drew _ ((hS.below hw).below hbd) ((hK.below hw).below hbd) hkl hkz hBi (fun a l c h => by cases h; omega) (by omega) hn
  refine wp_region_noPanic ?_
  refine wp_region_any (by kernel_rfl) ?_
  change wpAny _ _ _ _ _ _ _ (World.drew _)
  refine wpAny_take (i := 1) (v := ?v30) rfl (by kernel_rfl) (by kernel_rfl) (by kernel_rfl) (fun _ _ _ h => h) (Or.inl ⟨by rfl, ?y30⟩) ?r30
  case y30 =>
    intro w_
    go_simp
    try with_reducible rfl
  simp only [Act.put, List.getElem_toArray, List.getElem_cons_succ, List.getElem_cons_zero, List.setIfInBounds_toArray, List.set_cons_succ, List.set_cons_zero]
  refine wpAny_take (i := 2) (v := ?v31) rfl (by kernel_rfl) (by kernel_rfl) (by kernel_rfl) (fun _ _ _ h => h) (Or.inl ⟨by rfl, ?y31⟩) ?r31
  case y31 =>
    intro w_
    go_simp
    try with_reducible rfl
  simp only [Act.put, List.getElem_toArray, List.getElem_cons_succ, List.getElem_cons_zero, List.setIfInBounds_toArray, List.set_cons_succ, List.set_cons_zero]
  refine wpAny_take (i := 3) (v := ?v32) rfl (by kernel_rfl) (by kernel_rfl) (by kernel_rfl) (fun _ _ _ h => h) (Or.inl ⟨by rfl, ?y32⟩) ?r32
  case y32 =>
    intro w_
    go_simp
    try with_reducible rfl
  simp only [Act.put, List.getElem_toArray, List.getElem_cons_succ, List.getElem_cons_zero, List.setIfInBounds_toArray, List.set_cons_succ, List.set_cons_zero]
  refine wpAny_take (i := 4) (v := ?v33) rfl (by kernel_rfl) (by kernel_rfl) (by kernel_rfl) (fun _ _ _ h => h) (Or.inl ⟨by rfl, ?y33⟩) ?r33
  case y33 =>
    intro w_
    go_simp
    try with_reducible rfl
  simp only [Act.put, List.getElem_toArray, List.getElem_cons_succ, List.getElem_cons_zero, List.setIfInBounds_toArray, List.set_cons_succ, List.set_cons_zero]
  refine wpAny_take (i := 5) (v := ?v34) rfl (by kernel_rfl) (by kernel_rfl) (by kernel_rfl) (fun _ _ _ h => h) (Or.inl ⟨by rfl, ?y34⟩) ?r34
  case y34 =>
    intro w_
    go_simp
    try with_reducible rfl
  simp only [Act.put, List.getElem_toArray, List.getElem_cons_succ, List.getElem_cons_zero, List.setIfInBounds_toArray, List.set_cons_succ, List.set_cons_zero]
  refine wpAny_ready (rs := [0]) (fuel := 6) (by kernel_rfl) (by simp) (AllReady.cons rfl (fun K' hK => ?_) AllReady.nil)
  rw [if_pos (by kernel_rfl)]
  simp only [List.getElem_toArray, List.getElem_cons_zero]
  refine wp_load_row 25 _ rfl (w.heap.size) rfl 25 (irow .u8 key) (0, 0) _ (keep hbd rK) Tryd.underlying25 rfl (infok8 _ hkl) (hK _ _ ?_)
  simp only [Act.put, List.setIfInBounds_toArray, List.set_cons_succ, List.set_cons_zero]
  clear hK
  refine wpAny_ready (rs := [6]) (fuel := 5) (by kernel_rfl) (by simp) (AllReady.cons rfl (fun K' hK => ?_) AllReady.nil)
  rw [if_pos (by kernel_rfl)]
  simp only [List.getElem_toArray, List.getElem_cons_succ, List.getElem_cons_zero]
  refine wp_call_ex (f := 24) (by kernel_rfl) (cX) (fun v_ we hX => hK _ _ ?_)
  simp only [Act.put, List.setIfInBounds_toArray, List.set_cons_succ, List.set_cons_zero]
  clear hK
  obtain ⟨gc, rfl, lgc, rc, hb⟩ := hX
  refine wpAny_take (i := 7) (v := ?v35) rfl (by kernel_rfl) (by kernel_rfl) (by kernel_rfl) (fun _ _ _ h => h) (Or.inl ⟨by rfl, ?y35⟩) ?r35
  case y35 =>
    intro w_
    go_simp
    try with_reducible rfl
  simp only [Act.put, List.getElem_toArray, List.getElem_cons_succ, List.getElem_cons_zero, List.setIfInBounds_toArray, List.set_cons_succ, List.set_cons_zero]
  refine wpAny_take (i := 8) (v := ?v36) rfl (by kernel_rfl) (by kernel_rfl) (by kernel_rfl) (fun _ _ _ h => h) (Or.inl ⟨by rfl, ?y36⟩) ?r36
  case y36 =>
    intro w_
    go_simp
    try with_reducible rfl
  simp only [Act.put, List.getElem_toArray, List.getElem_cons_succ, List.getElem_cons_zero, List.setIfInBounds_toArray, List.set_cons_succ, List.set_cons_zero]
  refine wpAny_take (i := 9) (v := ?v37) rfl (by kernel_rfl) (by kernel_rfl) (by kernel_rfl) (fun _ _ _ h => h) (Or.inl ⟨by rfl, ?y37⟩) ?r37
  case y37 =>
    intro w_
    go_simp
    try with_reducible rfl
  simp only [Act.put, List.getElem_toArray, List.getElem_cons_succ, List.getElem_cons_zero, List.setIfInBounds_toArray, List.set_cons_succ, List.set_cons_zero]
  refine wpAny_take (i := 10) (v := ?v38) rfl (by kernel_rfl) (by kernel_rfl) (by kernel_rfl) (fun _ _ _ h => h) (Or.inl ⟨by rfl, ?y38⟩) ?r38
  case y38 =>
    intro w_
    go_simp
    try with_reducible rfl
  simp only [Act.put, List.getElem_toArray, List.getElem_cons_succ, List.getElem_cons_zero, List.setIfInBounds_toArray, List.set_cons_succ, List.set_cons_zero]
  refine wpAny_take (i := 11) (v := ?v39) rfl (by kernel_rfl) (by kernel_rfl) (by kernel_rfl) (fun _ _ _ h => h) (Or.inl ⟨by rfl, ?y39⟩) ?r39
  case y39 =>
    intro w_
    go_simp
    try with_reducible rfl
  simp only [Act.put, List.getElem_toArray, List.getElem_cons_succ, List.getElem_cons_zero, List.setIfInBounds_toArray, List.set_cons_succ, List.set_cons_zero]
  refine wpAny_done (by kernel_rfl) ?_ _
  refine NoPanic.normal ?_
  replace hb : Below wd.heap.size wd we := Below.after hbd hb
  replace lgc : wd.heap.size ≤ gc := lgc
  clear hbd hBi cX
  replace rK := keep hb rK
  replace rt := keep hb rt
  replace hw := Below.after hw hb
  clear hb ri
  go_wp2_with (first | (refine wpList_load_want rfl 25 _ rfl (w.heap.size) rfl 25 (irow .u8 key) (0, 0) _ rK Tryd.underlying25 rfl (infok8 _ hkl) ?_) | fail)
  refine (r_expand4 key (tn4 info) n _ _ hkl hkz ((NB.of_row rt (by omega) hiz2 _ _ tI).m (by omega)) (by omega) hn).mono ?_
  rintro e_ wf ⟨z, rfl, hz, hb⟩
  replace rc := keep hb rc
  replace hw := Below.after hw hb
  clear hb
  go_wp2_with (fail)
  refine (l_same_eq (xpd key (tn4 info) n) wf _ _ (Bys.of_rowN rc (by rw [xpd_len]; omega) (xpd_bd _ _ _) (xpd_len _ _ _)) hz.1).mono ?_
  rintro e_ wg ⟨rfl, hb⟩
  replace hw := Below.after hw hb
  clear hb
  go_wp2
  go_ret
  exact ⟨rfl, hw⟩
set_option maxRecDepth 100000 in
set_option maxHeartbeats 4000000 in
theorem macExpands_B (key info : List Int) (n : Int) (w : World) (vi : Value) (hS : Sta w) (hK : Kon w) (hkl : key.length = 32) (hkz : ∀ z ∈ key, 0 ≤ z ∧ z < 256) (hI : BysN w vi info) (hn : n < 0 ∨ 8160 < n) : Calls Tryd.prog 6 #[.agg (irow .u8 key), vi, .int .i64 n] w fun e w' => e = .returned (.bool true) ∧ Below w.heap.size w w' := by
  have hiz := bys_bd hI.1
  have hil : info.length ≤ 140737488351232 := hI.2.1
  replace hI := hI.toM
  have sl1 : ∀ g W, _ := fun g W => slice_to (some ⟨g, 0, none⟩) (info.length + 80) (info.length + 80) info.length (by omega) W
  have rK := hp1_0 w (.cells (irow .u8 key) 25)
  have hw : Below w.heap.size w (w.alloc (.cells (irow .u8 key) 25)) := (Below.refl _ _).alloc (Nat.le_refl _) _
  obtain ⟨ui, uic, rfl, _⟩ := id hI.1
  generalize hq : (if n < 0 then (1 : Int) else 2) = q
  go_enter Tryd.func6, Tryd.ntmps6
  go_wp2_with (first | (refine wpList_box rfl 25 _ rfl _ rfl (bK _) ?_) | fail)
  generalize w.alloc (.cells (irow .u8 key) 25) = w0 at *
  have lK := lt_of_row rK
  refine (l_hand info w0 _ (hI.1.keep hw) (by omega)).mono ?_
  rintro e_ w1 ⟨rfl, ri, hb⟩
  replace rK := keep hb rK
  replace hw := Below.after hw hb
  clear hb
  generalize w0.heap.size = gi at *
  have li := lt_of_row ri
  go_wp2_with (fail)
  have hbd : Below w1.heap.size w1 w1.drew := below_drN (Below.refl _ _) 1
  have hBi : Bys w1.drew (.slice (some ⟨gi, 0, none⟩) info.length (info.length + 80)) info := by exact Bys.of_prefix (keep hbd ri) (by omega) hiz _
  have cX := a_expand_no key n w1.drew (.slice (some ⟨gi, 0, none⟩) info.length (info.length + 80)) hn
  rw [hq] at cX
  refine wp_region_noPanic ?_
  refine wp_region_any (by kernel_rfl) ?_
  change wpAny _ _ _ _ _ _ _ (World.drew _)
  refine wpAny_take (i := 1) (v := ?v40) rfl (by kernel_rfl) (by kernel_rfl) (by kernel_rfl) (fun _ _ _ h => h) (Or.inl ⟨by rfl, ?y40⟩) ?r40
  case y40 =>
    intro w_
    go_simp
    try with_reducible rfl
  simp only [Act.put, List.getElem_toArray, List.getElem_cons_succ, List.getElem_cons_zero, List.setIfInBounds_toArray, List.set_cons_succ, List.set_cons_zero]
  refine wpAny_take (i := 2) (v := ?v41) rfl (by kernel_rfl) (by kernel_rfl) (by kernel_rfl) (fun _ _ _ h => h) (Or.inl ⟨by rfl, ?y41⟩) ?r41
  case y41 =>
    intro w_
    go_simp
    try with_reducible rfl
  simp only [Act.put, List.getElem_toArray, List.getElem_cons_succ, List.getElem_cons_zero, List.setIfInBounds_toArray, List.set_cons_succ, List.set_cons_zero]
  refine wpAny_take (i := 3) (v := ?v42) rfl (by kernel_rfl) (by kernel_rfl) (by kernel_rfl) (fun _ _ _ h => h) (Or.inl ⟨by rfl, ?y42⟩) ?r42
  case y42 =>
    intro w_
    go_simp
    try with_reducible rfl
  simp only [Act.put, List.getElem_toArray, List.getElem_cons_succ, List.getElem_cons_zero, List.setIfInBounds_toArray, List.set_cons_succ, List.set_cons_zero]
  refine wpAny_take (i := 4) (v := ?v43) rfl (by kernel_rfl) (by kernel_rfl) (by kernel_rfl) (fun _ _ _ h => h) (Or.inl ⟨by rfl, ?y43⟩) ?r43
  case y43 =>
    intro w_
    go_simp
    try with_reducible rfl
  simp only [Act.put, List.getElem_toArray, List.getElem_cons_succ, List.getElem_cons_zero, List.setIfInBounds_toArray, List.set_cons_succ, List.set_cons_zero]
  refine wpAny_take (i := 5) (v := ?v44) rfl (by kernel_rfl) (by kernel_rfl) (by kernel_rfl) (fun _ _ _ h => h) (Or.inl ⟨by rfl, ?y44⟩) ?r44
  case y44 =>
    intro w_
    go_simp
    try with_reducible rfl
  simp only [Act.put, List.getElem_toArray, List.getElem_cons_succ, List.getElem_cons_zero, List.setIfInBounds_toArray, List.set_cons_succ, List.set_cons_zero]
  refine wpAny_ready (rs := [0]) (fuel := 6) (by kernel_rfl) (by simp) (AllReady.cons rfl (fun K' hK => ?_) AllReady.nil)
  rw [if_pos (by kernel_rfl)]
  simp only [List.getElem_toArray, List.getElem_cons_zero]
  refine wp_load_row 25 _ rfl (w.heap.size) rfl 25 (irow .u8 key) (0, 0) _ (keep hbd rK) Tryd.underlying25 rfl (infok8 _ hkl) (hK _ _ ?_)
  simp only [Act.put, List.setIfInBounds_toArray, List.set_cons_succ, List.set_cons_zero]
  clear hK
  refine wpAny_ready (rs := [6]) (fuel := 5) (by kernel_rfl) (by simp) (AllReady.cons rfl (fun K' hK => ?_) AllReady.nil)
  rw [if_pos (by kernel_rfl)]
  simp only [List.getElem_toArray, List.getElem_cons_succ, List.getElem_cons_zero]
  refine wp_call_ex (f := 24) (by kernel_rfl) (cX) (fun v_ w2 hX => hK _ _ ?_)
  simp only [Act.put, List.setIfInBounds_toArray, List.set_cons_succ, List.set_cons_zero]
  clear hK
  obtain ⟨rfl, hb⟩ := hX
  refine wpAny_take (i := 7) (v := ?v45) rfl (by kernel_rfl) (by kernel_rfl) (by kernel_rfl) (fun _ _ _ h => h) (Or.inl ⟨by rfl, ?y45⟩) ?r45
  case y45 =>
    intro w_
    go_simp
    try with_reducible rfl
  simp only [Act.put, List.getElem_toArray, List.getElem_cons_succ, List.getElem_cons_zero, List.setIfInBounds_toArray, List.set_cons_succ, List.set_cons_zero]
  refine wpAny_take (i := 8) (v := ?v46) rfl (by kernel_rfl) (by kernel_rfl) (by kernel_rfl) (fun _ _ _ h => h) (Or.inl ⟨by rfl, ?y46⟩) ?r46
  case y46 =>
    intro w_
    go_simp
    try with_reducible rfl
  simp only [Act.put, List.getElem_toArray, List.getElem_cons_succ, List.getElem_cons_zero, List.setIfInBounds_toArray, List.set_cons_succ, List.set_cons_zero]
  refine wpAny_take (i := 9) (v := ?v47) rfl (by kernel_rfl) (by kernel_rfl) (by kernel_rfl) (fun _ _ _ h => h) (Or.inl ⟨by rfl, ?y47⟩) ?r47
  case y47 =>
    intro w_
    go_simp
    try with_reducible rfl
  simp only [Act.put, List.getElem_toArray, List.getElem_cons_succ, List.getElem_cons_zero, List.setIfInBounds_toArray, List.set_cons_succ, List.set_cons_zero]
  refine wpAny_take (i := 10) (v := ?v48) rfl (by kernel_rfl) (by kernel_rfl) (by kernel_rfl) (fun _ _ _ h => h) (Or.inl ⟨by rfl, ?y48⟩) ?r48
  case y48 =>
    intro w_
    go_simp
    try with_reducible rfl
  simp only [Act.put, List.getElem_toArray, List.getElem_cons_succ, List.getElem_cons_zero, List.setIfInBounds_toArray, List.set_cons_succ, List.set_cons_zero]
  refine wpAny_take (i := 11) (v := ?v49) rfl (by kernel_rfl) (by kernel_rfl) (by kernel_rfl) (fun _ _ _ h => h) (Or.inl ⟨by rfl, ?y49⟩) ?r49
  case y49 =>
    intro w_
    go_simp
    try with_reducible rfl
  simp only [Act.put, List.getElem_toArray, List.getElem_cons_succ, List.getElem_cons_zero, List.setIfInBounds_toArray, List.set_cons_succ, List.set_cons_zero]
  refine wpAny_done (by kernel_rfl) ?_ _
  refine NoPanic.normal ?_
  replace hb : Below w1.heap.size w1 w2 := Below.after hbd hb
  skip
  clear hbd hBi cX
  have s12 := hb.size
  replace rK := keep hb rK
  replace ri := keep hb ri
  replace hw := Below.after hw hb
  clear hb
  go_wp2_with (fail)
  have hbd : Below w2.heap.size w2 w2.drew := below_drN (Below.refl _ _) 1
  have hBi : Bys w2.drew (.slice (some ⟨gi, 0, none⟩) info.length (info.length + 80)) info := by exact Bys.of_prefix (keep hbd ri) (by omega) hiz _
  have cX := ax_yes key info 40 w2.drew _ ((hS.below hw).below hbd) ((hK.below hw).below hbd) hkl hkz hBi (fun a l c h => by cases h; omega) (by omega) (by decide)
  replace cX : Calls Tryd.prog 24 #[.agg (irow .u8 key), .slice (some ⟨gi, 0, none⟩) info.length (info.length + 80), .int .i64 40] w2.drew _ := cX
  refine wp_region_noPanic ?_
  refine wp_region_any (by kernel_rfl) ?_
  change wpAny _ _ _ _ _ _ _ (World.drew _)
  refine wpAny_take (i := 1) (v := ?v50) rfl (by kernel_rfl) (by kernel_rfl) (by kernel_rfl) (fun _ _ _ h => h) (Or.inl ⟨by rfl, ?y50⟩) ?r50
  case y50 =>
    intro w_
    go_simp
    try with_reducible rfl
  simp only [Act.put, List.getElem_toArray, List.getElem_cons_succ, List.getElem_cons_zero, List.setIfInBounds_toArray, List.set_cons_succ, List.set_cons_zero]
  refine wpAny_take (i := 2) (v := ?v51) rfl (by kernel_rfl) (by kernel_rfl) (by kernel_rfl) (fun _ _ _ h => h) (Or.inl ⟨by rfl, ?y51⟩) ?r51
  case y51 =>
    intro w_
    go_simp
    try with_reducible rfl
  simp only [Act.put, List.getElem_toArray, List.getElem_cons_succ, List.getElem_cons_zero, List.setIfInBounds_toArray, List.set_cons_succ, List.set_cons_zero]
  refine wpAny_take (i := 3) (v := ?v52) rfl (by kernel_rfl) (by kernel_rfl) (by kernel_rfl) (fun _ _ _ h => h) (Or.inl ⟨by rfl, ?y52⟩) ?r52
  case y52 =>
    intro w_
    go_simp
    try with_reducible rfl
  simp only [Act.put, List.getElem_toArray, List.getElem_cons_succ, List.getElem_cons_zero, List.setIfInBounds_toArray, List.set_cons_succ, List.set_cons_zero]
  refine wpAny_take (i := 4) (v := ?v53) rfl (by kernel_rfl) (by kernel_rfl) (by kernel_rfl) (fun _ _ _ h => h) (Or.inl ⟨by rfl, ?y53⟩) ?r53
  case y53 =>
    intro w_
    go_simp
    try with_reducible rfl
  simp only [Act.put, List.getElem_toArray, List.getElem_cons_succ, List.getElem_cons_zero, List.setIfInBounds_toArray, List.set_cons_succ, List.set_cons_zero]
  refine wpAny_ready (rs := [0]) (fuel := 6) (by kernel_rfl) (by simp) (AllReady.cons rfl (fun K' hK => ?_) AllReady.nil)
  rw [if_pos (by kernel_rfl)]
  simp only [List.getElem_toArray, List.getElem_cons_zero]
  refine wp_load_row 25 _ rfl (w.heap.size) rfl 25 (irow .u8 key) (0, 0) _ (keep hbd rK) Tryd.underlying25 rfl (infok8 _ hkl) (hK _ _ ?_)
  simp only [Act.put, List.setIfInBounds_toArray, List.set_cons_succ, List.set_cons_zero]
  clear hK
  refine wpAny_ready (rs := [5]) (fuel := 5) (by kernel_rfl) (by simp) (AllReady.cons rfl (fun K' hK => ?_) AllReady.nil)
  rw [if_pos (by kernel_rfl)]
  simp only [List.getElem_toArray, List.getElem_cons_succ, List.getElem_cons_zero]
  refine wp_call_ex (f := 24) (by kernel_rfl) (cX) (fun v_ w3 hX => hK _ _ ?_)
  simp only [Act.put, List.setIfInBounds_toArray, List.set_cons_succ, List.set_cons_zero]
  clear hK
  obtain ⟨go, rfl, lgo, ro, hb⟩ := hX
  refine wpAny_take (i := 6) (v := ?v54) rfl (by kernel_rfl) (by kernel_rfl) (by kernel_rfl) (fun _ _ _ h => h) (Or.inl ⟨by rfl, ?y54⟩) ?r54
  case y54 =>
    intro w_
    go_simp
    try with_reducible rfl
  simp only [Act.put, List.getElem_toArray, List.getElem_cons_succ, List.getElem_cons_zero, List.setIfInBounds_toArray, List.set_cons_succ, List.set_cons_zero]
  refine wpAny_take (i := 7) (v := ?v55) rfl (by kernel_rfl) (by kernel_rfl) (by kernel_rfl) (fun _ _ _ h => h) (Or.inl ⟨by rfl, ?y55⟩) ?r55
  case y55 =>
    intro w_
    go_simp
    try with_reducible rfl
  simp only [Act.put, List.getElem_toArray, List.getElem_cons_succ, List.getElem_cons_zero, List.setIfInBounds_toArray, List.set_cons_succ, List.set_cons_zero]
  refine wpAny_take (i := 8) (v := ?v56) rfl (by kernel_rfl) (by kernel_rfl) (by kernel_rfl) (fun _ _ _ h => h) (Or.inl ⟨by rfl, ?y56⟩) ?r56
  case y56 =>
    intro w_
    go_simp
    try with_reducible rfl
  simp only [Act.put, List.getElem_toArray, List.getElem_cons_succ, List.getElem_cons_zero, List.setIfInBounds_toArray, List.set_cons_succ, List.set_cons_zero]
  refine wpAny_take (i := 9) (v := ?v57) rfl (by kernel_rfl) (by kernel_rfl) (by kernel_rfl) (fun _ _ _ h => h) (Or.inl ⟨by rfl, ?y57⟩) ?r57
  case y57 =>
    intro w_
    go_simp
    try with_reducible rfl
  simp only [Act.put, List.getElem_toArray, List.getElem_cons_succ, List.getElem_cons_zero, List.setIfInBounds_toArray, List.set_cons_succ, List.set_cons_zero]
  refine wpAny_take (i := 10) (v := ?v58) rfl (by kernel_rfl) (by kernel_rfl) (by kernel_rfl) (fun _ _ _ h => h) (Or.inl ⟨by rfl, ?y58⟩) ?r58
  case y58 =>
    intro w_
    go_simp
    try with_reducible rfl
  simp only [Act.put, List.getElem_toArray, List.getElem_cons_succ, List.getElem_cons_zero, List.setIfInBounds_toArray, List.set_cons_succ, List.set_cons_zero]
  refine wpAny_done (by kernel_rfl) ?_ _
  refine NoPanic.normal ?_
  replace hb : Below w2.heap.size w2 w3 := Below.after hbd hb
  replace lgo : w2.heap.size ≤ go := lgo
  clear hbd hBi cX
  have s23 := hb.size
  replace rK := keep hb rK
  replace ri := keep hb ri
  replace hw := Below.after hw hb
  clear hb
  have lo_ := lt_of_row ro
  go_wp2_with (fail)
  have hbd : Below w3.heap.size w3 w3.drew := below_drN (Below.refl _ _) 1
  have hBi : Bys w3.drew (.slice (some ⟨gi, 0, none⟩) info.length (info.length + 80)) info := by exact Bys.of_prefix (keep hbd ri) (by omega) hiz _
  have cX := a_expand_no key n w3.drew (.slice (some ⟨gi, 0, none⟩) info.length (info.length + 80)) hn
  rw [hq] at cX
  refine wp_region_noPanic ?_
  refine wp_region_any (by kernel_rfl) ?_
  change wpAny _ _ _ _ _ _ _ (World.drew _)
  refine wpAny_take (i := 1) (v := ?v59) rfl (by kernel_rfl) (by kernel_rfl) (by kernel_rfl) (fun _ _ _ h => h) (Or.inl ⟨by rfl, ?y59⟩) ?r59
  case y59 =>
    intro w_
    go_simp
    try with_reducible rfl
  simp only [Act.put, List.getElem_toArray, List.getElem_cons_succ, List.getElem_cons_zero, List.setIfInBounds_toArray, List.set_cons_succ, List.set_cons_zero]
  refine wpAny_take (i := 2) (v := ?v60) rfl (by kernel_rfl) (by kernel_rfl) (by kernel_rfl) (fun _ _ _ h => h) (Or.inl ⟨by rfl, ?y60⟩) ?r60
  case y60 =>
    intro w_
    go_simp
    try with_reducible rfl
  simp only [Act.put, List.getElem_toArray, List.getElem_cons_succ, List.getElem_cons_zero, List.setIfInBounds_toArray, List.set_cons_succ, List.set_cons_zero]
  refine wpAny_take (i := 3) (v := ?v61) rfl (by kernel_rfl) (by kernel_rfl) (by kernel_rfl) (fun _ _ _ h => h) (Or.inl ⟨by rfl, ?y61⟩) ?r61
  case y61 =>
    intro w_
    go_simp
    try with_reducible rfl
  simp only [Act.put, List.getElem_toArray, List.getElem_cons_succ, List.getElem_cons_zero, List.setIfInBounds_toArray, List.set_cons_succ, List.set_cons_zero]
  refine wpAny_take (i := 4) (v := ?v62) rfl (by kernel_rfl) (by kernel_rfl) (by kernel_rfl) (fun _ _ _ h => h) (Or.inl ⟨by rfl, ?y62⟩) ?r62
  case y62 =>
    intro w_
    go_simp
    try with_reducible rfl
  simp only [Act.put, List.getElem_toArray, List.getElem_cons_succ, List.getElem_cons_zero, List.setIfInBounds_toArray, List.set_cons_succ, List.set_cons_zero]
  refine wpAny_take (i := 5) (v := ?v63) rfl (by kernel_rfl) (by kernel_rfl) (by kernel_rfl) (fun _ _ _ h => h) (Or.inl ⟨by rfl, ?y63⟩) ?r63
  case y63 =>
    intro w_
    go_simp
    try with_reducible rfl
  simp only [Act.put, List.getElem_toArray, List.getElem_cons_succ, List.getElem_cons_zero, List.setIfInBounds_toArray, List.set_cons_succ, List.set_cons_zero]
  refine wpAny_ready (rs := [0]) (fuel := 6) (by kernel_rfl) (by simp) (AllReady.cons rfl (fun K' hK => ?_) AllReady.nil)
  rw [if_pos (by kernel_rfl)]
  simp only [List.getElem_toArray, List.getElem_cons_zero]
  refine wp_load_row 25 _ rfl (w.heap.size) rfl 25 (irow .u8 key) (0, 0) _ (keep hbd rK) Tryd.underlying25 rfl (infok8 _ hkl) (hK _ _ ?_)
  simp only [Act.put, List.setIfInBounds_toArray, List.set_cons_succ, List.set_cons_zero]
  clear hK
  refine wpAny_ready (rs := [6]) (fuel := 5) (by kernel_rfl) (by simp) (AllReady.cons rfl (fun K' hK => ?_) AllReady.nil)
  rw [if_pos (by kernel_rfl)]
  simp only [List.getElem_toArray, List.getElem_cons_succ, List.getElem_cons_zero]
  refine wp_call_ex (f := 24) (by kernel_rfl) (cX) (fun v_ w4 hX => hK _ _ ?_)
  simp only [Act.put, List.setIfInBounds_toArray, List.set_cons_succ, List.set_cons_zero]
  clear hK
  obtain ⟨rfl, hb⟩ := hX
  refine wpAny_take (i := 7) (v := ?v64) rfl (by kernel_rfl) (by kernel_rfl) (by kernel_rfl) (fun _ _ _ h => h) (Or.inl ⟨by rfl, ?y64⟩) ?r64
  case y64 =>
    intro w_
    go_simp
    try with_reducible rfl
  simp only [Act.put, List.getElem_toArray, List.getElem_cons_succ, List.getElem_cons_zero, List.setIfInBounds_toArray, List.set_cons_succ, List.set_cons_zero]
  refine wpAny_take (i := 8) (v := ?v65) rfl (by kernel_rfl) (by kernel_rfl) (by kernel_rfl) (fun _ _ _ h => h) (Or.inl ⟨by rfl, ?y65⟩) ?r65
  case y65 =>
    intro w_
    go_simp
    try with_reducible rfl
  simp only [Act.put, List.getElem_toArray, List.getElem_cons_succ, List.getElem_cons_zero, List.setIfInBounds_toArray, List.set_cons_succ, List.set_cons_zero]
  refine wpAny_take (i := 9) (v := ?v66) rfl (by kernel_rfl) (by kernel_rfl) (by kernel_rfl) (fun _ _ _ h => h) (Or.inl ⟨by rfl, ?y66⟩) ?r66
  case y66 =>
    intro w_
    go_simp
    try with_reducible rfl
  simp only [Act.put, List.getElem_toArray, List.getElem_cons_succ, List.getElem_cons_zero, List.setIfInBounds_toArray, List.set_cons_succ, List.set_cons_zero]
  refine wpAny_take (i := 10) (v := ?v67) rfl (by kernel_rfl) (by kernel_rfl) (by kernel_rfl) (fun _ _ _ h => h) (Or.inl ⟨by rfl, ?y67⟩) ?r67
  case y67 =>
    intro w_
    go_simp
    try with_reducible rfl
  simp only [Act.put, List.getElem_toArray, List.getElem_cons_succ, List.getElem_cons_zero, List.setIfInBounds_toArray, List.set_cons_succ, List.set_cons_zero]
  refine wpAny_take (i := 11) (v := ?v68) rfl (by kernel_rfl) (by kernel_rfl) (by kernel_rfl) (fun _ _ _ h => h) (Or.inl ⟨by rfl, ?y68⟩) ?r68
  case y68 =>
    intro w_
    go_simp
    try with_reducible rfl
  simp only [Act.put, List.getElem_toArray, List.getElem_cons_succ, List.getElem_cons_zero, List.setIfInBounds_toArray, List.set_cons_succ, List.set_cons_zero]
  refine wpAny_done (by kernel_rfl) ?_ _
  refine NoPanic.normal ?_
  replace hb : Below w3.heap.size w3 w4 := Below.after hbd hb
  skip
  clear hbd hBi cX
  have s34 := hb.size
  replace rK := keep hb rK
  replace ri := keep hb ri
  replace ro := keep hb ro
  replace hw := Below.after hw hb
  clear hb
  go_wp2_with (first | (refine wpList_load_want rfl 25 _ rfl (w.heap.size) rfl 25 (irow .u8 key) (0, 0) _ rK Tryd.underlying25 rfl (infok8 _ hkl) ?_) | fail)
  have cN := r_expand_no key n w4 (.slice ui info.length uic) hn
  rw [hq] at cN
  refine cN.mono ?_
  rintro e_ w5 ⟨x, rfl, rfl, hb⟩
  clear cN
  have s45 := hb.size
  replace rK := keep hb rK
  replace ri := keep hb ri
  replace ro := keep hb ro
  replace hw := Below.after hw hb
  clear hb
  go_wp2_with (first | (refine wpList_load_want rfl 25 _ rfl (w.heap.size) rfl 25 (irow .u8 key) (0, 0) _ rK Tryd.underlying25 rfl (infok8 _ hkl) ?_) | fail)
  refine (r_expand4 key info 40 _ _ hkl hkz (hI.keep hw) (by omega) (by decide)).mono ?_
  rintro e_ w6 ⟨y, rfl, hy, hb⟩
  have s56 := hb.size
  replace rK := keep hb rK
  replace ri := keep hb ri
  replace ro := keep hb ro
  replace hw := Below.after hw hb
  clear hb
  go_wp2_with (fail)
  refine (l_same_eq [] w6 _ _ (bys_nil _) (bys_nil _)).mono ?_
  rintro e_ w7 ⟨rfl, hb⟩
  have s67 := hb.size
  replace rK := keep hb rK
  replace ri := keep hb ri
  replace ro := keep hb ro
  replace hy := hy.keep hb
  replace hw := Below.after hw hb
  clear hb
  go_wp2_with (fail)
  refine (l_same_eq [] w7 _ _ (bys_nil _) (bys_nil _)).mono ?_
  rintro e_ w8 ⟨rfl, hb⟩
  have s78 := hb.size
  replace rK := keep hb rK
  replace ri := keep hb ri
  replace ro := keep hb ro
  replace hy := hy.keep hb
  replace hw := Below.after hw hb
  clear hb
  go_wp2_with (fail)
  refine (l_same_eq (xpd key info 40) w8 _ _ (Bys.of_rowN ro (by rw [xpd_len]; omega) (xpd_bd _ _ _) (xpd_len _ _ _)) hy.1).mono ?_
  rintro e_ w9 ⟨rfl, hb⟩
  have s89 := hb.size
  replace rK := keep hb rK
  replace ri := keep hb ri
  replace ro := keep hb ro
  replace hy := hy.keep hb
  replace hw := Below.after hw hb
  clear hb
  go_wp2_with (fail)
  refine (l_left info gi w9 _ (hI.1.keep hw) (by omega) ri).mono ?_
  rintro e_ wa ⟨rfl, hb⟩
  have s9a := hb.size
  replace rK := keep hb rK
  replace ri := keep hb ri
  replace ro := keep hb ro
  replace hw := Below.after hw hb
  clear hb hy
  go_wp2_with (fail)
  have hba : Below wa.heap.size wa (wa.alloc (.cells #[.slice none 0 0, .slice (some ⟨go, 0, none⟩) 40 40, .slice none 0 0] 22)) := (Below.refl _ _).alloc (Nat.le_refl _) _
  have rgl := hp1_0 wa (.cells #[.slice none 0 0, .slice (some ⟨go, 0, none⟩) 40 40, .slice none 0 0] 22)
  have hT : AptR (wa.alloc (.cells #[.slice none 0 0, .slice (some ⟨go, 0, none⟩) 40 40, .slice none 0 0] 22)) [(none, 0), (some go, 40), (none, 0)] fun _ _ => True := aptT_none (aptT_some (keep hba ro) (xpd_len _ _ _) (aptT_none (aptT_nil _)))
  have hD : AptD [(none, 0), (some go, 40), (none, 0)] := by
    intro i j g m n hi hj
    rcases i with _ | _ | _ | i <;> rcases j with _ | _ | _ | j <;> simp at hi hj <;> omega
  have hlo : ∀ (i : Nat) g m, ([(none, 0), (some go, 40), (none, 0)] : List (Option Nat × Nat))[i]? = some (some g, m) → w1.heap.size ≤ g ∧ g ≠ wa.heap.size ∧ m ≤ 140737488350000 := by
    intro i g m hi
    have lwa := lt_of_row ro
    skip
    skip
    rcases i with _ | _ | _ | i <;> simp at hi <;> omega
  have s1a : w1.heap.size ≤ wa.heap.size := by omega
  replace rK := keep hba rK
  replace ri := keep hba ri
  replace hw := Below.after hw hba
  refine (l_apart [(none, 0), (some go, 40), (none, 0)] wa.heap.size w1.heap.size _ (by rw [size_alloc1]; omega) (by simp) rgl hT hD hlo).mono ?_
  rintro e_ wb ⟨rfl, hb⟩
  replace rK : wb.heap[w.heap.size]? = some (.cells (irow .u8 key) 25 (0, 0)) := (hb.block _ (by omega)).trans rK
  replace ri : wb.heap[gi]? = some (.cells (irow .u8 (info ++ mk4 80)) 5 (0, 0)) := (hb.block _ li).trans ri
  replace hw := hw.trans (hb.mono (show w.heap.size ≤ w1.heap.size by omega))
  clear hb hba rgl hT hD hlo  ro
  go_wp2_with (fail)
  refine (l_left info gi wb _ (hI.1.keep hw) (by omega) ri).mono ?_
  rintro e_ wc ⟨rfl, hb⟩
  replace rK := keep hb rK
  replace ri := keep hb ri
  replace hw := Below.after hw hb
  clear hb
  have tI := tn4_len info
  have hiz2 := tn4_bd info
  go_wp2_with (fail)
  refine (l_turned info gi wc _ (hI.1.keep hw) (by omega) ri).mono ?_
  rintro e_ wd ⟨rfl, rt, rid, hgr⟩
  have lKc := lt_of_row rK
  replace rK : wd.heap[w.heap.size]? = _ := (hgr.block _ lKc (by intro e; injection e with e; omega)).trans rK
  replace hw := hw.grown hgr hw.size (fun k h => by injection h with h; omega)
  clear hgr ri
  have ri := rid
  clear rid
  generalize wc.heap.size = gt at *
  go_wp2_with (fail)
  have hbd : Below wd.heap.size wd wd.drew := below_drN (Below.refl _ _) 1
  have hBi : Bys wd.drew (.slice (some ⟨gi, 0, none⟩) info.length (info.length + 80)) (tn4 info) := by rw [← tI]; exact Bys.of_prefix (keep hbd ri) (by omega) hiz2 _
  have cX := a_expand_no key n wd.drew (.slice (some ⟨gi, 0, none⟩) info.length (info.length + 80)) hn
  rw [hq] at cX
  refine wp_region_noPanic ?_
  refine wp_region_any (by kernel_rfl) ?_
  change wpAny _ _ _ _ _ _ _ (World.drew _)
  refine wpAny_take (i := 1) (v := ?v69) rfl (by kernel_rfl) (by kernel_rfl) (by kernel_rfl) (fun _ _ _ h => h) (Or.inl ⟨by rfl, ?y69⟩) ?r69
  case y69 =>
    intro w_
    go_simp
    try with_reducible rfl
  simp only [Act.put, List.getElem_toArray, List.getElem_cons_succ, List.getElem_cons_zero, List.setIfInBounds_toArray, List.set_cons_succ, List.set_cons_zero]
  refine wpAny_take (i := 2) (v := ?v70) rfl (by kernel_rfl) (by kernel_rfl) (by kernel_rfl) (fun _ _ _ h => h) (Or.inl ⟨by rfl, ?y70⟩) ?r70
  case y70 =>
    intro w_
    go_simp
    try with_reducible rfl
  simp only [Act.put, List.getElem_toArray, List.getElem_cons_succ, List.getElem_cons_zero, List.setIfInBounds_toArray, List.set_cons_succ, List.set_cons_zero]
  refine wpAny_take (i := 3) (v := ?v71) rfl (by kernel_rfl) (by kernel_rfl) (by kernel_rfl) (fun _ _ _ h => h) (Or.inl ⟨by rfl, ?y71⟩) ?r71
  case y71 =>
    intro w_
    go_simp
    try with_reducible rfl
  simp only [Act.put, List.getElem_toArray, List.getElem_cons_succ, List.getElem_cons_zero, List.setIfInBounds_toArray, List.set_cons_succ, List.set_cons_zero]
  refine wpAny_take (i := 4) (v := ?v72) rfl (by kernel_rfl) (by kernel_rfl) (by kernel_rfl) (fun _ _ _ h => h) (Or.inl ⟨by rfl, ?y72⟩) ?r72
  case y72 =>
    intro w_
    go_simp
    try with_reducible rfl
  simp only [Act.put, List.getElem_toArray, List.getElem_cons_succ, List.getElem_cons_zero, List.setIfInBounds_toArray, List.set_cons_succ, List.set_cons_zero]
  refine wpAny_take (i := 5) (v := ?v73) rfl (by kernel_rfl) (by kernel_rfl) (by kernel_rfl) (fun _ _ _ h => h) (Or.inl ⟨by rfl, ?y73⟩) ?r73
  case y73 =>
    intro w_
    go_simp
    try with_reducible rfl
  simp only [Act.put, List.getElem_toArray, List.getElem_cons_succ, List.getElem_cons_zero, List.setIfInBounds_toArray, List.set_cons_succ, List.set_cons_zero]
  refine wpAny_ready (rs := [0]) (fuel := 6) (by kernel_rfl) (by simp) (AllReady.cons rfl (fun K' hK => ?_) AllReady.nil)
  rw [if_pos (by kernel_rfl)]
  simp only [List.getElem_toArray, List.getElem_cons_zero]
  refine wp_load_row 25 _ rfl (w.heap.size) rfl 25 (irow .u8 key) (0, 0) _ (keep hbd rK) Tryd.underlying25 rfl (infok8 _ hkl) (hK _ _ ?_)
  simp only [Act.put, List.setIfInBounds_toArray, List.set_cons_succ, List.set_cons_zero]
  clear hK
  refine wpAny_ready (rs := [6]) (fuel := 5) (by kernel_rfl) (by simp) (AllReady.cons rfl (fun K' hK => ?_) AllReady.nil)
  rw [if_pos (by kernel_rfl)]
  simp only [List.getElem_toArray, List.getElem_cons_succ, List.getElem_cons_zero]
  refine wp_call_ex (f := 24) (by kernel_rfl) (cX) (fun v_ we hX => hK _ _ ?_)
  simp only [Act.put, List.setIfInBounds_toArray, List.set_cons_succ, List.set_cons_zero]
  clear hK
  obtain ⟨rfl, hb⟩ := hX
  refine wpAny_take (i := 7) (v := ?v74) rfl (by kernel_rfl) (by kernel_rfl) (by kernel_rfl) (fun _ _ _ h => h) (Or.inl ⟨by rfl, ?y74⟩) ?r74
  case y74 =>
    intro w_
    go_simp
    try with_reducible rfl
  simp only [Act.put, List.getElem_toArray, List.getElem_cons_succ, List.getElem_cons_zero, List.setIfInBounds_toArray, List.set_cons_succ, List.set_cons_zero]
  refine wpAny_take (i := 8) (v := ?v75) rfl (by kernel_rfl) (by kernel_rfl) (by kernel_rfl) (fun _ _ _ h => h) (Or.inl ⟨by rfl, ?y75⟩) ?r75
  case y75 =>
    intro w_
    go_simp
    try with_reducible rfl
  simp only [Act.put, List.getElem_toArray, List.getElem_cons_succ, List.getElem_cons_zero, List.setIfInBounds_toArray, List.set_cons_succ, List.set_cons_zero]
  refine wpAny_take (i := 9) (v := ?v76) rfl (by kernel_rfl) (by kernel_rfl) (by kernel_rfl) (fun _ _ _ h => h) (Or.inl ⟨by rfl, ?y76⟩) ?r76
  case y76 =>
    intro w_
    go_simp
    try with_reducible rfl
  simp only [Act.put, List.getElem_toArray, List.getElem_cons_succ, List.getElem_cons_zero, List.setIfInBounds_toArray, List.set_cons_succ, List.set_cons_zero]
  refine wpAny_take (i := 10) (v := ?v77) rfl (by kernel_rfl) (by kernel_rfl) (by kernel_rfl) (fun _ _ _ h => h) (Or.inl ⟨by rfl, ?y77⟩) ?r77
  case y77 =>
    intro w_
    go_simp
    try with_reducible rfl
  simp only [Act.put, List.getElem_toArray, List.getElem_cons_succ, List.getElem_cons_zero, List.setIfInBounds_toArray, List.set_cons_succ, List.set_cons_zero]
  refine wpAny_take (i := 11) (v := ?v78) rfl (by kernel_rfl) (by kernel_rfl) (by kernel_rfl) (fun _ _ _ h => h) (Or.inl ⟨by rfl, ?y78⟩) ?r78
  case y78 =>
    intro w_
    go_simp
    try with_reducible rfl
  simp only [Act.put, List.getElem_toArray, List.getElem_cons_succ, List.getElem_cons_zero, List.setIfInBounds_toArray, List.set_cons_succ, List.set_cons_zero]
  refine wpAny_done (by kernel_rfl) ?_ _
  refine NoPanic.normal ?_
  replace hb : Below wd.heap.size wd we := Below.after hbd hb
  skip
  clear hbd hBi cX
  replace rK := keep hb rK
  replace rt := keep hb rt
  replace hw := Below.after hw hb
  clear hb ri
  go_wp2_with (first | (refine wpList_load_want rfl 25 _ rfl (w.heap.size) rfl 25 (irow .u8 key) (0, 0) _ rK Tryd.underlying25 rfl (infok8 _ hkl) ?_) | fail)
  have cN := r_expand_no key n we (.slice (some ⟨gt, 0, none⟩) info.length info.length) hn
  rw [hq] at cN
  refine cN.mono ?_
  rintro e_ wf ⟨z, rfl, rfl, hb⟩
  clear cN
  replace hw := Below.after hw hb
  clear hb
  go_wp2_with (fail)
  refine (l_same_eq [] wf _ _ (bys_nil _) (bys_nil _)).mono ?_
  rintro e_ wg ⟨rfl, hb⟩
  replace hw := Below.after hw hb
  clear hb
  go_wp2
  go_ret
  exact ⟨rfl, hw⟩
theorem macExpands_any (key info : List Int) (n : Int) (w : World) (vi : Value) (hS : Sta w) (hK : Kon w) (hkl : key.length = 32) (hkz : ∀ z ∈ key, 0 ≤ z ∧ z < 256) (hI : BysN w vi info) : Calls Tryd.prog 6 #[.agg (irow .u8 key), vi, .int .i64 n] w fun e w' => e = .returned (.bool true) ∧ Below w.heap.size w w' := by
  by_cases hn : n < 0 ∨ 8160 < n
  · exact macExpands_B key info n w vi hS hK hkl hkz hI hn
  · obtain ⟨m, rfl⟩ := Int.eq_ofNat_of_zero_le (show 0 ≤ n by omega)
    exact macExpands_A key info m w vi hS hK hkl hkz hI (by omega)

end Go.Proofs.YtmcokphkaekdaaaDoor

namespace Go.Proofs.YtmcokphkaekdaaaDoor
open Go Go.RowKit Go.Sort
attribute [local go_sem] setCell_drewN alloc_drewN

theorem row2_0 {W : World} {g : Nat} {t : TypeId} {u v : Value} (h : W.heap[g]? = some (.cells #[u, v] t (0, 0))) : W.cell? ⟨g, 0, none⟩ = some u := cell_of h rfl
theorem row2_1 {W : World} {g : Nat} {t : TypeId} {u v : Value} (h : W.heap[g]? = some (.cells #[u, v] t (0, 0))) : W.cell? ⟨g, 1, none⟩ = some v := cell_of h rfl
set_option maxRecDepth 100000 in
set_option maxHeartbeats 8000000 in
theorem r_mnew (key : List Int) (w : World) (v : Value) (hB : BysM w v key) (hl : key.length ≤ 140737488355264) : Calls Tryd.prog 15 #[v] w fun e w' => ∃ g vK, e = .returned (.pointer (some ⟨g, 0, none⟩)) ∧ w.heap.size ≤ g ∧ w'.heap[g]? = some (.cells #[vK, .slice none 0 0] 65 (0, 0)) ∧ w'.ownsRow w.heap.size 5 1 vK key.length (key.map (Value.int .u8)) ∧ (∀ q, vK.ownBlock = some q → q < g) ∧ Below w.heap.size w w' := by
  have hba : Below w.heap.size w (w.alloc (.cells #[v] 22)) := (Below.refl _ _).alloc (Nat.le_refl _) _
  have hP := Pcs.one (hp1_0 w (.cells #[v] 22)) (hB.nb.keep hba)
  obtain ⟨u, uc, rfl, _⟩ := id hB.1
  go_enter Tryd.func15, Tryd.ntmps15
  go_wp2_with (fail)
  generalize w.alloc (.cells #[.slice u key.length uc] 22) = w1 at *
  refine (r_joined [key] _ _ hP (by simp; omega)).mono ?_
  rintro e_ w2 ⟨vK, rfl, oK, hb⟩
  rw [show [key].flatten = key by simp] at oK
  replace oK : w2.ownsRow w.heap.size 5 1 vK _ _ := own_lower oK hba.size
  replace hb := Below.after hba hb
  have hs := hb.size
  have hlt : ∀ q, vK.ownBlock = some q → q < w2.heap.size := fun q h => (oK.lt q h).2
  clear hba hP
  obtain ⟨ko, kc, rfl⟩ := slen_own oK
  have r2 := hp1_0 w2 (.cells #[.slice ko key.length kc, .slice none 0 0] 65)
  have hb2 : Below w2.heap.size w2 (w2.alloc (.cells #[.slice ko key.length kc, .slice none 0 0] 65)) := (Below.refl _ _).alloc (Nat.le_refl _) _
  go_wp2
  go_ret
  exact ⟨_, _, rfl, hs, r2, own_keep oK hb2, hlt, Below.after hb hb2⟩
set_option maxRecDepth 100000 in
set_option maxHeartbeats 8000000 in
theorem r_mwrite (c b : List Int) (g : Nat) (w : World) (vK vC vb : Value) (rR : w.heap[g]? = some (.cells #[vK, vC] 65 (0, 0))) (hC : NB w vC c) (hB : NB w vb b) (hl : c.length + b.length ≤ 140737488355264) : Calls Tryd.prog 17 #[.pointer (some ⟨g, 0, none⟩), vb] w fun e w' => ∃ vC', e = .returned (.tuple #[]) ∧ w'.heap[g]? = some (.cells #[vK, vC'] 65 (0, 0)) ∧ w'.ownsRow w.heap.size 5 1 vC' (c ++ b).length ((c ++ b).map (Value.int .u8)) ∧ w.grownBy w' (some g) := by
  have hc1 := row2_1 rR
  have hlg := lt_of_row rR
  obtain ⟨co, cc, rfl, _⟩ := hC.form
  obtain ⟨bo, bc, rfl, _⟩ := hB.form
  have hba : Below w.heap.size w (w.alloc (.cells #[.slice co c.length cc, .slice bo b.length bc] 22)) := (Below.refl _ _).alloc (Nat.le_refl _) _
  have hP := Pcs.two (hp1_0 w (.cells #[.slice co c.length cc, .slice bo b.length bc] 22)) (hC.keep hba) (hB.keep hba)
  go_enter Tryd.func17, Tryd.ntmps17
  go_wp2_with (fail)
  generalize w.alloc (.cells #[.slice co c.length cc, .slice bo b.length bc] 22) = w1 at *
  refine (r_joined [c, b] _ _ hP (by simp; omega)).mono ?_
  rintro e_ w2 ⟨vJ, rfl, oJ, hb⟩
  rw [show [c, b].flatten = c ++ b by simp] at oJ
  obtain ⟨L, eL⟩ : ∃ L, L = c ++ b := ⟨_, rfl⟩
  rw [← eL] at oJ
  replace eL := hide eL
  replace oJ : w2.ownsRow w.heap.size 5 1 vJ _ _ := own_lower oJ hba.size
  replace hb := Below.after hba hb
  replace rR := keep hb rR
  clear hba hP hc1
  have hc2 := row2_1 rR
  have hf2 := row_frozen rR 1
  have r3 := heap_setCell_same w2 g 1 _ _ vJ rR
  have o3 := own_other (g := g) (j := 1) (u := vJ) oJ hlg
  have hgr : w.grownBy (w2.setCell ⟨g, 1, none⟩ vJ) (some g) := grown_setCell (grown_below (World.grownBy.refl _ _) hb)
  obtain ⟨jo, jc, rfl⟩ := slen_own oJ
  go_wp2
  go_end0
  exact ⟨_, rfl, r3, by rw [← eL.out]; exact o3, hgr⟩
set_option maxRecDepth 100000 in
set_option maxHeartbeats 8000000 in
theorem r_mreset (g : Nat) (w : World) (vK vC : Value) (rR : w.heap[g]? = some (.cells #[vK, vC] 65 (0, 0))) : Calls Tryd.prog 21 #[.pointer (some ⟨g, 0, none⟩)] w fun e w' => e = .returned (.tuple #[]) ∧ w'.heap[g]? = some (.cells #[vK, .slice none 0 0] 65 (0, 0)) ∧ w.grownBy w' (some g) := by
  have hc2 := row2_1 rR
  have hf2 := row_frozen rR 1
  have r3 := heap_setCell_same w g 1 _ _ (.slice none 0 0) rR
  have hgr : w.grownBy (w.setCell ⟨g, 1, none⟩ (.slice none 0 0)) (some g) := grown_setCell (World.grownBy.refl _ _)
  go_enter Tryd.func21, Tryd.ntmps21
  go_wp2
  go_end0
  exact ⟨rfl, r3, hgr⟩
set_option maxRecDepth 100000 in
set_option maxHeartbeats 8000000 in
theorem r_msum (key c : List Int) (g : Nat) (w : World) (vK vC : Value) (rR : w.heap[g]? = some (.cells #[vK, vC] 65 (0, 0))) (hK : NB w vK key) (hkl : key.length ≤ 140737488355264) (hC : NB w vC c) (hl : c.length ≤ 140737488355264) : Calls Tryd.prog 19 #[.pointer (some ⟨g, 0, none⟩)] w fun e w' => e = .returned (.agg (irow .u8 (hm key c))) ∧ Below w.heap.size w w' := by
  have hHl := hm_len key c
  have r0 := hp1_0 w (.cells (irow .u8 (zr 32)) 25)
  have hw : Below w.heap.size w (w.alloc (.cells (irow .u8 (zr 32)) 25)) := (Below.refl _ _).alloc (Nat.le_refl _) _
  replace rR := keep hw rR
  have c0 := row2_0 rR
  have c1 := row2_1 rR
  have cS := fun (W : World) a b => r_sum4 key c W vK vC a b hl
  generalize hm key c = H at *
  go_enter Tryd.func19, Tryd.ntmps19
  go_wp2_with (first | (refine wpList_alloc rfl 25 rfl (irow .u8 (zr 32)) zkey ?_) | fail)
  have hbd : Below (w.alloc (.cells (irow .u8 (zr 32)) 25)).heap.size (w.alloc (.cells (irow .u8 (zr 32)) 25)) (w.alloc (.cells (irow .u8 (zr 32)) 25)).drew := below_drN (Below.refl _ _) 1
  replace cS := cS (w.alloc (.cells (irow .u8 (zr 32)) 25)).drew (((hK.keep hw).keep hbd).m (by omega)) (((hC.keep hw).keep hbd).m (by omega))
  generalize w.alloc (.cells (irow .u8 (zr 32)) 25) = w1 at *
  refine wp_region_noPanic ?_
  go_region_law ((refine step_call 11 _ (by rfl) (by kernel_rfl) (ex1 cS) ?_
                  rintro v_ w2 ⟨rfl, hb⟩
                  have r2 := keep hb (keep hbd r0)
                  have hsv := storeK r2 (zr_len 32) hHl
                  have hsz := (irow_size .u8 H).trans hHl))
  all_goals
    refine NoPanic.normal ?_
    have r3 := setRow_heap w2 (w.heap.size) _ (irow .u8 H) _ _ r2
    have hw3 := below_setRow (Below.after (Below.after hw hbd) hb) (Nat.le_refl _) (irow .u8 H)
    clear hsv r2
    generalize w2.setRow (w.heap.size) (irow .u8 H) = wz at *
    go_wp2
    exact bodyPost_ret (v := .agg (irow .u8 H)) (results_cell_row Tryd.results19 _ _ (w.heap.size) _ _ _ _ rfl r3 Tryd.underlying25 rfl (infok8 _ hHl)) rfl ⟨rfl, hw3⟩

end Go.Proofs.YtmcokphkaekdaaaDoor
