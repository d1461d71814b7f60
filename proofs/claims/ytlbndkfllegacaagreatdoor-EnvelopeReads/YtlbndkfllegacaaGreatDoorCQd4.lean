import Derived.Test.YtlbndkfllegacaaGreatDoorProg
import Derived.WalkKit
import Derived.WalkSpells
import Derived.WalkLawsBesides
import Derived.Lib.QuietBelow
import Derived.BigQuiet
import Derived.Test.YtlbndkfllegacaaGreatDoorCOpen
import Derived.Test.YtlbndkfllegacaaGreatDoorCQa1
import Derived.Laws.BytesArg
import Derived.Deep.Slices
import Derived.Deep.Cut
import Derived.OwnWalk
import Derived.Lib.SlBytesConst
import Derived.Test.YtlbndkfllegacaaGreatDoorCJrx
import Derived.Test.YtlbndkfllegacaaGreatDoorCJrt
import Derived.Test.YtlbndkfllegacaaGreatDoorCQc0
import Derived.Deep.RegionHeld3
namespace Go.Proofs.YtlbndkfllegacaaGreatDoor
set_option maxRecDepth 100000
open Go Go.RowKit Go.Sort
attribute [local go_sem] setCell_drewN alloc_drewN
theorem make_i64 (n : Nat) (h : n ≤ 281474976710656) (W : World) : (Instr.makeSlice 22 (.int .i64 (n : Int)) (.int .i64 (n : Int))).run Tryz.prog W = .ok (.slice (some ⟨W.heap.size, 0, none⟩) n n) (W.alloc (.cells (irow .u8 (zr n)) 5)) := by
 rw [← made_irow]
 exact run_make_row' 22 5 (.int .u8 0) 1 Tryz.underlying22 (by kernel_rfl) rfl .i64 .i64 n (by omega) (by omega) W
theorem getD_append_lt (a b : List Int) (j : Nat) (h : j < a.length) : (a ++ b).getD j 0 = a.getD j 0 := by
 rw [List.getD_eq_getElem?_getD, List.getD_eq_getElem?_getD, List.getElem?_append_left h]
theorem elem810 : Tryz.prog.underlying 22 = some (.slice (Tryz.prog.elem 22)) := by kernel_rfl
theorem size810 (W : World) : (sizeOf (Tryz.prog.elem 22)).run Tryz.prog W = .ok 1 W := by kernel_rfl
def BysM (W : World) (v : Value) (bs : List Int) : Prop := Bys W v bs ∧ bs.length ≤ 211106232532992 ∧ (∀ a l c, v = .slice a l c → a = none → c = 0)
theorem BysM.keep {W W' : World} {v : Value} {bs : List Int} (h : BysM W v bs) (hb : Below W.heap.size W W') : BysM W' v bs := ⟨h.1.keep hb, h.2⟩
theorem Bys.of_prefix {W : World} {g : Nat} {l m : List Int} {t : TypeId} (hg : W.heap[g]? = some (.cells (irow .u8 (l ++ m)) t (0, 0))) (hl : l.length ≤ 9223372036854775807) (hz : ∀ z ∈ l, 0 ≤ z ∧ z < 256) (cap : Nat) : Bys W (.slice (some ⟨g, 0, none⟩) l.length cap) l := by
 refine ⟨_, cap, rfl, hl, fun j hj => ⟨g, 0, rfl, lt_of_row hg, ?_⟩, hz⟩
 rw [Nat.zero_add, irow_cell hg (by rw [List.length_append]; omega), getD_append_lt _ _ _ hj]
def mix (a c : List Int) (k : Nat) : List Int := a.take k ++ c.drop k
theorem mix_zero (a c : List Int) : mix a c 0 = c := by simp [mix]
theorem mix_length (a c : List Int) (k : Nat) (h : a.length = c.length) (hk : k ≤ c.length) : (mix a c k).length = c.length := by simp [mix]; omega
theorem mix_set (a c : List Int) (k : Nat) (h : a.length = c.length) (hk : k < c.length) : (mix a c k).set k (a.getD k 0) = mix a c (k + 1) := by
 apply List.ext_getElem?
 intro j
 have h1 : (a.take k).length = k := by simp; omega
 have h2 : (a.take (k + 1)).length = k + 1 := by simp; omega
 unfold mix
 rw [List.getElem?_set]
 by_cases e : k = j
 · subst e
   rw [if_pos rfl, if_pos (by simp; omega), List.getElem?_append_left (by omega), List.getElem?_take_of_lt (by omega)]
   rw [List.getD_eq_getElem?_getD, List.getElem?_eq_getElem (by omega)]
   rfl
 · rw [if_neg e]
   by_cases hj : j < k
   · rw [List.getElem?_append_left (by omega), List.getElem?_append_left (by omega), List.getElem?_take_of_lt hj, List.getElem?_take_of_lt (by omega)]
   · rw [List.getElem?_append_right (by omega), List.getElem?_append_right (by omega), List.getElem?_drop, List.getElem?_drop, h1, h2]
     congr 1
     omega
theorem Bys.grown {W W' : World} {v : Value} {bs : List Int} {g : Nat} (h : Bys W v bs) (hb : W.grownBy W' (some g)) (hne : ∀ a l c, v = .slice (some a) l c → 0 < l → a.block ≠ g) : Bys W' v bs := by
 obtain ⟨ao, cap, rfl, hl, hc, hz⟩ := h
 refine ⟨ao, cap, rfl, hl, fun j hj => ?_, hz⟩
 obtain ⟨b, off, rfl, h1, h2⟩ := hc j hj
 have hn : b ≠ g := hne ⟨b, off, none⟩ _ _ rfl (by omega)
 exact ⟨b, off, rfl, Nat.lt_of_lt_of_le h1 hb.size, hb.cell h2 (by intro e; injection e with e; exact hn e)⟩
theorem bys_bd {W : World} {v : Value} {bs : List Int} (h : Bys W v bs) : ∀ z ∈ bs, 0 ≤ z ∧ z < 256 := by
 obtain ⟨_, _, _, _, _, h⟩ := h; exact h
def NB (W : World) (v : Value) (bs : List Int) : Prop := Bys W v bs ∧ (∀ a l c, v = .slice a l c → a = none → c = 0)
theorem NB.keep {W W' : World} {v : Value} {bs : List Int} (h : NB W v bs) (hb : Below W.heap.size W W') : NB W' v bs := ⟨h.1.keep hb, h.2⟩
theorem NB.grown {W W' : World} {v : Value} {bs : List Int} {row : Option Nat} (h : NB W v bs) (hb : W.grownBy W' row) (hne : ∀ a l c, v = .slice (some a) l c → 0 < l → row ≠ some a.block) : NB W' v bs := by
 obtain ⟨⟨ao, cap, rfl, hl, hc, hz⟩, hn⟩ := h
 refine ⟨⟨ao, cap, rfl, hl, fun j hj => ?_, hz⟩, hn⟩
 obtain ⟨b, off, rfl, h1, h2⟩ := hc j hj
 have hn' := hne ⟨b, off, none⟩ _ _ rfl (by omega)
 exact ⟨b, off, rfl, Nat.lt_of_lt_of_le h1 hb.size, hb.cell h2 (by intro e; exact hn' e.symm)⟩
theorem slice_to (ao : Option Addr) (len cap n : Nat) (h : n ≤ cap) (W : World) : (Instr.sliceAt 22 (.slice ao len cap) none (some (.int .i64 (n : Int))) none).run Tryz.prog W = .ok (.slice ao n cap) W := by
 rw [run_sliceAt_slice _ _ _ _ _ _ elem810, run_slice_h W 22 ao len cap elem810 .i64 _ (by omega) (by omega), size810]
 show Result.ok (sliced _ _ _ _ 1) W = _
 rw [Int.toNat_natCast, sliced, Nat.zero_mul]
 by_cases e : cap = 0
 · rw [if_pos e]; rfl
 · rw [if_neg e]
   cases ao <;> rfl
theorem Bys.take {W : World} {ao : Option Addr} {cap n : Nat} {bs : List Int} (h : Bys W (.slice ao bs.length cap) bs) (hn : n ≤ bs.length) : Bys W (.slice ao n cap) (bs.take n) := by
 obtain ⟨ao', cap', e, hl, hc, hz⟩ := h
 cases e
 have hln : (bs.take n).length = n := by rw [List.length_take]; omega
 refine ⟨ao, cap, by rw [hln], by omega, fun j hj => ?_, fun z h => hz z (List.mem_of_mem_take h)⟩
 obtain ⟨b, off, e, h1, h2⟩ := hc j (by omega)
 refine ⟨b, off, e, h1, ?_⟩
 rw [h2, List.getD_eq_getElem?_getD, List.getD_eq_getElem?_getD, List.getElem?_take_of_lt (by omega)]
def mk4 (k : Nat) : List Int := (List.range k).map fun (i : Nat) => 100 + (i : Int)
theorem mk4_len (k : Nat) : (mk4 k).length = k := by simp [mk4]
theorem mk4_get (k i : Nat) (h : i < k) : (mk4 k).getD i 0 = 100 + (i : Int) := by
 simp [mk4, List.getD_eq_getElem?_getD, List.getElem?_map, List.getElem?_range h]
def mz (k : Nat) : List Int := mk4 k ++ zr (80 - k)
theorem mz_len (k : Nat) (h : k ≤ 80) : (mz k).length = 80 := by simp [mz, mk4_len, zr_len]; omega
theorem mz_set (k : Nat) (h : k < 80) : (mz k).set k (100 + (k : Int)) = mz (k + 1) := by
 have e1 : zr (80 - k) = 0 :: zr (80 - (k + 1)) := by
   rw [show 80 - k = (80 - (k + 1)) + 1 by omega]; rfl
 have e2 : mk4 (k + 1) = mk4 k ++ [100 + (k : Int)] := by simp [mk4, List.range_succ]
 rw [mz, mz, e1, e2, List.set_append_right _ _ (by rw [mk4_len]; exact Nat.le_refl _), mk4_len, Nat.sub_self, List.set_cons_zero, List.append_assoc]
 rfl
theorem bmz_set (bs : List Int) (k : Nat) (h : k < 80) : (bs ++ mz k).set (bs.length + k) (100 + (k : Int)) = bs ++ mz (k + 1) := by
 rw [List.set_append_right _ _ (by omega), Nat.add_sub_cancel_left, mz_set k h]
theorem make_len (n : Nat) (hn : n ≤ 140737488355328) (w : World) : (Instr.makeSlice 22 (.int .i64 (n : Int)) (.int .i64 (n : Int))).run Tryz.prog w = .ok (.slice (some ⟨w.heap.size, 0, none⟩) n n) (w.alloc (.cells (irow .u8 (zr n)) 5)) := make_i64 n (by omega) w
theorem conv_bys10 {W : World} {v : Value} {bs : List Int} (h : Bys W v bs) : (convert 22 9 v).run Tryz.prog W = .ok (.string (strOfNums bs)) W := by
 obtain ⟨ao, cap, rfl, _, hc, _⟩ := h
 cases ao with
 | none =>
   have : bs = [] := by
     cases bs with
     | nil => rfl
     | cons x xs => obtain ⟨b, off, e, _⟩ := hc 0 (by simp); cases e
   subst this
   exact run_convert_bytes_nil W 22 5 Tryz.underlying22 Tryz.underlying5 _ _ 9 Tryz.underlying9
 | some ad =>
   rcases Nat.eq_zero_or_pos bs.length with e0 | e0
   · have : bs = [] := List.eq_nil_of_length_eq_zero e0
     subst this
     obtain ⟨b, off, sp⟩ := ad
     rw [run_convert_bytes_string W 22 9 5 _ _ _ Tryz.underlying22 Tryz.underlying5 Tryz.underlying9]
     have := run_bytesToString (P := Tryz.prog) W ⟨b, off, sp⟩ 0 cap [] (by rfl)
     exact this
   · obtain ⟨b, off, e, _⟩ := hc 0 e0
     cases e
     exact run_convert_bytes_arg W 22 5 Tryz.underlying22 Tryz.underlying5 b off bs.length cap bs rfl (fun i hi => by
       obtain ⟨b', off', e, _, h⟩ := hc i hi
       cases e
       exact h) 9 Tryz.underlying9
theorem str_inj10 {a b : List Int} (ha : ∀ z ∈ a, 0 ≤ z ∧ z < 256) (hb : ∀ z ∈ b, 0 ≤ z ∧ z < 256) (h : strOfNums a = strOfNums b) : a = b := by
 have h1 := congrArg (fun x => x.data.toList) h
 simp only [strOfNums_data] at h1
 have key : ∀ (a b : List Int), (∀ z ∈ a, 0 ≤ z ∧ z < 256) → (∀ z ∈ b, 0 ≤ z ∧ z < 256) → a.map (fun n => UInt8.ofNat n.toNat) = b.map (fun n => UInt8.ofNat n.toNat) → a = b := by
   intro a
   induction a with
   | nil => intro b _ _ h; cases b with
     | nil => rfl
     | cons y ys => simp at h
   | cons x xs ih => intro b ha hb h; cases b with
     | nil => simp at h
     | cons y ys =>
       simp only [List.map_cons, List.cons.injEq] at h
       have hx := ha x (by simp)
       have hy := hb y (by simp)
       have e := congrArg UInt8.toNat h.1
       simp only [UInt8.toNat_ofNat'] at e
       rw [Nat.mod_eq_of_lt (by omega), Nat.mod_eq_of_lt (by omega)] at e
       have exy : x = y := by omega
       rw [exy, ih ys (fun z h => ha z (by simp [h])) (fun z h => hb z (by simp [h])) h.2]
 exact key a b ha hb h1
theorem str_dec10 {a b : List Int} (ha : ∀ z ∈ a, 0 ≤ z ∧ z < 256) (hb : ∀ z ∈ b, 0 ≤ z ∧ z < 256) : ((strOfNums a).toList == (strOfNums b).toList) = decide (a = b) := by
 by_cases h : a = b
 · subst h; simp
 · rw [decide_eq_false h, beq_eq_false_iff_ne]
   intro e
   rw [ByteArray.toList_eq, ByteArray.toList_eq] at e
   exact h (str_inj10 ha hb (Go.WideShapes.bytes_inj e))
set_option maxRecDepth 100000 in
set_option maxHeartbeats 4000000 in
theorem s_same (a b : List Int) (w : World) (u v : Value) (hu : Bys w u a) (hv : Bys w v b) : Calls Tryz.prog 20 #[u, v] w fun e w' => e = .returned (.bool (decide (a = b))) ∧ Below w.heap.size w w' := by
 have c1 := conv_bys10 hu
 have c2 := conv_bys10 hv
 obtain ⟨ao, cap, rfl, _, _, hza⟩ := hu
 obtain ⟨bo, bcap, rfl, _, _, hzb⟩ := hv
 go_enter Tryz.func20, Tryz.ntmps20
 have hd := str_dec10 hza hzb
 go_wp2
 go_ret
 exact ⟨rfl, Below.refl _ _⟩
set_option maxRecDepth 100000 in
set_option maxHeartbeats 4000000 in
theorem s_hand (bs : List Int) (w : World) (v : Value) (hB : Bys w v bs) (hl : bs.length ≤ 140737488355200) : Calls Tryz.prog 9 #[v] w fun e w' => e = .returned (.slice (some ⟨w.heap.size, 0, none⟩) (bs.length + 80) (bs.length + 80)) ∧ w'.heap[w.heap.size]? = some (.cells (irow .u8 (bs ++ mk4 80)) 5 (0, 0)) ∧ Below w.heap.size w w' := by
 have hmk := make_len (bs.length + 80) (by omega) w
 rw [show ((bs.length + 80 : Nat) : Int) = (bs.length : Int) + 80 by omega] at hmk
 have r0 := hp1_0 w (.cells (irow .u8 (zr (bs.length + 80))) 5)
 have hw : Below w.heap.size w (w.alloc (.cells (irow .u8 (zr (bs.length + 80))) 5)) := (Below.refl _ _).alloc (Nat.le_refl _) _
 have hcp := copy_bys (o := 0) (dLen := bs.length + 80) (dCap := bs.length + 80) r0 (hB.keep hw) (by omega) (by rw [zr_len]; omega)
 have ez : (zr (bs.length + 80)).take 0 ++ bs ++ (zr (bs.length + 80)).drop (0 + bs.length) = bs ++ mz 0 := by
   rw [List.take_zero, List.nil_append, zr_drop, Nat.zero_add, Nat.add_sub_cancel_left]; rfl
 rw [ez] at hcp
 have hgo : goInt bs.length = .int .i64 (bs.length : Int) := rfl
 rw [hgo] at hcp
 have r1 := setRow_heap _ (w.heap.size) _ (irow .u8 (bs ++ mz 0)) _ _ r0
 replace hw := below_setRow hw (Nat.le_refl _) (irow .u8 (bs ++ mz 0))
 obtain ⟨ao, cap, rfl, _⟩ := id hB
 go_enter Tryz.func9, Tryz.ntmps9
 go_wp2
 generalize (w.alloc (.cells (irow .u8 (zr (bs.length + 80))) 5)).setRow w.heap.size (irow .u8 (bs ++ mz 0)) = w1 at *
 clear hcp ez hgo hmk r0
 go_loopw [4] (fun i wr => ∃ k : Nat, k ≤ 80 ∧ i = .int .i64 k ∧ wr.heap[w.heap.size]? = some (.cells (irow .u8 (bs ++ mz k)) 5 (0, 0)) ∧ Below w.heap.size w wr) (fun i _ => 80 - (intOf i).toNat)
 case atStart => exact ⟨0, by omega, rfl, r1, hw⟩
 case round =>
   clear r1 hw
   obtain ⟨k, hk, rfl, r1, hw⟩ := hrel
   by_cases hlt : k < 80
   · have hd : decide ((k : Int) < 80) = true := by simp; omega
     have hmod : (100 + (k : Int)) % 256 = 100 + (k : Int) := by omega
     have hml := mz_len k (by omega)
     have cf := row_frozen r1 (bs.length + k)
     have cc := irow_cell r1 (j := bs.length + k) (by rw [List.length_append]; omega)
     have r2 := irow_set r1 (bs.length + k) (100 + (k : Int))
     rw [bmz_set bs k hlt] at r2
     have hw2 := hw.setCell (show w.heap.size ≤ (⟨w.heap.size, bs.length + k, none⟩ : Addr).block from Nat.le_refl _) (.int .u8 (100 + (k : Int)))
     clear r1 hw hml
     generalize (bs ++ mz k).getD (bs.length + k) 0 = z at *
     go_wp2
     refine ⟨⟨k + 1, by omega, by go_num, r2, hw2⟩, ?_⟩
     simp [intOf]; omega
   · obtain rfl : k = 80 := by omega
     have hd : decide ((80 : Int) < 80) = false := by decide
     have e80 : bs ++ mz 80 = bs ++ mk4 80 := by rw [mz, Nat.sub_self]; simp [zr]
     rw [e80] at r1
     go_wp2
     go_ret
     exact ⟨rfl, r1, hw⟩
set_option maxRecDepth 100000 in
set_option maxHeartbeats 4000000 in
theorem s_left (bs : List Int) (g : Nat) (w : World) (v : Value) (hB : Bys w v bs) (hl : bs.length ≤ 140737488355200) (rg : w.heap[g]? = some (.cells (irow .u8 (bs ++ mk4 80)) 5 (0, 0))) : Calls Tryz.prog 13 #[.slice (some ⟨g, 0, none⟩) (bs.length + 80) (bs.length + 80), v] w fun e w' => e = .returned (.bool true) ∧ Below w.heap.size w w' := by
 have hml := mk4_len 80
 have sl := slice_to (some ⟨g, 0, none⟩) (bs.length + 80) (bs.length + 80) bs.length (by omega)
 have hBl := Bys.of_prefix rg (by omega) (bys_bd hB) (bs.length + 80)
 have cS := s_same bs bs w _ _ hBl hB
 rw [decide_eq_true rfl] at cS
 replace cS := cS
 obtain ⟨ao, cap, rfl, _⟩ := id hB
 go_enter Tryz.func13, Tryz.ntmps13
 go_wp2
 go_loopw [5] (fun i wr => ∃ k : Nat, k ≤ 80 ∧ i = .int .i64 k ∧ wr = w) (fun i _ => 80 - (intOf i).toNat)
 case atStart => exact ⟨0, by omega, rfl, rfl⟩
 case round =>
   obtain ⟨k, hk, rfl, rfl⟩ := hrel
   by_cases hlt : k < 80
   · have hd : decide ((k : Int) < 80) = true := by simp; omega
     have hmod : (100 + (k : Int)) % 256 = 100 + (k : Int) := by omega
     have cc := irow_cell rg (j := bs.length + k) (by rw [List.length_append]; omega)
     have eg : (bs ++ mk4 80).getD (bs.length + k) 0 = 100 + (k : Int) := by
       rw [List.getD_eq_getElem?_getD, List.getElem?_append_right (by omega), Nat.add_sub_cancel_left, ← List.getD_eq_getElem?_getD, mk4_get 80 k hlt]
     rw [eg] at cc
     clear cS hBl hB rg eg
     go_wp2
     refine ⟨⟨k + 1, by omega, by go_num, trivial⟩, ?_⟩
     simp [intOf]; omega
   · obtain rfl : k = 80 := by omega
     have hd : decide ((80 : Int) < 80) = false := by decide
     go_wp2_with (fail)
     refine cS.mono ?_
     rintro e_ w1 ⟨rfl, hb⟩
     go_wp2
     go_ret
     exact ⟨rfl, hb⟩
theorem or_set {W : World} {b g m c t : Nat} {e : TypeId} {l : List Int} {z : Int} (h : W.ownsRow b e 1 (.slice (some ⟨g, 0, none⟩) m c) m (l.map (Value.int .u8))) : (W.setCell ⟨g, t, none⟩ (.int .u8 z)).ownsRow b e 1 (.slice (some ⟨g, 0, none⟩) m c) m ((l.set t z).map (Value.int .u8)) ∨ m ≤ t := by
 by_cases ht : m ≤ t
 · exact .inr ht
 refine .inl ?_
 obtain ⟨q1, ⟨hv, _⟩ | ⟨g1, cap1, cur, hv, hbg, hg, hnc, hcm, hcs, htake⟩⟩ := h
 · cases hv
 · cases hv
   refine ⟨by rw [List.length_map, List.length_set]; rw [List.length_map] at q1; exact q1, .inr ⟨g, c, cur.setIfInBounds t (.int .u8 z), rfl, hbg, heap_setCell_same W g t cur _ (.int .u8 z) hg, hnc, hcm, by rw [Array.size_setIfInBounds]; exact hcs, ?_⟩⟩
   rw [Array.toList_setIfInBounds, List.take_set, htake, List.map_set]
theorem or_other {W : World} {b g g' m c t : Nat} {e : TypeId} {xs : List Value} {v : Value} (h : W.ownsRow b e 1 (.slice (some ⟨g, 0, none⟩) m c) m xs) (hx : g ≠ g') : (W.setCell ⟨g', t, none⟩ v).ownsRow b e 1 (.slice (some ⟨g, 0, none⟩) m c) m xs := by
 obtain ⟨q1, ⟨hv, _⟩ | ⟨g1, cap1, cur, hv, hbg, hr, hq⟩⟩ := h
 · cases hv
 · cases hv
   exact ⟨q1, .inr ⟨g, c, cur, rfl, hbg, heap_other hr hx, hq⟩⟩
def ApR (lo : Nat) (W : World) (xs : List (Option Nat × Nat × Nat)) (P : Nat → List Int → Prop) : Prop := ∀ (j g m c : Nat), xs[j]? = some (some g, m, c) → ∃ l : List Int, l.length = m ∧ W.ownsRow lo 5 1 (.slice (some ⟨g, 0, none⟩) m c) m (l.map (Value.int .u8)) ∧ P j l
def ApD (xs : List (Option Nat × Nat × Nat)) : Prop := ∀ (i j : Nat) (g m n c d : Nat), xs[i]? = some (some g, m, c) → xs[j]? = some (some g, n, d) → i = j
theorem ApR.mono {lo : Nat} {W : World} {xs : List (Option Nat × Nat × Nat)} {P Q : Nat → List Int → Prop} (h : ApR lo W xs P) (hq : ∀ (j : Nat) l g m c, xs[j]? = some (some g, m, c) → l.length = m → P j l → Q j l) : ApR lo W xs Q := fun j g m c hj => by
 obtain ⟨l, h1, h2, h3⟩ := h j g m c hj
 exact ⟨l, h1, h2, hq _ _ _ _ _ hj h1 h3⟩
theorem ApR.put {lo : Nat} {W : World} {xs : List (Option Nat × Nat × Nat)} {P Q : Nat → List Int → Prop} (h : ApR lo W xs P) (hd : ApD xs) {k g m c t : Nat} {z : Int} (hk : xs[k]? = some (some g, m, c)) (ht : t < m) (hp : ∀ l, l.length = m → P k l → Q k (l.set t z)) (hq : ∀ j l, j ≠ k → P j l → Q j l) : ApR lo (W.setCell ⟨g, t, none⟩ (.int .u8 z)) xs Q := fun j g' m' c' hj => by
 obtain ⟨l, h1, h2, h3⟩ := h j g' m' c' hj
 by_cases e : g' = g
 · subst e
   obtain rfl := hd _ _ _ _ _ _ _ hk hj
   obtain ⟨_, rfl, rfl⟩ : True ∧ m = m' ∧ c = c' := ⟨trivial, by rw [hk] at hj; cases hj; exact ⟨rfl, rfl⟩⟩
   refine ⟨l.set t z, by rw [List.length_set]; exact h1, (or_set h2).resolve_right (by omega), hp l h1 h3⟩
 · refine ⟨l, h1, or_other h2 e, hq j l (fun ej => e ?_) h3⟩
   subst ej
   rw [hk] at hj
   cases hj
   rfl
end Go.Proofs.YtlbndkfllegacaaGreatDoor
namespace Go.Proofs.YtlbndkfllegacaaGreatDoor
set_option maxRecDepth 100000
open Go Go.RowKit Go.Sort
attribute [local go_sem] setCell_drewN alloc_drewN
theorem grown_below {a b c : World} {g : Nat} (h : a.grownBy b (some g)) (hb : Below b.heap.size b c) : a.grownBy c (some g) :=
 ⟨hb.os.trans h.os, hb.tape.trans h.tape, hb.output.trans h.output, Nat.le_trans h.size hb.size, fun k hk hn => (hb.block k (Nat.lt_of_lt_of_le hk h.size)).trans (h.block k hk hn)⟩
theorem grown_setRow {a b : World} {g : Nat} (cs : Array Value) (h : a.grownBy b (some g)) : a.grownBy (b.setRow g cs) (some g) := by
 refine ⟨h.os, h.tape, h.output, ?_, fun k hk hn => ?_⟩
 · have e : (b.setRow g cs).heap.size = b.heap.size := by simp
   rw [e]; exact h.size
 · rw [setRow_other b g k cs (fun e => hn (by rw [e]))]
   exact h.block k hk hn
theorem mix_all (a c : List Int) (h : a.length = c.length) : mix a c c.length = a := by
 unfold mix
 rw [← h, List.take_length, h, List.drop_length, List.append_nil]
theorem head_bysB {W : World} {g n : Nat} {e : List B} {m : List Int} {t : TypeId} (hg : W.heap[g]? = some (.cells (irow .u8 (bl e ++ m)) t (0, 0))) (hn : e.length = n) (hl : n ≤ 140737488355000) (cap : Nat) : BysB W (.slice (some ⟨g, 0, none⟩) n cap) e := by
 have h := Bys.of_prefix hg (by rw [bl_len]; omega) (bl_bnd e) cap
 rw [bl_len, hn] at h
 exact ⟨h, by omega, fun a l c h h2 => by cases h; cases h2⟩
theorem row_bysB {W : World} {g n : Nat} {e : List B} {t : TypeId} (hg : W.heap[g]? = some (.cells (irow .u8 (bl e)) t (0, 0))) (hn : e.length = n) (hl : n ≤ 140737488355000) (cap : Nat) : BysB W (.slice (some ⟨g, 0, none⟩) n cap) e := head_bysB (m := []) (by rw [List.append_nil]; exact hg) hn hl cap
theorem rv_len (bs : List Int) : bs.reverse.length = bs.length := by simp
theorem rv_get (bs : List Int) (k : Nat) (h : k < bs.length) : bs.reverse.getD k 0 = bs.getD (bs.length - 1 - k) 0 := by
 rw [List.getD_eq_getElem?_getD, List.getD_eq_getElem?_getD, List.getElem?_reverse h]
theorem rv_bd (bs : List Int) (h : ∀ z ∈ bs, 0 ≤ z ∧ z < 256) : ∀ z ∈ bs.reverse, 0 ≤ z ∧ z < 256 := fun z hz => h z (by simpa using hz)
set_option maxRecDepth 100000 in
set_option maxHeartbeats 4000000 in
theorem s_turned (bs : List Int) (g : Nat) (w : World) (v : Value) (hB : Bys w v bs) (hl : bs.length ≤ 140737488355200) (rg : w.heap[g]? = some (.cells (irow .u8 (bs ++ mk4 80)) 5 (0, 0))) : Calls Tryz.prog 14 #[.slice (some ⟨g, 0, none⟩) (bs.length + 80) (bs.length + 80), v] w fun e w' => e = .returned (.slice (some ⟨w.heap.size, 0, none⟩) bs.length bs.length) ∧ w'.heap[w.heap.size]? = some (.cells (irow .u8 (bs.reverse)) 5 (0, 0)) ∧ w'.heap[g]? = some (.cells (irow .u8 (bs.reverse ++ mk4 80)) 5 (0, 0)) ∧ w.grownBy w' (some g) := by
 have hlg := lt_of_row rg
 have hmk := make_len bs.length (by omega) w
 have r0 : (w.alloc (.cells (irow .u8 (zr bs.length)) 5)).heap[w.heap.size]? = some (.cells (irow .u8 (mix (bs.reverse) (zr bs.length) 0)) 5 (0, 0)) := by rw [mix_zero]; exact hp1_0 w _
 have hw : Below w.heap.size w (w.alloc (.cells (irow .u8 (zr bs.length)) 5)) := (Below.refl _ _).alloc (Nat.le_refl _) _
 have htl := rv_len bs
 have htg := rv_get bs
 have hzl := zr_len bs.length
 obtain ⟨ao, cap, rfl, _, hc, _⟩ := id hB
 go_enter Tryz.func14, Tryz.ntmps14
 go_wp2
 generalize (w.alloc (.cells (irow .u8 (zr bs.length)) 5)) = w1 at *
 clear hmk
 go_loopw [6] (fun i wr => ∃ k : Nat, k ≤ bs.length ∧ i = .int .i64 k ∧ wr.heap[w.heap.size]? = some (.cells (irow .u8 (mix (bs.reverse) (zr bs.length) k)) 5 (0, 0)) ∧ Below w.heap.size w wr) (fun i _ => bs.length - (intOf i).toNat)
 case atStart => exact ⟨0, by omega, rfl, r0, hw⟩
 case round =>
   clear r0 hw
   obtain ⟨k, hk, rfl, r0, hw⟩ := hrel
   by_cases hlt : k < bs.length
   · have hd : decide ((k : Int) < (bs.length : Int)) = true := by simp; omega
     obtain ⟨b, off, rfl, hb1, hb2⟩ := hc (bs.length - 1 - k) (by omega)
     replace hb2 := (hw.cell (p := ⟨b, off + (bs.length - 1 - k), none⟩) hb1).trans hb2
     have hset := mix_set (bs.reverse) (zr bs.length) k (by omega) (by omega)
     rw [htg k hlt] at hset
     have hml := mix_length (bs.reverse) (zr bs.length) k (by omega) (by omega)
     have cf := row_frozen r0 k
     have cc := irow_cell r0 (j := k) (by omega)
     have r2 := irow_set r0 k (bs.getD (bs.length - 1 - k) 0)
     rw [hset] at r2
     have hw2 := hw.setCell (show w.heap.size ≤ (⟨w.heap.size, k, none⟩ : Addr).block from Nat.le_refl _) (.int .u8 (bs.getD (bs.length - 1 - k) 0))
     have ej2 : (bs.length : Int) - 1 - (k : Int) = ((bs.length - 1 - k : Nat) : Int) := by omega
     clear r0 hw hset hml hc htg hB
     generalize bs.getD (bs.length - 1 - k) 0 = z at *
     generalize (mix (bs.reverse) (zr bs.length) k).getD k 0 = y at *
     go_wp2
     refine ⟨⟨k + 1, by omega, by go_num, r2, hw2⟩, ?_⟩
     simp [intOf]; omega
   · obtain rfl : k = bs.length := by omega
     have hd : decide ((bs.length : Int) < (bs.length : Int)) = false := by simp
     have em := mix_all (bs.reverse) (zr bs.length) (by omega)
     rw [hzl] at em
     rw [em] at r0
     have rg2 := keep hw rg
     have hBo := Bys.of_row r0 (by omega) (rv_bd bs (bys_bd hB)) bs.length
     have hcp := copy_bys (o := 0) (dLen := bs.length + 80) (dCap := bs.length + 80) rg2 hBo (by omega) (by rw [List.length_append]; omega)
     have ez : (bs ++ mk4 80).take 0 ++ bs.reverse ++ (bs ++ mk4 80).drop (0 + (bs.reverse).length) = bs.reverse ++ mk4 80 := by
       rw [List.take_zero, List.nil_append, Nat.zero_add, htl, List.drop_left]
     rw [ez] at hcp
     have hgo : goInt (bs.reverse).length = .int .i64 ((bs.reverse).length : Int) := rfl
     rw [hgo, htl] at hcp
     have r1 := setRow_heap _ g _ (irow .u8 (bs.reverse ++ mk4 80)) _ _ rg2
     have r3 : (wr.setRow g (irow .u8 (bs.reverse ++ mk4 80))).heap[w.heap.size]? = _ := (setRow_other wr g (w.heap.size) (irow .u8 (bs.reverse ++ mk4 80)) (by omega)).trans r0
     have hgr : w.grownBy (wr.setRow g (irow .u8 (bs.reverse ++ mk4 80))) (some g) := grown_setRow _ (grown_below (World.grownBy.refl _ _) hw)
     clear hc htg r0 hw
     go_wp2
     go_ret
     exact ⟨rfl, r3, r1, hgr⟩
theorem bl_rev (e : List B) : bl e.reverse = (bl e).reverse := by simp [bl, List.map_reverse]
theorem sB_hand (e : List B) (w : World) (v : Value) (hB : BysB w v e) : Calls Tryz.prog 9 #[v] w fun r w' => r = .returned (.slice (some ⟨w.heap.size, 0, none⟩) (e.length + 80) (e.length + 80)) ∧ w'.heap[w.heap.size]? = some (.cells (irow .u8 (bl e ++ mk4 80)) 5 (0, 0)) ∧ Below w.heap.size w w' := by
 have h := s_hand (bl e) w v hB.1 (by rw [bl_len]; have := hB.2.1; omega)
 rw [bl_len] at h
 exact h
theorem sB_left (e : List B) (g : Nat) (w : World) (v : Value) (hB : BysB w v e) (rg : w.heap[g]? = some (.cells (irow .u8 (bl e ++ mk4 80)) 5 (0, 0))) : Calls Tryz.prog 13 #[.slice (some ⟨g, 0, none⟩) (e.length + 80) (e.length + 80), v] w fun r w' => r = .returned (.bool true) ∧ Below w.heap.size w w' := by
 have h := s_left (bl e) g w v hB.1 (by rw [bl_len]; have := hB.2.1; omega) rg
 rw [bl_len] at h
 exact h
theorem sB_turned (e : List B) (g : Nat) (w : World) (v : Value) (hB : BysB w v e) (rg : w.heap[g]? = some (.cells (irow .u8 (bl e ++ mk4 80)) 5 (0, 0))) : Calls Tryz.prog 14 #[.slice (some ⟨g, 0, none⟩) (e.length + 80) (e.length + 80), v] w fun r w' => r = .returned (.slice (some ⟨w.heap.size, 0, none⟩) e.length e.length) ∧ w'.heap[w.heap.size]? = some (.cells (irow .u8 (bl e.reverse)) 5 (0, 0)) ∧ w'.heap[g]? = some (.cells (irow .u8 (bl e.reverse ++ mk4 80)) 5 (0, 0)) ∧ w.grownBy w' (some g) := by
 have h := s_turned (bl e) g w v hB.1 (by rw [bl_len]; have := hB.2.1; omega) rg
 rw [bl_len] at h
 rw [bl_rev]
 exact h
end Go.Proofs.YtlbndkfllegacaaGreatDoor
namespace Go.Proofs.YtlbndkfllegacaaGreatDoor
set_option maxRecDepth 100000
open Go Go.RowKit Go.Sort
attribute [local go_sem] setCell_drewN alloc_drewN
theorem wpList_eql {P : Program} {ops : Array Oper} {Q : Exit → Act → World → Prop} {w : World} {rest : List Oper} {o : Oper} {a : Act} (hw : Region.wanted o (yielded ops a.tmps) = true) (t u : TypeId) (x y : Operand) (ho : o.op = .binOp .eql t x y u) (X Y : Array Value) (hx : a.eval x = .agg X) (hy : a.eval y = .agg Y) (hg : P.eqGuardType P.depth t = false) (B : Bool) (he : (Op.equalIn 10000 t (.agg X) (.agg Y)).run P w = .ok B w) (h : wpList P ops Q rest (a.put o.dst (.bool B)) w) : wpList P ops Q (o :: rest) a w :=
 BigFrame.wpList_want hw fun _ hK => wp_world_op _ _ (run_eql_op t u x y ho X Y hx hy hg B he) (hK _ _ h)
theorem wpList_neqS {P : Program} {ops : Array Oper} {Q : Exit → Act → World → Prop} {w : World} {rest : List Oper} {o : Oper} {a : Act} (hw : Region.wanted o (yielded ops a.tmps) = true) (t u : TypeId) (x y : Operand) (ho : o.op = .binOp .neq t x y u) (X Y : Array Value) (hx : a.eval x = .agg X) (hy : a.eval y = .agg Y) (hg : P.eqGuardType P.depth t = false) (B : Bool) (he : (Op.equalIn 10000 t (.agg X) (.agg Y)).run P w = .ok B w)
   (h : wpList P ops Q rest (a.put o.dst (.bool (!B))) w) : wpList P ops Q (o :: rest) a w :=
 BigFrame.wpList_want hw fun _ hK => wp_world_op _ _ (run_neq_op t u x y ho X Y hx hy hg B he) (hK _ _ h)
def Fy (W : World) (base : Nat) (E : Value) (F : Array Value) : Prop := (E = .nilIface ∧ F = #[.int .i64 0, .int .i64 0, .int .i64 0]) ∨ ∃ g x, base ≤ g ∧ E = .iface 85 (.pointer (some ⟨g, 0, none⟩)) ∧ F = frw x ∧ x.why ≠ 0 ∧ W.heap[g]? = some (.cells (frw x) 35 (0, 0))
theorem Fy.keep {W V : World} {base : Nat} {E : Value} {F : Array Value} (h : Fy W base E F) (hb : Below W.heap.size W V) : Fy V base E F := by
 rcases h with h | ⟨g, x, h0, h1, h2, h3, h4⟩
 · exact .inl h
 · exact .inr ⟨g, x, h0, h1, h2, h3, Go.Proofs.YtlbndkfllegacaaGreatDoor.keep hb h4⟩
theorem Fy.row {W : World} {base : Nat} {E : Value} {F : Array Value} (h : Fy W base E F) {k : Nat} (hk : k < base) (C : Array Value) : Fy (W.setRow k C) base E F := by
 rcases h with h | ⟨g, x, h0, h1, h2, h3, h4⟩
 · exact .inl h
 · exact .inr ⟨g, x, h0, h1, h2, h3, (setRow_other W k g C (by omega)).trans h4⟩
theorem Fy.info {W : World} {base : Nat} {E : Value} {F : Array Value} (h : Fy W base E F) : (Tryz.prog.info? 35).map (·.size) = some F.size := by
 rcases h with ⟨_, rfl⟩ | ⟨g, x, _, _, rfl, _⟩
 · kernel_rfl
 · exact infoFrw x
theorem Fy.size {W : World} {base : Nat} {E : Value} {F : Array Value} (h : Fy W base E F) : F.size = 3 := by
 rcases h with ⟨_, rfl⟩ | ⟨g, x, _, _, rfl, _⟩ <;> rfl
theorem Fy.one {W : World} {base : Nat} {E : Value} {F : Array Value} (h : Fy W base E F) : F.all (·.oneCell') = true := by
 rcases h with ⟨_, rfl⟩ | ⟨g, x, _, _, rfl, _⟩
 · simp [Value.oneCell']
 · exact frw_one x
theorem l_faulty {base : Nat} {E : Value} {F : Array Value} (w : World) (hE : Ety w) (h : Fy w base E F) : Calls Tryz.prog 12 #[E, .agg F] w fun e w' => e = .returned (.bool true) ∧ Below w.heap.size w w' := by
 rcases h with ⟨rfl, rfl⟩ | ⟨g, x, _, rfl, rfl, h3, h4⟩
 · exact l_faulty_nil 0 0 w
 · exact l_faulty_hit x h3 g w hE h4
theorem fldHd : ∃ f0 f1 f2, (Tryz.prog.fieldsOf 28).toList = [f0, f1, f2] ∧ f0.name ≠ "_" ∧ f0.type = 25 ∧ f0.offset = 0 ∧ f1.name ≠ "_" ∧ f1.type = 26 ∧ f1.offset = 32 ∧ f2.name ≠ "_" ∧ f2.type = 26 ∧ f2.offset = 33 := ⟨_, _, _, rfl, by decide, rfl, rfl, by decide, rfl, rfl, by decide, rfl, rfl⟩
theorem strHd : Tryz.prog.underlying 28 = some (.struct (Tryz.prog.fieldsOf 28)) := by kernel_rfl
theorem stoHd : Tryz.prog.stoodInHeld 28 = false := by kernel_rfl
theorem part_uH {cs : Array Value} {n : Int} {o : Nat} (h : cs[o]? = some (.int .u32 n)) (W : World) : (part 26 cs o).run Tryz.prog W = .ok (.int .u32 n) W := by
 have ha : (isAgg 26).run Tryz.prog W = .ok false W := by
   unfold isAgg
   rw [Sem.run_bind, run_underlying Tryz.underlying26 W]
   rfl
 simp [part, Sem.run_bind, ha, h]
theorem hrw_key (pub : List B) (hp : pub.length = 32) (prev m : Nat) : (hrw pub prev m).extract 0 (0 + (irow .u8 (bl pub)).size) = irow .u8 (bl pub) := by
 have e : (irow .u8 (bl pub)).size = 32 := by simp [irow, bl, hp]
 rw [e]
 unfold hrw
 rw [Array.extract_append]
 simp [e]
theorem hrw_at (pub : List B) (hp : pub.length = 32) (prev m : Nat) : (hrw pub prev m)[32]? = some (.int .u32 (prev : Int)) ∧ (hrw pub prev m)[33]? = some (.int .u32 (m : Int)) := by
 have e : (irow .u8 (bl pub)).size = 32 := by simp [irow, bl, hp]
 unfold hrw
 constructor <;> (rw [Array.getElem?_append_right (by omega), e]; rfl)
theorem eq_hrw (pub : List B) (hp : pub.length = 32) (prev m : Nat) (W : World) : (Op.equalIn 10000 28 (.agg (hrw pub prev m)) (.agg (hrw pub prev m))).run Tryz.prog W = .ok true W := by
 obtain ⟨f0, f1, f2, hf, n0, t0, o0, n1, t1, o1, n2, t2, o2⟩ := fldHd
 rw [run_equalIn_struct W 9999 28 _ _ strHd stoHd, hf]
 have i0 := fun p q => run_equalIn_int W (P := Tryz.prog) 9998 26 .u32 .u32 p q Tryz.underlying26
 have hl : (bl pub).length = 32 := by rw [bl_len, hp]
 have a := hrw_at pub hp prev m
 rw [eqf_cons n0 (by rw [t0, o0]; exact part_key hl (hrw_key pub hp prev m) W) (by rw [t0, o0]; exact part_key hl (hrw_key pub hp prev m) W) (by rw [t0]; exact eq_key 9997 (bl pub) (bl pub) hl hl W), eqf_cons n1 (by rw [t1, o1]; exact part_uH a.1 W) (by rw [t1, o1]; exact part_uH a.1 W) (by rw [t1]; exact i0 prev prev), eqf_cons n2 (by rw [t2, o2]; exact part_uH a.2 W) (by rw [t2, o2]; exact part_uH a.2 W) (by rw [t2]; exact i0 m m), eqf_nil]
 simp
def hPd (d : List B) : Array Value := match dec8 hdr d 0 with
 | none => hdP d
 | some _ => (hrw z32 0 0)
def fPd (d : List B) : Array Value := match dec8 hdr d 0 with
 | none => #[.int .i64 0, .int .i64 0, .int .i64 0]
 | some x => frw x
theorem hPd_form (d : List B) : ∃ (pub : List B) (prev m : Nat), pub.length = 32 ∧ hPd d = hrw pub prev m := by
 unfold hPd
 cases h : dec8 hdr d 0 with
 | none =>
   obtain ⟨_, pub, prev, m, hfs, hp, _, _⟩ := dec_hdr h
   exact ⟨pub, prev, m, hp, by unfold hdP; rw [hfs]; rfl⟩
 | some x => exact ⟨z32, 0, 0, z32_len, rfl⟩
theorem a_ParseHeader2 (d : List B) (b : Value) (w : World) (hB : BysB w b d) (hcap : ∀ a l c, b = .slice a l c → l ≤ c) : Calls Tryz.prog 10 #[b] w fun e w' => ∃ E, e = .returned (.tuple #[.agg (hPd d), E]) ∧ Fy w' w.heap.size E (fPd d) ∧ Below w.heap.size w w' := by
 refine (a_ParseHeader d b w hB hcap).mono ?_
 rintro e w' ⟨h, hb⟩
 unfold PrH at h
 unfold hPd fPd
 cases hd : dec8 hdr d 0 with
 | none => rw [hd] at h; exact ⟨_, h, .inl ⟨rfl, rfl⟩, hb⟩
 | some x =>
   rw [hd] at h
   obtain ⟨g, h1, h2, h3⟩ := h
   exact ⟨_, h1, .inr ⟨g, x, h2, rfl, rfl, dec8_why hd, h3⟩, hb⟩
theorem r_ParseHeader2 (d : List B) (b : Value) (w : World) (hB : BysB w b d) (hcap : ∀ a l c, b = .slice a l c → l ≤ c) : Calls Tryz.prog 11 #[b] w fun e w' => e = .returned (.tuple #[.agg (hPd d), .agg (fPd d)]) ∧ Below w.heap.size w w' := by
 refine (r_ParseHeader d b w hB hcap).mono ?_
 rintro e w' ⟨h, hb⟩
 unfold RrH at h
 unfold hPd fPd
 cases hd : dec8 hdr d 0 with
 | none => rw [hd] at h; exact ⟨h, hb⟩
 | some x => rw [hd] at h; exact ⟨h, hb⟩
set_option maxRecDepth 100000 in
set_option maxHeartbeats 8000000 in
theorem envReads_any (d : List B) (w : World) (dv : Value) (hE : Ety w) (hD : BysB w dv d) (hcap0 : ∀ a l c, dv = .slice a l c → l ≤ c) : Calls Tryz.prog 3 #[dv] w fun e w' => e = .returned (.bool true) ∧ Below w.heap.size w w' := by
 obtain ⟨H, hH⟩ : ∃ H, hPd d = H := ⟨_, rfl⟩
 obtain ⟨F, hF⟩ : ∃ F, fPd d = F := ⟨_, rfl⟩
 obtain ⟨I, hI⟩ : ∃ I, hPd d.reverse = I := ⟨_, rfl⟩
 obtain ⟨J, hJ⟩ : ∃ J, fPd d.reverse = J := ⟨_, rfl⟩
 have pA := hide (fun (W : World) (u : Value) (h : BysB W u d) (hc : ∀ a l c, u = .slice a l c → l ≤ c) => a_ParseHeader2 d u W h hc)
 have pT := hide (fun (W : World) (u : Value) (h : BysB W u d.reverse) (hc : ∀ a l c, u = .slice a l c → l ≤ c) => a_ParseHeader2 d.reverse u W h hc)
 have rA := hide (fun (W : World) (u : Value) (h : BysB W u d) (hc : ∀ a l c, u = .slice a l c → l ≤ c) => r_ParseHeader2 d u W h hc)
 have rT := hide (fun (W : World) (u : Value) (h : BysB W u d.reverse) (hc : ∀ a l c, u = .slice a l c → l ≤ c) => r_ParseHeader2 d.reverse u W h hc)
 rw [hH, hF] at pA rA
 rw [hI, hJ] at pT rT
 obtain ⟨pu, pv, pm, hp, fH⟩ := hPd_form d
 obtain ⟨qu, qv, qm, hq, fI⟩ := hPd_form d.reverse
 rw [hH] at fH
 rw [hI] at fI
 have iH : (Tryz.prog.info? 28).map (·.size) = some H.size := by rw [fH]; exact hrw_info pu hp pv pm
 have iI : (Tryz.prog.info? 28).map (·.size) = some I.size := by rw [fI]; exact hrw_info qu hq qv qm
 have zH : H.size = 34 := by rw [fH]; exact hrw_size pu hp pv pm
 have zI : I.size = 34 := by rw [fI]; exact hrw_size qu hq qv qm
 have oH : H.all (·.oneCell') = true := by rw [fH]; exact hrw_one _ _ _
 have oI : I.all (·.oneCell') = true := by rw [fI]; exact hrw_one _ _ _
 have eH := fun W : World => eq_hrw pu hp pv pm W
 rw [← fH] at eH
 have eI := fun W : World => eq_hrw qu hq qv qm W
 rw [← fI] at eI
 replace zH := hide zH
 replace zI := hide zI
 replace oH := hide oH
 replace oI := hide oI
 replace eH := hide eH
 replace eI := hide eI
 replace iH := hide iH
 replace iI := hide iI
 clear fH fI hH hF hI hJ hp hq pu pv pm qu qv qm
 have hcap := hide hcap0
 clear hcap0
 have hE1 := hide (fun V (h : Below w.heap.size w V) => hE.keep h rfl)
 clear hE
 have hDh := hide (fun V (h : Below w.heap.size w V) => hD.keep h)
 have hDl := hD.2.1
 obtain ⟨dao, dcap, rfl⟩ := hD.form
 have hw : Below w.heap.size w w := Below.refl _ _
 clear hD
 go_enter Tryz.func3, Tryz.ntmps3
 go_wp2_with (fail)
 have cX := sB_hand d w _ (hDh.out _ hw)
 refine cX.mono ?_
 rintro e_ w1 ⟨rfl, rI, hb⟩
 clear cX
 replace hw := Below.after hw hb
 have sz_w1 := hb.size
 clear hb
 have sIn := slice_to (some ⟨w.heap.size, 0, none⟩) (d.length + 80) (d.length + 80) d.length (by omega)
 have lgI := lt_of_row rI
 go_wp2_with (fail)
 have cX := pA.out w1 (.slice (some ⟨w.heap.size, 0, none⟩) d.length (d.length + 80)) (head_bysB rI rfl hDl _) (fun a l c h => by cases h; omega)
 refine cX.mono ?_
 rintro e_ a1 ⟨E, rfl, hFy, hb⟩
 clear cX
 replace rI := keep hb rI
 replace hw := Below.after hw hb
 have sz_a1 := hb.size
 clear hb
 have z_ := hp1_0 a1 (.cells (hrw z32 0 0) 28)
 go_wp2_with (first | (refine wpList_alloc rfl 28 rfl (hrw z32 0 0) zHdr ?_) | (refine wpList_store_row rfl 28 _ _ rfl (a1.heap.size) H rfl rfl 28 _ z_ iH.out (by rw [zH.out, hrw_size _ z32_len]) oH.out ?_; refine wpList_stay ?_) | fail)
 unfold WpStay
 try simp only [Act.put, List.setIfInBounds_toArray, List.set_cons_succ, List.set_cons_zero]
 have R4 := setRow_heap (a1.alloc (.cells (hrw z32 0 0) 28)) a1.heap.size _ H _ _ z_
 have hb : Below a1.heap.size a1 ((a1.alloc (.cells (hrw z32 0 0) 28)).setRow a1.heap.size H) := below_setRow ((Below.refl _ _).alloc (Nat.le_refl _) _) (Nat.le_refl _) _
 clear z_
 replace rI := keep hb rI
 replace hFy := hFy.keep hb
 replace hw := Below.after hw hb
 have sz_a2 := hb.size
 clear hb
 generalize (a1.alloc (.cells (hrw z32 0 0) 28)).setRow a1.heap.size H = a2 at *
 generalize a1.heap.size = g4 at *
 go_wp2_with (fail)
 have cX := rA.out a2 _ (hDh.out _ hw) hcap.out
 refine cX.mono ?_
 rintro e_ a3 ⟨rfl, hb⟩
 clear cX
 have l4 := lt_of_row R4
 replace rI := keep hb rI
 replace R4 := keep hb R4
 replace hFy := hFy.keep hb
 replace hw := Below.after hw hb
 have sz_a3 := hb.size
 clear hb
 have z0 := hp2_0 a3 (.cells (hrw z32 0 0) 28) (.cells #[.int .i64 0, .int .i64 0, .int .i64 0] 35)
 have z1 := hp2_1 a3 (.cells (hrw z32 0 0) 28) (.cells #[.int .i64 0, .int .i64 0, .int .i64 0] 35)
 have y1 := (setRow_other ((a3.alloc (.cells (hrw z32 0 0) 28)).alloc (.cells #[.int .i64 0, .int .i64 0, .int .i64 0] 35)) a3.heap.size (a3.heap.size + 1) H (by omega)).trans z1
 have R6 := (setRow_other (((a3.alloc (.cells (hrw z32 0 0) 28)).alloc (.cells #[.int .i64 0, .int .i64 0, .int .i64 0] 35)).setRow a3.heap.size H) (a3.heap.size + 1) a3.heap.size F (by omega)).trans (setRow_heap ((a3.alloc (.cells (hrw z32 0 0) 28)).alloc (.cells #[.int .i64 0, .int .i64 0, .int .i64 0] 35)) a3.heap.size _ H _ _ z0)
 have R7 := setRow_heap (((a3.alloc (.cells (hrw z32 0 0) 28)).alloc (.cells #[.int .i64 0, .int .i64 0, .int .i64 0] 35)).setRow a3.heap.size H) (a3.heap.size + 1) _ F _ _ y1
 have hb : Below a3.heap.size a3 ((((a3.alloc (.cells (hrw z32 0 0) 28)).alloc (.cells #[.int .i64 0, .int .i64 0, .int .i64 0] 35)).setRow a3.heap.size H).setRow (a3.heap.size + 1) F) := below_setRow (below_setRow (((Below.refl _ _).alloc (Nat.le_refl _) _).alloc (by simp) _) (Nat.le_refl _) H) (by omega) F
 have iF := hFy.info
 have zF := hFy.size
 have oF := hFy.one
 have K6 := hide R6
 have K7 := hide R7
 have Kb := hide hb
 clear R6 R7 hb
 go_wp2_with (first | (refine wpList_alloc rfl 28 rfl (hrw z32 0 0) zHdr ?_) | (refine wpList_store_row rfl 28 _ _ rfl (a3.heap.size) H rfl rfl 28 _ z0 iH.out (by rw [zH.out, hrw_size _ z32_len]) oH.out ?_) | (refine wpList_store_row rfl 35 _ _ rfl (a3.heap.size + 1) F rfl rfl 35 _ y1 iF (by rw [zF]; rfl) oF ?_; refine wpList_stay ?_) | fail)
 unfold WpStay
 try simp only [Act.put, List.setIfInBounds_toArray, List.set_cons_succ, List.set_cons_zero]
 have hb := Kb.out
 have R6 := K6.out
 have R7 := K7.out
 clear z0 z1 y1 Kb K6 K7
 replace rI := keep hb rI
 replace R4 := keep hb R4
 replace hFy := hFy.keep hb
 replace hw := Below.after hw hb
 have sz_a4 := hb.size
 clear hb
 generalize (((a3.alloc (.cells (hrw z32 0 0) 28)).alloc (.cells #[.int .i64 0, .int .i64 0, .int .i64 0] 35)).setRow a3.heap.size H).setRow (a3.heap.size + 1) F = a4 at *
 generalize a3.heap.size = g6 at *
 go_wp2_with (first | (refine wpList_load_want rfl 28 _ rfl g4 rfl 28 H (0, 0) _ R4 Tryz.underlying28 rfl iH.out ?_) | (refine wpList_load_want rfl 28 _ rfl g6 rfl 28 H (0, 0) _ R6 Tryz.underlying28 rfl iH.out ?_) | (refine wpList_neqS rfl 28 28 _ _ rfl H H rfl rfl (by kernel_rfl) true (eH.out _) ?_) | (refine wpList_load_want rfl 35 _ rfl (g6 + 1) rfl 35 F (0, 0) _ R7 Tryz.underlying35 rfl iF ?_) | fail)
 have cX := l_faulty a4 (hE1.out _ hw) hFy
 refine cX.mono ?_
 rintro e_ a5 ⟨rfl, hb⟩
 clear cX
 have l4 := lt_of_row R4
 have l6 := lt_of_row R6
 have l7 := lt_of_row R7
 replace rI := keep hb rI
 replace R4 := keep hb R4
 replace R6 := keep hb R6
 replace R7 := keep hb R7
 replace hw := Below.after hw hb
 have sz_a5 := hb.size
 clear hb
 clear hFy
 go_wp2_with (fail)
 have cX := sB_left d w.heap.size a5 _ (hDh.out _ hw) rI
 refine cX.mono ?_
 rintro e_ a6 ⟨rfl, hb⟩
 clear cX
 replace rI := keep hb rI
 replace R4 := keep hb R4
 replace R6 := keep hb R6
 replace R7 := keep hb R7
 replace hw := Below.after hw hb
 have sz_a6 := hb.size
 clear hb
 go_wp2_with (fail)
 have cX := sB_turned d w.heap.size a6 _ (hDh.out _ hw) rI
 refine cX.mono ?_
 rintro e_ a7 ⟨rfl, rT_, rI2, hgr⟩
 clear cX
 have k4 := (hgr.block g4 (lt_of_row R4) (fun h => by injection h with h; omega)).trans R4
 have k6 := (hgr.block g6 (lt_of_row R6) (fun h => by injection h with h; omega)).trans R6
 have k7 := (hgr.block (g6 + 1) (lt_of_row R7) (fun h => by injection h with h; omega)).trans R7
 replace hw := hw.grown hgr hw.size (fun k h => by injection h with h; omega)
 have l47 := lt_of_row k4
 have l77 := lt_of_row k7
 clear hgr rI R4 R6 R7
 have rI := rI2
 clear rI2
 generalize a6.heap.size = gT at *
 have sIn := slice_to (some ⟨w.heap.size, 0, none⟩) (d.length + 80) (d.length + 80) d.length (by omega)
 go_wp2_with (fail)
 have cX := pT.out a7 (.slice (some ⟨w.heap.size, 0, none⟩) d.length (d.length + 80)) (head_bysB rI List.length_reverse hDl _) (fun a l c h => by cases h; omega)
 refine cX.mono ?_
 rintro e_ a8 ⟨E2, rfl, hFy, hb⟩
 clear cX
 replace rI := keep hb rI
 replace rT_ := keep hb rT_
 replace k4 := keep hb k4
 replace k6 := keep hb k6
 replace k7 := keep hb k7
 replace hw := Below.after hw hb
 have sz_a8 := hb.size
 clear hb
 have R4 := hide (setRow_heap a8 g4 _ I _ _ k4)
 have hw2 := hide (below_setRow hw (show w.heap.size ≤ g4 by omega) I)
 have rT2 := hide ((setRow_other a8 g4 gT I (by omega)).trans rT_)
 have k6' := hide ((setRow_other a8 g4 g6 I (by omega)).trans k6)
 have k7' := hide ((setRow_other a8 g4 (g6 + 1) I (by omega)).trans k7)
 have hF2 := hide (hFy.row (k := g4) (by omega) I)
 clear rT_ k6 k7 hw rI hFy
 go_wp2_with (first | (refine wpList_store_row rfl 28 _ _ rfl (g4) I rfl rfl 28 _ k4 iI.out (by rw [zI.out, zH.out]) oI.out ?_; refine wpList_stay ?_) | fail)
 unfold WpStay
 try simp only [Act.put, List.setIfInBounds_toArray, List.set_cons_succ, List.set_cons_zero]
 clear k4
 have R4 := R4.out
 have hw := hw2.out
 have rT_ := rT2.out
 have R6 := k6'.out
 have R7 := k7'.out
 have hFy := hF2.out
 clear hw2 rT2 k6' k7' hF2
 have szb : (a8.setRow g4 I).heap.size = a8.heap.size := by simp
 generalize a8.setRow g4 I = b1 at *
 go_wp2_with (fail)
 have cX := rT.out b1 (.slice (some ⟨gT, 0, none⟩) d.length d.length) (row_bysB rT_ List.length_reverse hDl _) (fun a l c h => by cases h; exact Nat.le_refl _)
 refine cX.mono ?_
 rintro e_ b2 ⟨rfl, hb⟩
 clear cX
 replace R4 := keep hb R4
 replace R6 := keep hb R6
 replace R7 := keep hb R7
 replace hFy := hFy.keep hb
 replace hw := Below.after hw hb
 have sz_b2 := hb.size
 clear hb
 clear rT_
 have iJ := hFy.info
 have zJ := hFy.size
 have oJ := hFy.one
 have l4 := lt_of_row R4
 have l6 := lt_of_row R6
 have l7 := lt_of_row R7
 have y7 := (setRow_other b2 g6 (g6 + 1) I (by omega)).trans R7
 have S4 := hide ((setRow_other (b2.setRow g6 I) (g6 + 1) g4 J (by omega)).trans ((setRow_other b2 g6 g4 I (by omega)).trans R4))
 have S6 := hide ((setRow_other (b2.setRow g6 I) (g6 + 1) g6 J (by omega)).trans (setRow_heap b2 g6 _ I _ _ R6))
 have S7 := hide (setRow_heap (b2.setRow g6 I) (g6 + 1) _ J _ _ y7)
 have hw2 := hide (below_setRow (below_setRow hw (show w.heap.size ≤ g6 by omega) I) (show w.heap.size ≤ g6 + 1 by omega) J)
 have hF2 := hide ((hFy.row (k := g6) (by omega) I).row (k := g6 + 1) (by omega) J)
 clear hw hFy R4
 go_wp2_with (first | (refine wpList_store_row rfl 28 _ _ rfl (g6) I rfl rfl 28 _ R6 iI.out (by rw [zI.out, zH.out]) oI.out ?_) | (refine wpList_store_row rfl 35 _ _ rfl (g6 + 1) J rfl rfl 35 _ y7 iJ (by rw [zJ, zF]) oJ ?_; refine wpList_stay ?_) | fail)
 unfold WpStay
 try simp only [Act.put, List.setIfInBounds_toArray, List.set_cons_succ, List.set_cons_zero]
 clear y7 R6 R7
 have R4 := S4.out
 have R6 := S6.out
 have R7 := S7.out
 have hw := hw2.out
 have hFy := hF2.out
 clear S4 S6 S7 hw2 hF2
 generalize (b2.setRow g6 I).setRow (g6 + 1) J = b3 at *
 go_wp2_with (first | (refine wpList_load_want rfl 28 _ rfl g4 rfl 28 I (0, 0) _ R4 Tryz.underlying28 rfl iI.out ?_) | (refine wpList_load_want rfl 28 _ rfl g6 rfl 28 I (0, 0) _ R6 Tryz.underlying28 rfl iI.out ?_) | (refine wpList_eql rfl 28 28 _ _ rfl I I rfl rfl (by kernel_rfl) true (eI.out _) ?_) | (refine wpList_load_want rfl 35 _ rfl (g6 + 1) rfl 35 J (0, 0) _ R7 Tryz.underlying35 rfl iJ ?_) | fail)
 have cX := l_faulty b3 (hE1.out _ hw) hFy
 refine cX.mono ?_
 rintro e_ b4 ⟨rfl, hb⟩
 replace hw := Below.after hw hb
 clear cX hb
 go_wp2_with (fail)
 go_ret
 exact ⟨rfl, hw⟩
end Go.Proofs.YtlbndkfllegacaaGreatDoor

