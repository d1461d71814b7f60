import Derived.Test.YtjoohgkgkabbpaaGreatDoorProg
import Derived.WalkKit
import Derived.WalkSpells
import Derived.WalkLawsBesides
import Derived.Lib.QuietBelow
import Derived.Laws.BitsAllLaws
import Derived.BigQuiet
import Derived.WalkMore
import Derived.Test.YtjoohgkgkabbpaaGreatDoorVOpen
import Derived.Test.YtjoohgkgkabbpaaGreatDoorVQb4
import Derived.Test.YtjoohgkgkabbpaaGreatDoorVQa1
import Derived.Laws.BytesArg
import Derived.Deep.Slices
import Derived.Deep.Cut
import Derived.OwnWalk
import Derived.Lib.SlBytesConst
import Derived.Test.YtjoohgkgkabbpaaGreatDoorVEve
namespace Go.Proofs.YtjoohgkgkabbpaaGreatDoor
set_option maxRecDepth 100000
open Go Go.RowKit Go.Sort
attribute [local go_sem] setCell_drewN alloc_drewN
set_option maxRecDepth 100000 in
set_option maxHeartbeats 4000000 in
theorem r_next1 (b : Nat) (hb : b ≤ 1152921504606846976) : Gives 105 #[.int .i64 1, .int .i64 (b : Int)] (.int .i64 (2 * (b : Int))) := by
 intro w
 go_enter Tryz.func105, Tryz.ntmps105
 go_wp2
 go_ret
 exact ⟨rfl, Below.refl _ _⟩
theorem quo_big {m i j : Nat} (h8 : 8 ≤ m) (h : i < j) : 15 < m * 2 ^ j / 2 ^ i := by
 have hp : 0 < 2 ^ i := Nat.pow_pos (by decide)
 rw [show j = (j - i) + i by omega, Nat.pow_add, ← Nat.mul_assoc, Nat.mul_div_cancel _ hp]
 have h1 : 2 ^ 1 ≤ 2 ^ (j - i) := Nat.pow_le_pow_right (by decide) (by omega)
 have := Nat.mul_le_mul h8 h1
 omega
set_option maxRecDepth 100000 in
set_option maxHeartbeats 4000000 in
theorem r_next2 (m j : Nat) (h8 : 8 ≤ m) (h15 : m ≤ 15) (hb : m * 2 ^ j ≤ 1152921504606846976) : Gives 105 #[.int .i64 2, .int .i64 ((m * 2 ^ j : Nat) : Int)] (.int .i64 ((m * 2 ^ j + 2 ^ j : Nat) : Int)) := by
 intro w
 have hp : 2 ^ j ≤ m * 2 ^ j := Nat.le_mul_of_pos_left _ (by omega)
 have quo : ∀ i, i ≤ j → (decide (((m * 2 ^ j / 2 ^ i : Nat) : Int) > 15) = decide (i < j)) := fun i hi => by
  rcases Nat.lt_or_ge i j with q | q
  ·rw [decide_eq_true q, decide_eq_true]
   have := quo_big h8 q
   omega
  ·obtain rfl : i = j := by omega
   rw [decide_eq_false (Nat.lt_irrefl i), decide_eq_false]
   rw [Nat.mul_div_cancel _ (Nat.pow_pos (by decide))]
   omega
 have pos : ∀ i : Nat, 0 < 2 ^ i := fun i => Nat.pow_pos (by decide)
 have dbl : ∀ i, i < j → 2 * 2 ^ i ≤ 2 ^ j := fun i hi => by
  rw [← Nat.pow_succ']
  exact Nat.pow_le_pow_right (by decide) (by omega)
 generalize hB : m * 2 ^ j = b at *
 go_enter Tryz.func105, Tryz.ntmps105
 go_wp2
 go_loopw [5] (fun u wr => ∃ i k : Nat, i ≤ j ∧ k = 2 ^ i ∧ u = .int .i64 (k : Int) ∧ wr = w) (fun u _ => 2 ^ j - (intOf u).toNat)
 case atStart => exact ⟨0, 1, by omega, rfl, rfl, rfl⟩
 case round =>
  obtain ⟨i, k, hi, hk, rfl, rfl⟩ := hrel
  have q1 := quo i hi
  have q2 := pos i
  have q3 := dbl i
  rw [← hk] at q1 q2 q3
  have hk' := hide hk
  have hz : ¬ (k : Int) = 0 := by omega
  have hdv : ((b : Int)).tdiv (k : Int) = ((b / k : Nat) : Int) := by
   rw [Int.tdiv_eq_ediv_of_nonneg (by omega), Int.natCast_ediv]
  have hdl : b / k ≤ b := Nat.div_le_self _ _
  generalize b / k = q at *
  rcases Nat.lt_or_ge i j with c | c
  ·rw [decide_eq_true c] at q1
   replace q3 := q3 c
   clear quo pos dbl hB hk
   generalize 2 ^ j = x at *
   go_wp2
   refine ⟨⟨i + 1, 2 * k, by omega, by rw [Nat.pow_succ', hk'.out], by go_num, trivial⟩, ?_⟩
   simp [intOf]; omega
  ·obtain rfl : i = j := by omega
   rw [decide_eq_false (Nat.lt_irrefl i)] at q1
   clear quo pos dbl hB q3
   rw [← hk]
   rw [← hk] at hp
   clear hk
   go_wp2
   go_ret
   have e2 : 2 ^ i = k := hk'.out.symm
   rw [e2, Int.natCast_add]
   exact ⟨rfl, Below.refl _ _⟩
theorem r_next10 (v lo : Nat) (hv : v = 1 ∧ lo = 1 ∨ v = 2 ∧ lo = 8) (b : Nat) (hB : Bkt lo b) (hb : b ≤ 1152921504606846976) : ∃ c : Nat, Gives 105 #[.int .i64 (v : Int), .int .i64 (b : Int)] (.int .i64 (c : Int)) ∧ Bkt lo c ∧ b < c ∧ ∀ x, Bkt lo x → b < x → c ≤ x := by
 obtain ⟨h64, m, j, rfl, m1, m2⟩ := hB
 have hp : 0 < 2 ^ j := Nat.pow_pos (by decide)
 rcases hv with ⟨rfl, rfl⟩ | ⟨rfl, rfl⟩
 ·obtain rfl : m = 1 := by omega
  refine ⟨1 * 2 ^ j + 2 ^ j, ?_, bkt_up (by decide) h64 m1 m2, by omega, fun x hx hl => bkt_next m1 hx hl⟩
  have := r_next1 (1 * 2 ^ j) hb
  rw [show (2 : Int) * ((1 * 2 ^ j : Nat) : Int) = ((1 * 2 ^ j + 2 ^ j : Nat) : Int) by omega] at this
  exact this
 ·exact ⟨m * 2 ^ j + 2 ^ j, r_next2 m j m1 (by omega) hb, bkt_up (by decide) h64 m1 m2, by omega, fun x hx hl => bkt_next m1 hx hl⟩
theorem bkt_64 (lo : Nat) (h : lo = 1 ∨ lo = 8) : Bkt lo 64 := by
 rcases h with rfl | rfl
 ·exact ⟨by decide, 1, 6, by decide, by decide, by decide⟩
 ·exact ⟨by decide, 8, 3, by decide, by decide, by decide⟩
set_option maxRecDepth 100000 in
set_option maxHeartbeats 4000000 in
theorem r_least (v : Nat) (hv : v = 1 ∨ v = 2) (n : Nat) (hn : n ≤ 1152921504606846000) : Gives 75 #[.int .i64 (v : Int), .int .i64 (n : Int)] (.int .i64 (bkd (dg v) n : Int)) := by
 intro w
 obtain ⟨lo, hl, hlo⟩ : ∃ lo, (v = 1 ∧ lo = 1 ∨ v = 2 ∧ lo = 8) ∧ lo = 2 ^ (dg v - 1) := by
  rcases hv with rfl | rfl
  ·exact ⟨1, .inl ⟨rfl, rfl⟩, rfl⟩
  ·exact ⟨8, .inr ⟨rfl, rfl⟩, rfl⟩
 have hL := bkd_lst (dg v) n (dg_pos v) (dg_le v)
 rw [← hlo] at hL
 have h0 := bkt_64 lo (by omega)
 generalize bkd (dg v) n = z at *
 clear hlo
 go_enter Tryz.func75, Tryz.ntmps75
 go_wp2
 go_loopw [5] (fun u wr => ∃ b : Nat, Bkt lo b ∧ b ≤ z ∧ u = .int .i64 (b : Int) ∧ Below w.heap.size w wr) (fun u _ => n - (intOf u).toNat)
 case atStart => exact ⟨64, h0, hL.1.1, rfl, Below.refl _ _⟩
 case round =>
  obtain ⟨b, hb, hz, rfl, hw⟩ := hrel
  by_cases q : b < n
  ·have hd : decide ((b : Int) < (n : Int)) = true := by simp; omega
   obtain ⟨c, c1, c2, c3, c4⟩ := r_next10 v lo hl b hb (by omega)
   have hcz : c ≤ z := c4 z hL.1 (by have := hL.2.1; omega)
   have hh := hide c2
   clear c4 hL h0 hb c2 hv hl
   go_wp2_with (fail)
   refine (c1.at _).mono ?_
   rintro e_ w1 ⟨rfl, hb1⟩
   replace hw := Below.after hw hb1
   clear c1 hb1
   go_wp2
   refine ⟨⟨c, hh.out, hcz, rfl, hw⟩, ?_⟩
   simp [intOf]; omega
  ·have hd : decide ((b : Int) < (n : Int)) = false := by simp; omega
   have e : b = z := by have := hL.2.2 b hb (by omega); omega
   clear hL h0 hb hl hz
   subst e
   go_wp2
   go_ret
   exact ⟨rfl, hw⟩
end Go.Proofs.YtjoohgkgkabbpaaGreatDoor
namespace Go.Proofs.YtjoohgkgkabbpaaGreatDoor
set_option maxRecDepth 100000
open Go Go.RowKit Go.Sort
attribute [local go_sem] setCell_drewN alloc_drewN
end Go.Proofs.YtjoohgkgkabbpaaGreatDoor
namespace Go.Proofs.YtjoohgkgkabbpaaGreatDoor
set_option maxRecDepth 100000
open Go Go.RowKit Go.Sort
attribute [local go_sem] setCell_drewN alloc_drewN
theorem make_i64 (n : Nat) (h : n ≤ 281474976710656) (W : World) : (Instr.makeSlice 22 (.int .i64 (n : Int)) (.int .i64 (n : Int))).run Tryz.prog W = .ok (.slice (some ⟨W.heap.size, 0, none⟩) n n) (W.alloc (.cells (irow .u8 (zr n)) 5)) := by
 rw [← made_irow]
 exact run_make_row' 22 5 (.int .u8 0) 1 Tryz.underlying22 (by kernel_rfl) rfl .i64 .i64 n (by omega) (by omega) W
theorem getD_append_lt (a b : List Int) (j : Nat) (h : j < a.length) : (a ++ b).getD j 0 = a.getD j 0 := by
 rw [List.getD_eq_getElem?_getD, List.getD_eq_getElem?_getD, List.getElem?_append_left h]
theorem cell_of10 {W : World} {g : Nat} {cs : Array Value} {t : TypeId} (hg : W.heap[g]? = some (.cells cs t (0, 0))) {j : Nat} {v : Value} (h : cs[j]? = some v) : W.cell? ⟨g, j, none⟩ = some v := by
 rw [cell_of_row _ _ _ _ _ _ hg]; exact h
theorem elem810 : Tryz.prog.underlying 22 = some (.slice (Tryz.prog.elem 22)) := by kernel_rfl
theorem size810 (W : World) : (sizeOf (Tryz.prog.elem 22)).run Tryz.prog W = .ok 1 W := by kernel_rfl
def BysM (W : World) (v : Value) (bs : List Int) : Prop := Bys W v bs ∧ bs.length ≤ 211106232532992 ∧ (∀ a l c, v = .slice a l c → a = none → c = 0)
theorem BysM.keep {W W' : World} {v : Value} {bs : List Int} (h : BysM W v bs) (hb : Below W.heap.size W W') : BysM W' v bs := ⟨h.1.keep hb, h.2⟩
theorem Bys.of_prefix {W : World} {g : Nat} {l m : List Int} {t : TypeId} (hg : W.heap[g]? = some (.cells (irow .u8 (l ++ m)) t (0, 0))) (hl : l.length ≤ 9223372036854775807) (hz : ∀ z ∈ l, 0 ≤ z ∧ z < 256) (cap : Nat) : Bys W (.slice (some ⟨g, 0, none⟩) l.length cap) l := by
 refine ⟨_, cap, rfl, hl, fun j hj => ⟨g, 0, rfl, lt_of_row hg, ?_⟩, hz⟩
 rw [Nat.zero_add, irow_cell hg (by rw [List.length_append]; omega), getD_append_lt _ _ _ hj]
def mix (a c : List Int) (k : Nat) : List Int := a.take k ++ c.drop k
theorem mix_zero (a c : List Int) : mix a c 0 = c := by simp [mix]
theorem mix_length (a c : List Int) (k : Nat) (h : a.length = c.length) (hk : k ≤ c.length) : (mix a c k).length = c.length := by simp [mix]; omega
theorem mix_set (a c : List Int) (k : Nat) (h : a.length = c.length) (hk : k < c.length) : (mix a c k).set k (a.getD k 0) = mix a c (k + 1) := by
 apply List.ext_getElem?
 intro j
 have h1 : (a.take k).length = k := by simp; omega
 have h2 : (a.take (k + 1)).length = k + 1 := by simp; omega
 unfold mix
 rw [List.getElem?_set]
 by_cases e : k = j
 ·subst e
  rw [if_pos rfl, if_pos (by simp; omega), List.getElem?_append_left (by omega), List.getElem?_take_of_lt (by omega)]
  rw [List.getD_eq_getElem?_getD, List.getElem?_eq_getElem (by omega)]
  rfl
 ·rw [if_neg e]
  by_cases hj : j < k
  ·rw [List.getElem?_append_left (by omega), List.getElem?_append_left (by omega), List.getElem?_take_of_lt hj, List.getElem?_take_of_lt (by omega)]
  ·rw [List.getElem?_append_right (by omega), List.getElem?_append_right (by omega), List.getElem?_drop, List.getElem?_drop, h1, h2]
   congr 1
   omega
theorem Bys.grown {W W' : World} {v : Value} {bs : List Int} {g : Nat} (h : Bys W v bs) (hb : W.grownBy W' (some g)) (hne : ∀ a l c, v = .slice (some a) l c → 0 < l → a.block ≠ g) : Bys W' v bs := by
 obtain ⟨ao, cap, rfl, hl, hc, hz⟩ := h
 refine ⟨ao, cap, rfl, hl, fun j hj => ?_, hz⟩
 obtain ⟨b, off, rfl, h1, h2⟩ := hc j hj
 have hn : b ≠ g := hne ⟨b, off, none⟩ _ _ rfl (by omega)
 exact ⟨b, off, rfl, Nat.lt_of_lt_of_le h1 hb.size, hb.cell h2 (by intro e; injection e with e; exact hn e)⟩
theorem bys_bd {W : World} {v : Value} {bs : List Int} (h : Bys W v bs) : ∀ z ∈ bs, 0 ≤ z ∧ z < 256 := by
 obtain ⟨_, _, _, _, _, h⟩ := h; exact h
def NB (W : World) (v : Value) (bs : List Int) : Prop := Bys W v bs ∧ (∀ a l c, v = .slice a l c → a = none → c = 0)
theorem NB.keep {W W' : World} {v : Value} {bs : List Int} (h : NB W v bs) (hb : Below W.heap.size W W') : NB W' v bs := ⟨h.1.keep hb, h.2⟩
theorem NB.grown {W W' : World} {v : Value} {bs : List Int} {row : Option Nat} (h : NB W v bs) (hb : W.grownBy W' row) (hne : ∀ a l c, v = .slice (some a) l c → 0 < l → row ≠ some a.block) : NB W' v bs := by
 obtain ⟨⟨ao, cap, rfl, hl, hc, hz⟩, hn⟩ := h
 refine ⟨⟨ao, cap, rfl, hl, fun j hj => ?_, hz⟩, hn⟩
 obtain ⟨b, off, rfl, h1, h2⟩ := hc j hj
 have hn' := hne ⟨b, off, none⟩ _ _ rfl (by omega)
 exact ⟨b, off, rfl, Nat.lt_of_lt_of_le h1 hb.size, hb.cell h2 (by intro e; exact hn' e.symm)⟩
theorem slice_to (ao : Option Addr) (len cap n : Nat) (h : n ≤ cap) (W : World) : (Instr.sliceAt 22 (.slice ao len cap) none (some (.int .i64 (n : Int))) none).run Tryz.prog W = .ok (.slice ao n cap) W := by
 rw [run_sliceAt_slice _ _ _ _ _ _ elem810, run_slice_h W 22 ao len cap elem810 .i64 _ (by omega) (by omega), size810]
 show Result.ok (sliced _ _ _ _ 1) W = _
 rw [Int.toNat_natCast, sliced, Nat.zero_mul]
 by_cases e : cap = 0
 ·rw [if_pos e]; rfl
 ·rw [if_neg e]
  cases ao <;> rfl
theorem Bys.take {W : World} {ao : Option Addr} {cap n : Nat} {bs : List Int} (h : Bys W (.slice ao bs.length cap) bs) (hn : n ≤ bs.length) : Bys W (.slice ao n cap) (bs.take n) := by
 obtain ⟨ao', cap', e, hl, hc, hz⟩ := h
 cases e
 have hln : (bs.take n).length = n := by rw [List.length_take]; omega
 refine ⟨ao, cap, by rw [hln], by omega, fun j hj => ?_, fun z h => hz z (List.mem_of_mem_take h)⟩
 obtain ⟨b, off, e, h1, h2⟩ := hc j (by omega)
 refine ⟨b, off, e, h1, ?_⟩
 rw [h2, List.getD_eq_getElem?_getD, List.getD_eq_getElem?_getD, List.getElem?_take_of_lt (by omega)]
def mk4 (k : Nat) : List Int := (List.range k).map fun (i : Nat) => 100 + (i : Int)
theorem mk4_len (k : Nat) : (mk4 k).length = k := by simp [mk4]
theorem mk4_get (k i : Nat) (h : i < k) : (mk4 k).getD i 0 = 100 + (i : Int) := by
 simp [mk4, List.getD_eq_getElem?_getD, List.getElem?_map, List.getElem?_range h]
def mz (k : Nat) : List Int := mk4 k ++ zr (80 - k)
theorem mz_len (k : Nat) (h : k ≤ 80) : (mz k).length = 80 := by simp [mz, mk4_len, zr_len]; omega
theorem mz_set (k : Nat) (h : k < 80) : (mz k).set k (100 + (k : Int)) = mz (k + 1) := by
 have e1 : zr (80 - k) = 0 :: zr (80 - (k + 1)) := by
  rw [show 80 - k = (80 - (k + 1)) + 1 by omega]; rfl
 have e2 : mk4 (k + 1) = mk4 k ++ [100 + (k : Int)] := by simp [mk4, List.range_succ]
 rw [mz, mz, e1, e2, List.set_append_right _ _ (by rw [mk4_len]; exact Nat.le_refl _), mk4_len, Nat.sub_self, List.set_cons_zero, List.append_assoc]
 rfl
theorem bmz_set (bs : List Int) (k : Nat) (h : k < 80) : (bs ++ mz k).set (bs.length + k) (100 + (k : Int)) = bs ++ mz (k + 1) := by
 rw [List.set_append_right _ _ (by omega), Nat.add_sub_cancel_left, mz_set k h]
theorem make_len (n : Nat) (hn : n ≤ 140737488355328) (w : World) : (Instr.makeSlice 22 (.int .i64 (n : Int)) (.int .i64 (n : Int))).run Tryz.prog w = .ok (.slice (some ⟨w.heap.size, 0, none⟩) n n) (w.alloc (.cells (irow .u8 (zr n)) 5)) := make_i64 n (by omega) w
theorem conv_bys10 {W : World} {v : Value} {bs : List Int} (h : Bys W v bs) : (convert 22 9 v).run Tryz.prog W = .ok (.string (strOfNums bs)) W := by
 obtain ⟨ao, cap, rfl, _, hc, _⟩ := h
 cases ao with
 | none =>
  have : bs = [] := by
   cases bs with
   | nil => rfl
   | cons x xs => obtain ⟨b, off, e, _⟩ := hc 0 (by simp); cases e
  subst this
  exact run_convert_bytes_nil W 22 5 Tryz.underlying22 Tryz.underlying5 _ _ 9 Tryz.underlying9
 | some ad =>
  rcases Nat.eq_zero_or_pos bs.length with e0 | e0
  ·have : bs = [] := List.eq_nil_of_length_eq_zero e0
   subst this
   obtain ⟨b, off, sp⟩ := ad
   rw [run_convert_bytes_string W 22 9 5 _ _ _ Tryz.underlying22 Tryz.underlying5 Tryz.underlying9]
   have := run_bytesToString (P := Tryz.prog) W ⟨b, off, sp⟩ 0 cap [] (by rfl)
   exact this
  ·obtain ⟨b, off, e, _⟩ := hc 0 e0
   cases e
   exact run_convert_bytes_arg W 22 5 Tryz.underlying22 Tryz.underlying5 b off bs.length cap bs rfl (fun i hi => by
    obtain ⟨b', off', e, _, h⟩ := hc i hi
    cases e
    exact h) 9 Tryz.underlying9
theorem str_inj10 {a b : List Int} (ha : ∀ z ∈ a, 0 ≤ z ∧ z < 256) (hb : ∀ z ∈ b, 0 ≤ z ∧ z < 256) (h : strOfNums a = strOfNums b) : a = b := by
 have h1 := congrArg (fun x => x.data.toList) h
 simp only [strOfNums_data] at h1
 have key : ∀ (a b : List Int), (∀ z ∈ a, 0 ≤ z ∧ z < 256) → (∀ z ∈ b, 0 ≤ z ∧ z < 256) → a.map (fun n => UInt8.ofNat n.toNat) = b.map (fun n => UInt8.ofNat n.toNat) → a = b := by
  intro a
  induction a with
  | nil => intro b _ _ h; cases b with
   | nil => rfl
   | cons y ys => simp at h
  | cons x xs ih => intro b ha hb h; cases b with
   | nil => simp at h
   | cons y ys =>
    simp only [List.map_cons, List.cons.injEq] at h
    have hx := ha x (by simp)
    have hy := hb y (by simp)
    have e := congrArg UInt8.toNat h.1
    simp only [UInt8.toNat_ofNat'] at e
    rw [Nat.mod_eq_of_lt (by omega), Nat.mod_eq_of_lt (by omega)] at e
    have exy : x = y := by omega
    rw [exy, ih ys (fun z h => ha z (by simp [h])) (fun z h => hb z (by simp [h])) h.2]
 exact key a b ha hb h1
theorem str_dec10 {a b : List Int} (ha : ∀ z ∈ a, 0 ≤ z ∧ z < 256) (hb : ∀ z ∈ b, 0 ≤ z ∧ z < 256) : ((strOfNums a).toList == (strOfNums b).toList) = decide (a = b) := by
 by_cases h : a = b
 ·subst h; simp
 ·rw [decide_eq_false h, beq_eq_false_iff_ne]
  intro e
  rw [ByteArray.toList_eq, ByteArray.toList_eq] at e
  exact h (str_inj10 ha hb (Go.WideShapes.bytes_inj e))
set_option maxRecDepth 100000 in
set_option maxHeartbeats 4000000 in
theorem s_same (a b : List Int) (w : World) (u v : Value) (hu : Bys w u a) (hv : Bys w v b) : Calls Tryz.prog 20 #[u, v] w fun e w' => e = .returned (.bool (decide (a = b))) ∧ Below w.heap.size w w' := by
 have c1 := conv_bys10 hu
 have c2 := conv_bys10 hv
 obtain ⟨ao, cap, rfl, _, _, hza⟩ := hu
 obtain ⟨bo, bcap, rfl, _, _, hzb⟩ := hv
 go_enter Tryz.func20, Tryz.ntmps20
 have hd := str_dec10 hza hzb
 go_wp2
 go_ret
 exact ⟨rfl, Below.refl _ _⟩
set_option maxRecDepth 100000 in
set_option maxHeartbeats 4000000 in
theorem s_hand (bs : List Int) (w : World) (v : Value) (hB : Bys w v bs) (hl : bs.length ≤ 140737488355200) : Calls Tryz.prog 9 #[v] w fun e w' => e = .returned (.slice (some ⟨w.heap.size, 0, none⟩) (bs.length + 80) (bs.length + 80)) ∧ w'.heap[w.heap.size]? = some (.cells (irow .u8 (bs ++ mk4 80)) 5 (0, 0)) ∧ Below w.heap.size w w' := by
 have hmk := make_len (bs.length + 80) (by omega) w
 rw [show ((bs.length + 80 : Nat) : Int) = (bs.length : Int) + 80 by omega] at hmk
 have r0 := hp1_0 w (.cells (irow .u8 (zr (bs.length + 80))) 5)
 have hw : Below w.heap.size w (w.alloc (.cells (irow .u8 (zr (bs.length + 80))) 5)) := (Below.refl _ _).alloc (Nat.le_refl _) _
 have hcp := copy_bys (o := 0) (dLen := bs.length + 80) (dCap := bs.length + 80) r0 (hB.keep hw) (by omega) (by rw [zr_len]; omega)
 have ez : (zr (bs.length + 80)).take 0 ++ bs ++ (zr (bs.length + 80)).drop (0 + bs.length) = bs ++ mz 0 := by
  rw [List.take_zero, List.nil_append, zr_drop, Nat.zero_add, Nat.add_sub_cancel_left]; rfl
 rw [ez] at hcp
 have hgo : goInt bs.length = .int .i64 (bs.length : Int) := rfl
 rw [hgo] at hcp
 have r1 := setRow_heap _ (w.heap.size) _ (irow .u8 (bs ++ mz 0)) _ _ r0
 replace hw := below_setRow hw (Nat.le_refl _) (irow .u8 (bs ++ mz 0))
 obtain ⟨ao, cap, rfl, _⟩ := id hB
 go_enter Tryz.func9, Tryz.ntmps9
 go_wp2
 generalize (w.alloc (.cells (irow .u8 (zr (bs.length + 80))) 5)).setRow w.heap.size (irow .u8 (bs ++ mz 0)) = w1 at *
 clear hcp ez hgo hmk r0
 go_loopw [4] (fun i wr => ∃ k : Nat, k ≤ 80 ∧ i = .int .i64 k ∧ wr.heap[w.heap.size]? = some (.cells (irow .u8 (bs ++ mz k)) 5 (0, 0)) ∧ Below w.heap.size w wr) (fun i _ => 80 - (intOf i).toNat)
 case atStart => exact ⟨0, by omega, rfl, r1, hw⟩
 case round =>
  clear r1 hw
  obtain ⟨k, hk, rfl, r1, hw⟩ := hrel
  by_cases hlt : k < 80
  ·have hd : decide ((k : Int) < 80) = true := by simp; omega
   have hmod : (100 + (k : Int)) % 256 = 100 + (k : Int) := by omega
   have hml := mz_len k (by omega)
   have cf := row_frozen r1 (bs.length + k)
   have cc := irow_cell r1 (j := bs.length + k) (by rw [List.length_append]; omega)
   have r2 := irow_set r1 (bs.length + k) (100 + (k : Int))
   rw [bmz_set bs k hlt] at r2
   have hw2 := hw.setCell (show w.heap.size ≤ (⟨w.heap.size, bs.length + k, none⟩ : Addr).block from Nat.le_refl _) (.int .u8 (100 + (k : Int)))
   clear r1 hw hml
   generalize (bs ++ mz k).getD (bs.length + k) 0 = z at *
   go_wp2
   refine ⟨⟨k + 1, by omega, by go_num, r2, hw2⟩, ?_⟩
   simp [intOf]; omega
  ·obtain rfl : k = 80 := by omega
   have hd : decide ((80 : Int) < 80) = false := by decide
   have e80 : bs ++ mz 80 = bs ++ mk4 80 := by rw [mz, Nat.sub_self]; simp [zr]
   rw [e80] at r1
   go_wp2
   go_ret
   exact ⟨rfl, r1, hw⟩
set_option maxRecDepth 100000 in
set_option maxHeartbeats 4000000 in
theorem s_left (bs : List Int) (g : Nat) (w : World) (v : Value) (hB : Bys w v bs) (hl : bs.length ≤ 140737488355200) (rg : w.heap[g]? = some (.cells (irow .u8 (bs ++ mk4 80)) 5 (0, 0))) : Calls Tryz.prog 13 #[.slice (some ⟨g, 0, none⟩) (bs.length + 80) (bs.length + 80), v] w fun e w' => e = .returned (.bool true) ∧ Below w.heap.size w w' := by
 have hml := mk4_len 80
 have sl := slice_to (some ⟨g, 0, none⟩) (bs.length + 80) (bs.length + 80) bs.length (by omega)
 have hBl := Bys.of_prefix rg (by omega) (bys_bd hB) (bs.length + 80)
 have cS := s_same bs bs w _ _ hBl hB
 rw [decide_eq_true rfl] at cS
 replace cS := cS
 obtain ⟨ao, cap, rfl, _⟩ := id hB
 go_enter Tryz.func13, Tryz.ntmps13
 go_wp2
 go_loopw [5] (fun i wr => ∃ k : Nat, k ≤ 80 ∧ i = .int .i64 k ∧ wr = w) (fun i _ => 80 - (intOf i).toNat)
 case atStart => exact ⟨0, by omega, rfl, rfl⟩
 case round =>
  obtain ⟨k, hk, rfl, rfl⟩ := hrel
  by_cases hlt : k < 80
  ·have hd : decide ((k : Int) < 80) = true := by simp; omega
   have hmod : (100 + (k : Int)) % 256 = 100 + (k : Int) := by omega
   have cc := irow_cell rg (j := bs.length + k) (by rw [List.length_append]; omega)
   have eg : (bs ++ mk4 80).getD (bs.length + k) 0 = 100 + (k : Int) := by
    rw [List.getD_eq_getElem?_getD, List.getElem?_append_right (by omega), Nat.add_sub_cancel_left, ← List.getD_eq_getElem?_getD, mk4_get 80 k hlt]
   rw [eg] at cc
   clear cS hBl hB rg eg
   go_wp2
   refine ⟨⟨k + 1, by omega, by go_num, trivial⟩, ?_⟩
   simp [intOf]; omega
  ·obtain rfl : k = 80 := by omega
   have hd : decide ((80 : Int) < 80) = false := by decide
   go_wp2_with (fail)
   refine cS.mono ?_
   rintro e_ w1 ⟨rfl, hb⟩
   go_wp2
   go_ret
   exact ⟨rfl, hb⟩
theorem wpList_append_cases {P : Program} (w : World) {ops : Array Oper} {rest : List Oper} {o : Oper} {a : Act} {Q : Exit → Act → World → Prop} (hgd : o.guard = none) (s x : Operand) (t : TypeId)
 (ho : o.op = .call { callee := .builtin .append, args := #[s, x], argTypes := #[t, t] })
 (base : Nat) (e : TypeId) (i : TypeInfo) (z : Value) (ht : P.underlying t = some (.slice e)) (hi : P.info? e = some i) (hz : i.zero = some z)
 (hsize : i.size = 1) (hby : i.bytes = 1) (hzs : z.cells.size = 1)
 (g n cap : Nat) (xs : List Value) (hs : a.eval s = .slice (some ⟨g, 0, none⟩) n cap) (hown : w.ownsRow base e 1 (.slice (some ⟨g, 0, none⟩) n cap) n xs)
 (ad : Addr) (m c : Nat) (news : List Value) (hx : a.eval x = .slice (some ad) m c) (hl : news.length = m * 1) (hnews : ∀ j u, news[j]? = some u → w.cell? (ad.add j) = some u) (h1 : ∀ u ∈ news, u.oneCell' = true)
 (h63 : n + m ≤ maxLen) (hbytes : (n + m) * 1 ≤ 140737488355328) (hbase : base ≤ w.heap.size)
 (hA : ∀ w', w'.ownsRow base e 1 (.slice (some ⟨g, 0, none⟩) (n + m) cap) (n + m) (xs ++ news) → w.grownBy w' (some g) → wpList P ops Q rest (a.put o.dst (.slice (some ⟨g, 0, none⟩) (n + m) cap)) w')
 (hB : ∀ v' w', w'.ownsRow w.heap.size e 1 v' (n + m) (xs ++ news) → w.grownBy w' none → wpList P ops Q rest (a.put o.dst v') w') : wpList P ops Q (o :: rest) a w := by
 refine wpList_plain hgd fun K hK => ?_
 obtain ⟨v', w', hr, h2, h3, _⟩ := run_append_own (P := P) w base t o.type e i z 1 1 ht hi hz hsize hby hzs (by decide) _ n xs hown ad m c news hl hnews h1 h63 hbytes hbase
 have holds : ∀ j u, xs[j]? = some u → w.cell? ((⟨g, 0, none⟩ : Addr).add j) = some u := hown.cells (g := g) rfl
 rcases hown.2 with ⟨hv, _⟩ | ⟨g1, cap1, cur, hv, hbg, hg, hnc, hcm, hcs, htake⟩
 ·cases hv
 ·cases hv
  by_cases hroom : n + m ≤ cap
  ·have hr2 := run_append_room (P := P) w t o.type e i ht hi g n cap cur hg ad m c news (by rw [hsize]; exact hl) hnews h1 hroom (by rw [hsize, hl, hcs]; omega)
   have hh := hr.symm.trans hr2
   injection hh with e1 e2
   subst e1
   unfold Oper.wp execOp
   simp only [ho, resolve, invoke, builtin, Sem.run_bind, Sem.run_pure, Result.andThen_ok, List.map_toArray, List.map_cons, List.map_nil, hs, hx, hr]
   exact hK _ _ (hA w' h2 h3)
  ·have hr2 := run_append_grow (P := P) w t o.type e i z ht hi hz ⟨g, 0, none⟩ n cap xs (by rw [hsize]; exact hown.1) holds ad m c news (by rw [hsize]; exact hl) hnews (by omega) (by simp only [maxLen] at h63; omega) (growslice_fits (by omega) (by rw [hby]; exact hbytes))
   have hh := hr.symm.trans hr2
   injection hh with e1 e2
   have hown2 : w'.ownsRow w.heap.size e 1 v' (n + m) (xs ++ news) := by
    obtain ⟨q1, ⟨hv, _⟩ | ⟨g1, cap1, cur, hv, hbg, hq⟩⟩ := h2
    ·rw [e1] at hv; cases hv
    ·have hv' := e1.symm.trans hv
     cases hv'
     exact ⟨q1, .inr ⟨w.heap.size, _, cur, hv, Nat.le_refl _, hq⟩⟩
   have hgr : w.grownBy w' none := by
    rw [e2]
    have hq := World.grownBy_alloc w.drew (.cells (xs.toArray ++ news.toArray ++ Builtin.zeroCells z.cells (grownCap w (n + m) cap e - (n + m))) e) none
    exact ⟨hq.os, hq.tape, hq.output, hq.size, hq.block⟩
   unfold Oper.wp execOp
   simp only [ho, resolve, invoke, builtin, Sem.run_bind, Sem.run_pure, Result.andThen_ok, List.map_toArray, List.map_cons, List.map_nil, hs, hx, hr]
   exact hK _ _ (hB v' w' hown2 hgr)
theorem or_lower {W : World} {b c n : Nat} {e : TypeId} {v : Value} {ys : List Value} (h : W.ownsRow b e 1 v n ys) (hc : c ≤ b) : W.ownsRow c e 1 v n ys := by
 obtain ⟨q1, q2 | ⟨g1, cap1, cur, hv, hbg, hq⟩⟩ := h
 ·exact ⟨q1, .inl q2⟩
 ·exact ⟨q1, .inr ⟨g1, cap1, cur, hv, Nat.le_trans hc hbg, hq⟩⟩
theorem or_cell {W : World} {b g m c t : Nat} {e : TypeId} {l : List Int} (h : W.ownsRow b e 1 (.slice (some ⟨g, 0, none⟩) m c) m (l.map (Value.int .u8))) (ht : t < m) : W.cell? ⟨g, t, none⟩ = some (.int .u8 (l.getD t 0)) ∧ W.frozen? ⟨g, t, none⟩ = false := by
 obtain ⟨q1, ⟨hv, _⟩ | ⟨g1, cap1, cur, hv, hbg, hg, hnc, hcm, hcs, htake⟩⟩ := h
 ·cases hv
 ·cases hv
  rw [List.length_map] at q1
  refine ⟨?_, row_frozen hg t⟩
  rw [cell_of_row _ _ _ _ _ _ hg]
  have h1 : (cur.toList.take (m * 1))[t]? = (l.map (Value.int .u8))[t]? := by rw [htake]
  rw [List.getElem?_take_of_lt (by omega), List.getElem?_map, List.getElem?_eq_getElem (show t < l.length by omega)] at h1
  rw [← Array.getElem?_toList, h1, List.getD_eq_getElem?_getD, List.getElem?_eq_getElem (show t < l.length by omega)]
  rfl
theorem or_set {W : World} {b g m c t : Nat} {e : TypeId} {l : List Int} {z : Int} (h : W.ownsRow b e 1 (.slice (some ⟨g, 0, none⟩) m c) m (l.map (Value.int .u8))) : (W.setCell ⟨g, t, none⟩ (.int .u8 z)).ownsRow b e 1 (.slice (some ⟨g, 0, none⟩) m c) m ((l.set t z).map (Value.int .u8)) ∨ m ≤ t := by
 by_cases ht : m ≤ t
 ·exact .inr ht
 refine .inl ?_
 obtain ⟨q1, ⟨hv, _⟩ | ⟨g1, cap1, cur, hv, hbg, hg, hnc, hcm, hcs, htake⟩⟩ := h
 ·cases hv
 ·cases hv
  refine ⟨by rw [List.length_map, List.length_set]; rw [List.length_map] at q1; exact q1, .inr ⟨g, c, cur.setIfInBounds t (.int .u8 z), rfl, hbg, heap_setCell_same W g t cur _ (.int .u8 z) hg, hnc, hcm, by rw [Array.size_setIfInBounds]; exact hcs, ?_⟩⟩
  rw [Array.toList_setIfInBounds, List.take_set, htake, List.map_set]
theorem or_prefix {W : World} {b g m j c : Nat} {e : TypeId} {xs ys : List Value} (h : W.ownsRow b e 1 (.slice (some ⟨g, 0, none⟩) (m + j) c) (m + j) (xs ++ ys)) (hl : xs.length = m) : W.ownsRow b e 1 (.slice (some ⟨g, 0, none⟩) m c) m xs := by
 obtain ⟨q1, ⟨hv, _⟩ | ⟨g1, cap1, cur, hv, hbg, hg, hnc, hcm, hcs, htake⟩⟩ := h
 ·cases hv
 ·cases hv
  refine ⟨by omega, .inr ⟨g, c, cur, rfl, hbg, hg, by omega, hcm, hcs, ?_⟩⟩
  have h2 := congrArg (List.take m) htake
  rw [List.take_take, List.take_left' hl] at h2
  rw [← h2]
  congr 1
  omega
theorem or_move {W V : World} {b g m c : Nat} {e : TypeId} {xs : List Value} {ob : Option Nat} (h : W.ownsRow b e 1 (.slice (some ⟨g, 0, none⟩) m c) m xs) (hg : W.grownBy V ob) (hx : ob ≠ some g) : V.ownsRow b e 1 (.slice (some ⟨g, 0, none⟩) m c) m xs := by
 obtain ⟨q1, ⟨hv, _⟩ | ⟨g1, cap1, cur, hv, hbg, hr, hq⟩⟩ := h
 ·cases hv
 ·cases hv
  exact ⟨q1, .inr ⟨g, c, cur, rfl, hbg, (hg.block g (lt_of_row hr) (fun e => hx e.symm)).trans hr, hq⟩⟩
theorem or_high {W : World} {b g m c : Nat} {e : TypeId} {xs : List Value} (h : W.ownsRow b e 1 (.slice (some ⟨g, 0, none⟩) m c) m xs) : g < W.heap.size ∧ b ≤ g := by
 obtain ⟨q1, ⟨hv, _⟩ | ⟨g1, cap1, cur, hv, hbg, hr, hq⟩⟩ := h
 ·cases hv
 ·cases hv
  exact ⟨lt_of_row hr, hbg⟩
theorem or_other {W : World} {b g g' m c t : Nat} {e : TypeId} {xs : List Value} {v : Value} (h : W.ownsRow b e 1 (.slice (some ⟨g, 0, none⟩) m c) m xs) (hx : g ≠ g') : (W.setCell ⟨g', t, none⟩ v).ownsRow b e 1 (.slice (some ⟨g, 0, none⟩) m c) m xs := by
 obtain ⟨q1, ⟨hv, _⟩ | ⟨g1, cap1, cur, hv, hbg, hr, hq⟩⟩ := h
 ·cases hv
 ·cases hv
  exact ⟨q1, .inr ⟨g, c, cur, rfl, hbg, heap_other hr hx, hq⟩⟩
def apV (x : Option Nat × Nat × Nat) : Value := match x.1 with
 | some g => .slice (some ⟨g, 0, none⟩) x.2.1 x.2.2
 | none => .slice none 0 0
def apN (x : Option Nat × Nat × Nat) : Nat := match x.1 with
 | some _ => x.2.1
 | none => 0
def apC (x : Option Nat × Nat × Nat) : Nat := match x.1 with
 | some _ => x.2.2
 | none => 0
def apA (x : Option Nat × Nat × Nat) : Option Addr := x.1.map fun g => ⟨g, 0, none⟩
theorem apV_eq (x : Option Nat × Nat × Nat) : apV x = .slice (apA x) (apN x) (apC x) := by
 obtain ⟨_ | g, m, c⟩ := x <;> rfl
def ApR (lo : Nat) (W : World) (xs : List (Option Nat × Nat × Nat)) (P : Nat → List Int → Prop) : Prop := ∀ (j g m c : Nat), xs[j]? = some (some g, m, c) → ∃ l : List Int, l.length = m ∧ W.ownsRow lo 5 1 (.slice (some ⟨g, 0, none⟩) m c) m (l.map (Value.int .u8)) ∧ P j l
def ApD (xs : List (Option Nat × Nat × Nat)) : Prop := ∀ (i j : Nat) (g m n c d : Nat), xs[i]? = some (some g, m, c) → xs[j]? = some (some g, n, d) → i = j
theorem ApR.mono {lo : Nat} {W : World} {xs : List (Option Nat × Nat × Nat)} {P Q : Nat → List Int → Prop} (h : ApR lo W xs P) (hq : ∀ (j : Nat) l g m c, xs[j]? = some (some g, m, c) → l.length = m → P j l → Q j l) : ApR lo W xs Q := fun j g m c hj => by
 obtain ⟨l, h1, h2, h3⟩ := h j g m c hj
 exact ⟨l, h1, h2, hq _ _ _ _ _ hj h1 h3⟩
theorem ApR.moved {lo : Nat} {W W' : World} {xs : List (Option Nat × Nat × Nat)} {P : Nat → List Int → Prop} {ob : Option Nat} (h : ApR lo W xs P) (hb : W.grownBy W' ob) (hx : ∀ (j g m c : Nat), xs[j]? = some (some g, m, c) → ob ≠ some g) : ApR lo W' xs P := fun j g m c hj => by
 obtain ⟨l, h1, h2, h3⟩ := h j g m c hj
 exact ⟨l, h1, or_move h2 hb (hx j g m c hj), h3⟩
theorem ApR.put {lo : Nat} {W : World} {xs : List (Option Nat × Nat × Nat)} {P Q : Nat → List Int → Prop} (h : ApR lo W xs P) (hd : ApD xs) {k g m c t : Nat} {z : Int} (hk : xs[k]? = some (some g, m, c)) (ht : t < m) (hp : ∀ l, l.length = m → P k l → Q k (l.set t z)) (hq : ∀ j l, j ≠ k → P j l → Q j l) : ApR lo (W.setCell ⟨g, t, none⟩ (.int .u8 z)) xs Q := fun j g' m' c' hj => by
 obtain ⟨l, h1, h2, h3⟩ := h j g' m' c' hj
 by_cases e : g' = g
 ·subst e
  obtain rfl := hd _ _ _ _ _ _ _ hk hj
  obtain ⟨_, rfl, rfl⟩ : True ∧ m = m' ∧ c = c' := ⟨trivial, by rw [hk] at hj; cases hj; exact ⟨rfl, rfl⟩⟩
  refine ⟨l.set t z, by rw [List.length_set]; exact h1, (or_set h2).resolve_right (by omega), hp l h1 h3⟩
 ·refine ⟨l, h1, or_other h2 e, hq j l (fun ej => e ?_) h3⟩
  subst ej
  rw [hk] at hj
  cases hj
  rfl
theorem getD_set_if6 (l : List Int) (t u : Nat) (z : Int) (h : t < l.length) : (l.set t z).getD u 0 = if u = t then z else l.getD u 0 := by
 rw [List.getD_eq_getElem?_getD, List.getD_eq_getElem?_getD, List.getElem?_set]
 by_cases e : t = u
 ·subst e; simp [h]
 ·rw [if_neg e, if_neg (Ne.symm e)]
theorem ap_some {x : Option Nat × Nat × Nat} {t : Nat} (h : t < apN x) : ∃ g m c, x = (some g, m, c) := by
 obtain ⟨_ | g, m, c⟩ := x
 ·simp [apN] at h
 ·exact ⟨g, m, c, rfl⟩
theorem ap_row {W : World} {gl : Nat} {xs : List (Option Nat × Nat × Nat)} (hg : W.heap[gl]? = some (.cells (xs.map apV).toArray 22 (0, 0))) (i : Nat) (hi : i < xs.length) : W.cell? ⟨gl, i, none⟩ = some (.slice (apA (xs.getD i (none, 0, 0))) (apN (xs.getD i (none, 0, 0))) (apC (xs.getD i (none, 0, 0)))) := by
 rw [cell_of10 hg (show (xs.map apV).toArray[i]? = some (apV (xs.getD i (none, 0, 0))) by rw [List.getElem?_toArray, List.getElem?_map, List.getElem?_eq_getElem hi, List.getD_eq_getElem?_getD, List.getElem?_eq_getElem hi]; rfl), apV_eq]
end Go.Proofs.YtjoohgkgkabbpaaGreatDoor
namespace Go.Proofs.YtjoohgkgkabbpaaGreatDoor
set_option maxRecDepth 100000
open Go Go.RowKit Go.Sort
attribute [local go_sem] setCell_drewN alloc_drewN
theorem grown_below {a b c : World} {g : Nat} (h : a.grownBy b (some g)) (hb : Below b.heap.size b c) : a.grownBy c (some g) :=
 ⟨hb.os.trans h.os, hb.tape.trans h.tape, hb.output.trans h.output, Nat.le_trans h.size hb.size, fun k hk hn => (hb.block k (Nat.lt_of_lt_of_le hk h.size)).trans (h.block k hk hn)⟩
theorem grown_setRow {a b : World} {g : Nat} (cs : Array Value) (h : a.grownBy b (some g)) : a.grownBy (b.setRow g cs) (some g) := by
 refine ⟨h.os, h.tape, h.output, ?_, fun k hk hn => ?_⟩
 ·have e : (b.setRow g cs).heap.size = b.heap.size := by simp
  rw [e]; exact h.size
 ·rw [setRow_other b g k cs (fun e => hn (by rw [e]))]
  exact h.block k hk hn
theorem mix_all (a c : List Int) (h : a.length = c.length) : mix a c c.length = a := by
 unfold mix
 rw [← h, List.take_length, h, List.drop_length, List.append_nil]
theorem own_ap {W : World} {b : Nat} {v : Value} {d : List B} (h : Own W b v d) : ∃ x : Option Nat × Nat × Nat, v = apV x ∧ ∀ g m c, x = (some g, m, c) → m = d.length ∧ b ≤ g ∧ g < W.heap.size ∧ W.ownsRow b 5 1 (.slice (some ⟨g, 0, none⟩) m c) m ((bl d).map (Value.int .u8)) := by
 have h0 : W.ownsRow b 5 1 v d.length ((bl d).map (Value.int .u8)) := h
 obtain ⟨q1, ⟨hv, _⟩ | ⟨g1, cap1, cur, hv, hbg, hg, hq⟩⟩ := h
 ·exact ⟨(none, 0, 0), hv, fun g m c e => by cases e⟩
 ·refine ⟨(some g1, d.length, cap1), hv, fun g m c e => ?_⟩
  cases e
  rw [hv] at h0
  exact ⟨rfl, hbg, lt_of_row hg, h0⟩
theorem head_bysB {W : World} {g n : Nat} {e : List B} {m : List Int} {t : TypeId} (hg : W.heap[g]? = some (.cells (irow .u8 (bl e ++ m)) t (0, 0))) (hn : e.length = n) (hl : n ≤ 140737488355000) (cap : Nat) : BysB W (.slice (some ⟨g, 0, none⟩) n cap) e := by
 have h := Bys.of_prefix hg (by rw [bl_len]; omega) (bl_bnd e) cap
 rw [bl_len, hn] at h
 exact ⟨h, by omega, fun a l c h h2 => by cases h; cases h2⟩
theorem row_bysB {W : World} {g n : Nat} {e : List B} {t : TypeId} (hg : W.heap[g]? = some (.cells (irow .u8 (bl e)) t (0, 0))) (hn : e.length = n) (hl : n ≤ 140737488355000) (cap : Nat) : BysB W (.slice (some ⟨g, 0, none⟩) n cap) e := head_bysB (m := []) (by rw [List.append_nil]; exact hg) hn hl cap
theorem rv_len (bs : List Int) : bs.reverse.length = bs.length := by simp
theorem rv_get (bs : List Int) (k : Nat) (h : k < bs.length) : bs.reverse.getD k 0 = bs.getD (bs.length - 1 - k) 0 := by
 rw [List.getD_eq_getElem?_getD, List.getD_eq_getElem?_getD, List.getElem?_reverse h]
theorem rv_bd (bs : List Int) (h : ∀ z ∈ bs, 0 ≤ z ∧ z < 256) : ∀ z ∈ bs.reverse, 0 ≤ z ∧ z < 256 := fun z hz => h z (by simpa using hz)
set_option maxRecDepth 100000 in
set_option maxHeartbeats 4000000 in
theorem s_turned (bs : List Int) (g : Nat) (w : World) (v : Value) (hB : Bys w v bs) (hl : bs.length ≤ 140737488355200) (rg : w.heap[g]? = some (.cells (irow .u8 (bs ++ mk4 80)) 5 (0, 0))) : Calls Tryz.prog 14 #[.slice (some ⟨g, 0, none⟩) (bs.length + 80) (bs.length + 80), v] w fun e w' => e = .returned (.slice (some ⟨w.heap.size, 0, none⟩) bs.length bs.length) ∧ w'.heap[w.heap.size]? = some (.cells (irow .u8 (bs.reverse)) 5 (0, 0)) ∧ w'.heap[g]? = some (.cells (irow .u8 (bs.reverse ++ mk4 80)) 5 (0, 0)) ∧ w.grownBy w' (some g) := by
 have hlg := lt_of_row rg
 have hmk := make_len bs.length (by omega) w
 have r0 : (w.alloc (.cells (irow .u8 (zr bs.length)) 5)).heap[w.heap.size]? = some (.cells (irow .u8 (mix (bs.reverse) (zr bs.length) 0)) 5 (0, 0)) := by rw [mix_zero]; exact hp1_0 w _
 have hw : Below w.heap.size w (w.alloc (.cells (irow .u8 (zr bs.length)) 5)) := (Below.refl _ _).alloc (Nat.le_refl _) _
 have htl := rv_len bs
 have htg := rv_get bs
 have hzl := zr_len bs.length
 obtain ⟨ao, cap, rfl, _, hc, _⟩ := id hB
 go_enter Tryz.func14, Tryz.ntmps14
 go_wp2
 generalize (w.alloc (.cells (irow .u8 (zr bs.length)) 5)) = w1 at *
 clear hmk
 go_loopw [6] (fun i wr => ∃ k : Nat, k ≤ bs.length ∧ i = .int .i64 k ∧ wr.heap[w.heap.size]? = some (.cells (irow .u8 (mix (bs.reverse) (zr bs.length) k)) 5 (0, 0)) ∧ Below w.heap.size w wr) (fun i _ => bs.length - (intOf i).toNat)
 case atStart => exact ⟨0, by omega, rfl, r0, hw⟩
 case round =>
  clear r0 hw
  obtain ⟨k, hk, rfl, r0, hw⟩ := hrel
  by_cases hlt : k < bs.length
  ·have hd : decide ((k : Int) < (bs.length : Int)) = true := by simp; omega
   obtain ⟨b, off, rfl, hb1, hb2⟩ := hc (bs.length - 1 - k) (by omega)
   replace hb2 := (hw.cell (p := ⟨b, off + (bs.length - 1 - k), none⟩) hb1).trans hb2
   have hset := mix_set (bs.reverse) (zr bs.length) k (by omega) (by omega)
   rw [htg k hlt] at hset
   have hml := mix_length (bs.reverse) (zr bs.length) k (by omega) (by omega)
   have cf := row_frozen r0 k
   have cc := irow_cell r0 (j := k) (by omega)
   have r2 := irow_set r0 k (bs.getD (bs.length - 1 - k) 0)
   rw [hset] at r2
   have hw2 := hw.setCell (show w.heap.size ≤ (⟨w.heap.size, k, none⟩ : Addr).block from Nat.le_refl _) (.int .u8 (bs.getD (bs.length - 1 - k) 0))
   have ej2 : (bs.length : Int) - 1 - (k : Int) = ((bs.length - 1 - k : Nat) : Int) := by omega
   clear r0 hw hset hml hc htg hB
   generalize bs.getD (bs.length - 1 - k) 0 = z at *
   generalize (mix (bs.reverse) (zr bs.length) k).getD k 0 = y at *
   go_wp2
   refine ⟨⟨k + 1, by omega, by go_num, r2, hw2⟩, ?_⟩
   simp [intOf]; omega
  ·obtain rfl : k = bs.length := by omega
   have hd : decide ((bs.length : Int) < (bs.length : Int)) = false := by simp
   have em := mix_all (bs.reverse) (zr bs.length) (by omega)
   rw [hzl] at em
   rw [em] at r0
   have rg2 := keep hw rg
   have hBo := Bys.of_row r0 (by omega) (rv_bd bs (bys_bd hB)) bs.length
   have hcp := copy_bys (o := 0) (dLen := bs.length + 80) (dCap := bs.length + 80) rg2 hBo (by omega) (by rw [List.length_append]; omega)
   have ez : (bs ++ mk4 80).take 0 ++ bs.reverse ++ (bs ++ mk4 80).drop (0 + (bs.reverse).length) = bs.reverse ++ mk4 80 := by
    rw [List.take_zero, List.nil_append, Nat.zero_add, htl, List.drop_left]
   rw [ez] at hcp
   have hgo : goInt (bs.reverse).length = .int .i64 ((bs.reverse).length : Int) := rfl
   rw [hgo, htl] at hcp
   have r1 := setRow_heap _ g _ (irow .u8 (bs.reverse ++ mk4 80)) _ _ rg2
   have r3 : (wr.setRow g (irow .u8 (bs.reverse ++ mk4 80))).heap[w.heap.size]? = _ := (setRow_other wr g (w.heap.size) (irow .u8 (bs.reverse ++ mk4 80)) (by omega)).trans r0
   have hgr : w.grownBy (wr.setRow g (irow .u8 (bs.reverse ++ mk4 80))) (some g) := grown_setRow _ (grown_below (World.grownBy.refl _ _) hw)
   clear hc htg r0 hw
   go_wp2
   go_ret
   exact ⟨rfl, r3, r1, hgr⟩
theorem bl_rev (e : List B) : bl e.reverse = (bl e).reverse := by simp [bl, List.map_reverse]
theorem sB_same (a b : List B) (w : World) (u v : Value) (hu : Bys w u (bl a)) (hv : Bys w v (bl b)) : Calls Tryz.prog 20 #[u, v] w fun e w' => e = .returned (.bool (decide (a = b))) ∧ Below w.heap.size w w' := by
 have h := s_same (bl a) (bl b) w u v hu hv
 rw [bl_dec] at h
 exact h
theorem sB_hand (e : List B) (w : World) (v : Value) (hB : BysB w v e) : Calls Tryz.prog 9 #[v] w fun r w' => r = .returned (.slice (some ⟨w.heap.size, 0, none⟩) (e.length + 80) (e.length + 80)) ∧ w'.heap[w.heap.size]? = some (.cells (irow .u8 (bl e ++ mk4 80)) 5 (0, 0)) ∧ Below w.heap.size w w' := by
 have h := s_hand (bl e) w v hB.1 (by rw [bl_len]; have := hB.2.1; omega)
 rw [bl_len] at h
 exact h
theorem sB_left (e : List B) (g : Nat) (w : World) (v : Value) (hB : BysB w v e) (rg : w.heap[g]? = some (.cells (irow .u8 (bl e ++ mk4 80)) 5 (0, 0))) : Calls Tryz.prog 13 #[.slice (some ⟨g, 0, none⟩) (e.length + 80) (e.length + 80), v] w fun r w' => r = .returned (.bool true) ∧ Below w.heap.size w w' := by
 have h := s_left (bl e) g w v hB.1 (by rw [bl_len]; have := hB.2.1; omega) rg
 rw [bl_len] at h
 exact h
theorem sB_turned (e : List B) (g : Nat) (w : World) (v : Value) (hB : BysB w v e) (rg : w.heap[g]? = some (.cells (irow .u8 (bl e ++ mk4 80)) 5 (0, 0))) : Calls Tryz.prog 14 #[.slice (some ⟨g, 0, none⟩) (e.length + 80) (e.length + 80), v] w fun r w' => r = .returned (.slice (some ⟨w.heap.size, 0, none⟩) e.length e.length) ∧ w'.heap[w.heap.size]? = some (.cells (irow .u8 (bl e.reverse)) 5 (0, 0)) ∧ w'.heap[g]? = some (.cells (irow .u8 (bl e.reverse ++ mk4 80)) 5 (0, 0)) ∧ w.grownBy w' (some g) := by
 have h := s_turned (bl e) g w v hB.1 (by rw [bl_len]; have := hB.2.1; omega) rg
 rw [bl_len] at h
 rw [bl_rev]
 exact h
end Go.Proofs.YtjoohgkgkabbpaaGreatDoor
namespace Go.Proofs.YtjoohgkgkabbpaaGreatDoor
set_option maxRecDepth 100000
open Go Go.RowKit Go.Sort
attribute [local go_sem] setCell_drewN alloc_drewN
theorem own_none10 (W : World) (b : Nat) : Own W b (.slice none 0 0) [] := ⟨rfl, .inl ⟨rfl, rfl⟩⟩
end Go.Proofs.YtjoohgkgkabbpaaGreatDoor
namespace Go.Proofs.YtjoohgkgkabbpaaGreatDoor
set_option maxRecDepth 100000
open Go Go.RowKit Go.Sort
attribute [local go_sem] setCell_drewN alloc_drewN
def Owns (W : World) : Nat → List (Value × List B) → Nat → Prop
 | lo, [], hi => lo ≤ hi
 | lo, x :: r, hi => ∃ m, lo ≤ m ∧ Own W lo x.1 x.2 ∧ (∀ k, x.1.ownBlock = some k → k < m) ∧ x.2.length ≤ 140737488350000 ∧ Owns W m r hi
theorem Owns.le {W : World} : ∀ {l : List (Value × List B)} {lo hi : Nat}, Owns W lo l hi → lo ≤ hi
 | [], _, _, h => h
 | _ :: _, _, _, ⟨_, h1, _, _, _, h2⟩ => Nat.le_trans h1 h2.le
theorem Owns.ap {W : World} {base : Nat} : ∀ {l : List (Value × List B)} {lo hi : Nat}, base ≤ lo → Owns W lo l hi → ∃ xs : List (Option Nat × Nat × Nat), xs.map apV = l.map Prod.fst ∧ ApR base W xs (fun _ _ => True) ∧ ApD xs ∧ ∀ (i : Nat) g m c, xs[i]? = some (some g, m, c) → lo ≤ g ∧ g < hi ∧ m ≤ 140737488350000
 | [], _, _, _, _ => ⟨[], rfl, fun j g m c h => by simp at h, fun i j g m n c d h => by simp at h, fun i g m c h => by simp at h⟩
 | x :: r, lo, hi, hb, ⟨k, h1, h2, h3, h4, h5⟩ => by
  obtain ⟨xs, q1, q2, q3, q4⟩ := Owns.ap (Nat.le_trans hb h1) h5
  obtain ⟨y, hy, hyy⟩ := own_ap h2
  have hk := h5.le
  have hb1 : ∀ g m c, y = (some g, m, c) → lo ≤ g ∧ g < k := fun g m c e => ⟨(hyy g m c e).2.1, h3 g (by rw [hy, e]; rfl)⟩
  refine ⟨y :: xs, by rw [List.map_cons, List.map_cons, q1, hy], ?_, ?_, ?_⟩
  ·intro j g m c hj
   cases j with
   | zero =>
    have e : y = (some g, m, c) := by simpa using hj
    obtain ⟨e1, e2, e3, e4⟩ := hyy g m c e
    exact ⟨bl x.2, by rw [bl_len, e1], or_lower e4 hb, trivial⟩
   | succ j => exact q2 j g m c (by simpa using hj)
  ·intro i j g m n c d hi hj
   cases i with
   | zero =>
    cases j with
    | zero => rfl
    | succ j =>
     have := hb1 g m c (by simpa using hi)
     have := q4 j g n d (by simpa using hj)
     omega
   | succ i =>
    cases j with
    | zero =>
     have := hb1 g n d (by simpa using hj)
     have := q4 i g m c (by simpa using hi)
     omega
    | succ j => rw [q3 i j g m n c d (by simpa using hi) (by simpa using hj)]
  ·intro i g m c hi'
   cases i with
   | zero =>
    have e : y = (some g, m, c) := by simpa using hi'
    have := hb1 g m c e
    have := (hyy g m c e).1
    omega
   | succ i =>
    have := q4 i g m c (by simpa using hi')
    omega
theorem Owns.keep {W V : World} : ∀ {l : List (Value × List B)} {lo hi : Nat}, Owns W lo l hi → Below W.heap.size W V → Owns V lo l hi
 | [], _, _, h, _ => h
 | _ :: _, _, _, ⟨m, h1, h2, h3, h4, h5⟩, hb => ⟨m, h1, h2.keep hb, h3, h4, h5.keep hb⟩
theorem Owns.snoc {W : World} {v : Value} {L : List B} : ∀ {l : List (Value × List B)} {lo hi : Nat}, Owns W lo l hi → Own W hi v L → L.length ≤ 140737488350000 → (hz : hi ≤ W.heap.size) → Owns W lo (l ++ [(v, L)]) W.heap.size
 | [], lo, hi, h, hO, hl, hz => ⟨W.heap.size, by have : lo ≤ hi := h; omega, own_down hO h, own_high hO, hl, Nat.le_refl _⟩
 | _ :: r, _, _, ⟨m, h1, h2, h3, h4, h5⟩, hO, hl, hz => ⟨m, h1, h2, h3, h4, h5.snoc hO hl hz⟩
end Go.Proofs.YtjoohgkgkabbpaaGreatDoor
namespace Go.Proofs.YtjoohgkgkabbpaaGreatDoor
set_option maxRecDepth 100000
open Go Go.RowKit Go.Sort
attribute [local go_sem] setCell_drewN alloc_drewN
end Go.Proofs.YtjoohgkgkabbpaaGreatDoor
namespace Go.Proofs.YtjoohgkgkabbpaaGreatDoor
set_option maxRecDepth 100000
open Go Go.RowKit Go.Sort
attribute [local go_sem] setCell_drewN alloc_drewN
end Go.Proofs.YtjoohgkgkabbpaaGreatDoor
namespace Go.Proofs.YtjoohgkgkabbpaaGreatDoor
set_option maxRecDepth 100000
open Go Go.RowKit Go.Sort
attribute [local go_sem] setCell_drewN alloc_drewN
end Go.Proofs.YtjoohgkgkabbpaaGreatDoor
namespace Go.Proofs.YtjoohgkgkabbpaaGreatDoor
set_option maxRecDepth 100000
open Go Go.RowKit Go.Sort
/-! What was packed is read again; what is read was packed. -/
theorem mo_le (v : Nat) : mo v ≤ 2097168 := by
 unfold mo
 split <;> decide
theorem pk_ok {v hl bn : Nat} (h : pk10 v hl bn = none) : hl = 60 ∧ 80 ≤ bn ∧ bn ≤ mo v ∧ bkd (dg v) (bn - 16) = bn - 16 := by
 unfold pk10 at h
 split at h
 ·cases h
 ·split at h
  ·cases h
  ·split at h
   ·exact ⟨by omega, by omega, by omega, by assumption⟩
   ·cases h
theorem pk_of {v hl bn : Nat} (h1 : hl = 60) (h2 : 80 ≤ bn) (h3 : bn ≤ mo v) (h4 : bkd (dg v) (bn - 16) = bn - 16) : pk10 v hl bn = none := by
 unfold pk10
 rw [if_neg (by omega), if_neg (by omega), if_pos h4]
theorem back10 {d : List B} (h : paF d = none) : ∃ nonce hd bd, known10 (riV d) = true ∧ nonce.length = 16 ∧ dfs (dwh d) = efs (riV d) nonce hd bd ∧ pk10 (riV d) hd.length bd.length = none ∧ eout (efs (riV d) nonce hd bd) = d ∧ der (dwh d) = 0 := by
 unfold paF at h
 split at h
 ·cases h
 ·rename_i hE
  have hk := riE_known (by simpa using hE)
  cases hR : dec8 (esl (riV d)) d 0 with
  | some x => rw [hR] at h; cases h
  | none =>
   rw [hR] at h
   simp only at h
   obtain ⟨d0, nonce, hd, bd, hfs, hn, h60, h80, hmo⟩ := dec_esl hR
   have he := dec_enc d0
   rw [hfs] at h he
   split at h
   ·rename_i h4
    exact ⟨nonce, hd, bd, hk, hn, hfs, pk_of h60 h80 hmo h4, he.2, d0⟩
   ·cases h
/-! Padding. -/
end Go.Proofs.YtjoohgkgkabbpaaGreatDoor

