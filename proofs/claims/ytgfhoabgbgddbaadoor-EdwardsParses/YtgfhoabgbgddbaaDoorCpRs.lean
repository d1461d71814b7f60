import Derived.Test.YtgfhoabgbgddbaaDoorProg
import Derived.WalkKit
import Derived.WalkSpells
import Derived.WalkLawsBesides
import Derived.Lib.QuietBelow
import Derived.BigQuiet
import Derived.Test.YtgfhoabgbgddbaaDoorCpKa
import Derived.Test.YtgfhoabgbgddbaaDoorCpRp
import Derived.Test.YtgfhoabgbgddbaaDoorCpRrTe
import Derived.Test.YtgfhoabgbgddbaaDoorCpRrTo
import Derived.Test.YtgfhoabgbgddbaaDoorCpRrFTe
import Derived.Test.YtgfhoabgbgddbaaDoorCpRrFTo
import Derived.Test.YtgfhoabgbgddbaaDoorCpRrFFe
import Derived.Test.YtgfhoabgbgddbaaDoorCpDwe
namespace Go.Proofs.YtgfhoabgbgddbaaDoor
set_option maxRecDepth 100000
open Go.RowKit Go.Sort
attribute [local go_sem] setCell_drewN alloc_drewN
theorem r_root {m : Int} (h : inP m) : Gives 111 #[.agg (rd m)] (.tuple #[.agg (rd (rval m % prm)), .bool (rok m)]) := by
 by_cases h1 : m ^ 7237005577332262213973186563042994240829374041602535252466099000494570602494 * m ^ 7237005577332262213973186563042994240829374041602535252466099000494570602494 % prm = m % prm
 ·have e : rt m = m ^ 7237005577332262213973186563042994240829374041602535252466099000494570602494 := by unfold rt; rw [if_pos h1]
  have k : rok m = true := by rw [rok_iff, e]; exact h1
  have v : rval m = ev (m ^ 7237005577332262213973186563042994240829374041602535252466099000494570602494) := by unfold rval; rw [if_pos k, e]
  rw [k, v]
  by_cases ho : (m ^ 7237005577332262213973186563042994240829374041602535252466099000494570602494) % prm % 2 = 1
  ·exact refRoot_To h h1 ho
  ·exact refRoot_Te h h1 ho
 ·have e : rt m = m ^ 7237005577332262213973186563042994240829374041602535252466099000494570602494 * uu := by unfold rt; rw [if_neg h1]
  by_cases h2 : m ^ 7237005577332262213973186563042994240829374041602535252466099000494570602494 * uu * (m ^ 7237005577332262213973186563042994240829374041602535252466099000494570602494 * uu) % prm = m % prm
  ·have k : rok m = true := by rw [rok_iff, e]; exact h2
   have v : rval m = ev (m ^ 7237005577332262213973186563042994240829374041602535252466099000494570602494 * uu) := by unfold rval; rw [if_pos k, e]
   rw [k, v]
   by_cases ho : (m ^ 7237005577332262213973186563042994240829374041602535252466099000494570602494 * uu) % prm % 2 = 1
   ·exact refRoot_FTo h h1 h2 ho
   ·exact refRoot_FTe h h1 h2 ho
  ·have k : rok m = false := by rw [Bool.eq_false_iff]; intro q; rw [rok_iff, e] at q; exact h2 q
   have v : rval m % prm = 0 := by unfold rval; rw [k]; rfl
   rw [k, v]
   exact refRoot_FFe h h1 h2
end Go.Proofs.YtgfhoabgbgddbaaDoor
namespace Go.Proofs.YtgfhoabgbgddbaaDoor
set_option maxRecDepth 100000
open Go.RowKit Go.Sort
attribute [local go_sem] setCell_drewN alloc_drewN
def r3 (a b c : Array Value) : Array Value := (a.toList ++ (b.toList ++ c.toList)).toArray
theorem r3_size {a b c : Array Value} (ha : a.size = 16) (hb : b.size = 16) (hc : c.size = 16) : (r3 a b c).size = 48 := by simp [r3, ha, hb, hc]
theorem r3_one {a b c : Array Value} (ha : a.all (·.oneCell') = true) (hb : b.all (·.oneCell') = true) (hc : c.all (·.oneCell') = true) : (r3 a b c).all (·.oneCell') = true := by
 simp only [Array.all_eq_true_iff_forall_mem] at *
 intro v hv
 simp only [r3, List.mem_toArray, List.mem_append, Array.mem_toList_iff] at hv
 rcases hv with h | h | h
 ·exact ha v h
 ·exact hb v h
 ·exact hc v h
theorem q3_0 {a b c : Array Value} : (r3 a b c).extract 0 (0 + a.size) = a := by
 apply Array.ext'
 simp [r3]
theorem q3_1 {a b c : Array Value} (ha : a.size = 16) : (r3 a b c).extract 16 (16 + b.size) = b := by
 rw [← ha]
 apply Array.ext'
 simp [r3]
theorem q3_2 {a b c : Array Value} (ha : a.size = 16) (hb : b.size = 16) : (r3 a b c).extract 32 (32 + c.size) = c := by
 rw [show 32 = a.size + b.size by omega]
 apply Array.ext'
 have := drop_two a.toList b.toList c.toList
 simp [r3] at this ⊢
 rw [this]
 exact List.take_of_length_le (by simp)
theorem q3_ty : (Tryd.prog.info? 37).map (·.size) = some 48 := by kernel_rfl
theorem q3_info {a b c : Array Value} (ha : a.size = 16) (hb : b.size = 16) (hc : c.size = 16) : (Tryd.prog.info? 37).map (·.size) = some (r3 a b c).size := by rw [r3_size ha hb hc]; exact q3_ty
theorem q3_inf {r : Array Value} (h : r.size = 48) : (Tryd.prog.info? 37).map (·.size) = some r.size := by rw [h]; exact q3_ty
theorem q3_built {a b c : Array Value} (ha : a.size = 16) (hb : b.size = 16) (hc : c.size = 16) : Tryd.prog.built 37 [(0, .agg a), (1, .agg b), (2, .agg c)] = some (r3 a b c) := by
 obtain ⟨_, _, _, _, _, _, _, _, _, _, _, _, _, _, _, _, rfl⟩ := sixteen ha
 obtain ⟨_, _, _, _, _, _, _, _, _, _, _, _, _, _, _, _, rfl⟩ := sixteen hb
 obtain ⟨_, _, _, _, _, _, _, _, _, _, _, _, _, _, _, _, rfl⟩ := sixteen hc
 kernel_rfl
def Rp (P : E1) (X Y Z : Int) : Prop := ¬ Zp Z ∧ Zp (X - Z * tx P) ∧ Zp (Y - Z * P.y)
def RNum (r : Array Value) (x : Int) : Prop := ∃ m, r = rd m ∧ inP m ∧ m = x % prm
theorem RNum.size {r : Array Value} {x : Int} (h : RNum r x) : r.size = 16 := by obtain ⟨m, rfl, _⟩ := h; exact rd_size m
theorem RNum.fits {r s : Array Value} {x : Int} (h : RNum r x) (hs : s.size = 16) : s.size = r.size := hs.trans h.size.symm
theorem RNum.info {r : Array Value} {x : Int} (h : RNum r x) : (Tryd.prog.info? 35).map (·.size) = some r.size := by obtain ⟨m, rfl, _⟩ := h; exact rd_info m
theorem RNum.one {r : Array Value} {x : Int} (h : RNum r x) : r.all (·.oneCell') = true := by obtain ⟨m, rfl, _⟩ := h; exact rd_one m
theorem RNum.congr {r : Array Value} {x y : Int} (h : RNum r x) (e : x % prm = y % prm) : RNum r y := by obtain ⟨m, rfl, a, b⟩ := h; exact ⟨m, rfl, a, b.trans e⟩
theorem rnum_zero : RNum #[.int .u64 0, .int .u64 0, .int .u64 0, .int .u64 0, .int .u64 0, .int .u64 0, .int .u64 0, .int .u64 0, .int .u64 0, .int .u64 0, .int .u64 0, .int .u64 0, .int .u64 0, .int .u64 0, .int .u64 0, .int .u64 0] 0 := ⟨0, by kernel_rfl, ⟨by decide, by decide⟩, by decide⟩
theorem n_two {f : FuncId} {x y z : Int} (op : Int → Int → Int) (hc : ∀ m k, inP m → inP k → Gives f #[.agg (rd m), .agg (rd k)] (.agg (rd (op m k % prm)))) (he : op (x % prm) (y % prm) % prm = z % prm) {r s : Array Value} (h : RNum r x) (g : RNum s y) : ∃ t, RNum t z ∧ Gives f #[.agg r, .agg s] (.agg t) := by
 obtain ⟨m, rfl, a, rfl⟩ := h
 obtain ⟨k, rfl, b, rfl⟩ := g
 exact ⟨_, ⟨_, rfl, inP_mod _, he⟩, hc _ _ a b⟩
theorem n_add {r s : Array Value} {x y : Int} (h : RNum r x) (g : RNum s y) : ∃ t, RNum t (x + y) ∧ Gives 70 #[.agg r, .agg s] (.agg t) := n_two (· + ·) (fun _ _ => r_add) (by simp only [Int.add_emod, Int.emod_emod]) h g
theorem n_sub {r s : Array Value} {x y : Int} (h : RNum r x) (g : RNum s y) : ∃ t, RNum t (x - y) ∧ Gives 72 #[.agg r, .agg s] (.agg t) := n_two (· - ·) (fun _ _ => r_sub) (by simp only [Int.sub_emod, Int.emod_emod]) h g
theorem n_mul {r s : Array Value} {x y : Int} (h : RNum r x) (g : RNum s y) : ∃ t, RNum t (x * y) ∧ Gives 73 #[.agg r, .agg s] (.agg t) := n_two (· * ·) (fun _ _ => r_mul) (by simp only [Int.mul_emod, Int.emod_emod]) h g
theorem n_square {r : Array Value} {x : Int} (h : RNum r x) : ∃ t, RNum t (x * x) ∧ Gives 110 #[.agg r] (.agg t) := by
 obtain ⟨m, rfl, a, rfl⟩ := h
 exact ⟨_, ⟨_, rfl, inP_mod _, by simp only [Int.mul_emod, Int.emod_emod]⟩, r_square a⟩
theorem n_neg {r : Array Value} {x : Int} (h : RNum r x) : ∃ t, RNum t (-x) ∧ Gives 112 #[.agg r] (.agg t) := by
 obtain ⟨m, rfl, a, rfl⟩ := h
 exact ⟨_, ⟨_, rfl, inP_mod _, zp_sub.1 (zp_lin1 (-1) (zp_emod x) (by grind))⟩, r_neg a⟩
theorem n_small (x : Int) (l : 0 ≤ x) (u : x < 18446744073709551616) : ∃ t, RNum t x ∧ Gives 69 #[.int .u64 x] (.agg t) :=
 ⟨_, ⟨x, rfl, ⟨l, Int.lt_trans u (by decide)⟩, (Int.emod_eq_of_lt l (Int.lt_trans u (by decide))).symm⟩, r_small x l u⟩
def ReO (r : Array Value) (P : E1) : Prop := ∃ xr yr zr X Y Z, r = r3 xr yr zr ∧ RNum xr X ∧ RNum yr Y ∧ RNum zr Z ∧ Rp P X Y Z
theorem ReO.size {r : Array Value} {P : E1} (h : ReO r P) : r.size = 48 := by
 obtain ⟨xr, yr, zr, X, Y, Z, rfl, hx, hy, hz, _⟩ := h
 exact r3_size hx.size hy.size hz.size
theorem ReO.info {r : Array Value} {P : E1} (h : ReO r P) : (Tryd.prog.info? 37).map (·.size) = some r.size := by rw [h.size]; exact q3_ty
theorem ReO.one {r : Array Value} {P : E1} (h : ReO r P) : r.all (·.oneCell') = true := by
 obtain ⟨xr, yr, zr, X, Y, Z, rfl, hx, hy, hz, _⟩ := h
 exact r3_one hx.one hy.one hz.one
theorem rp_x {P : E1} {X Y Z : Int} (h : Rp P X Y Z) : X * iv Z % prm = tx P := by
 obtain ⟨n1, a1, b1⟩ := h
 have h := iv_mul n1
 have hb := tx_bd P
 generalize iv Z = z at *
 generalize tx P = t at *
 exact mod_of (zp_lin2 z t a1 h (by grind)) hb.1 hb.2
theorem rp_y {P : E1} {X Y Z : Int} (h : Rp P X Y Z) : Y * iv Z % prm = P.y := by
 obtain ⟨n1, a1, b1⟩ := h
 have h := iv_mul n1
 generalize iv Z = z at *
 exact mod_of (zp_lin2 z P.y b1 h (by grind)) (y_bd P).1 (y_bd P).2
theorem rp_ze : Rp ze 0 1 1 := ⟨zp_one, by rw [tx_ze]; exact zp_zero, zp_zero⟩
theorem n_inv {r : Array Value} {x : Int} (h : RNum r x) : ∃ t, RNum t (iv x) ∧ Gives 74 #[.agg r] (.agg t) := by
 obtain ⟨m, rfl, a, rfl⟩ := h
 have c := r_invert a
 exact ⟨_, ⟨_, rfl, inP_mod _, zp_sub.1 (iv_cong (zp_emod x))⟩, c⟩
theorem n_root {r : Array Value} {x : Int} (h : RNum r x) : ∃ t, RNum t (rval x) ∧ Gives 111 #[.agg r] (.tuple #[.agg t, .bool (rok x)]) := by
 obtain ⟨m, rfl, a, rfl⟩ := h
 have c := r_root a
 rw [rok_c (Int.emod_emod x prm)] at c
 exact ⟨_, ⟨_, rfl, inP_mod _, rval_c (Int.emod_emod x prm)⟩, c⟩
theorem n_isZero {r : Array Value} {x : Int} (h : RNum r x) : Gives 71 #[.agg r] (.bool (decide (x % prm = 0))) := by
 obtain ⟨m, rfl, a, rfl⟩ := h; exact r_isZero a
theorem n_odd {r : Array Value} {x : Int} (h : RNum r x) : Gives 77 #[.agg r] (.bool (decide (x % prm % 2 = 1))) := by
 obtain ⟨m, rfl, a, rfl⟩ := h
 have := r_odd (x % prm)
 generalize x % prm = m at *
 rw [show (dg m 0 % 2 == 1) = decide (m % 2 = 1) by
  apply Bool.eq_iff_iff.2
  simp only [beq_iff_eq, decide_eq_true_iff, dg]
  omega] at this
 exact this
theorem n_bytes {r : Array Value} {x : Int} (h : RNum r x) : Gives 66 #[.agg r] (.agg (kb (x % prm))) := by
 obtain ⟨m, rfl, a, rfl⟩ := h; exact r_bytes _
theorem n_from {k : Array Value} {N : Int} (h : KeyOf k N) : ∃ t, RNum t (N % 57896044618658097711785492504343953926634992332820282019728792003956564819968) ∧ Gives 65 #[.agg k] (.agg t) := ⟨_, ⟨_, rfl, inP_mod _, rfl⟩, r_from h⟩
theorem zr (x : Int) : Zp (x - x) := by rw [Int.sub_self]; exact zp_zero
set_option maxRecDepth 100000 in
set_option maxHeartbeats 8000000 in
theorem r_D : ∃ t, RNum t (-121665 * iv 121666) ∧ Gives 81 #[] (.agg t) := by
 obtain ⟨x1, h1, c1⟩ := n_small 121665 (by decide) (by decide)
 obtain ⟨x3, h3, c3⟩ := n_neg h1
 obtain ⟨x5, h5, c5⟩ := n_small 121666 (by decide) (by decide)
 obtain ⟨x7, h7, c7⟩ := n_inv h5
 obtain ⟨x9, h9, c9⟩ := n_mul h3 h7
 refine ⟨_, h9, fun w => ?_⟩
 go_enter Tryd.func81, Tryd.ntmps81
 iterate 6 go_step
 generalize hal_ : (w.alloc (.cells #[.int .u64 0, .int .u64 0, .int .u64 0, .int .u64 0, .int .u64 0, .int .u64 0, .int .u64 0, .int .u64 0, .int .u64 0, .int .u64 0, .int .u64 0, .int .u64 0, .int .u64 0, .int .u64 0, .int .u64 0, .int .u64 0] 35)) = w0
 have rp0 : w0.heap[w.heap.size]? = some (.cells #[.int .u64 0, .int .u64 0, .int .u64 0, .int .u64 0, .int .u64 0, .int .u64 0, .int .u64 0, .int .u64 0, .int .u64 0, .int .u64 0, .int .u64 0, .int .u64 0, .int .u64 0, .int .u64 0, .int .u64 0, .int .u64 0] 35 (0, 0)) := by rw [← hal_]; exact hp1_0 w _
 have hw : Below w.heap.size w w0 := by rw [← hal_]; exact ((Below.refl _ _).alloc (Nat.le_refl _) _)
 clear hal_
 go_wp2_with (first | (refine wpList_load_want rfl 35 _ rfl (w.heap.size) rfl 35 #[.int .u64 0, .int .u64 0, .int .u64 0, .int .u64 0, .int .u64 0, .int .u64 0, .int .u64 0, .int .u64 0, .int .u64 0, .int .u64 0, .int .u64 0, .int .u64 0, .int .u64 0, .int .u64 0, .int .u64 0, .int .u64 0] (0, 0) _ rp0 Tryd.underlying35 rfl rnum_zero.info ?_) | fail)
 refine (c1.at _).mono ?_
 rintro e w2 ⟨rfl, hb⟩
 replace rp0 := keep hb rp0
 replace hw := Below.after hw hb
 clear hb
 go_wp2_with (first | (refine wpList_load_want rfl 35 _ rfl (w.heap.size) rfl 35 #[.int .u64 0, .int .u64 0, .int .u64 0, .int .u64 0, .int .u64 0, .int .u64 0, .int .u64 0, .int .u64 0, .int .u64 0, .int .u64 0, .int .u64 0, .int .u64 0, .int .u64 0, .int .u64 0, .int .u64 0, .int .u64 0] (0, 0) _ rp0 Tryd.underlying35 rfl rnum_zero.info ?_) | fail)
 refine (c3.at _).mono ?_
 rintro e w4 ⟨rfl, hb⟩
 replace rp0 := keep hb rp0
 replace hw := Below.after hw hb
 clear hb
 go_wp2_with (first | (refine wpList_load_want rfl 35 _ rfl (w.heap.size) rfl 35 #[.int .u64 0, .int .u64 0, .int .u64 0, .int .u64 0, .int .u64 0, .int .u64 0, .int .u64 0, .int .u64 0, .int .u64 0, .int .u64 0, .int .u64 0, .int .u64 0, .int .u64 0, .int .u64 0, .int .u64 0, .int .u64 0] (0, 0) _ rp0 Tryd.underlying35 rfl rnum_zero.info ?_) | fail)
 refine (c5.at _).mono ?_
 rintro e w6 ⟨rfl, hb⟩
 replace rp0 := keep hb rp0
 replace hw := Below.after hw hb
 clear hb
 go_wp2_with (first | (refine wpList_load_want rfl 35 _ rfl (w.heap.size) rfl 35 #[.int .u64 0, .int .u64 0, .int .u64 0, .int .u64 0, .int .u64 0, .int .u64 0, .int .u64 0, .int .u64 0, .int .u64 0, .int .u64 0, .int .u64 0, .int .u64 0, .int .u64 0, .int .u64 0, .int .u64 0, .int .u64 0] (0, 0) _ rp0 Tryd.underlying35 rfl rnum_zero.info ?_) | fail)
 refine (c7.at _).mono ?_
 rintro e w8 ⟨rfl, hb⟩
 replace rp0 := keep hb rp0
 replace hw := Below.after hw hb
 clear hb
 go_wp2_with (first | (refine wpList_load_want rfl 35 _ rfl (w.heap.size) rfl 35 #[.int .u64 0, .int .u64 0, .int .u64 0, .int .u64 0, .int .u64 0, .int .u64 0, .int .u64 0, .int .u64 0, .int .u64 0, .int .u64 0, .int .u64 0, .int .u64 0, .int .u64 0, .int .u64 0, .int .u64 0, .int .u64 0] (0, 0) _ rp0 Tryd.underlying35 rfl rnum_zero.info ?_) | fail)
 refine (c9.at _).mono ?_
 rintro e w10 ⟨rfl, hb⟩
 replace rp0 := keep hb rp0
 replace hw := Below.after hw hb
 clear hb
 go_wp2_with (first | (refine wpList_store_row rfl 35 _ _ rfl (w.heap.size) x9 rfl rfl 35 _ rp0 h9.info (rnum_zero.size.trans h9.size.symm) h9.one ?_) | (refine wpList_load_want rfl 35 _ rfl (w.heap.size) rfl 35 #[.int .u64 0, .int .u64 0, .int .u64 0, .int .u64 0, .int .u64 0, .int .u64 0, .int .u64 0, .int .u64 0, .int .u64 0, .int .u64 0, .int .u64 0, .int .u64 0, .int .u64 0, .int .u64 0, .int .u64 0, .int .u64 0] (0, 0) _ rp0 Tryd.underlying35 rfl rnum_zero.info ?_) | fail)
 exact bodyPost_ret (v := .agg x9) (results_cell_row Tryd.results81 _ _ (w.heap.size) _ x9 _ _ rfl (setRow_heap _ _ _ _ _ _ rp0) Tryd.underlying35 rfl h9.info) rfl ⟨rfl, below_setRow hw (by omega) _⟩
set_option maxRecDepth 100000 in
set_option maxHeartbeats 8000000 in
theorem r_Neutral : ∃ t, ReO t ze ∧ Gives 67 #[] (.agg t) := by
 obtain ⟨o, ho, c1⟩ := n_small 1 (by decide) (by decide)
 refine ⟨(r3 #[.int .u64 0, .int .u64 0, .int .u64 0, .int .u64 0, .int .u64 0, .int .u64 0, .int .u64 0, .int .u64 0, .int .u64 0, .int .u64 0, .int .u64 0, .int .u64 0, .int .u64 0, .int .u64 0, .int .u64 0, .int .u64 0] o o), ⟨#[.int .u64 0, .int .u64 0, .int .u64 0, .int .u64 0, .int .u64 0, .int .u64 0, .int .u64 0, .int .u64 0, .int .u64 0, .int .u64 0, .int .u64 0, .int .u64 0, .int .u64 0, .int .u64 0, .int .u64 0, .int .u64 0], o, o, 0, 1, 1, rfl, rnum_zero, ho, ho, rp_ze⟩, fun w => ?_⟩
 go_enter Tryd.func67, Tryd.ntmps67
 iterate 6 go_step
 generalize hal_ : (w.alloc (.cells #[.int .u64 0, .int .u64 0, .int .u64 0, .int .u64 0, .int .u64 0, .int .u64 0, .int .u64 0, .int .u64 0, .int .u64 0, .int .u64 0, .int .u64 0, .int .u64 0, .int .u64 0, .int .u64 0, .int .u64 0, .int .u64 0, .int .u64 0, .int .u64 0, .int .u64 0, .int .u64 0, .int .u64 0, .int .u64 0, .int .u64 0, .int .u64 0, .int .u64 0, .int .u64 0, .int .u64 0, .int .u64 0, .int .u64 0, .int .u64 0, .int .u64 0, .int .u64 0, .int .u64 0, .int .u64 0, .int .u64 0, .int .u64 0, .int .u64 0, .int .u64 0, .int .u64 0, .int .u64 0, .int .u64 0, .int .u64 0, .int .u64 0, .int .u64 0, .int .u64 0, .int .u64 0, .int .u64 0, .int .u64 0] 37)) = w0
 have rp0 : w0.heap[w.heap.size]? = some (.cells #[.int .u64 0, .int .u64 0, .int .u64 0, .int .u64 0, .int .u64 0, .int .u64 0, .int .u64 0, .int .u64 0, .int .u64 0, .int .u64 0, .int .u64 0, .int .u64 0, .int .u64 0, .int .u64 0, .int .u64 0, .int .u64 0, .int .u64 0, .int .u64 0, .int .u64 0, .int .u64 0, .int .u64 0, .int .u64 0, .int .u64 0, .int .u64 0, .int .u64 0, .int .u64 0, .int .u64 0, .int .u64 0, .int .u64 0, .int .u64 0, .int .u64 0, .int .u64 0, .int .u64 0, .int .u64 0, .int .u64 0, .int .u64 0, .int .u64 0, .int .u64 0, .int .u64 0, .int .u64 0, .int .u64 0, .int .u64 0, .int .u64 0, .int .u64 0, .int .u64 0, .int .u64 0, .int .u64 0, .int .u64 0] 37 (0, 0)) := by rw [← hal_]; exact hp1_0 w _
 have hw : Below w.heap.size w w0 := by rw [← hal_]; exact ((Below.refl _ _).alloc (Nat.le_refl _) _)
 clear hal_
 go_wp2_with (first | (refine wpList_build_as rfl 35 _ rfl [] rfl #[.int .u64 0, .int .u64 0, .int .u64 0, .int .u64 0, .int .u64 0, .int .u64 0, .int .u64 0, .int .u64 0, .int .u64 0, .int .u64 0, .int .u64 0, .int .u64 0, .int .u64 0, .int .u64 0, .int .u64 0, .int .u64 0] (by kernel_rfl) ?_) | fail)
 refine (c1.at _).mono ?_
 rintro e w1 ⟨rfl, hb⟩
 replace rp0 := keep hb rp0
 replace hw := Below.after hw hb
 clear hb
 go_wp2_with (fail)
 refine (c1.at _).mono ?_
 rintro e w2 ⟨rfl, hb⟩
 replace rp0 := keep hb rp0
 replace hw := Below.after hw hb
 clear hb
 go_wp2_with (first | (refine wpList_build_as rfl 37 _ rfl [(0, .agg #[.int .u64 0, .int .u64 0, .int .u64 0, .int .u64 0, .int .u64 0, .int .u64 0, .int .u64 0, .int .u64 0, .int .u64 0, .int .u64 0, .int .u64 0, .int .u64 0, .int .u64 0, .int .u64 0, .int .u64 0, .int .u64 0]), (1, .agg o), (2, .agg o)] rfl (r3 #[.int .u64 0, .int .u64 0, .int .u64 0, .int .u64 0, .int .u64 0, .int .u64 0, .int .u64 0, .int .u64 0, .int .u64 0, .int .u64 0, .int .u64 0, .int .u64 0, .int .u64 0, .int .u64 0, .int .u64 0, .int .u64 0] o o) (q3_built rnum_zero.size ho.size ho.size) ?_) | (refine wpList_store_row rfl 37 _ _ rfl (w.heap.size) (r3 #[.int .u64 0, .int .u64 0, .int .u64 0, .int .u64 0, .int .u64 0, .int .u64 0, .int .u64 0, .int .u64 0, .int .u64 0, .int .u64 0, .int .u64 0, .int .u64 0, .int .u64 0, .int .u64 0, .int .u64 0, .int .u64 0] o o) rfl rfl 37 _ rp0 (q3_info rnum_zero.size ho.size ho.size) (r3_size rnum_zero.size ho.size ho.size).symm (r3_one rnum_zero.one ho.one ho.one) ?_) | fail)
 exact bodyPost_ret (v := .agg (r3 #[.int .u64 0, .int .u64 0, .int .u64 0, .int .u64 0, .int .u64 0, .int .u64 0, .int .u64 0, .int .u64 0, .int .u64 0, .int .u64 0, .int .u64 0, .int .u64 0, .int .u64 0, .int .u64 0, .int .u64 0, .int .u64 0] o o)) (results_cell_row Tryd.results67 _ _ (w.heap.size) _ (r3 #[.int .u64 0, .int .u64 0, .int .u64 0, .int .u64 0, .int .u64 0, .int .u64 0, .int .u64 0, .int .u64 0, .int .u64 0, .int .u64 0, .int .u64 0, .int .u64 0, .int .u64 0, .int .u64 0, .int .u64 0, .int .u64 0] o o) _ _ rfl (setRow_heap _ _ _ _ _ _ rp0) Tryd.underlying37 rfl (q3_info rnum_zero.size ho.size ho.size)) rfl ⟨rfl, below_setRow hw (by omega) _⟩
end Go.Proofs.YtgfhoabgbgddbaaDoor

