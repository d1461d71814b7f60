import Derived.Test.YtkogejglfgghmacMath
namespace Go.Proofs.Ytkogejglfgghmac
open Go.RowKit

/-- What stands from 2^255 on counts 19 times. -/
def fold1 (v : Int) : Int := v % 57896044618658097711785492504343953926634992332820282019728792003956564819968 + 19 * (v / 57896044618658097711785492504343953926634992332820282019728792003956564819968)
def foldK : Nat → Int → Int
  | 0, v => v
  | k + 1, v => fold1 (foldK k v)
theorem hide {p : Prop} (h : p) : Hid p := h

theorem fold1_mod (v : Int) : fold1 v % prm = v % prm := by
  unfold fold1 prm
  have e : v % 57896044618658097711785492504343953926634992332820282019728792003956564819968 + 19 * (v / 57896044618658097711785492504343953926634992332820282019728792003956564819968) =
      v - 57896044618658097711785492504343953926634992332820282019728792003956564819949 * (v / 57896044618658097711785492504343953926634992332820282019728792003956564819968) := by omega
  rw [e, Int.sub_mul_emod_self_left]
theorem fold3 (N : Int) (h0 : 0 ≤ N) (h1 : N ≤ 1989323510513129302046236010170218017325036105421427022219231999999999999999999999999999999999) :
    0 ≤ foldK 3 N ∧ foldK 3 N < 57896044618658097711785492504343953926634992332820282019728792003956564819968 ∧ foldK 3 N % prm = N % prm := by
  refine ⟨?_, ?_, by simp only [foldK, fold1_mod]⟩
  · simp only [foldK, fold1]; omega
  · simp only [foldK, fold1]; omega

theorem dg_v16 (e0 e1 e2 e3 e4 e5 e6 e7 e8 e9 e10 e11 e12 e13 e14 e15 : Int) (h : ∀ d ∈ [e0, e1, e2, e3, e4, e5, e6, e7, e8, e9, e10, e11, e12, e13, e14, e15], 0 ≤ d ∧ d < 65536) : dg (v16 e0 e1 e2 e3 e4 e5 e6 e7 e8 e9 e10 e11 e12 e13 e14 e15) 0 = e0 ∧ dg (v16 e0 e1 e2 e3 e4 e5 e6 e7 e8 e9 e10 e11 e12 e13 e14 e15) 1 = e1 ∧ dg (v16 e0 e1 e2 e3 e4 e5 e6 e7 e8 e9 e10 e11 e12 e13 e14 e15) 2 = e2 ∧ dg (v16 e0 e1 e2 e3 e4 e5 e6 e7 e8 e9 e10 e11 e12 e13 e14 e15) 3 = e3 ∧ dg (v16 e0 e1 e2 e3 e4 e5 e6 e7 e8 e9 e10 e11 e12 e13 e14 e15) 4 = e4 ∧ dg (v16 e0 e1 e2 e3 e4 e5 e6 e7 e8 e9 e10 e11 e12 e13 e14 e15) 5 = e5 ∧ dg (v16 e0 e1 e2 e3 e4 e5 e6 e7 e8 e9 e10 e11 e12 e13 e14 e15) 6 = e6 ∧ dg (v16 e0 e1 e2 e3 e4 e5 e6 e7 e8 e9 e10 e11 e12 e13 e14 e15) 7 = e7 ∧ dg (v16 e0 e1 e2 e3 e4 e5 e6 e7 e8 e9 e10 e11 e12 e13 e14 e15) 8 = e8 ∧ dg (v16 e0 e1 e2 e3 e4 e5 e6 e7 e8 e9 e10 e11 e12 e13 e14 e15) 9 = e9 ∧ dg (v16 e0 e1 e2 e3 e4 e5 e6 e7 e8 e9 e10 e11 e12 e13 e14 e15) 10 = e10 ∧ dg (v16 e0 e1 e2 e3 e4 e5 e6 e7 e8 e9 e10 e11 e12 e13 e14 e15) 11 = e11 ∧ dg (v16 e0 e1 e2 e3 e4 e5 e6 e7 e8 e9 e10 e11 e12 e13 e14 e15) 12 = e12 ∧ dg (v16 e0 e1 e2 e3 e4 e5 e6 e7 e8 e9 e10 e11 e12 e13 e14 e15) 13 = e13 ∧ dg (v16 e0 e1 e2 e3 e4 e5 e6 e7 e8 e9 e10 e11 e12 e13 e14 e15) 14 = e14 ∧ dg (v16 e0 e1 e2 e3 e4 e5 e6 e7 e8 e9 e10 e11 e12 e13 e14 e15) 15 = e15 :=
  ⟨dg_valL _ h 0 (by simp), dg_valL _ h 1 (by simp), dg_valL _ h 2 (by simp), dg_valL _ h 3 (by simp), dg_valL _ h 4 (by simp), dg_valL _ h 5 (by simp), dg_valL _ h 6 (by simp), dg_valL _ h 7 (by simp), dg_valL _ h 8 (by simp), dg_valL _ h 9 (by simp), dg_valL _ h 10 (by simp), dg_valL _ h 11 (by simp), dg_valL _ h 12 (by simp), dg_valL _ h 13 (by simp), dg_valL _ h 14 (by simp), dg_valL _ h 15 (by simp)⟩
theorem v16_bd (e0 e1 e2 e3 e4 e5 e6 e7 e8 e9 e10 e11 e12 e13 e14 e15 : Int) (h : ∀ d ∈ [e0, e1, e2, e3, e4, e5, e6, e7, e8, e9, e10, e11, e12, e13, e14, e15], 0 ≤ d ∧ d < 65536) : 0 ≤ v16 e0 e1 e2 e3 e4 e5 e6 e7 e8 e9 e10 e11 e12 e13 e14 e15 ∧ v16 e0 e1 e2 e3 e4 e5 e6 e7 e8 e9 e10 e11 e12 e13 e14 e15 < 115792089237316195423570985008687907853269984665640564039457584007913129639936 := by
  have := valL_lt _ h
  simpa [v16] using this

theorem fold_step (e0 e1 e2 e3 e4 e5 e6 e7 e8 e9 e10 e11 e12 e13 e14 e15 c : Int) (le0 : 0 ≤ e0) (ue0 : e0 < 65536) (le1 : 0 ≤ e1) (ue1 : e1 < 65536) (le2 : 0 ≤ e2) (ue2 : e2 < 65536) (le3 : 0 ≤ e3) (ue3 : e3 < 65536) (le4 : 0 ≤ e4) (ue4 : e4 < 65536) (le5 : 0 ≤ e5) (ue5 : e5 < 65536) (le6 : 0 ≤ e6) (ue6 : e6 < 65536) (le7 : 0 ≤ e7) (ue7 : e7 < 65536) (le8 : 0 ≤ e8) (ue8 : e8 < 65536) (le9 : 0 ≤ e9) (ue9 : e9 < 65536) (le10 : 0 ≤ e10) (ue10 : e10 < 65536) (le11 : 0 ≤ e11) (ue11 : e11 < 65536) (le12 : 0 ≤ e12) (ue12 : e12 < 65536) (le13 : 0 ≤ e13) (ue13 : e13 < 65536) (le14 : 0 ≤ e14) (ue14 : e14 < 65536) :
    v16 (e0 + (c * 2 + e15 / 32768) * 19) e1 e2 e3 e4 e5 e6 e7 e8 e9 e10 e11 e12 e13 e14 (e15 % 32768) = fold1 (v16 e0 e1 e2 e3 e4 e5 e6 e7 e8 e9 e10 e11 e12 e13 e14 e15 + 115792089237316195423570985008687907853269984665640564039457584007913129639936 * c) := by
  have hX := v16_bd e0 e1 e2 e3 e4 e5 e6 e7 e8 e9 e10 e11 e12 e13 e14 (e15 % 32768) (by intro d hd; simp only [List.mem_cons, List.not_mem_nil, or_false] at hd; rcases hd with rfl | rfl | rfl | rfl | rfl | rfl | rfl | rfl | rfl | rfl | rfl | rfl | rfl | rfl | rfl | rfl <;> constructor <;> omega)
  have h1 : v16 (e0 + (c * 2 + e15 / 32768) * 19) e1 e2 e3 e4 e5 e6 e7 e8 e9 e10 e11 e12 e13 e14 (e15 % 32768) = v16 e0 e1 e2 e3 e4 e5 e6 e7 e8 e9 e10 e11 e12 e13 e14 (e15 % 32768) + 19 * (c * 2 + e15 / 32768) := by simp only [v16, valL]; omega
  have h2 : v16 e0 e1 e2 e3 e4 e5 e6 e7 e8 e9 e10 e11 e12 e13 e14 e15 + 115792089237316195423570985008687907853269984665640564039457584007913129639936 * c = v16 e0 e1 e2 e3 e4 e5 e6 e7 e8 e9 e10 e11 e12 e13 e14 (e15 % 32768) + 57896044618658097711785492504343953926634992332820282019728792003956564819968 * (c * 2 + e15 / 32768) := by simp only [v16, valL]; omega
  have h3 : v16 e0 e1 e2 e3 e4 e5 e6 e7 e8 e9 e10 e11 e12 e13 e14 (e15 % 32768) < 57896044618658097711785492504343953926634992332820282019728792003956564819968 := by simp only [v16, valL]; omega
  rw [h1, h2]
  unfold fold1
  generalize v16 e0 e1 e2 e3 e4 e5 e6 e7 e8 e9 e10 e11 e12 e13 e14 (e15 % 32768) = X at *
  generalize c * 2 + e15 / 32768 = h at *
  omega

end Go.Proofs.Ytkogejglfgghmac
