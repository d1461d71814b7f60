import Derived.Below
import Derived.Laws.BitsAllLaws
import Derived.Shelf.Bits.Mul64
import Derived.WalkKit
import Derived.ChangeKeysEq
import Derived.Laws.StructEq
namespace Go.Proofs.YtgbkbcgjagcgbaaGreatDoor.Lo
set_option maxRecDepth 100000
open Go.RowKit
/-! Plain numbers. Nothing of the program stands here. -/
def dg (n : Int) (i : Nat) : Int := n / 65536 ^ i % 65536
theorem dg_bd (n : Int) (i : Nat) : 0 ≤ dg n i ∧ dg n i < 65536 := by unfold dg; omega
def valL : List Int → Int
 | [] => 0
 | d :: ds => d + 65536 * valL ds
theorem dg_zero (d v : Int) (h0 : 0 ≤ d) (h1 : d < 65536) : dg (d + 65536 * v) 0 = d := by unfold dg; simp; omega
theorem dg_succ (d v : Int) (i : Nat) (h0 : 0 ≤ d) (h1 : d < 65536) : dg (d + 65536 * v) (i + 1) = dg v i := by
 unfold dg
 have e : (65536 : Int) ^ (i + 1) = 65536 * 65536 ^ i := by rw [Int.pow_succ, Int.mul_comm]
 rw [e, ← Int.ediv_ediv_of_nonneg (by omega)]
 have : (d + 65536 * v) / 65536 = v := by omega
 rw [this]
theorem dg_valL : ∀ (ds : List Int) (_ : ∀ d ∈ ds, 0 ≤ d ∧ d < 65536) (i : Nat) (h : i < ds.length), dg (valL ds) i = ds[i]
 | d :: ds, hd, 0, _ => by
   have := hd d (by simp)
   simpa [valL] using dg_zero d (valL ds) this.1 this.2
 | d :: ds, hd, i + 1, h => by
   have := hd d (by simp)
   have h2 := dg_valL ds (fun x hx => hd x (by simp [hx])) i (by simpa using h)
   simp only [valL]
   rw [dg_succ d (valL ds) i this.1 this.2, h2]
   simp
theorem valL_lt : ∀ (ds : List Int) (_ : ∀ d ∈ ds, 0 ≤ d ∧ d < 65536), 0 ≤ valL ds ∧ valL ds < 65536 ^ ds.length
 | [], _ => by simp [valL]
 | d :: ds, hd => by
   have h1 := hd d (by simp)
   have h2 := valL_lt ds (fun x hx => hd x (by simp [hx]))
   simp only [valL, List.length_cons]
   have e : (65536 : Int) ^ (ds.length + 1) = 65536 * 65536 ^ ds.length := by rw [Int.pow_succ, Int.mul_comm]
   rw [e]
   omega
def prm : Int := 57896044618658097711785492504343953926634992332820282019728792003956564819949
def geP (n : Int) : Bool := decide (57896044618658097711785492504343953926634992332820282019728792003956564819949 ≤ n)
def v16 (d0 d1 d2 d3 d4 d5 d6 d7 d8 d9 d10 d11 d12 d13 d14 d15 : Int) : Int := valL [d0, d1, d2, d3, d4, d5, d6, d7, d8, d9, d10, d11, d12, d13, d14, d15]
end Go.Proofs.YtgbkbcgjagcgbaaGreatDoor.Lo
namespace Go.Proofs.YtgbkbcgjagcgbaaGreatDoor.Lo
set_option maxRecDepth 100000
open Go.RowKit
def fold1 (v : Int) : Int := v % 57896044618658097711785492504343953926634992332820282019728792003956564819968 + 19 * (v / 57896044618658097711785492504343953926634992332820282019728792003956564819968)
def foldK : Nat → Int → Int
 | 0, v => v
 | k + 1, v => fold1 (foldK k v)
theorem hide {p : Prop} (h : p) : Hid p := h
theorem fold1_mod (v : Int) : fold1 v % prm = v % prm := by
 unfold fold1 prm
 have e : v % 57896044618658097711785492504343953926634992332820282019728792003956564819968 + 19 * (v / 57896044618658097711785492504343953926634992332820282019728792003956564819968) =
     v - 57896044618658097711785492504343953926634992332820282019728792003956564819949 * (v / 57896044618658097711785492504343953926634992332820282019728792003956564819968) := by omega
 rw [e, Int.sub_mul_emod_self_left]
theorem fold3 (N : Int) (h0 : 0 ≤ N) (h1 : N ≤ 1989323510513129302046236010170218017325036105421427022219231999999999999999999999999999999999) :
   0 ≤ foldK 3 N ∧ foldK 3 N < 57896044618658097711785492504343953926634992332820282019728792003956564819968 ∧ foldK 3 N % prm = N % prm := by
 refine ⟨?_, ?_, by simp only [foldK, fold1_mod]⟩
 · simp only [foldK, fold1]; omega
 · simp only [foldK, fold1]; omega
theorem dg_v16 (e0 e1 e2 e3 e4 e5 e6 e7 e8 e9 e10 e11 e12 e13 e14 e15 : Int) (h : ∀ d ∈ [e0, e1, e2, e3, e4, e5, e6, e7, e8, e9, e10, e11, e12, e13, e14, e15], 0 ≤ d ∧ d < 65536) : dg (v16 e0 e1 e2 e3 e4 e5 e6 e7 e8 e9 e10 e11 e12 e13 e14 e15) 0 = e0 ∧ dg (v16 e0 e1 e2 e3 e4 e5 e6 e7 e8 e9 e10 e11 e12 e13 e14 e15) 1 = e1 ∧ dg (v16 e0 e1 e2 e3 e4 e5 e6 e7 e8 e9 e10 e11 e12 e13 e14 e15) 2 = e2 ∧ dg (v16 e0 e1 e2 e3 e4 e5 e6 e7 e8 e9 e10 e11 e12 e13 e14 e15) 3 = e3 ∧ dg (v16 e0 e1 e2 e3 e4 e5 e6 e7 e8 e9 e10 e11 e12 e13 e14 e15) 4 = e4 ∧ dg (v16 e0 e1 e2 e3 e4 e5 e6 e7 e8 e9 e10 e11 e12 e13 e14 e15) 5 = e5 ∧ dg (v16 e0 e1 e2 e3 e4 e5 e6 e7 e8 e9 e10 e11 e12 e13 e14 e15) 6 = e6 ∧ dg (v16 e0 e1 e2 e3 e4 e5 e6 e7 e8 e9 e10 e11 e12 e13 e14 e15) 7 = e7 ∧ dg (v16 e0 e1 e2 e3 e4 e5 e6 e7 e8 e9 e10 e11 e12 e13 e14 e15) 8 = e8 ∧ dg (v16 e0 e1 e2 e3 e4 e5 e6 e7 e8 e9 e10 e11 e12 e13 e14 e15) 9 = e9 ∧ dg (v16 e0 e1 e2 e3 e4 e5 e6 e7 e8 e9 e10 e11 e12 e13 e14 e15) 10 = e10 ∧ dg (v16 e0 e1 e2 e3 e4 e5 e6 e7 e8 e9 e10 e11 e12 e13 e14 e15) 11 = e11 ∧ dg (v16 e0 e1 e2 e3 e4 e5 e6 e7 e8 e9 e10 e11 e12 e13 e14 e15) 12 = e12 ∧ dg (v16 e0 e1 e2 e3 e4 e5 e6 e7 e8 e9 e10 e11 e12 e13 e14 e15) 13 = e13 ∧ dg (v16 e0 e1 e2 e3 e4 e5 e6 e7 e8 e9 e10 e11 e12 e13 e14 e15) 14 = e14 ∧ dg (v16 e0 e1 e2 e3 e4 e5 e6 e7 e8 e9 e10 e11 e12 e13 e14 e15) 15 = e15 :=
 ⟨dg_valL _ h 0 (by simp), dg_valL _ h 1 (by simp), dg_valL _ h 2 (by simp), dg_valL _ h 3 (by simp), dg_valL _ h 4 (by simp), dg_valL _ h 5 (by simp), dg_valL _ h 6 (by simp), dg_valL _ h 7 (by simp), dg_valL _ h 8 (by simp), dg_valL _ h 9 (by simp), dg_valL _ h 10 (by simp), dg_valL _ h 11 (by simp), dg_valL _ h 12 (by simp), dg_valL _ h 13 (by simp), dg_valL _ h 14 (by simp), dg_valL _ h 15 (by simp)⟩
theorem v16_bd (e0 e1 e2 e3 e4 e5 e6 e7 e8 e9 e10 e11 e12 e13 e14 e15 : Int) (h : ∀ d ∈ [e0, e1, e2, e3, e4, e5, e6, e7, e8, e9, e10, e11, e12, e13, e14, e15], 0 ≤ d ∧ d < 65536) : 0 ≤ v16 e0 e1 e2 e3 e4 e5 e6 e7 e8 e9 e10 e11 e12 e13 e14 e15 ∧ v16 e0 e1 e2 e3 e4 e5 e6 e7 e8 e9 e10 e11 e12 e13 e14 e15 < 115792089237316195423570985008687907853269984665640564039457584007913129639936 := by
 have := valL_lt _ h
 simpa [v16] using this
theorem fold_step (e0 e1 e2 e3 e4 e5 e6 e7 e8 e9 e10 e11 e12 e13 e14 e15 c : Int) (le0 : 0 ≤ e0) (ue0 : e0 < 65536) (le1 : 0 ≤ e1) (ue1 : e1 < 65536) (le2 : 0 ≤ e2) (ue2 : e2 < 65536) (le3 : 0 ≤ e3) (ue3 : e3 < 65536) (le4 : 0 ≤ e4) (ue4 : e4 < 65536) (le5 : 0 ≤ e5) (ue5 : e5 < 65536) (le6 : 0 ≤ e6) (ue6 : e6 < 65536) (le7 : 0 ≤ e7) (ue7 : e7 < 65536) (le8 : 0 ≤ e8) (ue8 : e8 < 65536) (le9 : 0 ≤ e9) (ue9 : e9 < 65536) (le10 : 0 ≤ e10) (ue10 : e10 < 65536) (le11 : 0 ≤ e11) (ue11 : e11 < 65536) (le12 : 0 ≤ e12) (ue12 : e12 < 65536) (le13 : 0 ≤ e13) (ue13 : e13 < 65536) (le14 : 0 ≤ e14) (ue14 : e14 < 65536) :
   v16 (e0 + (c * 2 + e15 / 32768) * 19) e1 e2 e3 e4 e5 e6 e7 e8 e9 e10 e11 e12 e13 e14 (e15 % 32768) = fold1 (v16 e0 e1 e2 e3 e4 e5 e6 e7 e8 e9 e10 e11 e12 e13 e14 e15 + 115792089237316195423570985008687907853269984665640564039457584007913129639936 * c) := by
 have hX := v16_bd e0 e1 e2 e3 e4 e5 e6 e7 e8 e9 e10 e11 e12 e13 e14 (e15 % 32768) (by intro d hd; simp only [List.mem_cons, List.not_mem_nil, or_false] at hd; rcases hd with rfl | rfl | rfl | rfl | rfl | rfl | rfl | rfl | rfl | rfl | rfl | rfl | rfl | rfl | rfl | rfl <;> constructor <;> omega)
 have h1 : v16 (e0 + (c * 2 + e15 / 32768) * 19) e1 e2 e3 e4 e5 e6 e7 e8 e9 e10 e11 e12 e13 e14 (e15 % 32768) = v16 e0 e1 e2 e3 e4 e5 e6 e7 e8 e9 e10 e11 e12 e13 e14 (e15 % 32768) + 19 * (c * 2 + e15 / 32768) := by simp only [v16, valL]; omega
 have h2 : v16 e0 e1 e2 e3 e4 e5 e6 e7 e8 e9 e10 e11 e12 e13 e14 e15 + 115792089237316195423570985008687907853269984665640564039457584007913129639936 * c = v16 e0 e1 e2 e3 e4 e5 e6 e7 e8 e9 e10 e11 e12 e13 e14 (e15 % 32768) + 57896044618658097711785492504343953926634992332820282019728792003956564819968 * (c * 2 + e15 / 32768) := by simp only [v16, valL]; omega
 have h3 : v16 e0 e1 e2 e3 e4 e5 e6 e7 e8 e9 e10 e11 e12 e13 e14 (e15 % 32768) < 57896044618658097711785492504343953926634992332820282019728792003956564819968 := by simp only [v16, valL]; omega
 rw [h1, h2]
 unfold fold1
 generalize v16 e0 e1 e2 e3 e4 e5 e6 e7 e8 e9 e10 e11 e12 e13 e14 (e15 % 32768) = X at *
 generalize c * 2 + e15 / 32768 = h at *
 omega
end Go.Proofs.YtgbkbcgjagcgbaaGreatDoor.Lo
namespace Go.Proofs.YtgbkbcgjagcgbaaGreatDoor.Lo
set_option maxRecDepth 100000
open Go.RowKit
/-! Bytes, to the base 2^8. -/
def byt (n : Int) (i : Nat) : Int := n / 256 ^ i % 256
theorem byt_bd (n : Int) (i : Nat) : 0 ≤ byt n i ∧ byt n i < 256 := by unfold byt; omega
def valB : List Int → Int
 | [] => 0
 | d :: ds => d + 256 * valB ds
theorem byt_zero (d v : Int) (h0 : 0 ≤ d) (h1 : d < 256) : byt (d + 256 * v) 0 = d := by unfold byt; simp; omega
theorem byt_succ (d v : Int) (i : Nat) (h0 : 0 ≤ d) (h1 : d < 256) : byt (d + 256 * v) (i + 1) = byt v i := by
 unfold byt
 have e : (256 : Int) ^ (i + 1) = 256 * 256 ^ i := by rw [Int.pow_succ, Int.mul_comm]
 rw [e, ← Int.ediv_ediv_of_nonneg (by omega)]
 have : (d + 256 * v) / 256 = v := by omega
 rw [this]
theorem byt_valB : ∀ (ds : List Int) (_ : ∀ d ∈ ds, 0 ≤ d ∧ d < 256) (i : Nat) (h : i < ds.length), byt (valB ds) i = ds[i]
 | d :: ds, hd, 0, _ => by
   have := hd d (by simp)
   simpa [valB] using byt_zero d (valB ds) this.1 this.2
 | d :: ds, hd, i + 1, h => by
   have := hd d (by simp)
   have h2 := byt_valB ds (fun x hx => hd x (by simp [hx])) i (by simpa using h)
   simp only [valB]
   rw [byt_succ d (valB ds) i this.1 this.2, h2]
   simp
theorem dg_low (n : Int) (i : Nat) : dg n i % 256 = byt n (2 * i) := by
 unfold dg byt
 have e : (256 : Int) ^ (2 * i) = 65536 ^ i := by rw [Int.pow_mul]; rfl
 rw [e, Int.emod_emod_of_dvd _ (by decide)]
theorem dg_high (n : Int) (i : Nat) : dg n i / 256 = byt n (2 * i + 1) := by
 unfold dg byt
 have e : (256 : Int) ^ (2 * i + 1) = 65536 ^ i * 256 := by rw [Int.pow_succ, Int.pow_mul]; rfl
 rw [e, ← Int.ediv_ediv_of_nonneg (Int.pow_nonneg (by decide))]
 generalize n / 65536 ^ i = x
 omega
def kv (b0 b1 b2 b3 b4 b5 b6 b7 b8 b9 b10 b11 b12 b13 b14 b15 b16 b17 b18 b19 b20 b21 b22 b23 b24 b25 b26 b27 b28 b29 b30 b31 : Int) : Int := valB [b0, b1, b2, b3, b4, b5, b6, b7, b8, b9, b10, b11, b12, b13, b14, b15, b16, b17, b18, b19, b20, b21, b22, b23, b24, b25, b26, b27, b28, b29, b30, b31]
theorem kv_v16 (b0 b1 b2 b3 b4 b5 b6 b7 b8 b9 b10 b11 b12 b13 b14 b15 b16 b17 b18 b19 b20 b21 b22 b23 b24 b25 b26 b27 b28 b29 b30 b31 : Int) (lo0 : 0 ≤ b0) (hi0 : b0 < 256) (lo1 : 0 ≤ b1) (hi1 : b1 < 256) (lo2 : 0 ≤ b2) (hi2 : b2 < 256) (lo3 : 0 ≤ b3) (hi3 : b3 < 256) (lo4 : 0 ≤ b4) (hi4 : b4 < 256) (lo5 : 0 ≤ b5) (hi5 : b5 < 256) (lo6 : 0 ≤ b6) (hi6 : b6 < 256) (lo7 : 0 ≤ b7) (hi7 : b7 < 256) (lo8 : 0 ≤ b8) (hi8 : b8 < 256) (lo9 : 0 ≤ b9) (hi9 : b9 < 256) (lo10 : 0 ≤ b10) (hi10 : b10 < 256) (lo11 : 0 ≤ b11) (hi11 : b11 < 256) (lo12 : 0 ≤ b12) (hi12 : b12 < 256) (lo13 : 0 ≤ b13) (hi13 : b13 < 256) (lo14 : 0 ≤ b14) (hi14 : b14 < 256) (lo15 : 0 ≤ b15) (hi15 : b15 < 256) (lo16 : 0 ≤ b16) (hi16 : b16 < 256) (lo17 : 0 ≤ b17) (hi17 : b17 < 256) (lo18 : 0 ≤ b18) (hi18 : b18 < 256) (lo19 : 0 ≤ b19) (hi19 : b19 < 256) (lo20 : 0 ≤ b20) (hi20 : b20 < 256) (lo21 : 0 ≤ b21) (hi21 : b21 < 256) (lo22 : 0 ≤ b22) (hi22 : b22 < 256) (lo23 : 0 ≤ b23) (hi23 : b23 < 256) (lo24 : 0 ≤ b24) (hi24 : b24 < 256) (lo25 : 0 ≤ b25) (hi25 : b25 < 256) (lo26 : 0 ≤ b26) (hi26 : b26 < 256) (lo27 : 0 ≤ b27) (hi27 : b27 < 256) (lo28 : 0 ≤ b28) (hi28 : b28 < 256) (lo29 : 0 ≤ b29) (hi29 : b29 < 256) :
   v16 (b0 + 256 * b1) (b2 + 256 * b3) (b4 + 256 * b5) (b6 + 256 * b7) (b8 + 256 * b9) (b10 + 256 * b11) (b12 + 256 * b13) (b14 + 256 * b15) (b16 + 256 * b17) (b18 + 256 * b19) (b20 + 256 * b21) (b22 + 256 * b23) (b24 + 256 * b25) (b26 + 256 * b27) (b28 + 256 * b29) ((b30 + 256 * b31) % 32768) = kv b0 b1 b2 b3 b4 b5 b6 b7 b8 b9 b10 b11 b12 b13 b14 b15 b16 b17 b18 b19 b20 b21 b22 b23 b24 b25 b26 b27 b28 b29 b30 b31 % 57896044618658097711785492504343953926634992332820282019728792003956564819968 := by
 have h : kv b0 b1 b2 b3 b4 b5 b6 b7 b8 b9 b10 b11 b12 b13 b14 b15 b16 b17 b18 b19 b20 b21 b22 b23 b24 b25 b26 b27 b28 b29 b30 b31 = v16 (b0 + 256 * b1) (b2 + 256 * b3) (b4 + 256 * b5) (b6 + 256 * b7) (b8 + 256 * b9) (b10 + 256 * b11) (b12 + 256 * b13) (b14 + 256 * b15) (b16 + 256 * b17) (b18 + 256 * b19) (b20 + 256 * b21) (b22 + 256 * b23) (b24 + 256 * b25) (b26 + 256 * b27) (b28 + 256 * b29) ((b30 + 256 * b31) % 32768) + 57896044618658097711785492504343953926634992332820282019728792003956564819968 * ((b30 + 256 * b31) / 32768) := by simp only [kv, v16, valL, valB]; omega
 have h0 : 0 ≤ v16 (b0 + 256 * b1) (b2 + 256 * b3) (b4 + 256 * b5) (b6 + 256 * b7) (b8 + 256 * b9) (b10 + 256 * b11) (b12 + 256 * b13) (b14 + 256 * b15) (b16 + 256 * b17) (b18 + 256 * b19) (b20 + 256 * b21) (b22 + 256 * b23) (b24 + 256 * b25) (b26 + 256 * b27) (b28 + 256 * b29) ((b30 + 256 * b31) % 32768) ∧ v16 (b0 + 256 * b1) (b2 + 256 * b3) (b4 + 256 * b5) (b6 + 256 * b7) (b8 + 256 * b9) (b10 + 256 * b11) (b12 + 256 * b13) (b14 + 256 * b15) (b16 + 256 * b17) (b18 + 256 * b19) (b20 + 256 * b21) (b22 + 256 * b23) (b24 + 256 * b25) (b26 + 256 * b27) (b28 + 256 * b29) ((b30 + 256 * b31) % 32768) < 57896044618658097711785492504343953926634992332820282019728792003956564819968 := by simp only [v16, valL]; omega
 rw [h]
 generalize v16 (b0 + 256 * b1) (b2 + 256 * b3) (b4 + 256 * b5) (b6 + 256 * b7) (b8 + 256 * b9) (b10 + 256 * b11) (b12 + 256 * b13) (b14 + 256 * b15) (b16 + 256 * b17) (b18 + 256 * b19) (b20 + 256 * b21) (b22 + 256 * b23) (b24 + 256 * b25) (b26 + 256 * b27) (b28 + 256 * b29) ((b30 + 256 * b31) % 32768) = X at *
 omega
end Go.Proofs.YtgbkbcgjagcgbaaGreatDoor.Lo
namespace Go.Proofs.YtgbkbcgjagcgbaaGreatDoor.Lo
set_option maxRecDepth 100000
open Go Go.RowKit
/-! The bits' operations as numbers. -/
theorem and51 (x : Int) (h0 : 0 ≤ x) (h1 : x < 18446744073709551616) : bits .and .u64 x 2251799813685247 = x % 2251799813685248 := by
 rw [u64_and x 2251799813685247 h0 h1 (by decide) (by decide)]
 have e : (2251799813685247 : Int).toNat = 2 ^ 51 - 1 := by decide
 rw [e, Nat.and_two_pow_sub_one_eq_mod]
 omega
theorem or_sum (i : Nat) (x y : Int) (hx0 : 0 ≤ x) (hx : x < 2 ^ i) (hy0 : 0 ≤ y) (hy : y < 18446744073709551616) (hm : y % 2 ^ i = 0) (hx1 : x < 18446744073709551616) : bits .or .u64 x y = x + y := by
 obtain ⟨a, rfl⟩ := Int.eq_ofNat_of_zero_le hx0
 obtain ⟨b, rfl⟩ := Int.eq_ofNat_of_zero_le hy0
 rw [u64_or_nat a b (by omega) (by omega), Nat.or_comm, nat_join i b a (by exact_mod_cast hm) (by exact_mod_cast hx)]
 omega
def v5 (a0 a1 a2 a3 a4 : Int) : Int := a0 + 2251799813685248 * (a1 + 2251799813685248 * (a2 + 2251799813685248 * (a3 + 2251799813685248 * a4)))
def lb (m : Int) (i : Nat) : Int := m / 2251799813685248 ^ i % 2251799813685248
theorem lb_bd (m : Int) (i : Nat) : 0 ≤ lb m i ∧ lb m i < 2251799813685248 := by unfold lb; omega
theorem lb_v5 (a0 a1 a2 a3 a4 : Int) (l0 : 0 ≤ a0) (u0 : a0 < 2251799813685248) (l1 : 0 ≤ a1) (u1 : a1 < 2251799813685248) (l2 : 0 ≤ a2) (u2 : a2 < 2251799813685248) (l3 : 0 ≤ a3) (u3 : a3 < 2251799813685248) (l4 : 0 ≤ a4) (u4 : a4 < 2251799813685248) :
   lb (v5 a0 a1 a2 a3 a4) 0 = a0 ∧ lb (v5 a0 a1 a2 a3 a4) 1 = a1 ∧ lb (v5 a0 a1 a2 a3 a4) 2 = a2 ∧ lb (v5 a0 a1 a2 a3 a4) 3 = a3 ∧ lb (v5 a0 a1 a2 a3 a4) 4 = a4 := by
 unfold lb v5
 simp only [Int.pow_zero, Int.ediv_one, Int.pow_succ, Int.one_mul]
 refine ⟨?_, ?_, ?_, ?_, ?_⟩ <;> omega
theorem v5_lb (m : Int) (h0 : 0 ≤ m) (h1 : m < 57896044618658097711785492504343953926634992332820282019728792003956564819968) : v5 (lb m 0) (lb m 1) (lb m 2) (lb m 3) (lb m 4) = m := by
 unfold lb v5
 simp only [Int.pow_zero, Int.ediv_one, Int.pow_succ, Int.one_mul]
 omega
def q8 (b0 b1 b2 b3 b4 b5 b6 b7 : Int) : Int := b0 + 256 * (b1 + 256 * (b2 + 256 * (b3 + 256 * (b4 + 256 * (b5 + 256 * (b6 + 256 * b7))))))
theorem q8_bd (b0 b1 b2 b3 b4 b5 b6 b7 : Int) (l0 : 0 ≤ b0 ∧ b0 < 256) (l1 : 0 ≤ b1 ∧ b1 < 256) (l2 : 0 ≤ b2 ∧ b2 < 256) (l3 : 0 ≤ b3 ∧ b3 < 256) (l4 : 0 ≤ b4 ∧ b4 < 256) (l5 : 0 ≤ b5 ∧ b5 < 256) (l6 : 0 ≤ b6 ∧ b6 < 256) (l7 : 0 ≤ b7 ∧ b7 < 256) :
   0 ≤ q8 b0 b1 b2 b3 b4 b5 b6 b7 ∧ q8 b0 b1 b2 b3 b4 b5 b6 b7 < 18446744073709551616 := by unfold q8; omega
theorem q8_or (b0 b1 b2 b3 b4 b5 b6 b7 : Int) (l0 : 0 ≤ b0 ∧ b0 < 256) (l1 : 0 ≤ b1 ∧ b1 < 256) (l2 : 0 ≤ b2 ∧ b2 < 256) (l3 : 0 ≤ b3 ∧ b3 < 256) (l4 : 0 ≤ b4 ∧ b4 < 256) (l5 : 0 ≤ b5 ∧ b5 < 256) (l6 : 0 ≤ b6 ∧ b6 < 256) (l7 : 0 ≤ b7 ∧ b7 < 256) :
   bits .or .u64 (bits .or .u64 (bits .or .u64 (bits .or .u64 (bits .or .u64 (bits .or .u64 (bits .or .u64 (bits .or .u64 0 b0) (b1 * 256)) (b2 * 65536)) (b3 * 16777216)) (b4 * 4294967296)) (b5 * 1099511627776)) (b6 * 281474976710656)) (b7 * 72057594037927936) = q8 b0 b1 b2 b3 b4 b5 b6 b7 := by
 rw [or_sum 0 0 b0 (by decide) (by decide) l0.1 (by omega) (by simp) (by decide), Int.zero_add]
 rw [or_sum 8 b0 (b1 * 256) (by omega) (by omega) (by omega) (by omega) (by omega) (by omega)]
 rw [or_sum 16 _ (b2 * 65536) (by omega) (by omega) (by omega) (by omega) (by omega) (by omega)]
 rw [or_sum 24 _ (b3 * 16777216) (by omega) (by omega) (by omega) (by omega) (by omega) (by omega)]
 rw [or_sum 32 _ (b4 * 4294967296) (by omega) (by omega) (by omega) (by omega) (by omega) (by omega)]
 rw [or_sum 40 _ (b5 * 1099511627776) (by omega) (by omega) (by omega) (by omega) (by omega) (by omega)]
 rw [or_sum 48 _ (b6 * 281474976710656) (by omega) (by omega) (by omega) (by omega) (by omega) (by omega)]
 rw [or_sum 56 _ (b7 * 72057594037927936) (by omega) (by omega) (by omega) (by omega) (by omega) (by omega)]
 unfold q8
 omega
theorem kv_q8 (b0 b1 b2 b3 b4 b5 b6 b7 b8 b9 b10 b11 b12 b13 b14 b15 b16 b17 b18 b19 b20 b21 b22 b23 b24 b25 b26 b27 b28 b29 b30 b31 : Int) : kv b0 b1 b2 b3 b4 b5 b6 b7 b8 b9 b10 b11 b12 b13 b14 b15 b16 b17 b18 b19 b20 b21 b22 b23 b24 b25 b26 b27 b28 b29 b30 b31 = q8 b0 b1 b2 b3 b4 b5 b6 b7 + 18446744073709551616 * (q8 b8 b9 b10 b11 b12 b13 b14 b15 + 18446744073709551616 * (q8 b16 b17 b18 b19 b20 b21 b22 b23 + 18446744073709551616 * q8 b24 b25 b26 b27 b28 b29 b30 b31)) := by
 simp only [kv, valB, q8]; omega
theorem mid51 (j : Nat) (x y m : Int) (hx0 : 0 ≤ x) (hx : x < 2 ^ j) (hx1 : x < 18446744073709551616) (hy : (y * m % 18446744073709551616) % 2 ^ j = 0) : bits .and .u64 (bits .or .u64 x (IntKind.u64.wrap (y * m))) 2251799813685247 = (x + y * m % 18446744073709551616) % 2251799813685248 := by
 rw [IntKind.wrap_u64, or_sum j x _ hx0 hx (by omega) (by omega) hy hx1]
 by_cases h : x + y * m % 18446744073709551616 < 18446744073709551616
 · rw [and51 _ (by omega) h]
 · exfalso
   have h2 : y * m % 18446744073709551616 < 18446744073709551616 := by omega
   have h3 : 0 ≤ y * m % 18446744073709551616 := by omega
   have h4 := or_sum j x (y * m % 18446744073709551616) hx0 hx h3 h2 hy hx1
   obtain ⟨c, hc⟩ := Int.eq_ofNat_of_zero_le hx0
   obtain ⟨d, hd⟩ := Int.eq_ofNat_of_zero_le h3
   rw [hc, hd, u64_or_nat c d (by omega) (by omega)] at h4
   have h5 : c ||| d < 2 ^ 64 := Nat.or_lt_two_pow (by omega) (by omega)
   omega
theorem from_limbs (q0 q1 q2 q3 : Int) (l0 : 0 ≤ q0) (u0 : q0 < 18446744073709551616) (l1 : 0 ≤ q1) (u1 : q1 < 18446744073709551616) (l2 : 0 ≤ q2) (u2 : q2 < 18446744073709551616) (l3 : 0 ≤ q3) (u3 : q3 < 18446744073709551616) :
   bits .and .u64 q0 2251799813685247 = lb (q0 + 18446744073709551616 * (q1 + 18446744073709551616 * (q2 + 18446744073709551616 * q3))) 0 ∧
   bits .and .u64 (bits .or .u64 (q0 / 2251799813685248) (IntKind.u64.wrap (q1 * 8192))) 2251799813685247 = lb (q0 + 18446744073709551616 * (q1 + 18446744073709551616 * (q2 + 18446744073709551616 * q3))) 1 ∧
   bits .and .u64 (bits .or .u64 (q1 / 274877906944) (IntKind.u64.wrap (q2 * 67108864))) 2251799813685247 = lb (q0 + 18446744073709551616 * (q1 + 18446744073709551616 * (q2 + 18446744073709551616 * q3))) 2 ∧
   bits .and .u64 (bits .or .u64 (q2 / 33554432) (IntKind.u64.wrap (q3 * 549755813888))) 2251799813685247 = lb (q0 + 18446744073709551616 * (q1 + 18446744073709551616 * (q2 + 18446744073709551616 * q3))) 3 ∧
   bits .and .u64 (q3 / 4096) 2251799813685247 = lb (q0 + 18446744073709551616 * (q1 + 18446744073709551616 * (q2 + 18446744073709551616 * q3))) 4 := by
 rw [and51 q0 l0 u0, and51 (q3 / 4096) (by omega) (by omega), mid51 13 (q0 / 2251799813685248) q1 8192 (by omega) (by omega) (by omega) (by omega), mid51 26 (q1 / 274877906944) q2 67108864 (by omega) (by omega) (by omega) (by omega), mid51 39 (q2 / 33554432) q3 549755813888 (by omega) (by omega) (by omega) (by omega)]
 unfold lb
 simp only [Int.pow_zero, Int.ediv_one, Int.pow_succ, Int.one_mul]
 refine ⟨?_, ?_, ?_, ?_, ?_⟩ <;> omega
end Go.Proofs.YtgbkbcgjagcgbaaGreatDoor.Lo
namespace Go.Proofs.YtgbkbcgjagcgbaaGreatDoor.Lo
set_option maxRecDepth 100000
open Go Go.RowKit
theorem byt_split (i j : Nat) (n : Int) : byt n (i + j) = byt (n / 256 ^ i) j := by
 unfold byt
 rw [Int.pow_add, ← Int.ediv_ediv_of_nonneg (Int.pow_nonneg (by decide))]
theorem word_bytes (N M : Int) (h0 : 0 ≤ N) (h1 : N < 18446744073709551616) : N % 256 = byt (N + 18446744073709551616 * M) 0 ∧ N / 256 % 256 = byt (N + 18446744073709551616 * M) 1 ∧ N / 65536 % 256 = byt (N + 18446744073709551616 * M) 2 ∧ N / 16777216 % 256 = byt (N + 18446744073709551616 * M) 3 ∧ N / 4294967296 % 256 = byt (N + 18446744073709551616 * M) 4 ∧ N / 1099511627776 % 256 = byt (N + 18446744073709551616 * M) 5 ∧ N / 281474976710656 % 256 = byt (N + 18446744073709551616 * M) 6 ∧ N / 72057594037927936 = byt (N + 18446744073709551616 * M) 7 := by
 unfold byt
 simp only [Int.pow_zero, Int.ediv_one, Int.pow_succ, Int.one_mul]
 refine ⟨?_, ?_, ?_, ?_, ?_, ?_, ?_, ?_⟩ <;> omega
theorem word_next (N M : Int) (j : Nat) (h0 : 0 ≤ N) (h1 : N < 18446744073709551616) : byt (N + 18446744073709551616 * M) (8 + j) = byt M j := by
 rw [byt_split]
 have : (N + 18446744073709551616 * M) / 256 ^ 8 = M := by
   have e : (256 : Int) ^ 8 = 18446744073709551616 := by decide
   rw [e]; omega
 rw [this]
theorem words_bytes (N0 N1 N2 N3 : Int) (l0 : 0 ≤ N0) (u0 : N0 < 18446744073709551616) (l1 : 0 ≤ N1) (u1 : N1 < 18446744073709551616) (l2 : 0 ≤ N2) (u2 : N2 < 18446744073709551616) (l3 : 0 ≤ N3) (u3 : N3 < 18446744073709551616) :
   N0 % 256 = byt (N0 + 18446744073709551616 * (N1 + 18446744073709551616 * (N2 + 18446744073709551616 * N3))) 0 ∧ N0 / 256 % 256 = byt (N0 + 18446744073709551616 * (N1 + 18446744073709551616 * (N2 + 18446744073709551616 * N3))) 1 ∧ N0 / 65536 % 256 = byt (N0 + 18446744073709551616 * (N1 + 18446744073709551616 * (N2 + 18446744073709551616 * N3))) 2 ∧ N0 / 16777216 % 256 = byt (N0 + 18446744073709551616 * (N1 + 18446744073709551616 * (N2 + 18446744073709551616 * N3))) 3 ∧ N0 / 4294967296 % 256 = byt (N0 + 18446744073709551616 * (N1 + 18446744073709551616 * (N2 + 18446744073709551616 * N3))) 4 ∧ N0 / 1099511627776 % 256 = byt (N0 + 18446744073709551616 * (N1 + 18446744073709551616 * (N2 + 18446744073709551616 * N3))) 5 ∧ N0 / 281474976710656 % 256 = byt (N0 + 18446744073709551616 * (N1 + 18446744073709551616 * (N2 + 18446744073709551616 * N3))) 6 ∧ N0 / 72057594037927936 = byt (N0 + 18446744073709551616 * (N1 + 18446744073709551616 * (N2 + 18446744073709551616 * N3))) 7 ∧ N1 % 256 = byt (N0 + 18446744073709551616 * (N1 + 18446744073709551616 * (N2 + 18446744073709551616 * N3))) 8 ∧ N1 / 256 % 256 = byt (N0 + 18446744073709551616 * (N1 + 18446744073709551616 * (N2 + 18446744073709551616 * N3))) 9 ∧ N1 / 65536 % 256 = byt (N0 + 18446744073709551616 * (N1 + 18446744073709551616 * (N2 + 18446744073709551616 * N3))) 10 ∧ N1 / 16777216 % 256 = byt (N0 + 18446744073709551616 * (N1 + 18446744073709551616 * (N2 + 18446744073709551616 * N3))) 11 ∧ N1 / 4294967296 % 256 = byt (N0 + 18446744073709551616 * (N1 + 18446744073709551616 * (N2 + 18446744073709551616 * N3))) 12 ∧ N1 / 1099511627776 % 256 = byt (N0 + 18446744073709551616 * (N1 + 18446744073709551616 * (N2 + 18446744073709551616 * N3))) 13 ∧ N1 / 281474976710656 % 256 = byt (N0 + 18446744073709551616 * (N1 + 18446744073709551616 * (N2 + 18446744073709551616 * N3))) 14 ∧ N1 / 72057594037927936 = byt (N0 + 18446744073709551616 * (N1 + 18446744073709551616 * (N2 + 18446744073709551616 * N3))) 15 ∧ N2 % 256 = byt (N0 + 18446744073709551616 * (N1 + 18446744073709551616 * (N2 + 18446744073709551616 * N3))) 16 ∧ N2 / 256 % 256 = byt (N0 + 18446744073709551616 * (N1 + 18446744073709551616 * (N2 + 18446744073709551616 * N3))) 17 ∧ N2 / 65536 % 256 = byt (N0 + 18446744073709551616 * (N1 + 18446744073709551616 * (N2 + 18446744073709551616 * N3))) 18 ∧ N2 / 16777216 % 256 = byt (N0 + 18446744073709551616 * (N1 + 18446744073709551616 * (N2 + 18446744073709551616 * N3))) 19 ∧ N2 / 4294967296 % 256 = byt (N0 + 18446744073709551616 * (N1 + 18446744073709551616 * (N2 + 18446744073709551616 * N3))) 20 ∧ N2 / 1099511627776 % 256 = byt (N0 + 18446744073709551616 * (N1 + 18446744073709551616 * (N2 + 18446744073709551616 * N3))) 21 ∧ N2 / 281474976710656 % 256 = byt (N0 + 18446744073709551616 * (N1 + 18446744073709551616 * (N2 + 18446744073709551616 * N3))) 22 ∧ N2 / 72057594037927936 = byt (N0 + 18446744073709551616 * (N1 + 18446744073709551616 * (N2 + 18446744073709551616 * N3))) 23 ∧ N3 % 256 = byt (N0 + 18446744073709551616 * (N1 + 18446744073709551616 * (N2 + 18446744073709551616 * N3))) 24 ∧ N3 / 256 % 256 = byt (N0 + 18446744073709551616 * (N1 + 18446744073709551616 * (N2 + 18446744073709551616 * N3))) 25 ∧ N3 / 65536 % 256 = byt (N0 + 18446744073709551616 * (N1 + 18446744073709551616 * (N2 + 18446744073709551616 * N3))) 26 ∧ N3 / 16777216 % 256 = byt (N0 + 18446744073709551616 * (N1 + 18446744073709551616 * (N2 + 18446744073709551616 * N3))) 27 ∧ N3 / 4294967296 % 256 = byt (N0 + 18446744073709551616 * (N1 + 18446744073709551616 * (N2 + 18446744073709551616 * N3))) 28 ∧ N3 / 1099511627776 % 256 = byt (N0 + 18446744073709551616 * (N1 + 18446744073709551616 * (N2 + 18446744073709551616 * N3))) 29 ∧ N3 / 281474976710656 % 256 = byt (N0 + 18446744073709551616 * (N1 + 18446744073709551616 * (N2 + 18446744073709551616 * N3))) 30 ∧ N3 / 72057594037927936 = byt (N0 + 18446744073709551616 * (N1 + 18446744073709551616 * (N2 + 18446744073709551616 * N3))) 31 := by
 have h0 := word_bytes N0 (N1 + 18446744073709551616 * (N2 + 18446744073709551616 * N3)) l0 u0
 have h1 := word_bytes N1 (N2 + 18446744073709551616 * N3) l1 u1
 have h2 := word_bytes N2 N3 l2 u2
 have h3 := word_bytes N3 0 l3 u3
 have n0 := fun j => word_next N0 (N1 + 18446744073709551616 * (N2 + 18446744073709551616 * N3)) j l0 u0
 have n1 := fun j => word_next N1 (N2 + 18446744073709551616 * N3) j l1 u1
 have n2 := fun j => word_next N2 N3 j l2 u2
 simp only [Int.mul_zero, Int.add_zero] at h3
 obtain ⟨a0, a1, a2, a3, a4, a5, a6, a7⟩ := h0
 obtain ⟨b0, b1, b2, b3, b4, b5, b6, b7⟩ := h1
 obtain ⟨c0, c1, c2, c3, c4, c5, c6, c7⟩ := h2
 obtain ⟨d0, d1, d2, d3, d4, d5, d6, d7⟩ := h3
 exact ⟨a0, a1, a2, a3, a4, a5, a6, a7, b0.trans (n0 0).symm, b1.trans (n0 1).symm, b2.trans (n0 2).symm, b3.trans (n0 3).symm, b4.trans (n0 4).symm, b5.trans (n0 5).symm, b6.trans (n0 6).symm, b7.trans (n0 7).symm, c0.trans ((n1 0).symm.trans (n0 8).symm), c1.trans ((n1 1).symm.trans (n0 9).symm), c2.trans ((n1 2).symm.trans (n0 10).symm), c3.trans ((n1 3).symm.trans (n0 11).symm), c4.trans ((n1 4).symm.trans (n0 12).symm), c5.trans ((n1 5).symm.trans (n0 13).symm), c6.trans ((n1 6).symm.trans (n0 14).symm), c7.trans ((n1 7).symm.trans (n0 15).symm), d0.trans ((n2 0).symm.trans ((n1 8).symm.trans (n0 16).symm)), d1.trans ((n2 1).symm.trans ((n1 9).symm.trans (n0 17).symm)), d2.trans ((n2 2).symm.trans ((n1 10).symm.trans (n0 18).symm)), d3.trans ((n2 3).symm.trans ((n1 11).symm.trans (n0 19).symm)), d4.trans ((n2 4).symm.trans ((n1 12).symm.trans (n0 20).symm)), d5.trans ((n2 5).symm.trans ((n1 13).symm.trans (n0 21).symm)), d6.trans ((n2 6).symm.trans ((n1 14).symm.trans (n0 22).symm)), d7.trans ((n2 7).symm.trans ((n1 15).symm.trans (n0 23).symm))⟩
theorem words_v5 (m0 m1 m2 m3 m4 : Int)   :
   (m0 + m1 * 2251799813685248 % 18446744073709551616) + 18446744073709551616 * ((m1 / 8192 + m2 * 274877906944 % 18446744073709551616) + 18446744073709551616 * ((m2 / 67108864 + m3 * 33554432 % 18446744073709551616) + 18446744073709551616 * (m3 / 549755813888 + m4 * 4096))) = v5 m0 m1 m2 m3 m4 := by
 unfold v5
 omega
end Go.Proofs.YtgbkbcgjagcgbaaGreatDoor.Lo
namespace Go.Proofs.YtgbkbcgjagcgbaaGreatDoor.Lo
set_option maxRecDepth 100000
open Go Go.RowKit
/-! Products of words. -/
theorem mul_bd (a b A B : Int) (ha0 : 0 ≤ a) (ha : a ≤ A) (hb0 : 0 ≤ b) (hb : b ≤ B) : 0 ≤ a * b ∧ a * b ≤ A * B :=
 ⟨Int.mul_nonneg ha0 hb0, Int.mul_le_mul ha hb hb0 (Int.le_trans ha0 ha)⟩
theorem wide_high (x y : Int) (hx0 : 0 ≤ x) (hy0 : 0 ≤ y) (hs : x + y < 340282366920938463463374607431768211456) :
   (x / 18446744073709551616 + y / 18446744073709551616 + (x % 18446744073709551616 + y % 18446744073709551616) / 18446744073709551616) % 18446744073709551616 = (x + y) / 18446744073709551616 ∧
   (x % 18446744073709551616 + y % 18446744073709551616) % 18446744073709551616 = (x + y) % 18446744073709551616 := by omega
theorem over_num (x : Int) (h0 : 0 ≤ x) (h1 : x < 41538374868278621028243970633760768) :
   bits .or .u64 (x / 18446744073709551616 * 8192) (x % 18446744073709551616 / 2251799813685248) = x / 2251799813685248 := by
 have h2 : x / 18446744073709551616 < 2251799813685248 := by omega
 obtain ⟨a, ha⟩ := Int.eq_ofNat_of_zero_le (show 0 ≤ x / 18446744073709551616 * 8192 by omega)
 obtain ⟨b, hb⟩ := Int.eq_ofNat_of_zero_le (show 0 ≤ x % 18446744073709551616 / 2251799813685248 by omega)
 rw [ha, hb, u64_or_nat a b (by omega) (by omega), nat_join 13 a b (by omega) (by omega)]
 omega
def jn (i : Nat) (r0 r1 r2 r3 r4 : Int) : Int := match i with
 | 0 => (r0 % 2251799813685248 + 19 * (r4 / 2251799813685248)) % 2251799813685248 + 19 * ((r4 % 2251799813685248 + r3 / 2251799813685248) / 2251799813685248)
 | 1 => (r1 % 2251799813685248 + r0 / 2251799813685248) % 2251799813685248 + (r0 % 2251799813685248 + 19 * (r4 / 2251799813685248)) / 2251799813685248
 | 2 => (r2 % 2251799813685248 + r1 / 2251799813685248) % 2251799813685248 + (r1 % 2251799813685248 + r0 / 2251799813685248) / 2251799813685248
 | 3 => (r3 % 2251799813685248 + r2 / 2251799813685248) % 2251799813685248 + (r2 % 2251799813685248 + r1 / 2251799813685248) / 2251799813685248
 | _ => (r4 % 2251799813685248 + r3 / 2251799813685248) % 2251799813685248 + (r3 % 2251799813685248 + r2 / 2251799813685248) / 2251799813685248
theorem jn_bd (r0 r1 r2 r3 r4 : Int) (l0 : 0 ≤ r0) (u0 : r0 < 2596148429267413814265248164610048) (l1 : 0 ≤ r1) (u1 : r1 < 2596148429267413814265248164610048) (l2 : 0 ≤ r2) (u2 : r2 < 2596148429267413814265248164610048) (l3 : 0 ≤ r3) (u3 : r3 < 2596148429267413814265248164610048) (l4 : 0 ≤ r4) (u4 : r4 < 162259276829213363391578010288128) :
   (0 ≤ jn 0 r0 r1 r2 r3 r4 ∧ jn 0 r0 r1 r2 r3 r4 < 4503599627370496) ∧ (0 ≤ jn 1 r0 r1 r2 r3 r4 ∧ jn 1 r0 r1 r2 r3 r4 < 4503599627370496) ∧ (0 ≤ jn 2 r0 r1 r2 r3 r4 ∧ jn 2 r0 r1 r2 r3 r4 < 4503599627370496) ∧ (0 ≤ jn 3 r0 r1 r2 r3 r4 ∧ jn 3 r0 r1 r2 r3 r4 < 4503599627370496) ∧ (0 ≤ jn 4 r0 r1 r2 r3 r4 ∧ jn 4 r0 r1 r2 r3 r4 < 4503599627370496) := by
 simp only [jn]
 omega
theorem jn_val (r0 r1 r2 r3 r4 : Int) : v5 (jn 0 r0 r1 r2 r3 r4) (jn 1 r0 r1 r2 r3 r4) (jn 2 r0 r1 r2 r3 r4) (jn 3 r0 r1 r2 r3 r4) (jn 4 r0 r1 r2 r3 r4) % prm = v5 r0 r1 r2 r3 r4 % prm := by
 have e : v5 (jn 0 r0 r1 r2 r3 r4) (jn 1 r0 r1 r2 r3 r4) (jn 2 r0 r1 r2 r3 r4) (jn 3 r0 r1 r2 r3 r4) (jn 4 r0 r1 r2 r3 r4) = v5 r0 r1 r2 r3 r4 - prm * (r4 / 2251799813685248 + (r4 % 2251799813685248 + r3 / 2251799813685248) / 2251799813685248) := by
   simp only [jn, v5, prm]
   omega
 rw [e, Int.sub_mul_emod_self_left]
theorem jn_wrap (r0 r1 r2 r3 r4 : Int) (l0 : 0 ≤ r0) (u0 : r0 < 2596148429267413814265248164610048) (l1 : 0 ≤ r1) (u1 : r1 < 2596148429267413814265248164610048) (l2 : 0 ≤ r2) (u2 : r2 < 2596148429267413814265248164610048) (l3 : 0 ≤ r3) (u3 : r3 < 2596148429267413814265248164610048) (l4 : 0 ≤ r4) (u4 : r4 < 162259276829213363391578010288128) :
   IntKind.u64.wrap ((r0 % 2251799813685248 + 19 * (r4 / 2251799813685248)) % 2251799813685248 + 19 * ((r4 % 2251799813685248 + r3 / 2251799813685248) / 2251799813685248)) = jn 0 r0 r1 r2 r3 r4 ∧ IntKind.u64.wrap ((r1 % 2251799813685248 + r0 / 2251799813685248) % 2251799813685248 + (r0 % 2251799813685248 + 19 * (r4 / 2251799813685248)) / 2251799813685248) = jn 1 r0 r1 r2 r3 r4 ∧ IntKind.u64.wrap ((r2 % 2251799813685248 + r1 / 2251799813685248) % 2251799813685248 + (r1 % 2251799813685248 + r0 / 2251799813685248) / 2251799813685248) = jn 2 r0 r1 r2 r3 r4 ∧ IntKind.u64.wrap ((r3 % 2251799813685248 + r2 / 2251799813685248) % 2251799813685248 + (r2 % 2251799813685248 + r1 / 2251799813685248) / 2251799813685248) = jn 3 r0 r1 r2 r3 r4 ∧ IntKind.u64.wrap ((r4 % 2251799813685248 + r3 / 2251799813685248) % 2251799813685248 + (r3 % 2251799813685248 + r2 / 2251799813685248) / 2251799813685248) = jn 4 r0 r1 r2 r3 r4 := by
 simp only [jn, IntKind.wrap_u64]
 refine ⟨?_, ?_, ?_, ?_, ?_⟩ <;> omega
end Go.Proofs.YtgbkbcgjagcgbaaGreatDoor.Lo
namespace Go.Proofs.YtgbkbcgjagcgbaaGreatDoor.Lo
set_option maxRecDepth 100000
open Go.RowKit
/-! Sums of digits. -/
def sumN : Nat → (Nat → Int) → Int
 | 0, _ => 0
 | n + 1, f => sumN n f + 65536 ^ n * f n
def upd (g : Nat → Int) (k : Nat) (v : Int) : Nat → Int := fun i => if i = k then g i + v else g i
theorem sumN_upd_out (g : Nat → Int) (k : Nat) (v : Int) : ∀ n, n ≤ k → sumN n (upd g k v) = sumN n g
 | 0, _ => rfl
 | n + 1, h => by
   simp only [sumN]
   rw [sumN_upd_out g k v n (by omega)]
   have : upd g k v n = g n := by simp only [upd]; rw [if_neg (by omega)]
   rw [this]
theorem sumN_upd (g : Nat → Int) (k : Nat) (v : Int) : ∀ n, k < n → sumN n (upd g k v) = sumN n g + 65536 ^ k * v
 | n + 1, h => by
   simp only [sumN]
   by_cases e : k = n
   · subst e
     rw [sumN_upd_out g k v k (Nat.le_refl _)]
     have : upd g k v k = g k + v := by simp [upd]
     rw [this, Int.mul_add]
     omega
   · rw [sumN_upd g k v n (by omega)]
     have : upd g k v n = g n := by simp only [upd]; rw [if_neg (by omega)]
     rw [this]
     omega
def prt (x y : Nat → Int) (i j : Nat) : Int := sumN i x * sumN 16 y + 65536 ^ i * (x i * sumN j y)
theorem prt_zero (x y : Nat → Int) : prt x y 0 0 = 0 := by simp [prt, sumN]
theorem prt_next (x y : Nat → Int) (i : Nat) : prt x y (i + 1) 0 = prt x y i 16 := by
 simp only [prt, sumN, Int.mul_zero, Int.add_zero, Int.add_mul]
 rw [Int.mul_assoc]
theorem prt_step (x y : Nat → Int) (i j : Nat) : prt x y i (j + 1) = prt x y i j + 65536 ^ (i + j) * (x i * y j) := by
 simp only [prt, sumN, Int.mul_add, Int.pow_add]
 have e : 65536 ^ i * (x i * (65536 ^ j * y j)) = 65536 ^ i * 65536 ^ j * (x i * y j) := by
   rw [Int.mul_left_comm (x i), ← Int.mul_assoc]
 rw [e]
 omega
theorem prt_end (x y : Nat → Int) : prt x y 16 0 = sumN 16 x * sumN 16 y := by simp [prt, sumN]
theorem pow_wrap (k : Nat) (v : Int) : ∃ q : Int, 65536 ^ k * (38 * v) + prm * q = 65536 ^ (k + 16) * v := by
 refine ⟨2 * (65536 ^ k * v), ?_⟩
 rw [Int.pow_add, show ((65536 : Int) ^ 16) = 115792089237316195423570985008687907853269984665640564039457584007913129639936 from by decide]
 rw [Int.mul_left_comm (65536 ^ k) 38 v, Int.mul_assoc, Int.mul_left_comm (65536 ^ k)]
 unfold prm
 generalize 65536 ^ k * v = z
 omega
theorem mul38 (a b : Int) (ha0 : 0 ≤ a) (ha : a < 65536) (hb0 : 0 ≤ b) (hb : b < 65536) : 0 ≤ a * b ∧ a * b ≤ 4294836225 :=
 ⟨Int.mul_nonneg ha0 hb0, by have := Int.mul_le_mul (show a ≤ 65535 by omega) (show b ≤ 65535 by omega) hb0 (by decide); omega⟩
theorem sumN_v16 (g : Nat → Int) : sumN 16 g = v16 (g 0) (g 1) (g 2) (g 3) (g 4) (g 5) (g 6) (g 7) (g 8) (g 9) (g 10) (g 11) (g 12) (g 13) (g 14) (g 15) := by
 simp only [sumN, v16, valL, Int.pow_zero, Int.pow_succ, Int.one_mul]
 omega
theorem sumN_dg (m : Int) (h0 : 0 ≤ m) (h1 : m < 115792089237316195423570985008687907853269984665640564039457584007913129639936) : sumN 16 (dg m) = m := by
 simp only [sumN, dg, Int.pow_zero, Int.pow_succ, Int.one_mul, Int.ediv_one]
 omega
theorem mod_of_sum {a b q : Int} (h : a + prm * q = b) : a % prm = b % prm := by
 rw [← h, Int.add_mul_emod_self_left]
end Go.Proofs.YtgbkbcgjagcgbaaGreatDoor.Lo
namespace Go.Proofs.YtgbkbcgjagcgbaaGreatDoor.Lo
set_option maxRecDepth 100000
open Go Go.RowKit
/-! Two arrays of integers, held against each other. -/
section
variable {P : Program}
theorem run_part_int {e : TypeId} {k : IntKind} {i0 : TypeInfo} (w : World) (hu : P.underlying e = some (.int k)) (_hi : P.info? e = some i0) (l : List Int) (i : Nat) (h : i < l.length) :
   (part e (l.map (Value.int k)).toArray i).run P w = .ok (.int k l[i]) w := by
 have hagg : (isAgg e).run P w = .ok false w := by
   unfold isAgg
   rw [Sem.run_bind, run_underlying hu w]
   rfl
 simp [part, Sem.run_bind, hagg, h]
theorem run_eqItems_int {e : TypeId} {k : IntKind} {i0 : TypeInfo} (d : Nat) (w : World) (hu : P.underlying e = some (.int k)) (hi : P.info? e = some i0) (l l' : List Int) : ∀ (is : List Nat), (∀ i ∈ is, i < l.length ∧ i < l'.length) →
   (Op.eqItems (d + 1) e 1 (l.map (Value.int k)).toArray (l'.map (Value.int k)).toArray is).run P w = .ok (is.all fun i => l.getD i 0 == l'.getD i 0) w
 | [], _ => by simp [Op.eqItems]
 | i :: is, h => by
   have h1 := h i (by simp)
   have h2 := run_eqItems_int d w hu hi l l' is (fun j hj => h j (by simp [hj]))
   have e1 : l.getD i 0 = l[i]'h1.1 := by simp [h1.1]
   have e2 : l'.getD i 0 = l'[i]'h1.2 := by simp [h1.2]
   simp only [Op.eqItems, Sem.run_bind, Nat.mul_one, run_part_int w hu hi l i h1.1, run_part_int w hu hi l' i h1.2, Result.andThen_ok, run_equalIn_int w d e k k _ _ hu, List.all_cons, e1, e2]
   cases hb : (l[i]'h1.1 == l'[i]'h1.2)
   · simp
   · simpa using h2
theorem run_equal_ints {t e : TypeId} {k : IntKind} {i0 : TypeInfo} {n : Nat} (w : World) (ht : P.underlying t = some (.array n e)) (hu : P.underlying e = some (.int k)) (hi : P.info? e = some i0) (hc : P.cellsOf e = 1)
   (l l' : List Int) (hl : l.length = n) (hl' : l'.length = n) :
   (Op.equalIn 10000 t (.agg (l.map (Value.int k)).toArray) (.agg (l'.map (Value.int k)).toArray)).run P w = .ok (decide (l = l')) w := by
 rw [run_equalIn_array w 9999 _ _ ht hi, hc, run_eqItems_int 9998 w hu hi l l' (List.range n) (fun i h => by simp at h; omega)]
 congr 1
 rw [Bool.eq_iff_iff]
 simp only [List.all_eq_true, List.mem_range, beq_iff_eq, decide_eq_true_eq]
 constructor
 · intro h
   apply List.ext_getElem (by omega)
   intro i h1 h2
   have := h i (by omega)
   simpa [h1, h2] using this
 · rintro rfl i _
   rfl
end
end Go.Proofs.YtgbkbcgjagcgbaaGreatDoor.Lo
namespace Go.Proofs.YtgbkbcgjagcgbaaGreatDoor.Lo
set_option maxRecDepth 100000
/-! Primes, and that 2^255 - 19 is one. -/
/-! Powers by repeated squares. -/
end Go.Proofs.YtgbkbcgjagcgbaaGreatDoor.Lo
namespace Go.Proofs.YtgbkbcgjagcgbaaGreatDoor.Lo
set_option maxRecDepth 100000
/-! Powers modulo 2^255 - 19. -/
end Go.Proofs.YtgbkbcgjagcgbaaGreatDoor.Lo
namespace Go.Proofs.YtgbkbcgjagcgbaaGreatDoor.Lo
set_option maxRecDepth 100000
/-! Roots modulo 2^255 - 19. -/
end Go.Proofs.YtgbkbcgjagcgbaaGreatDoor.Lo
