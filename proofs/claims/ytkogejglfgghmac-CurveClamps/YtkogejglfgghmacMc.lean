import Derived.Test.YtkogejglfgghmacMb
namespace Go.Proofs.Ytkogejglfgghmac
open Go.RowKit

/-! Bytes, to the base 2^8. -/
def byt (n : Int) (i : Nat) : Int := n / 256 ^ i % 256
theorem byt_bd (n : Int) (i : Nat) : 0 ≤ byt n i ∧ byt n i < 256 := by unfold byt; omega
def valB : List Int → Int
  | [] => 0
  | d :: ds => d + 256 * valB ds
theorem valB_lt : ∀ (ds : List Int) (_ : ∀ d ∈ ds, 0 ≤ d ∧ d < 256), 0 ≤ valB ds ∧ valB ds < 256 ^ ds.length
  | [], _ => by simp [valB]
  | d :: ds, hd => by
    have h1 := hd d (by simp)
    have h2 := valB_lt ds (fun x hx => hd x (by simp [hx]))
    simp only [valB, List.length_cons]
    have e : (256 : Int) ^ (ds.length + 1) = 256 * 256 ^ ds.length := by rw [Int.pow_succ, Int.mul_comm]
    rw [e]
    omega
theorem byt_zero (d v : Int) (h0 : 0 ≤ d) (h1 : d < 256) : byt (d + 256 * v) 0 = d := by unfold byt; simp; omega
theorem byt_succ (d v : Int) (i : Nat) (h0 : 0 ≤ d) (h1 : d < 256) : byt (d + 256 * v) (i + 1) = byt v i := by
  unfold byt
  have e : (256 : Int) ^ (i + 1) = 256 * 256 ^ i := by rw [Int.pow_succ, Int.mul_comm]
  rw [e, ← Int.ediv_ediv_of_nonneg (by omega)]
  have : (d + 256 * v) / 256 = v := by omega
  rw [this]
theorem byt_valB : ∀ (ds : List Int) (_ : ∀ d ∈ ds, 0 ≤ d ∧ d < 256) (i : Nat) (h : i < ds.length), byt (valB ds) i = ds[i]
  | d :: ds, hd, 0, _ => by
    have := hd d (by simp)
    simpa [valB] using byt_zero d (valB ds) this.1 this.2
  | d :: ds, hd, i + 1, h => by
    have := hd d (by simp)
    have h2 := byt_valB ds (fun x hx => hd x (by simp [hx])) i (by simpa using h)
    simp only [valB]
    rw [byt_succ d (valB ds) i this.1 this.2, h2]
    simp
/-- A digit is two bytes. -/
theorem dg_low (n : Int) (i : Nat) : dg n i % 256 = byt n (2 * i) := by
  unfold dg byt
  have e : (256 : Int) ^ (2 * i) = 65536 ^ i := by rw [Int.pow_mul]; rfl
  rw [e, Int.emod_emod_of_dvd _ (by decide)]
theorem dg_high (n : Int) (i : Nat) : dg n i / 256 = byt n (2 * i + 1) := by
  unfold dg byt
  have e : (256 : Int) ^ (2 * i + 1) = 65536 ^ i * 256 := by rw [Int.pow_succ, Int.pow_mul]; rfl
  rw [e, ← Int.ediv_ediv_of_nonneg (Int.pow_nonneg (by decide))]
  generalize n / 65536 ^ i = x
  omega
/-- Thirty-two bytes as one number. -/
def kv (b0 b1 b2 b3 b4 b5 b6 b7 b8 b9 b10 b11 b12 b13 b14 b15 b16 b17 b18 b19 b20 b21 b22 b23 b24 b25 b26 b27 b28 b29 b30 b31 : Int) : Int := valB [b0, b1, b2, b3, b4, b5, b6, b7, b8, b9, b10, b11, b12, b13, b14, b15, b16, b17, b18, b19, b20, b21, b22, b23, b24, b25, b26, b27, b28, b29, b30, b31]
theorem kv_v16 (b0 b1 b2 b3 b4 b5 b6 b7 b8 b9 b10 b11 b12 b13 b14 b15 b16 b17 b18 b19 b20 b21 b22 b23 b24 b25 b26 b27 b28 b29 b30 b31 : Int) (lo0 : 0 ≤ b0) (hi0 : b0 < 256) (lo1 : 0 ≤ b1) (hi1 : b1 < 256) (lo2 : 0 ≤ b2) (hi2 : b2 < 256) (lo3 : 0 ≤ b3) (hi3 : b3 < 256) (lo4 : 0 ≤ b4) (hi4 : b4 < 256) (lo5 : 0 ≤ b5) (hi5 : b5 < 256) (lo6 : 0 ≤ b6) (hi6 : b6 < 256) (lo7 : 0 ≤ b7) (hi7 : b7 < 256) (lo8 : 0 ≤ b8) (hi8 : b8 < 256) (lo9 : 0 ≤ b9) (hi9 : b9 < 256) (lo10 : 0 ≤ b10) (hi10 : b10 < 256) (lo11 : 0 ≤ b11) (hi11 : b11 < 256) (lo12 : 0 ≤ b12) (hi12 : b12 < 256) (lo13 : 0 ≤ b13) (hi13 : b13 < 256) (lo14 : 0 ≤ b14) (hi14 : b14 < 256) (lo15 : 0 ≤ b15) (hi15 : b15 < 256) (lo16 : 0 ≤ b16) (hi16 : b16 < 256) (lo17 : 0 ≤ b17) (hi17 : b17 < 256) (lo18 : 0 ≤ b18) (hi18 : b18 < 256) (lo19 : 0 ≤ b19) (hi19 : b19 < 256) (lo20 : 0 ≤ b20) (hi20 : b20 < 256) (lo21 : 0 ≤ b21) (hi21 : b21 < 256) (lo22 : 0 ≤ b22) (hi22 : b22 < 256) (lo23 : 0 ≤ b23) (hi23 : b23 < 256) (lo24 : 0 ≤ b24) (hi24 : b24 < 256) (lo25 : 0 ≤ b25) (hi25 : b25 < 256) (lo26 : 0 ≤ b26) (hi26 : b26 < 256) (lo27 : 0 ≤ b27) (hi27 : b27 < 256) (lo28 : 0 ≤ b28) (hi28 : b28 < 256) (lo29 : 0 ≤ b29) (hi29 : b29 < 256) :
    v16 (b0 + 256 * b1) (b2 + 256 * b3) (b4 + 256 * b5) (b6 + 256 * b7) (b8 + 256 * b9) (b10 + 256 * b11) (b12 + 256 * b13) (b14 + 256 * b15) (b16 + 256 * b17) (b18 + 256 * b19) (b20 + 256 * b21) (b22 + 256 * b23) (b24 + 256 * b25) (b26 + 256 * b27) (b28 + 256 * b29) ((b30 + 256 * b31) % 32768) = kv b0 b1 b2 b3 b4 b5 b6 b7 b8 b9 b10 b11 b12 b13 b14 b15 b16 b17 b18 b19 b20 b21 b22 b23 b24 b25 b26 b27 b28 b29 b30 b31 % 57896044618658097711785492504343953926634992332820282019728792003956564819968 := by
  have h : kv b0 b1 b2 b3 b4 b5 b6 b7 b8 b9 b10 b11 b12 b13 b14 b15 b16 b17 b18 b19 b20 b21 b22 b23 b24 b25 b26 b27 b28 b29 b30 b31 = v16 (b0 + 256 * b1) (b2 + 256 * b3) (b4 + 256 * b5) (b6 + 256 * b7) (b8 + 256 * b9) (b10 + 256 * b11) (b12 + 256 * b13) (b14 + 256 * b15) (b16 + 256 * b17) (b18 + 256 * b19) (b20 + 256 * b21) (b22 + 256 * b23) (b24 + 256 * b25) (b26 + 256 * b27) (b28 + 256 * b29) ((b30 + 256 * b31) % 32768) + 57896044618658097711785492504343953926634992332820282019728792003956564819968 * ((b30 + 256 * b31) / 32768) := by simp only [kv, v16, valL, valB]; omega
  have h0 : 0 ≤ v16 (b0 + 256 * b1) (b2 + 256 * b3) (b4 + 256 * b5) (b6 + 256 * b7) (b8 + 256 * b9) (b10 + 256 * b11) (b12 + 256 * b13) (b14 + 256 * b15) (b16 + 256 * b17) (b18 + 256 * b19) (b20 + 256 * b21) (b22 + 256 * b23) (b24 + 256 * b25) (b26 + 256 * b27) (b28 + 256 * b29) ((b30 + 256 * b31) % 32768) ∧ v16 (b0 + 256 * b1) (b2 + 256 * b3) (b4 + 256 * b5) (b6 + 256 * b7) (b8 + 256 * b9) (b10 + 256 * b11) (b12 + 256 * b13) (b14 + 256 * b15) (b16 + 256 * b17) (b18 + 256 * b19) (b20 + 256 * b21) (b22 + 256 * b23) (b24 + 256 * b25) (b26 + 256 * b27) (b28 + 256 * b29) ((b30 + 256 * b31) % 32768) < 57896044618658097711785492504343953926634992332820282019728792003956564819968 := by simp only [v16, valL]; omega
  rw [h]
  generalize v16 (b0 + 256 * b1) (b2 + 256 * b3) (b4 + 256 * b5) (b6 + 256 * b7) (b8 + 256 * b9) (b10 + 256 * b11) (b12 + 256 * b13) (b14 + 256 * b15) (b16 + 256 * b17) (b18 + 256 * b19) (b20 + 256 * b21) (b22 + 256 * b23) (b24 + 256 * b25) (b26 + 256 * b27) (b28 + 256 * b29) ((b30 + 256 * b31) % 32768) = X at *
  omega
end Go.Proofs.Ytkogejglfgghmac
