import Derived.Below
namespace Go.Proofs.Ytkogejglfgghmac
open Go.RowKit

/-! Plain numbers. Nothing of the program stands here. -/

/-- The digit of n at place i, to the base 2^16. -/
def dg (n : Int) (i : Nat) : Int := n / 65536 ^ i % 65536
theorem dg_bd (n : Int) (i : Nat) : 0 ≤ dg n i ∧ dg n i < 65536 := by unfold dg; omega
def valL : List Int → Int
  | [] => 0
  | d :: ds => d + 65536 * valL ds
theorem dg_zero (d v : Int) (h0 : 0 ≤ d) (h1 : d < 65536) : dg (d + 65536 * v) 0 = d := by unfold dg; simp; omega
theorem dg_succ (d v : Int) (i : Nat) (h0 : 0 ≤ d) (h1 : d < 65536) : dg (d + 65536 * v) (i + 1) = dg v i := by
  unfold dg
  have e : (65536 : Int) ^ (i + 1) = 65536 * 65536 ^ i := by rw [Int.pow_succ, Int.mul_comm]
  rw [e, ← Int.ediv_ediv_of_nonneg (by omega)]
  have : (d + 65536 * v) / 65536 = v := by omega
  rw [this]
/-- Digits are what they are. -/
theorem dg_valL : ∀ (ds : List Int) (_ : ∀ d ∈ ds, 0 ≤ d ∧ d < 65536) (i : Nat) (h : i < ds.length), dg (valL ds) i = ds[i]
  | d :: ds, hd, 0, _ => by
    have := hd d (by simp)
    simpa [valL] using dg_zero d (valL ds) this.1 this.2
  | d :: ds, hd, i + 1, h => by
    have := hd d (by simp)
    have h2 := dg_valL ds (fun x hx => hd x (by simp [hx])) i (by simpa using h)
    simp only [valL]
    rw [dg_succ d (valL ds) i this.1 this.2, h2]
    simp
theorem valL_lt : ∀ (ds : List Int) (_ : ∀ d ∈ ds, 0 ≤ d ∧ d < 65536), 0 ≤ valL ds ∧ valL ds < 65536 ^ ds.length
  | [], _ => by simp [valL]
  | d :: ds, hd => by
    have h1 := hd d (by simp)
    have h2 := valL_lt ds (fun x hx => hd x (by simp [hx]))
    simp only [valL, List.length_cons]
    have e : (65536 : Int) ^ (ds.length + 1) = 65536 * 65536 ^ ds.length := by rw [Int.pow_succ, Int.mul_comm]
    rw [e]
    omega

/-- The prime of the field. -/
def prm : Int := 57896044618658097711785492504343953926634992332820282019728792003956564819949
def geP (n : Int) : Bool := decide (57896044618658097711785492504343953926634992332820282019728792003956564819949 ≤ n)

/-- Sixteen digits as one number. -/
def v16 (d0 d1 d2 d3 d4 d5 d6 d7 d8 d9 d10 d11 d12 d13 d14 d15 : Int) : Int := valL [d0, d1, d2, d3, d4, d5, d6, d7, d8, d9, d10, d11, d12, d13, d14, d15]

end Go.Proofs.Ytkogejglfgghmac
