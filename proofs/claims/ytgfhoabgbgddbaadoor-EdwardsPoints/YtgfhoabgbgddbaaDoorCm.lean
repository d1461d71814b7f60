import Derived.Test.YtgfhoabgbgddbaaDoorMa
namespace Go.Proofs.YtgfhoabgbgddbaaDoor
set_option maxRecDepth 100000

/-- The ladder's four numbers. -/
structure Rg where
  a : Int
  b : Int
  c : Int
  d : Int
def stp (x : Int) (s : Rg) : Rg :=
  let e := (s.a + s.b) % prm
  let f := (s.a - s.b) % prm
  let g := (s.c + s.d) % prm
  let h := (s.c - s.d) % prm
  let y := e * e % prm
  let z := f * f % prm
  let r := (y - z) % prm
  let m := h * e % prm
  let n := g * f % prm
  ⟨y * z % prm, r * ((y + 121665 * r % prm) % prm) % prm, ((m + n) % prm) * ((m + n) % prm) % prm, x * (((m - n) % prm) * ((m - n) % prm) % prm) % prm⟩
def trn (on : Bool) (s : Rg) : Rg := if on then ⟨s.c, s.d, s.a, s.b⟩ else s
def rnd (x : Int) (on : Bool) (s : Rg) : Rg := trn on (stp x (trn on s))
def bt (S : Int) (t : Nat) : Bool := decide (S / 2 ^ t % 2 = 1)
def lad (S x : Int) : Nat → Rg
  | 0 => ⟨1, 0, x, 1⟩
  | i + 1 => rnd x (bt S (254 - i)) (lad S x i)
/-- A clamped key's number. -/
def clp (N : Int) : Int := N / 8 * 8 % 28948022309329048855892746252171976963317496166410141009864396001978282409984 + 28948022309329048855892746252171976963317496166410141009864396001978282409984
/-- The number that 32 bytes say. -/
def num (U : Int) : Int := U % 57896044618658097711785492504343953926634992332820282019728792003956564819968 % prm
/-- What the ladder gives. -/
def scn (S x : Int) : Int := (lad S x 255).a * ((lad S x 255).b ^ 57896044618658097711785492504343953926634992332820282019728792003956564819947 % prm) % prm
def scl (K U : Int) : Int := scn (clp K) (num U)
theorem clp_bd (N : Int) : 0 ≤ clp N ∧ clp N < 57896044618658097711785492504343953926634992332820282019728792003956564819968 := by unfold clp; omega
theorem scn_bd (S x : Int) : 0 ≤ scn S x ∧ scn S x < prm := ⟨Int.emod_nonneg _ (by decide), Int.emod_lt_of_pos _ (by decide)⟩
theorem bt_byt (S : Int) (t : Nat) : bt S t = decide (byt S (t / 8) / 2 ^ (t % 8) % 2 = 1) := by
  unfold bt byt
  have e : S / 2 ^ t % 2 = S / 256 ^ (t / 8) % 256 / 2 ^ (t % 8) % 2 := by
    have h1 : (2 : Int) ^ t = 256 ^ (t / 8) * 2 ^ (t % 8) := by
      have : (256 : Int) = 2 ^ 8 := by decide
      rw [this, ← Int.pow_mul, ← Int.pow_add]
      congr 1
      omega
    rw [h1, ← Int.ediv_ediv_of_nonneg (Int.le_of_lt (Int.pow_pos (by decide)))]
    generalize S / 256 ^ (t / 8) = q
    have h8 : t % 8 < 8 := Nat.mod_lt _ (by decide)
    generalize t % 8 = j at h8
    match j, h8 with
    | 0, _ => simp
    | 1, _ => simp; omega
    | 2, _ => simp; omega
    | 3, _ => simp; omega
    | 4, _ => simp; omega
    | 5, _ => simp; omega
    | 6, _ => simp; omega
    | 7, _ => simp; omega
  rw [e]
end Go.Proofs.YtgfhoabgbgddbaaDoor
