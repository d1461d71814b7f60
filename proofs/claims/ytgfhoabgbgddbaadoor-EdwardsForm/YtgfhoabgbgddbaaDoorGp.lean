import Derived.Test.YtgfhoabgbgddbaaDoorProg
import Derived.WalkKit
import Derived.WalkSpells
import Derived.WalkLawsBesides
import Derived.Lib.QuietBelow
import Derived.BigQuiet
import Derived.Test.YtgfhoabgbgddbaaDoorKa
import Derived.Test.YtgfhoabgbgddbaaDoorGi
import Derived.Test.YtgfhoabgbgddbaaDoorGs
namespace Go.Proofs.YtgfhoabgbgddbaaDoor
set_option maxRecDepth 100000
open Go.RowKit Go.Sort
attribute [local go_sem] setCell_drewN alloc_drewN


/-- What a slice of bytes says in a world. -/
def Bys (W : World) (v : Value) (bs : List Int) : Prop := ∃ ao cap, v = .slice ao bs.length cap ∧ bs.length ≤ 9223372036854775807 ∧ (∀ j, j < bs.length → ∃ b off, ao = some ⟨b, off, none⟩ ∧ b < W.heap.size ∧ W.cell? ⟨b, off + j, none⟩ = some (.int .u8 (bs.getD j 0))) ∧ (∀ z ∈ bs, 0 ≤ z ∧ z < 256)
theorem Bys.keep {W W' : World} {v : Value} {bs : List Int} (h : Bys W v bs) (hb : Below W.heap.size W W') : Bys W' v bs := by
  obtain ⟨ao, cap, e, hl, hc, hz⟩ := h
  refine ⟨ao, cap, e, hl, fun j hj => ?_, hz⟩
  obtain ⟨b, off, e1, h1, h2⟩ := hc j hj
  exact ⟨b, off, e1, Nat.lt_of_lt_of_le h1 hb.size, (hb.cell h1).trans h2⟩
/-- The number that bytes say, the lowest first. -/
def bval : List Int → Nat
  | [] => 0
  | z :: l => z.toNat + 256 * bval l
/-- The byte that comes up at round k, from the highest down. -/
def bat (bs : List Int) (k : Nat) : Int := bs.getD (bs.length - 1 - k) 0
theorem bat_bd {bs : List Int} (h : ∀ z ∈ bs, 0 ≤ z ∧ z < 256) {k : Nat} (hk : k < bs.length) : 0 ≤ bat bs k ∧ bat bs k < 256 := by
  apply h
  have : bs.length - 1 - k < bs.length := by omega
  unfold bat
  rw [List.getD_eq_getElem?_getD, List.getElem?_eq_getElem this]
  exact List.getElem_mem _
/-- The number of the k highest bytes. -/
def topv (bs : List Int) (k : Nat) : Nat := bval (bs.drop (bs.length - k))
theorem topv_zero (bs : List Int) : topv bs 0 = 0 := by simp [topv, bval]
theorem topv_succ {bs : List Int} {k : Nat} (hk : k < bs.length) : topv bs (k + 1) = topv bs k * 256 + (bat bs k).toNat := by
  have h1 : bs.length - (k + 1) < bs.length := by omega
  unfold topv bat
  rw [List.drop_eq_getElem_cons h1, bval, show bs.length - (k + 1) + 1 = bs.length - k by omega, show bs.length - 1 - k = bs.length - (k + 1) by omega, List.getD_eq_getElem?_getD, List.getElem?_eq_getElem h1]
  simp only [Option.getD_some]
  omega
theorem topv_all (bs : List Int) : topv bs bs.length = bval bs := by simp [topv]

/-- What Mul answers, whatever the cells. -/
noncomputable def nextMul (r s : Array Value) : Array Value := open Classical in if h : (∃ x, NumOf r x) ∧ ∃ y, NumOf s y then Classical.choose (a_mul (Classical.choose_spec h.1) (Classical.choose_spec h.2)) else r
theorem nextMul_spec {r s : Array Value} {x y : Int} (h : NumOf r x) (g : NumOf s y) : NumOf (nextMul r s) (x * y) ∧ Gives 49 #[.agg r, .agg s] (.agg (nextMul r s)) := by
  have hx : (∃ x, NumOf r x) ∧ ∃ y, NumOf s y := ⟨⟨x, h⟩, ⟨y, g⟩⟩
  have e : nextMul r s = Classical.choose (a_mul (Classical.choose_spec hx.1) (Classical.choose_spec hx.2)) := by unfold nextMul; exact dif_pos hx
  have sp := Classical.choose_spec (a_mul (Classical.choose_spec hx.1) (Classical.choose_spec hx.2))
  rw [← e] at sp
  refine ⟨sp.1.congr ?_, sp.2⟩
  have i := num_inj (Classical.choose_spec hx.1) h
  have j := num_inj (Classical.choose_spec hx.2) g
  rw [Int.mul_emod, i, j, ← Int.mul_emod]
/-- Behind j bits of the byte z. -/
noncomputable def bitsP (a s : Array Value) (z : Nat) : Nat → Array Value
  | 0 => s
  | j + 1 => if z / 2 ^ (7 - j) % 2 = 1 then nextMul (nextSq (bitsP a s z j)) a else nextSq (bitsP a s z j)
theorem bitsP_spec {a s : Array Value} {x : Int} {e z : Nat} (h : NumOf a x) (g : NumOf s (x ^ e)) (hz : z < 256) : ∀ j, j ≤ 8 → NumOf (bitsP a s z j) (x ^ (e * 2 ^ j + z / 2 ^ (8 - j)))
  | 0, _ => by
    rw [show z / 2 ^ (8 - 0) = 0 by omega, Nat.pow_zero, Nat.mul_one, Nat.add_zero]; exact g
  | j + 1, hj => by
    have ih := bitsP_spec h g hz j (by omega)
    have sq := (nextSq_spec ih).1
    rw [← Int.pow_add] at sq
    have hd : z / 2 ^ (8 - j) = z / 2 ^ (7 - j) / 2 := by
      rw [Nat.div_div_eq_div_mul, ← Nat.pow_succ, show (7 - j).succ = 8 - j by omega]
    have h2 : 2 ^ (j + 1) = 2 * 2 ^ j := by rw [Nat.pow_succ, Nat.mul_comm]
    have h3 : e * 2 ^ (j + 1) = e * 2 ^ j + e * 2 ^ j := by rw [h2, Nat.mul_left_comm]; omega
    unfold bitsP
    rw [show 8 - (j + 1) = 7 - j by omega, h3]
    split
    · have m := (nextMul_spec sq h).1
      rw [← Int.pow_succ] at m
      rw [show e * 2 ^ j + e * 2 ^ j + z / 2 ^ (7 - j) = e * 2 ^ j + z / 2 ^ (8 - j) + (e * 2 ^ j + z / 2 ^ (8 - j)) + 1 by omega]
      exact m
    · rw [show e * 2 ^ j + e * 2 ^ j + z / 2 ^ (7 - j) = e * 2 ^ j + z / 2 ^ (8 - j) + (e * 2 ^ j + z / 2 ^ (8 - j)) by omega]
      exact sq
/-- Behind k bytes, from the highest down; o: what stands for 1. -/
noncomputable def bytesP (a o : Array Value) (bs : List Int) : Nat → Array Value
  | 0 => o
  | k + 1 => bitsP a (bytesP a o bs k) (bat bs k).toNat 8
theorem bytesP_spec {a o : Array Value} {x : Int} {bs : List Int} (h : NumOf a x) (g : NumOf o 1) (hz : ∀ z ∈ bs, 0 ≤ z ∧ z < 256) : ∀ k, k ≤ bs.length → NumOf (bytesP a o bs k) (x ^ topv bs k)
  | 0, _ => by rw [topv_zero, Int.pow_zero]; exact g
  | k + 1, hk => by
    have b := bat_bd hz (k := k) (by omega)
    have := bitsP_spec h (bytesP_spec h g hz k (by omega)) (z := (bat bs k).toNat) (by omega) 8 (by omega)
    rw [Nat.sub_self, Nat.pow_zero, Nat.div_one] at this
    rw [topv_succ (by omega)]
    exact this

end Go.Proofs.YtgfhoabgbgddbaaDoor

