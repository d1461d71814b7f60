import Derived.Test.YtgfeacnhdlgpoaaDoorProg
namespace Go.Proofs.YtgfeacnhdlgpoaaDoor
set_option maxRecDepth 100000
/-- The greatest power of two below n. -/
def ctN (n : Nat) : Nat := 2 ^ Nat.log2 (n - 1)
theorem ct_pos (n : Nat) : 1 ≤ ctN n := Nat.one_le_two_pow
theorem ct_lt {n : Nat} (h : ¬ n < 2) : ctN n < n := by
  have := Nat.log2_self_le (n := n - 1) (by omega)
  unfold ctN; omega
theorem ct_ge {n : Nat} (_h : ¬ n < 2) : n ≤ 2 * ctN n := by
  have := @Nat.lt_log2_self (n - 1)
  rw [Nat.pow_succ] at this
  unfold ctN; omega
theorem pow_uniq {a b n : Nat} (h1 : 2 ^ a < n) (h2 : n ≤ 2 * 2 ^ a) (h3 : 2 ^ b < n) (h4 : n ≤ 2 * 2 ^ b) : a = b := by
  rcases Nat.lt_trichotomy a b with h | h | h
  · have := Nat.pow_le_pow_right (n := 2) (by omega) (show a + 1 ≤ b from h)
    rw [Nat.pow_succ] at this; omega
  · exact h
  · have := Nat.pow_le_pow_right (n := 2) (by omega) (show b + 1 ≤ a from h)
    rw [Nat.pow_succ] at this; omega
theorem ct_of {n d : Nat} (h1 : 2 ^ d < n) (h2 : n ≤ 2 * 2 ^ d) : ctN n = 2 ^ d := by
  have p := Nat.one_le_two_pow (n := d)
  have hn : ¬ n < 2 := by omega
  have e := pow_uniq (ct_lt hn) (ct_ge hn) h1 h2
  show 2 ^ _ = 2 ^ d
  rw [e]
theorem ct_same {n m : Nat} (h : ¬ n < 2) (h1 : ctN n < m) (h2 : m ≤ n) : ctN m = ctN n := ct_of h1 (Nat.le_trans h2 (ct_ge h))
theorem ct_half {n d : Nat} (h : ¬ n < 2) (h1 : n ≤ 2 ^ (d + 1)) : ctN n ≤ 2 ^ d := by
  have a : 2 ^ Nat.log2 (n - 1) < 2 ^ (d + 1) := Nat.lt_of_lt_of_le (ct_lt h) h1
  have b := (Nat.pow_lt_pow_iff_right (a := 2) (by omega)).1 a
  exact Nat.pow_le_pow_right (by omega) (by omega)
section
variable (H : List Int → List Int)
/-- Of two hashes. -/
def nd (a b : List Int) : List Int := H (1 :: (a ++ b))
/-- The root of leaves. -/
def rt (l : List (List Int)) : List Int :=
  if _h : l.length < 2 then (match l with | [] => H [] | x :: _ => x)
  else nd H (rt (l.take (ctN l.length))) (rt (l.drop (ctN l.length)))
termination_by l.length
decreasing_by
  · have := ct_lt _h; rw [List.length_take]; omega
  · have := ct_pos l.length; rw [List.length_drop]; omega
theorem rt_nil : rt H [] = H [] := by rw [rt]; rfl
theorem rt_one {l : List (List Int)} (h : l.length = 1) : rt H l = l.getD 0 [] := by
  match l, h with
  | [x], _ => rw [rt]; rfl
theorem rt_two {l : List (List Int)} (h : ¬ l.length < 2) : rt H l = nd H (rt H (l.take (ctN l.length))) (rt H (l.drop (ctN l.length))) := by
  rw [rt]; simp only [h, dite_false]
/-- The path of a place. -/
def pth (l : List (List Int)) (i : Nat) : List (List Int) :=
  if _h : l.length < 2 then [] else
  if i < ctN l.length then pth (l.take (ctN l.length)) i ++ [rt H (l.drop (ctN l.length))]
  else pth (l.drop (ctN l.length)) (i - ctN l.length) ++ [rt H (l.take (ctN l.length))]
termination_by l.length
decreasing_by
  · have := ct_lt _h; rw [List.length_take]; omega
  · have := ct_pos l.length; rw [List.length_drop]; omega
theorem pth_one {l : List (List Int)} (h : l.length < 2) (i : Nat) : pth H l i = [] := by rw [pth]; simp only [h, dite_true]
theorem pth_lo {l : List (List Int)} (h : ¬ l.length < 2) {i : Nat} (hi : i < ctN l.length) : pth H l i = pth H (l.take (ctN l.length)) i ++ [rt H (l.drop (ctN l.length))] := by
  rw [pth]; simp only [h, dite_false, hi, if_true]
theorem pth_hi {l : List (List Int)} (h : ¬ l.length < 2) {i : Nat} (hi : ¬ i < ctN l.length) : pth H l i = pth H (l.drop (ctN l.length)) (i - ctN l.length) ++ [rt H (l.take (ctN l.length))] := by
  rw [pth]; simp only [h, dite_false, hi, if_false]
/-- The growth from m on. -/
def gro (l : List (List Int)) (m : Nat) (wh : Bool) : List (List Int) :=
  if _h : l.length ≤ m ∨ l.length < 2 then (if wh = true then [] else [rt H l]) else
  if m ≤ ctN l.length then gro (l.take (ctN l.length)) m wh ++ [rt H (l.drop (ctN l.length))]
  else gro (l.drop (ctN l.length)) (m - ctN l.length) false ++ [rt H (l.take (ctN l.length))]
termination_by l.length
decreasing_by
  · have := ct_lt (n := l.length) (by omega); rw [List.length_take]; omega
  · have := ct_pos l.length; rw [List.length_drop]; omega
theorem gro_end {l : List (List Int)} {m : Nat} (h : l.length ≤ m) (wh : Bool) : gro H l m wh = if wh = true then [] else [rt H l] := by
  rw [gro]; simp only [h, true_or, dite_true]
theorem gro_lo {l : List (List Int)} {m : Nat} (h1 : 1 ≤ m) (h : m < l.length) {wh : Bool} (hi : m ≤ ctN l.length) : gro H l m wh = gro H (l.take (ctN l.length)) m wh ++ [rt H (l.drop (ctN l.length))] := by
  have e : ¬ (l.length ≤ m ∨ l.length < 2) := by omega
  rw [gro]; simp only [e, dite_false, hi, if_true]
theorem gro_hi {l : List (List Int)} {m : Nat} (h1 : 1 ≤ m) (h : m < l.length) {wh : Bool} (hi : ¬ m ≤ ctN l.length) : gro H l m wh = gro H (l.drop (ctN l.length)) (m - ctN l.length) false ++ [rt H (l.take (ctN l.length))] := by
  have e : ¬ (l.length ≤ m ∨ l.length < 2) := by omega
  rw [gro]; simp only [e, dite_false, hi, if_false]
/-- What a path makes of a leaf, and whether it fits. -/
def alo (n i : Nat) (x : List Int) (p : List (List Int)) : List Int × Bool :=
  if _h : n < 2 then (x, decide (p.length = 0)) else
  if p.length = 0 then (List.replicate 32 0, false) else
  if i < ctN n then (nd H (alo (ctN n) i x p.dropLast).1 (p.getLastD []), (alo (ctN n) i x p.dropLast).2)
  else (nd H (p.getLastD []) (alo (n - ctN n) (i - ctN n) x p.dropLast).1, (alo (n - ctN n) (i - ctN n) x p.dropLast).2)
termination_by n
decreasing_by
  all_goals first | exact ct_lt _h | (have := ct_pos n; omega)
theorem alo_one {n : Nat} (h : n < 2) (i : Nat) (x : List Int) (p : List (List Int)) : alo H n i x p = (x, decide (p.length = 0)) := by rw [alo]; simp only [h, dite_true]
theorem alo_nil {n : Nat} (h : ¬ n < 2) (i : Nat) (x : List Int) {p : List (List Int)} (hp : p.length = 0) : alo H n i x p = (List.replicate 32 0, false) := by rw [alo]; simp only [h, dite_false, hp, if_true]
theorem alo_lo {n : Nat} (h : ¬ n < 2) {i : Nat} (hi : i < ctN n) (x : List Int) {p : List (List Int)} (hp : ¬ p.length = 0) : alo H n i x p = (nd H (alo H (ctN n) i x p.dropLast).1 (p.getLastD []), (alo H (ctN n) i x p.dropLast).2) := by
  rw [alo]; simp only [h, dite_false, hp, if_false, hi, if_true]
theorem alo_hi {n : Nat} (h : ¬ n < 2) {i : Nat} (hi : ¬ i < ctN n) (x : List Int) {p : List (List Int)} (hp : ¬ p.length = 0) : alo H n i x p = (nd H (p.getLastD []) (alo H (n - ctN n) (i - ctN n) x p.dropLast).1, (alo H (n - ctN n) (i - ctN n) x p.dropLast).2) := by
  rw [alo]; simp only [h, dite_false, hp, if_false, hi]
/-- What a growth makes: the old root, the new one, whether it fits. -/
def bth (m n : Nat) (wh : Bool) (x : List Int) (p : List (List Int)) : List Int × List Int × Bool :=
  if _h : n ≤ m ∨ n < 2 then
    (if wh = true then (x, x, decide (p.length = 0)) else if p.length = 0 then (List.replicate 32 0, List.replicate 32 0, false) else (p.getLastD [], p.getLastD [], decide (p.length = 1)))
  else if p.length = 0 then (List.replicate 32 0, List.replicate 32 0, false) else
  if m ≤ ctN n then ((bth m (ctN n) wh x p.dropLast).1, nd H (bth m (ctN n) wh x p.dropLast).2.1 (p.getLastD []), (bth m (ctN n) wh x p.dropLast).2.2)
  else (nd H (p.getLastD []) (bth (m - ctN n) (n - ctN n) false x p.dropLast).1, nd H (p.getLastD []) (bth (m - ctN n) (n - ctN n) false x p.dropLast).2.1, (bth (m - ctN n) (n - ctN n) false x p.dropLast).2.2)
termination_by n
decreasing_by
  all_goals first | exact ct_lt (by omega) | (have := ct_pos n; omega)
theorem bth_end {m n : Nat} (h : n ≤ m) (wh : Bool) (x : List Int) (p : List (List Int)) : bth H m n wh x p = if wh = true then (x, x, decide (p.length = 0)) else if p.length = 0 then (List.replicate 32 0, List.replicate 32 0, false) else (p.getLastD [], p.getLastD [], decide (p.length = 1)) := by
  rw [bth]; simp only [h, true_or, dite_true]
theorem bth_nil {m n : Nat} (h1 : 1 ≤ m) (h : m < n) (wh : Bool) (x : List Int) {p : List (List Int)} (hp : p.length = 0) : bth H m n wh x p = (List.replicate 32 0, List.replicate 32 0, false) := by
  have e : ¬ (n ≤ m ∨ n < 2) := by omega
  rw [bth]; simp only [e, dite_false, hp, if_true]
theorem bth_lo {m n : Nat} (h1 : 1 ≤ m) (h : m < n) (hi : m ≤ ctN n) (wh : Bool) (x : List Int) {p : List (List Int)} (hp : ¬ p.length = 0) : bth H m n wh x p = ((bth H m (ctN n) wh x p.dropLast).1, nd H (bth H m (ctN n) wh x p.dropLast).2.1 (p.getLastD []), (bth H m (ctN n) wh x p.dropLast).2.2) := by
  have e : ¬ (n ≤ m ∨ n < 2) := by omega
  rw [bth]; simp only [e, dite_false, hp, if_false, hi, if_true]
theorem bth_hi {m n : Nat} (h1 : 1 ≤ m) (h : m < n) (hi : ¬ m ≤ ctN n) (wh : Bool) (x : List Int) {p : List (List Int)} (hp : ¬ p.length = 0) : bth H m n wh x p = (nd H (p.getLastD []) (bth H (m - ctN n) (n - ctN n) false x p.dropLast).1, nd H (p.getLastD []) (bth H (m - ctN n) (n - ctN n) false x p.dropLast).2.1, (bth H (m - ctN n) (n - ctN n) false x p.dropLast).2.2) := by
  have e : ¬ (n ≤ m ∨ n < 2) := by omega
  rw [bth]; simp only [e, dite_false, hp, if_false, hi]
end
/-- How many keys a path has. -/
def lng (n i : Nat) : Nat :=
  if _h : n < 2 then 0 else if i < ctN n then 1 + lng (ctN n) i else 1 + lng (n - ctN n) (i - ctN n)
termination_by n
decreasing_by
  all_goals first | exact ct_lt _h | (have := ct_pos n; omega)
theorem lng_one {n : Nat} (h : n < 2) (i : Nat) : lng n i = 0 := by rw [lng]; simp only [h, dite_true]
theorem lng_lo {n : Nat} (h : ¬ n < 2) {i : Nat} (hi : i < ctN n) : lng n i = 1 + lng (ctN n) i := by rw [lng]; simp only [h, dite_false, hi, if_true]
theorem lng_hi {n : Nat} (h : ¬ n < 2) {i : Nat} (hi : ¬ i < ctN n) : lng n i = 1 + lng (n - ctN n) (i - ctN n) := by rw [lng]; simp only [h, dite_false, hi, if_false]
/-- How many keys a growth has. -/
def kys (n m : Nat) (wh : Bool) : Nat :=
  if _h : n ≤ m ∨ n < 2 then (if wh = true then 0 else 1) else if m ≤ ctN n then 1 + kys (ctN n) m wh else 1 + kys (n - ctN n) (m - ctN n) false
termination_by n
decreasing_by
  all_goals first | exact ct_lt (by omega) | (have := ct_pos n; omega)
theorem kys_end {n m : Nat} (h : n ≤ m) (wh : Bool) : kys n m wh = if wh = true then 0 else 1 := by rw [kys]; simp only [h, true_or, dite_true]
theorem kys_lo {n m : Nat} (h1 : 1 ≤ m) (h : m < n) (hi : m ≤ ctN n) (wh : Bool) : kys n m wh = 1 + kys (ctN n) m wh := by
  have e : ¬ (n ≤ m ∨ n < 2) := by omega
  rw [kys]; simp only [e, dite_false, hi, if_true]
theorem kys_hi {n m : Nat} (h1 : 1 ≤ m) (h : m < n) (hi : ¬ m ≤ ctN n) (wh : Bool) : kys n m wh = 1 + kys (n - ctN n) (m - ctN n) false := by
  have e : ¬ (n ≤ m ∨ n < 2) := by omega
  rw [kys]; simp only [e, dite_false, hi, if_false]
/-! Lengths. -/
theorem pth_len (H : List Int → List Int) : ∀ (n : Nat) (l : List (List Int)) (i : Nat), l.length = n → (pth H l i).length = lng n i := by
  intro n
  induction n using Nat.strongRecOn with
  | ind n ih =>
    rintro l i rfl
    by_cases h : l.length < 2
    · rw [pth_one H h, lng_one h]; rfl
    · have a := ct_lt h
      have b := ct_pos l.length
      by_cases hi : i < ctN l.length
      · rw [pth_lo H h hi, lng_lo h hi, List.length_append, ih _ a _ _ (by rw [List.length_take]; omega)]; simp; omega
      · rw [pth_hi H h hi, lng_hi h hi, List.length_append, ih (l.length - ctN l.length) (by omega) _ _ (by rw [List.length_drop])]; simp; omega
theorem gro_len (H : List Int → List Int) : ∀ (n : Nat) (l : List (List Int)) (m : Nat) (wh : Bool), l.length = n → 1 ≤ m → (gro H l m wh).length = kys n m wh := by
  intro n
  induction n using Nat.strongRecOn with
  | ind n ih =>
    rintro l m wh rfl hm
    by_cases h : l.length ≤ m
    · rw [gro_end H h, kys_end h]; cases wh <;> rfl
    · have a := ct_lt (n := l.length) (by omega)
      have b := ct_pos l.length
      by_cases hi : m ≤ ctN l.length
      · rw [gro_lo H hm (by omega) hi, kys_lo hm (by omega) hi, List.length_append, ih _ a _ _ _ (by rw [List.length_take]; omega) hm]; simp; omega
      · rw [gro_hi H hm (by omega) hi, kys_hi hm (by omega) hi, List.length_append, ih (l.length - ctN l.length) (by omega) _ _ _ (by rw [List.length_drop]) (by omega)]; simp; omega
theorem lng_le : ∀ (d n i : Nat), n ≤ 2 ^ d → lng n i ≤ d
  | 0, n, i, h => by rw [lng_one (by simpa using Nat.lt_of_le_of_lt h (by decide))]; omega
  | d + 1, n, i, h => by
    by_cases h2 : n < 2
    · rw [lng_one h2]; omega
    · have a := ct_half h2 h
      have b := ct_ge h2
      by_cases hi : i < ctN n
      · have := lng_le d _ i a; rw [lng_lo h2 hi]; omega
      · have := lng_le d (n - ctN n) (i - ctN n) (by omega); rw [lng_hi h2 hi]; omega
theorem kys_le : ∀ (d n m : Nat) (wh : Bool), n ≤ 2 ^ d → 1 ≤ m → kys n m wh ≤ d + 1
  | 0, n, m, wh, h, hm => by rw [kys_end (by simp at h; omega)]; cases wh <;> simp
  | d + 1, n, m, wh, h, hm => by
    by_cases h2 : n ≤ m
    · rw [kys_end h2]; cases wh <;> simp
    · have a := ct_half (n := n) (by omega) h
      have b := ct_ge (n := n) (by omega)
      by_cases hi : m ≤ ctN n
      · have := kys_le d _ m wh a hm; rw [kys_lo hm (by omega) hi]; omega
      · have := kys_le d (n - ctN n) (m - ctN n) false (by omega) (by omega); rw [kys_hi hm (by omega) hi]; omega
end Go.Proofs.YtgfeacnhdlgpoaaDoor
