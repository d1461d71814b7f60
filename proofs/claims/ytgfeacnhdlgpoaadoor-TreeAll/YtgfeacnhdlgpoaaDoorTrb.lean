import Derived.Test.YtgfeacnhdlgpoaaDoorTra
namespace Go.Proofs.YtgfeacnhdlgpoaaDoor
set_option maxRecDepth 100000
section
variable (H : List Int → List Int)
/-- What the document's path makes of a leaf. -/
def mde (n i : Nat) (x : List Int) (p : List (List Int)) : List Int :=
  if _h : n < 2 then x else
  if i < ctN n then nd H (mde (ctN n) i x p.dropLast) (p.getLastD []) else nd H (p.getLastD []) (mde (n - ctN n) (i - ctN n) x p.dropLast)
termination_by n
decreasing_by
  all_goals first | exact ct_lt _h | (have := ct_pos n; omega)
theorem mde_one {n : Nat} (h : n < 2) (i : Nat) (x : List Int) (p : List (List Int)) : mde H n i x p = x := by rw [mde]; simp only [h, dite_true]
theorem mde_lo {n : Nat} (h : ¬ n < 2) {i : Nat} (hi : i < ctN n) (x : List Int) (p : List (List Int)) : mde H n i x p = nd H (mde H (ctN n) i x p.dropLast) (p.getLastD []) := by
  rw [mde]; simp only [h, dite_false, hi, if_true]
theorem mde_hi {n : Nat} (h : ¬ n < 2) {i : Nat} (hi : ¬ i < ctN n) (x : List Int) (p : List (List Int)) : mde H n i x p = nd H (p.getLastD []) (mde H (n - ctN n) (i - ctN n) x p.dropLast) := by
  rw [mde]; simp only [h, dite_false, hi, if_false]
/-- The texts on that way. -/
def mtx (n i : Nat) (x : List Int) (p : List (List Int)) : List (List Int) :=
  if _h : n < 2 then [] else
  if i < ctN n then mtx (ctN n) i x p.dropLast ++ [1 :: (mde H (ctN n) i x p.dropLast ++ p.getLastD [])] else mtx (n - ctN n) (i - ctN n) x p.dropLast ++ [1 :: (p.getLastD [] ++ mde H (n - ctN n) (i - ctN n) x p.dropLast)]
termination_by n
decreasing_by
  all_goals first | exact ct_lt _h | (have := ct_pos n; omega)
theorem mtx_one {n : Nat} (h : n < 2) (i : Nat) (x : List Int) (p : List (List Int)) : mtx H n i x p = [] := by rw [mtx]; simp only [h, dite_true]
theorem mtx_lo {n : Nat} (h : ¬ n < 2) {i : Nat} (hi : i < ctN n) (x : List Int) (p : List (List Int)) : mtx H n i x p = mtx H (ctN n) i x p.dropLast ++ [1 :: (mde H (ctN n) i x p.dropLast ++ p.getLastD [])] := by
  rw [mtx]; simp only [h, dite_false, hi, if_true]
theorem mtx_hi {n : Nat} (h : ¬ n < 2) {i : Nat} (hi : ¬ i < ctN n) (x : List Int) (p : List (List Int)) : mtx H n i x p = mtx H (n - ctN n) (i - ctN n) x p.dropLast ++ [1 :: (p.getLastD [] ++ mde H (n - ctN n) (i - ctN n) x p.dropLast)] := by
  rw [mtx]; simp only [h, dite_false, hi, if_false]
/-- What the document's growth makes, old and new. -/
def bde (m n : Nat) (wh : Bool) (x : List Int) (p : List (List Int)) : List Int × List Int :=
  if _h : n ≤ m ∨ n < 2 then (if wh = true then (x, x) else (p.getD 0 [], p.getD 0 [])) else
  if m ≤ ctN n then ((bde m (ctN n) wh x p.dropLast).1, nd H (bde m (ctN n) wh x p.dropLast).2 (p.getLastD []))
  else (nd H (p.getLastD []) (bde (m - ctN n) (n - ctN n) false x p.dropLast).1, nd H (p.getLastD []) (bde (m - ctN n) (n - ctN n) false x p.dropLast).2)
termination_by n
decreasing_by
  all_goals first | exact ct_lt (by omega) | (have := ct_pos n; omega)
theorem bde_end {m n : Nat} (h : n ≤ m) (wh : Bool) (x : List Int) (p : List (List Int)) : bde H m n wh x p = if wh = true then (x, x) else (p.getD 0 [], p.getD 0 []) := by
  rw [bde]; simp only [h, true_or, dite_true]
theorem bde_lo {m n : Nat} (h1 : 1 ≤ m) (h : m < n) (hi : m ≤ ctN n) (wh : Bool) (x : List Int) (p : List (List Int)) : bde H m n wh x p = ((bde H m (ctN n) wh x p.dropLast).1, nd H (bde H m (ctN n) wh x p.dropLast).2 (p.getLastD [])) := by
  have e : ¬ (n ≤ m ∨ n < 2) := by omega
  rw [bde]; simp only [e, dite_false, hi, if_true]
theorem bde_hi {m n : Nat} (h1 : 1 ≤ m) (h : m < n) (hi : ¬ m ≤ ctN n) (wh : Bool) (x : List Int) (p : List (List Int)) : bde H m n wh x p = (nd H (p.getLastD []) (bde H (m - ctN n) (n - ctN n) false x p.dropLast).1, nd H (p.getLastD []) (bde H (m - ctN n) (n - ctN n) false x p.dropLast).2) := by
  have e : ¬ (n ≤ m ∨ n < 2) := by omega
  rw [bde]; simp only [e, dite_false, hi, if_false]
/-- The texts on that way: of the old root (o true), of the new one. -/
def btx (o : Bool) (m n : Nat) (wh : Bool) (x : List Int) (p : List (List Int)) : List (List Int) :=
  if _h : n ≤ m ∨ n < 2 then [] else
  if m ≤ ctN n then btx o m (ctN n) wh x p.dropLast ++ (if o = true then [] else [1 :: ((bde H m (ctN n) wh x p.dropLast).2 ++ p.getLastD [])])
  else btx o (m - ctN n) (n - ctN n) false x p.dropLast ++ [1 :: (p.getLastD [] ++ (if o = true then (bde H (m - ctN n) (n - ctN n) false x p.dropLast).1 else (bde H (m - ctN n) (n - ctN n) false x p.dropLast).2))]
termination_by n
decreasing_by
  all_goals first | exact ct_lt (by omega) | (have := ct_pos n; omega)
theorem btx_end {o : Bool} {m n : Nat} (h : n ≤ m) (wh : Bool) (x : List Int) (p : List (List Int)) : btx H o m n wh x p = [] := by
  rw [btx]; simp only [h, true_or, dite_true]
theorem btx_lo {o : Bool} {m n : Nat} (h1 : 1 ≤ m) (h : m < n) (hi : m ≤ ctN n) (wh : Bool) (x : List Int) (p : List (List Int)) : btx H o m n wh x p = btx H o m (ctN n) wh x p.dropLast ++ (if o = true then [] else [1 :: ((bde H m (ctN n) wh x p.dropLast).2 ++ p.getLastD [])]) := by
  have e : ¬ (n ≤ m ∨ n < 2) := by omega
  rw [btx]; simp only [e, dite_false, hi, if_true]
theorem btx_hi {o : Bool} {m n : Nat} (h1 : 1 ≤ m) (h : m < n) (hi : ¬ m ≤ ctN n) (wh : Bool) (x : List Int) (p : List (List Int)) : btx H o m n wh x p = btx H o (m - ctN n) (n - ctN n) false x p.dropLast ++ [1 :: (p.getLastD [] ++ (if o = true then (bde H (m - ctN n) (n - ctN n) false x p.dropLast).1 else (bde H (m - ctN n) (n - ctN n) false x p.dropLast).2))] := by
  have e : ¬ (n ≤ m ∨ n < 2) := by omega
  rw [btx]; simp only [e, dite_false, hi, if_false]
/-- The texts of all Nodes over leaves. -/
def txs (l : List (List Int)) : List (List Int) :=
  if _h : l.length < 2 then [] else txs (l.take (ctN l.length)) ++ txs (l.drop (ctN l.length)) ++ [1 :: (rt H (l.take (ctN l.length)) ++ rt H (l.drop (ctN l.length)))]
termination_by l.length
decreasing_by
  · have := ct_lt _h; rw [List.length_take]; omega
  · have := ct_pos l.length; rw [List.length_drop]; omega
theorem txs_one {l : List (List Int)} (h : l.length < 2) : txs H l = [] := by rw [txs]; simp only [h, dite_true]
theorem txs_two {l : List (List Int)} (h : ¬ l.length < 2) : txs H l = txs H (l.take (ctN l.length)) ++ txs H (l.drop (ctN l.length)) ++ [1 :: (rt H (l.take (ctN l.length)) ++ rt H (l.drop (ctN l.length)))] := by
  rw [txs]; simp only [h, dite_false]
/-- Two unlike texts of a list have one hash. -/
def Clh (L : List (List Int)) : Prop := ∃ a b, a ∈ L ∧ b ∈ L ∧ H a = H b ∧ a ≠ b
theorem Clh.mono {H : List Int → List Int} {L M : List (List Int)} (h : Clh H L) (hs : ∀ a ∈ L, a ∈ M) : Clh H M := by
  obtain ⟨a, b, ha, hb, e, n⟩ := h
  exact ⟨a, b, hs a ha, hs b hb, e, n⟩
/-! The program's and the document's. -/
theorem alo_mde : ∀ (n i : Nat) (x : List Int) (p : List (List Int)), (alo H n i x p).2 = decide (p.length = lng n i) ∧ (p.length = lng n i → (alo H n i x p).1 = mde H n i x p) := by
  intro n
  induction n using Nat.strongRecOn with
  | ind n ih =>
    intro i x p
    by_cases h : n < 2
    · rw [alo_one H h, lng_one h, mde_one H h]; exact ⟨rfl, fun _ => rfl⟩
    have a := ct_lt h
    have b := ct_pos n
    by_cases hp : p.length = 0
    · rw [alo_nil H h i x hp]
      have q : ¬ p.length = lng n i := by
        by_cases hi : i < ctN n
        · rw [lng_lo h hi]; omega
        · rw [lng_hi h hi]; omega
      exact ⟨(decide_eq_false q).symm, fun e => absurd e q⟩
    have hd : p.dropLast.length = p.length - 1 := List.length_dropLast
    by_cases hi : i < ctN n
    · rw [alo_lo H h hi x hp, lng_lo h hi, mde_lo H h hi]
      obtain ⟨i1, i2⟩ := ih _ a i x p.dropLast
      refine ⟨i1.trans ?_, fun e => ?_⟩
      · rw [hd]; congr 1; apply propext; omega
      · show nd H _ _ = _
        rw [i2 (by omega)]
    · rw [alo_hi H h hi x hp, lng_hi h hi, mde_hi H h hi]
      obtain ⟨i1, i2⟩ := ih (n - ctN n) (by omega) (i - ctN n) x p.dropLast
      refine ⟨i1.trans ?_, fun e => ?_⟩
      · rw [hd]; congr 1; apply propext; omega
      · show nd H _ _ = _
        rw [i2 (by omega)]
theorem bth_bde : ∀ (n m : Nat) (wh : Bool) (x : List Int) (p : List (List Int)), 1 ≤ m → (bth H m n wh x p).2.2 = decide (p.length = kys n m wh) ∧ (p.length = kys n m wh → (bth H m n wh x p).1 = (bde H m n wh x p).1 ∧ (bth H m n wh x p).2.1 = (bde H m n wh x p).2) := by
  intro n
  induction n using Nat.strongRecOn with
  | ind n ih =>
    intro m wh x p hm
    by_cases h : n ≤ m
    · rw [bth_end H h, kys_end h, bde_end H h]
      cases wh with
      | true => exact ⟨rfl, fun _ => ⟨rfl, rfl⟩⟩
      | false =>
        by_cases hp : p.length = 0
        · simp [hp]
        · refine ⟨by simp [hp], fun e => ?_⟩
          have e1 : p.length = 1 := by simpa using e
          match p, e1 with
          | [y], _ => exact ⟨rfl, rfl⟩
    have h' : m < n := by omega
    have a := ct_lt (n := n) (by omega)
    have b := ct_pos n
    by_cases hp : p.length = 0
    · rw [bth_nil H hm h' wh x hp]
      have q : ¬ p.length = kys n m wh := by
        by_cases hi : m ≤ ctN n
        · rw [kys_lo hm h' hi]; omega
        · rw [kys_hi hm h' hi]; omega
      exact ⟨(decide_eq_false q).symm, fun e => absurd e q⟩
    have hd : p.dropLast.length = p.length - 1 := List.length_dropLast
    by_cases hi : m ≤ ctN n
    · rw [bth_lo H hm h' hi wh x hp, kys_lo hm h' hi, bde_lo H hm h' hi]
      obtain ⟨i1, i2⟩ := ih _ a m wh x p.dropLast hm
      refine ⟨i1.trans ?_, fun e => ?_⟩
      · rw [hd]; congr 1; apply propext; omega
      · obtain ⟨j1, j2⟩ := i2 (by omega)
        exact ⟨j1, by show nd H _ _ = _; rw [j2]⟩
    · rw [bth_hi H hm h' hi wh x hp, kys_hi hm h' hi, bde_hi H hm h' hi]
      obtain ⟨i1, i2⟩ := ih (n - ctN n) (by omega) (m - ctN n) false x p.dropLast (by omega)
      refine ⟨i1.trans ?_, fun e => ?_⟩
      · rw [hd]; congr 1; apply propext; omega
      · obtain ⟨j1, j2⟩ := i2 (by omega)
        exact ⟨by show nd H _ _ = _; rw [j1], by show nd H _ _ = _; rw [j2]⟩
/-! Complete. -/
theorem getD_take {l : List (List Int)} {k i : Nat} (h : i < k) : (l.take k).getD i [] = l.getD i [] := by
  simp [List.getD_eq_getElem?_getD, h]
theorem getD_drop {l : List (List Int)} {k i : Nat} (h : ¬ i < k) : (l.drop k).getD (i - k) [] = l.getD i [] := by
  simp [List.getD_eq_getElem?_getD, List.getElem?_drop, show k + (i - k) = i by omega]
theorem app_len {p : List (List Int)} {y : List Int} : ¬ (p ++ [y]).length = 0 := by simp
theorem alo_pth : ∀ (n : Nat) (l : List (List Int)) (i : Nat), l.length = n → i < n → alo H n i (l.getD i []) (pth H l i) = (rt H l, true) := by
  intro n
  induction n using Nat.strongRecOn with
  | ind n ih =>
    rintro l i rfl hi
    by_cases h : l.length < 2
    · rw [pth_one H h, alo_one H h, rt_one H (by omega), show i = 0 by omega]; rfl
    have a := ct_lt h
    have b := ct_pos l.length
    by_cases hk : i < ctN l.length
    · rw [pth_lo H h hk, alo_lo H h hk _ app_len, List.dropLast_concat, rt_two H h]
      have := ih _ a (l.take (ctN l.length)) i (by rw [List.length_take]; omega) hk
      rw [getD_take hk] at this
      rw [this]; simp
    · rw [pth_hi H h hk, alo_hi H h hk _ app_len, List.dropLast_concat, rt_two H h]
      have := ih (l.length - ctN l.length) (by omega) (l.drop (ctN l.length)) (i - ctN l.length) (by rw [List.length_drop]) (by omega)
      rw [getD_drop hk] at this
      rw [this]; simp
theorem rt_take {l : List (List Int)} {m : Nat} (h : ¬ l.length < 2) (hm : ctN l.length < m) (hl : m ≤ l.length) : rt H (l.take m) = nd H (rt H (l.take (ctN l.length))) (rt H ((l.drop (ctN l.length)).take (m - ctN l.length))) := by
  have b := ct_pos l.length
  have e : (l.take m).length = m := by rw [List.length_take]; omega
  have c : ctN (l.take m).length = ctN l.length := by rw [e]; exact ct_same h hm hl
  rw [rt_two H (l := l.take m) (by omega), c, List.take_take, show min (ctN l.length) m = ctN l.length by omega, List.drop_take]
theorem bth_gro : ∀ (n : Nat) (l : List (List Int)) (m : Nat) (wh : Bool) (x : List Int), l.length = n → 1 ≤ m → m ≤ n → (wh = true → x = rt H (l.take m)) → bth H m n wh x (gro H l m wh) = (rt H (l.take m), rt H l, true) := by
  intro n
  induction n using Nat.strongRecOn with
  | ind n ih =>
    rintro l m wh x rfl hm hl hx
    by_cases h : l.length ≤ m
    · have e : l.take m = l := List.take_of_length_le h
      rw [gro_end H h, bth_end H h, e]
      rw [e] at hx
      cases wh with
      | true => simp [hx rfl]
      | false => simp
    have h' : m < l.length := by omega
    have a := ct_lt (n := l.length) (by omega)
    have b := ct_pos l.length
    by_cases hk : m ≤ ctN l.length
    · rw [gro_lo H hm h' hk, bth_lo H hm h' hk wh x app_len, List.dropLast_concat, rt_two H (l := l) (by omega)]
      have e : (l.take (ctN l.length)).take m = l.take m := by rw [List.take_take, show min m (ctN l.length) = m by omega]
      have := ih _ a (l.take (ctN l.length)) m wh x (by rw [List.length_take]; omega) hm hk (by rw [e]; exact hx)
      rw [e] at this
      rw [this]; simp
    · rw [gro_hi H hm h' hk, bth_hi H hm h' hk wh x app_len, List.dropLast_concat, rt_take H (l := l) (by omega) (by omega) hl]
      have := ih (l.length - ctN l.length) (by omega) (l.drop (ctN l.length)) (m - ctN l.length) false x (by rw [List.length_drop]) (by omega) (by omega) (by intro h; cases h)
      rw [this, rt_two H (l := l) (by omega)]; simp
/-! Sound. -/
theorem cat_inj {a b c d : List Int} (h : (1 : Int) :: (a ++ b) = 1 :: (c ++ d)) (hl : a.length = c.length) : a = c ∧ b = d := by
  injection h with _ h
  exact List.append_inj h hl
variable (hH : ∀ x, (H x).length = 32)
include hH
theorem rt_len : ∀ (n : Nat) (l : List (List Int)), l.length = n → (∀ k ∈ l, k.length = 32) → (rt H l).length = 32 := by
  intro n
  induction n using Nat.strongRecOn with
  | ind n ih =>
    rintro l rfl hl
    by_cases h : l.length < 2
    · match l, h, hl with
      | [], _, _ => rw [rt_nil]; exact hH _
      | [x], _, hl => rw [rt_one H rfl]; exact hl x (by simp)
    · rw [rt_two H h]; exact hH _
theorem mde_len {n i : Nat} {x : List Int} {p : List (List Int)} (hx : x.length = 32) : (mde H n i x p).length = 32 := by
  by_cases h : n < 2
  · rw [mde_one H h]; exact hx
  · by_cases hi : i < ctN n
    · rw [mde_lo H h hi]; exact hH _
    · rw [mde_hi H h hi]; exact hH _
theorem alo_len {n i : Nat} {x : List Int} {p : List (List Int)} (hx : x.length = 32) : (alo H n i x p).1.length = 32 := by
  by_cases h : n < 2
  · rw [alo_one H h]; exact hx
  · by_cases hp : p.length = 0
    · rw [alo_nil H h i x hp]; simp
    · by_cases hi : i < ctN n
      · rw [alo_lo H h hi x hp]; exact hH _
      · rw [alo_hi H h hi x hp]; exact hH _
theorem sound_in : ∀ (n : Nat) (l : List (List Int)) (i : Nat) (x : List Int) (p : List (List Int)), l.length = n → (∀ k ∈ l, k.length = 32) → x.length = 32 → (∀ k ∈ p, k.length = 32) → i < n → p.length = lng n i → mde H n i x p = rt H l → x ≠ l.getD i [] → Clh H (mtx H n i x p ++ txs H l) := by
  intro n
  induction n using Nat.strongRecOn with
  | ind n ih =>
    rintro l i x p rfl hl hx hp hi hlen he hne
    by_cases h : l.length < 2
    · rw [mde_one H h, rt_one H (by omega)] at he
      rw [show i = 0 by omega] at hne
      exact absurd he hne
    have a := ct_lt h
    have b := ct_pos l.length
    have hd : p.dropLast.length = p.length - 1 := List.length_dropLast
    have hpd : ∀ k ∈ p.dropLast, k.length = 32 := fun k hk => hp k ((List.dropLast_subset _ hk))
    have hlt : ∀ k ∈ l.take (ctN l.length), k.length = 32 := fun k hk => hl k (List.mem_of_mem_take hk)
    have hld : ∀ k ∈ l.drop (ctN l.length), k.length = 32 := fun k hk => hl k (List.mem_of_mem_drop hk)
    have hlast : 0 < p.length → (p.getLastD []).length = 32 := by
      intro h0
      cases p with
      | nil => simp at h0
      | cons y t => rw [List.getLastD_cons]; exact hp _ (by have := List.getLast_mem (l := y :: t) (by simp); rwa [List.getLast_eq_getLastD] at this)
    rw [rt_two H h] at he
    by_cases hk : i < ctN l.length
    · rw [lng_lo h hk] at hlen
      rw [mde_lo H h hk] at he
      rw [mtx_lo H h hk, txs_two H h]
      by_cases ht : (1 : Int) :: (mde H (ctN l.length) i x p.dropLast ++ p.getLastD []) = 1 :: (rt H (l.take (ctN l.length)) ++ rt H (l.drop (ctN l.length)))
      · obtain ⟨e1, _⟩ := cat_inj ht (by rw [mde_len H hH hx, rt_len H hH _ _ rfl hlt])
        refine (ih _ a (l.take (ctN l.length)) i x p.dropLast (by rw [List.length_take]; omega) hlt hx hpd hk (by omega) e1 (by rw [getD_take hk]; exact hne)).mono ?_
        intro c hc
        simp only [List.mem_append] at hc ⊢
        (rcases hc with hc | hc <;> simp [hc])
      · exact ⟨_, _, by simp, by simp, he, ht⟩
    · rw [lng_hi h hk] at hlen
      rw [mde_hi H h hk] at he
      rw [mtx_hi H h hk, txs_two H h]
      by_cases ht : (1 : Int) :: (p.getLastD [] ++ mde H (l.length - ctN l.length) (i - ctN l.length) x p.dropLast) = 1 :: (rt H (l.take (ctN l.length)) ++ rt H (l.drop (ctN l.length)))
      · obtain ⟨_, e1⟩ := cat_inj ht (by rw [hlast (by omega), rt_len H hH _ _ rfl hlt])
        refine (ih (l.length - ctN l.length) (by omega) (l.drop (ctN l.length)) (i - ctN l.length) x p.dropLast (by rw [List.length_drop]) hld hx hpd (by omega) (by omega) e1 (by rw [getD_drop hk]; exact hne)).mono ?_
        intro c hc
        simp only [List.mem_append] at hc ⊢
        (rcases hc with hc | hc <;> simp [hc])
      · exact ⟨_, _, by simp, by simp, he, ht⟩
theorem bde_len : ∀ (n m : Nat) (wh : Bool) (x : List Int) (p : List (List Int)), x.length = 32 → (∀ k ∈ p, k.length = 32) → 1 ≤ m → p.length = kys n m wh → (bde H m n wh x p).1.length = 32 ∧ (bde H m n wh x p).2.length = 32 := by
  intro n
  induction n using Nat.strongRecOn with
  | ind n ih =>
    intro m wh x p hx hp hm hlen
    by_cases h : n ≤ m
    · rw [bde_end H h]
      rw [kys_end h] at hlen
      cases wh with
      | true => exact ⟨hx, hx⟩
      | false =>
        match p, hlen, hp with
        | [y], _, hp => exact ⟨hp y (by simp), hp y (by simp)⟩
    have h' : m < n := by omega
    have a := ct_lt (n := n) (by omega)
    have b := ct_pos n
    have hd : p.dropLast.length = p.length - 1 := List.length_dropLast
    have hpd : ∀ k ∈ p.dropLast, k.length = 32 := fun k hk => hp k ((List.dropLast_subset _ hk))
    by_cases hi : m ≤ ctN n
    · rw [bde_lo H hm h' hi]
      rw [kys_lo hm h' hi] at hlen
      exact ⟨(ih _ a m wh x p.dropLast hx hpd hm (by omega)).1, hH _⟩
    · rw [bde_hi H hm h' hi]; exact ⟨hH _, hH _⟩
theorem sound_gr : ∀ (n : Nat) (l : List (List Int)) (m : Nat) (wh : Bool) (x : List Int) (p : List (List Int)), l.length = n → (∀ k ∈ l, k.length = 32) → x.length = 32 → (∀ k ∈ p, k.length = 32) → 1 ≤ m → m ≤ n → p.length = kys n m wh → (bde H m n wh x p).2 = rt H l → (bde H m n wh x p).1 ≠ rt H (l.take m) → Clh H (btx H true m n wh x p ++ btx H false m n wh x p ++ txs H l) := by
  intro n
  induction n using Nat.strongRecOn with
  | ind n ih =>
    rintro l m wh x p rfl hl hx hp hm hml hlen he hne
    by_cases h : l.length ≤ m
    · exfalso
      have e : l.take m = l := List.take_of_length_le h
      rw [e] at hne
      rw [bde_end H h] at he hne
      cases wh <;> exact hne he
    have h' : m < l.length := by omega
    have a := ct_lt (n := l.length) (by omega)
    have b := ct_pos l.length
    have h2 : ¬ l.length < 2 := by omega
    have hd : p.dropLast.length = p.length - 1 := List.length_dropLast
    have hpd : ∀ k ∈ p.dropLast, k.length = 32 := fun k hk => hp k ((List.dropLast_subset _ hk))
    have hlt : ∀ k ∈ l.take (ctN l.length), k.length = 32 := fun k hk => hl k (List.mem_of_mem_take hk)
    have hld : ∀ k ∈ l.drop (ctN l.length), k.length = 32 := fun k hk => hl k (List.mem_of_mem_drop hk)
    have hlast : 0 < p.length → (p.getLastD []).length = 32 := by
      intro h0
      cases p with
      | nil => simp at h0
      | cons y t => rw [List.getLastD_cons]; exact hp _ (by have := List.getLast_mem (l := y :: t) (by simp); rwa [List.getLast_eq_getLastD] at this)
    rw [rt_two H h2] at he
    by_cases hk : m ≤ ctN l.length
    · rw [kys_lo hm h' hk] at hlen
      rw [bde_lo H hm h' hk] at he hne
      rw [btx_lo H hm h' hk, btx_lo H hm h' hk, txs_two H h2]
      simp only [if_true, Bool.false_eq_true, if_false, List.append_nil]
      have e : (l.take (ctN l.length)).take m = l.take m := by rw [List.take_take, show min m (ctN l.length) = m by omega]
      by_cases ht : (1 : Int) :: ((bde H m (ctN l.length) wh x p.dropLast).2 ++ p.getLastD []) = 1 :: (rt H (l.take (ctN l.length)) ++ rt H (l.drop (ctN l.length)))
      · obtain ⟨e1, _⟩ := cat_inj ht (by rw [(bde_len H hH _ _ _ _ _ hx hpd hm (by omega)).2, rt_len H hH _ _ rfl hlt])
        refine (ih _ a (l.take (ctN l.length)) m wh x p.dropLast (by rw [List.length_take]; omega) hlt hx hpd hm hk (by omega) e1 (by rw [e]; exact hne)).mono ?_
        intro c hc
        simp only [List.mem_append] at hc ⊢
        (rcases hc with (hc | hc) | hc <;> simp [hc])
      · exact ⟨_, _, by simp, by simp, he, ht⟩
    · rw [kys_hi hm h' hk] at hlen
      rw [bde_hi H hm h' hk] at he hne
      rw [btx_hi H hm h' hk, btx_hi H hm h' hk, txs_two H h2]
      rw [rt_take H h2 (by omega) hml] at hne
      simp only [if_true, Bool.false_eq_true, if_false] at he hne ⊢
      by_cases ht : (1 : Int) :: (p.getLastD [] ++ (bde H (m - ctN l.length) (l.length - ctN l.length) false x p.dropLast).2) = 1 :: (rt H (l.take (ctN l.length)) ++ rt H (l.drop (ctN l.length)))
      · obtain ⟨e0, e1⟩ := cat_inj ht (by rw [hlast (by omega), rt_len H hH _ _ rfl hlt])
        refine (ih (l.length - ctN l.length) (by omega) (l.drop (ctN l.length)) (m - ctN l.length) false x p.dropLast (by rw [List.length_drop]) hld hx hpd (by omega) (by omega) (by omega) e1 ?_).mono ?_
        · intro e2; apply hne; rw [e0, e2]
        · intro c hc
          simp only [List.mem_append] at hc ⊢
          (rcases hc with (hc | hc) | hc <;> simp [hc])
      · exact ⟨_, _, by simp, by simp, he, ht⟩
end
end Go.Proofs.YtgfeacnhdlgpoaaDoor
