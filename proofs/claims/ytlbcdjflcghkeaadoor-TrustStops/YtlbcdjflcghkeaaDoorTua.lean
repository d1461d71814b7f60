import Derived.Lib.Bytealg
import Derived.Test.YtlbcdjflcghkeaaDoorSgh
namespace Go.Proofs.YtlbcdjflcghkeaaDoor
set_option maxRecDepth 100000
open Go Go.Lib Go.RowKit
/-! The book's mathematics, on lists (layer 22). -/
theorem cb_flip : ∀ a b : List UInt8, compareBytes b a = - compareBytes a b
  | [], [] => rfl
  | [], _ :: _ => rfl
  | _ :: _, [] => rfl
  | x :: a, y :: b => by
    unfold compareBytes
    by_cases h1 : x < y
    · have h2 : ¬ y < x := fun h => by simp only [UInt8.lt_iff_toNat_lt] at h h1; omega
      simp [h1, h2]
    · by_cases h2 : y < x
      · simp [h1, h2]
      · simp [h1, h2, cb_flip a b]
theorem cb_zero : ∀ a b : List UInt8, compareBytes a b = 0 → a = b
  | [], [], _ => rfl
  | [], _ :: _, h => by simp [compareBytes] at h
  | _ :: _, [], h => by simp [compareBytes] at h
  | x :: a, y :: b, h => by
    unfold compareBytes at h
    by_cases h1 : x < y
    · simp [h1] at h
    · by_cases h2 : y < x
      · simp [h1, h2] at h
      · simp only [h1, h2, if_false] at h
        have e : x = y := UInt8.toNat_inj.1 (by simp only [UInt8.lt_iff_toNat_lt] at h1 h2; omega)
        rw [e, cb_zero a b h]
theorem cb_self : ∀ a : List UInt8, compareBytes a a = 0
  | [] => rfl
  | x :: a => by
    unfold compareBytes
    simp [UInt8.lt_irrefl, cb_self a]
theorem cb_trans : ∀ a b c : List UInt8, compareBytes a b < 0 → compareBytes b c < 0 → compareBytes a c < 0
  | [], [], _, h, _ => by simp [compareBytes] at h
  | [], _ :: _, [], _, h => by simp [compareBytes] at h
  | [], _ :: _, _ :: _, _, _ => by simp [compareBytes]
  | _ :: _, [], _, h, _ => by simp [compareBytes] at h
  | _ :: _, _ :: _, [], _, h => by simp [compareBytes] at h
  | x :: a, y :: b, z :: c, h, k => by
    unfold compareBytes at h k ⊢
    by_cases h1 : x < y
    · by_cases k1 : y < z
      · have : x < z := by simp only [UInt8.lt_iff_toNat_lt] at *; omega
        simp [this]
      · by_cases k2 : z < y
        · simp [k1, k2] at k
        · have : x < z := by simp only [UInt8.lt_iff_toNat_lt] at *; omega
          simp [this]
    · by_cases h2 : y < x
      · simp [h1, h2] at h
      · simp only [h1, h2, if_false] at h
        by_cases k1 : y < z
        · have : x < z := by simp only [UInt8.lt_iff_toNat_lt] at *; omega
          simp [this]
        · by_cases k2 : z < y
          · simp [k1, k2] at k
          · simp only [k1, k2, if_false] at k
            have e1 : ¬ x < z := by simp only [UInt8.lt_iff_toNat_lt] at *; omega
            have e2 : ¬ z < x := by simp only [UInt8.lt_iff_toNat_lt] at *; omega
            simp only [e1, e2, if_false]
            exact cb_trans a b c h k
/-- Two names in their order. -/
def cmn (a b : ByteArray) : Int := compareBytes a.data.toList b.data.toList
theorem ba_eq {a b : ByteArray} (h : a.data.toList = b.data.toList) : a = b := by
  cases a; cases b
  simp only [ByteArray.mk.injEq]
  exact Array.toList_inj.1 h
theorem cmn_zero {a b : ByteArray} : cmn a b = 0 ↔ a = b := ⟨fun h => ba_eq (cb_zero _ _ h), fun h => by rw [h]; exact cb_self _⟩
theorem cmn_trans {a b c : ByteArray} (h : cmn a b < 0) (k : cmn b c < 0) : cmn a c < 0 := cb_trans _ _ _ h k
theorem cmn_flip (a b : ByteArray) : cmn b a = - cmn a b := cb_flip _ _
/-- A contact. -/
structure Ct where
  n : ByteArray
  k : List Int
  x : List Int
  s : Int
deriving DecidableEq
/-- An event. -/
structure Ev where
  d : Int
  n : ByteArray
  k : List Int
deriving DecidableEq
def K32 (k : List Int) : Prop := k.length = 32 ∧ ∀ x ∈ k, 0 ≤ x ∧ x < 256
theorem k32_zero : K32 (zr 32) := ⟨rfl, fun x hx => by have := List.eq_of_mem_replicate hx; omega⟩
def Ct.ok (c : Ct) : Prop := K32 c.k ∧ K32 c.x
def Ev.ok (e : Ev) : Prop := K32 e.k
def zct : Ct := ⟨⟨#[]⟩, zr 32, zr 32, 0⟩
/-- Names rising. -/
def Srt : List Ct → Prop
  | [] => True
  | c :: l => (∀ d ∈ l, cmn c.n d.n < 0) ∧ Srt l
/-- How many names come ahead of a name. -/
def ps (l : List Ct) (m : ByteArray) : Nat := match l with
  | [] => 0
  | c :: l => if cmn c.n m < 0 then ps l m + 1 else 0
def fd (l : List Ct) (m : ByteArray) : Option Ct := l.find? fun c => decide (c.n = m)
def gc (l : List Ct) (i : Nat) : Ct := l.getD i zct
theorem ps_le (l : List Ct) (m : ByteArray) : ps l m ≤ l.length := by
  induction l with
  | nil => exact Nat.le_refl _
  | cons c l ih => unfold ps; split <;> simp; omega
theorem gc_lt {l : List Ct} {i : Nat} (h : i < l.length) : gc l i ∈ l ∧ l[i]? = some (gc l i) := by
  rw [gc, List.getD_eq_getElem?_getD, List.getElem?_eq_getElem h]
  exact ⟨List.getElem_mem h, rfl⟩
theorem gc_cons (c : Ct) (l : List Ct) (i : Nat) : gc (c :: l) (i + 1) = gc l i := rfl
theorem gc_zero (c : Ct) (l : List Ct) : gc (c :: l) 0 = c := rfl
/-- What the search finds. -/
theorem ps_of {l : List Ct} {m : ByteArray} {i : Nat} (hi : i ≤ l.length) (h1 : ∀ t, t < i → cmn (gc l t).n m < 0) (h2 : i < l.length → 0 ≤ cmn (gc l i).n m) : ps l m = i := by
  induction l generalizing i with
  | nil => simp at hi; rw [hi]; rfl
  | cons c l ih =>
    unfold ps
    cases i with
    | zero =>
      have := h2 (by simp)
      rw [gc_zero] at this
      rw [if_neg (by omega)]
    | succ i =>
      have := h1 0 (by omega)
      rw [gc_zero] at this
      rw [if_pos this, ih (by simpa using hi) (fun t ht => by have := h1 (t + 1) (by omega); rwa [gc_cons] at this) (fun h => by have := h2 (by simpa using h); rwa [gc_cons] at this)]
theorem Srt.lt {l : List Ct} (h : Srt l) : ∀ {i j}, i < j → j < l.length → cmn (gc l i).n (gc l j).n < 0 := by
  induction l with
  | nil => intro i j _ hj; simp at hj
  | cons c l ih =>
    intro i j hij hj
    cases j with
    | zero => omega
    | succ j =>
      cases i with
      | zero => exact h.1 _ (gc_lt (by simpa using hj)).1
      | succ i => exact ih h.2 (by omega) (by simpa using hj)
theorem fd_none {l : List Ct} {m : ByteArray} : fd l m = none ↔ ∀ c ∈ l, c.n ≠ m := by
  simp [fd]
theorem fd_some {l : List Ct} {m : ByteArray} {c : Ct} (h : fd l m = some c) : c ∈ l ∧ c.n = m := by
  unfold fd at h
  exact ⟨List.mem_of_find?_eq_some h, by simpa using List.find?_some h⟩
/-- Whether the name's contact stands at its place. -/
def th (l : List Ct) (m : ByteArray) : Bool := (fd l m).isSome
theorem Srt.below {l : List Ct} {m : ByteArray} (h : Srt l) {i : Nat} (hi : i < l.length) (hm : cmn (gc l i).n m < 0) : ∀ t, t ≤ i → cmn (gc l t).n m < 0 := fun t ht => by
  by_cases e : t = i
  · rw [e]; exact hm
  · exact cmn_trans (h.lt (by omega) hi) hm
theorem Srt.above {l : List Ct} {m : ByteArray} (h : Srt l) {i : Nat} (_hi : i < l.length) (hm : 0 ≤ cmn (gc l i).n m) : ∀ t, i ≤ t → t < l.length → 0 ≤ cmn (gc l t).n m := fun t ht hl => by
  by_cases e : t = i
  · rw [e]; exact hm
  · have h1 := h.lt (show i < t by omega) hl
    by_cases k : 0 ≤ cmn (gc l t).n m
    · exact k
    · have := cmn_trans h1 (show cmn (gc l t).n m < 0 by omega); omega
theorem ps_spec {l : List Ct} (m : ByteArray) : (∀ t, t < ps l m → cmn (gc l t).n m < 0) ∧ (ps l m < l.length → 0 ≤ cmn (gc l (ps l m)).n m) := by
  induction l with
  | nil => exact ⟨fun t ht => by simp [ps] at ht, fun h => by simp [ps] at h⟩
  | cons c l ih =>
    unfold ps
    split
    · next h1 =>
      refine ⟨fun t ht => ?_, fun h => ?_⟩
      · cases t with
        | zero => exact h1
        | succ t => exact ih.1 t (by omega)
      · exact ih.2 (by simpa using h)
    · next h1 => exact ⟨fun t ht => by omega, fun _ => by rw [gc_zero]; omega⟩
theorem th_iff {l : List Ct} (hs : Srt l) (m : ByteArray) : th l m = true ↔ ps l m < l.length ∧ (gc l (ps l m)).n = m := by
  constructor
  · intro h
    unfold th at h
    obtain ⟨c, hc⟩ := Option.isSome_iff_exists.1 h
    obtain ⟨h1, h2⟩ := fd_some hc
    obtain ⟨i, hi, e⟩ := List.mem_iff_getElem.1 h1
    have e2 : gc l i = c := by rw [gc, List.getD_eq_getElem?_getD, List.getElem?_eq_getElem hi, e]; rfl
    have e3 : ps l m = i := ps_of (by omega) (fun t ht => by have := hs.lt ht hi; rwa [e2, h2] at this) (fun _ => by rw [e2, h2, cmn_zero.2 rfl]; omega)
    rw [e3, e2]
    exact ⟨hi, h2⟩
  · rintro ⟨h1, h2⟩
    unfold th
    cases h : fd l m with
    | some c => rfl
    | none => exact absurd h2 (fd_none.1 h _ (gc_lt h1).1)
theorem fd_at {l : List Ct} (hs : Srt l) {m : ByteArray} (h : th l m = true) : fd l m = some (gc l (ps l m)) := by
  obtain ⟨h1, h2⟩ := (th_iff hs m).1 h
  unfold th at h
  obtain ⟨c, hc⟩ := Option.isSome_iff_exists.1 h
  obtain ⟨k1, k2⟩ := fd_some hc
  obtain ⟨i, hi, e⟩ := List.mem_iff_getElem.1 k1
  have e2 : gc l i = c := by rw [gc, List.getD_eq_getElem?_getD, List.getElem?_eq_getElem hi, e]; rfl
  have e3 : ps l m = i := ps_of (by omega) (fun t ht => by have := hs.lt ht hi; rwa [e2, k2] at this) (fun _ => by rw [e2, k2, cmn_zero.2 rfl]; omega)
  rw [hc, e3, e2]
/-- The contact of a name, or the one that is nobody. -/
def fnC (l : List Ct) (m : ByteArray) : Ct := (fd l m).getD zct
def insC (l : List Ct) (c : Ct) : List Ct := l.take (ps l c.n) ++ c :: l.drop (ps l c.n)
def putC (l : List Ct) (c : Ct) : List Ct := l.set (ps l c.n) c
def delC (l : List Ct) (m : ByteArray) : List Ct := l.take (ps l m) ++ l.drop (ps l m + 1)
theorem srt_iff {l : List Ct} : Srt l ↔ ∀ i j, i < j → j < l.length → cmn (gc l i).n (gc l j).n < 0 := by
  refine ⟨fun h i j => h.lt, fun h => ?_⟩
  induction l with
  | nil => trivial
  | cons c l ih =>
    refine ⟨fun d hd => ?_, ih (fun i j h1 h2 => by have := h (i + 1) (j + 1) (by omega) (by simpa using h2); rwa [gc_cons, gc_cons] at this)⟩
    obtain ⟨i, hi, e⟩ := List.mem_iff_getElem.1 hd
    have := h 0 (i + 1) (by omega) (by simpa using hi)
    rw [gc_zero, gc_cons] at this
    rwa [show gc l i = d by rw [gc, List.getD_eq_getElem?_getD, List.getElem?_eq_getElem hi, e]; rfl] at this
theorem gc_set {l : List Ct} {i : Nat} (c : Ct) (hi : i < l.length) (j : Nat) : gc (l.set i c) j = if j = i then c else gc l j := by
  unfold gc
  rw [List.getD_eq_getElem?_getD, List.getD_eq_getElem?_getD, List.getElem?_set]
  by_cases h : i = j
  · subst h; simp [hi]
  · simp [h, Ne.symm h]
theorem Srt.put {l : List Ct} (h : Srt l) {c : Ct} (ht : th l c.n = true) : Srt (putC l c) := by
  obtain ⟨h1, h2⟩ := (th_iff h c.n).1 ht
  refine srt_iff.2 (fun i j hij hj => ?_)
  unfold putC at hj ⊢
  rw [List.length_set] at hj
  rw [gc_set c h1, gc_set c h1]
  have hl := h.lt hij hj
  split
  · next e => subst e; split
              · next e => omega
              · rwa [h2] at hl
  · split
    · next e => subst e; rwa [h2] at hl
    · exact hl
theorem mem_put {l : List Ct} {c d : Ct} (h : d ∈ putC l c) : d = c ∨ d ∈ l := by
  unfold putC at h
  exact (List.mem_or_eq_of_mem_set h).symm
theorem fd_iff {l : List Ct} (h : Srt l) {m : ByteArray} {c : Ct} : fd l m = some c ↔ c ∈ l ∧ c.n = m := by
  refine ⟨fd_some, fun ⟨h1, h2⟩ => ?_⟩
  obtain ⟨i, hi, e⟩ := List.mem_iff_getElem.1 h1
  have e2 : gc l i = c := by rw [gc, List.getD_eq_getElem?_getD, List.getElem?_eq_getElem hi, e]; rfl
  have e3 : ps l m = i := ps_of (by omega) (fun t ht => by have := h.lt ht hi; rwa [e2, h2] at this) (fun _ => by rw [e2, h2, cmn_zero.2 rfl]; omega)
  rw [fd_at h ((th_iff h m).2 (by rw [e3, e2]; exact ⟨hi, h2⟩)), e3, e2]
theorem split_at {l : List Ct} {i : Nat} (hi : i < l.length) : l = l.take i ++ gc l i :: l.drop (i + 1) := by
  have e : gc l i = l[i] := by rw [gc, List.getD_eq_getElem?_getD, List.getElem?_eq_getElem hi]; rfl
  rw [e, List.getElem_cons_drop, List.take_append_drop]
theorem gc_idx {l : List Ct} {c : Ct} (h : c ∈ l) : ∃ i, i < l.length ∧ gc l i = c := by
  obtain ⟨i, hi, e⟩ := List.mem_iff_getElem.1 h
  exact ⟨i, hi, by rw [gc, List.getD_eq_getElem?_getD, List.getElem?_eq_getElem hi, e]; rfl⟩
theorem Srt.uniq {l : List Ct} (h : Srt l) {i j : Nat} (hi : i < l.length) (hj : j < l.length) (e : (gc l i).n = (gc l j).n) : i = j := by
  rcases Nat.lt_trichotomy i j with q | q | q
  · have := h.lt q hj; rw [e, cmn_zero.2 rfl] at this; omega
  · exact q
  · have := h.lt q hi; rw [e, cmn_zero.2 rfl] at this; omega
theorem mem_put_iff {l : List Ct} (h : Srt l) {c : Ct} (ht : th l c.n = true) {d : Ct} : d ∈ putC l c ↔ d = c ∨ (d ∈ l ∧ d.n ≠ c.n) := by
  obtain ⟨h1, h2⟩ := (th_iff h c.n).1 ht
  unfold putC
  constructor
  · intro hd
    obtain ⟨j, hj, e⟩ := gc_idx hd
    rw [List.length_set] at hj
    rw [gc_set c h1] at e
    split at e
    · exact .inl e.symm
    · next q =>
      refine .inr ⟨e ▸ (gc_lt hj).1, fun k => q ?_⟩
      exact h.uniq hj h1 (by rw [e, k, h2])
  · rintro (rfl | ⟨hd, k⟩)
    · exact List.mem_set h1 _
    · obtain ⟨j, hj, e⟩ := gc_idx hd
      have q : j ≠ ps l c.n := fun q => k (by rw [← e, q, h2])
      have := gc_set c h1 j
      rw [if_neg q, e] at this
      rw [← this]
      exact (gc_lt (by rw [List.length_set]; exact hj)).1
theorem fd_put {l : List Ct} (h : Srt l) {c : Ct} (ht : th l c.n = true) (m : ByteArray) : fd (putC l c) m = if m = c.n then some c else fd l m := by
  apply Option.ext
  intro d
  rw [fd_iff (h.put ht), mem_put_iff h ht]
  split
  · next e => subst e; constructor
              · rintro ⟨rfl | ⟨_, k⟩, h2⟩
                · rfl
                · exact absurd h2 k
              · intro q; cases q; exact ⟨.inl rfl, rfl⟩
  · next e =>
    rw [fd_iff h]
    constructor
    · rintro ⟨rfl | ⟨k, _⟩, h2⟩
      · exact absurd h2.symm e
      · exact ⟨k, h2⟩
    · rintro ⟨k, h2⟩
      exact ⟨.inr ⟨k, fun q => e (h2 ▸ q)⟩, h2⟩
theorem mem_ins {l : List Ct} {c d : Ct} : d ∈ insC l c ↔ d = c ∨ d ∈ l := by
  unfold insC
  rw [List.mem_append, List.mem_cons]
  conv => rhs; rw [← List.take_append_drop (ps l c.n) l, List.mem_append]
  constructor
  · rintro (h | h | h)
    · exact .inr (.inl h)
    · exact .inl h
    · exact .inr (.inr h)
  · rintro (h | h | h)
    · exact .inr (.inl h)
    · exact .inl h
    · exact .inr (.inr h)
theorem gc_app (a b : List Ct) (i : Nat) : gc (a ++ b) i = if i < a.length then gc a i else gc b (i - a.length) := by
  unfold gc
  rw [List.getD_eq_getElem?_getD, List.getElem?_append]
  split <;> rw [List.getD_eq_getElem?_getD]
theorem gc_take {l : List Ct} {i j : Nat} (h : j < i) : gc (l.take i) j = gc l j := by
  unfold gc
  rw [List.getD_eq_getElem?_getD, List.getD_eq_getElem?_getD, List.getElem?_take_of_lt h]
theorem gc_drop (l : List Ct) (i j : Nat) : gc (l.drop i) j = gc l (i + j) := by
  unfold gc
  rw [List.getD_eq_getElem?_getD, List.getD_eq_getElem?_getD, List.getElem?_drop]
theorem gc_ins (l : List Ct) (c : Ct) (i : Nat) : gc (insC l c) i = if i < ps l c.n then gc l i else if i = ps l c.n then c else gc l (i - 1) := by
  have hp := ps_le l c.n
  unfold insC
  rw [gc_app, List.length_take, Nat.min_eq_left hp]
  split
  · next h => rw [gc_take h]
  · next h =>
    obtain ⟨t, rfl⟩ : ∃ t, i = ps l c.n + t := ⟨i - ps l c.n, by omega⟩
    rw [Nat.add_sub_cancel_left]
    cases t with
    | zero => simp [gc_zero]
    | succ t => rw [gc_cons, gc_drop, if_neg (by omega)]; congr 1
theorem ins_len (l : List Ct) (c : Ct) : (insC l c).length = l.length + 1 := by
  have hp := ps_le l c.n
  unfold insC
  rw [List.length_append, List.length_take, List.length_cons, List.length_drop]
  omega
theorem Srt.ins {l : List Ct} (h : Srt l) {c : Ct} (ht : th l c.n = false) : Srt (insC l c) := by
  obtain ⟨p1, p2⟩ := ps_spec (l := l) c.n
  have hn : fd l c.n = none := by unfold th at ht; cases q : fd l c.n <;> simp [q] at ht ⊢
  have hne := fd_none.1 hn
  have hp := ps_le l c.n
  have up : ∀ t, ps l c.n ≤ t → t < l.length → cmn c.n (gc l t).n < 0 := fun t h1 h2 => by
    have q1 := h.above (show ps l c.n < l.length by omega) (p2 (by omega)) t h1 h2
    have q2 : cmn (gc l t).n c.n ≠ 0 := fun q => hne _ (gc_lt h2).1 (cmn_zero.1 q)
    rw [cmn_flip]; omega
  refine srt_iff.2 (fun i j hij hj => ?_)
  rw [ins_len] at hj
  rw [gc_ins, gc_ins]
  split
  · next k1 =>
    split
    · exact h.lt hij (by omega)
    · split
      · exact p1 i k1
      · exact h.lt (by omega) (by omega)
  · split
    · next k1 k2 =>
      rw [if_neg (by omega), if_neg (by omega)]
      exact up _ (by omega) (by omega)
    · rw [if_neg (by omega), if_neg (by omega)]
      exact h.lt (by omega) (by omega)
theorem fd_ins {l : List Ct} (h : Srt l) {c : Ct} (ht : th l c.n = false) (m : ByteArray) : fd (insC l c) m = if m = c.n then some c else fd l m := by
  have hn : fd l c.n = none := by unfold th at ht; cases q : fd l c.n <;> simp [q] at ht ⊢
  have hne := fd_none.1 hn
  apply Option.ext
  intro d
  rw [fd_iff (h.ins ht), mem_ins]
  split
  · next e => subst e; constructor
              · rintro ⟨rfl | k, h2⟩
                · rfl
                · exact absurd h2 (hne _ k)
              · intro q; cases q; exact ⟨.inl rfl, rfl⟩
  · next e =>
    rw [fd_iff h]
    constructor
    · rintro ⟨rfl | k, h2⟩
      · exact absurd h2.symm e
      · exact ⟨k, h2⟩
    · rintro ⟨k, h2⟩
      exact ⟨.inr k, h2⟩
theorem gc_del (l : List Ct) (m : ByteArray) (i : Nat) : gc (delC l m) i = if i < ps l m then gc l i else gc l (i + 1) := by
  have hp := ps_le l m
  unfold delC
  rw [gc_app, List.length_take, Nat.min_eq_left hp]
  split
  · next h => rw [gc_take h]
  · next h => rw [gc_drop]; congr 1; omega
theorem del_len {l : List Ct} {m : ByteArray} (h : ps l m < l.length) : (delC l m).length + 1 = l.length := by
  unfold delC
  rw [List.length_append, List.length_take, List.length_drop]
  omega
theorem Srt.del {l : List Ct} (h : Srt l) {m : ByteArray} (hp : ps l m < l.length) : Srt (delC l m) := by
  have hd := del_len hp
  refine srt_iff.2 (fun i j hij hj => ?_)
  rw [gc_del, gc_del]
  split
  · split
    · exact h.lt hij (by omega)
    · exact h.lt (by omega) (by omega)
  · rw [if_neg (by omega)]
    exact h.lt (by omega) (by omega)
theorem mem_del {l : List Ct} {m : ByteArray} {d : Ct} (h : d ∈ delC l m) : d ∈ l := by
  unfold delC at h
  rcases List.mem_append.1 h with h | h
  · exact List.mem_of_mem_take h
  · exact List.mem_of_mem_drop h
theorem fd_del {l : List Ct} (h : Srt l) {m : ByteArray} (ht : th l m = true) (q : ByteArray) : fd (delC l m) q = if q = m then none else fd l q := by
  obtain ⟨h1, h2⟩ := (th_iff h m).1 ht
  have hd := del_len h1
  split
  · next e =>
    subst e
    refine fd_none.2 (fun c hc k => ?_)
    obtain ⟨j, hj, e⟩ := gc_idx hc
    rw [gc_del] at e
    split at e
    · have := h.uniq (show j < l.length by omega) h1 (by rw [e, k, h2]); omega
    · have := h.uniq (show j + 1 < l.length by omega) h1 (by rw [e, k, h2]); omega
  · next e =>
    apply Option.ext
    intro d
    rw [fd_iff (h.del h1), fd_iff h]
    refine ⟨fun ⟨k1, k2⟩ => ⟨mem_del k1, k2⟩, fun ⟨k1, k2⟩ => ⟨?_, k2⟩⟩
    obtain ⟨j, hj, e2⟩ := gc_idx k1
    have hne : j ≠ ps l m := fun k => e (by rw [← k2, ← e2, k, h2])
    by_cases hlt : j < ps l m
    · have := gc_del l m j
      rw [if_pos hlt, e2] at this
      rw [← this]
      exact (gc_lt (by omega)).1
    · have := gc_del l m (j - 1)
      rw [if_neg (by omega), show j - 1 + 1 = j by omega, e2] at this
      rw [← this]
      exact (gc_lt (by omega)).1
end Go.Proofs.YtlbcdjflcghkeaaDoor
