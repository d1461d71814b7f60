import Derived.Test.YtnbkdlfkacbfjaaTail
namespace Go.Proofs.Ytnbkdlfkacbfjaa
open Go Go.RowKit Go.Sort

/-! A region that draws its order: quiet operations first (q of them), then new blocks (up to place m), each to come up whenever it likes, then operations one behind the other. -/

def Cl (w : World) : World → Prop := fun W => ∃ p : Regrown, W = grow (redrawn w p.d) p.os
theorem Cl.refl (w : World) : Cl w w := ⟨⟨w.drawn, #[]⟩, by rw [grow_empty]; rfl⟩
theorem Cl.below {w W : World} (h : Cl w W) : Below w.heap.size w W := by obtain ⟨p, rfl⟩ := h; exact below_regrown w p.d p.os

def puts (a : Act) (l : List (Tmp × Value)) : Act := l.foldl (fun a p => a.put (some p.1) p.2) a
theorem puts_snoc (a : Act) (l : List (Tmp × Value)) (t : Tmp) (v : Value) : puts a (l ++ [(t, v)]) = (puts a l).put (some t) v := by simp [puts]
theorem puts_put (l : List (Tmp × Value)) : ∀ (a : Act) (d : Option Tmp) (v : Value), (∀ p ∈ l, d ≠ some p.1) → (puts a l).put d v = puts (a.put d v) l := by
  induction l with
  | nil => intro a d v _; rfl
  | cons p l ih =>
    intro a d v h
    have h1 : (a.put (some p.1) p.2).put d v = (a.put d v).put (some p.1) p.2 := Act.put_comm a p.2 v (fun x hx => by injection hx with hx; subst hx; exact h p (by simp))
    show (puts (a.put (some p.1) p.2) l).put d v = puts ((a.put d v).put (some p.1) p.2) l
    rw [ih _ _ _ (fun p' hp => h p' (by simp [hp])), h1]
theorem puts_perm {l l' : List (Tmp × Value)} (hp : l.Perm l') : ∀ a : Act, (l.map (·.1)).Nodup → puts a l = puts a l' := by
  induction hp with
  | nil => intro a _; rfl
  | cons x _ ih => intro a hn; simp only [List.map_cons, List.nodup_cons] at hn; exact ih _ hn.2
  | swap x y l =>
    intro a hn
    simp only [List.map_cons, List.nodup_cons, List.mem_cons, not_or] at hn
    show puts ((a.put (some y.1) y.2).put (some x.1) x.2) l = puts ((a.put (some x.1) x.2).put (some y.1) y.2) l
    rw [Act.put_comm a y.2 x.2 (fun d hd h => by injection hd with hd; injection h with h; exact hn.1.1 (hd.trans h.symm))]
  | trans h1 _ ih1 ih2 => intro a hn; rw [ih1 a hn, ih2 a ((h1.map _).nodup_iff.1 hn)]

section
variable {P : Program} {L : List Oper} {q m : Nat} {Ts : List Tmp}

def apB (L : List Oper) (q : Nat) (Ts : List Tmp) : Bool := (L.take q).all fun o => Ts.all fun t => !(o.looksAt L.toArray).contains t && o.dst != some t
def gdB (L : List Oper) (q : Nat) : Bool := (L.take q).all fun o => match o.guard with | some (j, _) => decide (j < q) | none => true
def dsB (L : List Oper) (q : Nat) : Bool := decide (((L.take q).filterMap (·.dst)).Nodup)
def edgeB (L : List Oper) (k j : Nat) : Bool := ((L[k]?).map fun o => o.after.toList.any fun e => Region.binds .any e && e.on == j).getD false
def downB (L : List Oper) (m : Nat) : Bool := (List.range m).all fun j => (List.range (m + 1)).any fun k => edgeB L k j
def seqB (L : List Oper) (m : Nat) : Bool := (List.range L.length).all fun k => decide (k ≤ m) || edgeB L k (k - 1)

theorem edge_listed {listed : Array Bool} {k j : Nat} (h : edgeB L k j = true) {x : Oper} (hx : L[k]? = some x) (hall : ∀ e ∈ x.after, Region.binds .any e = true → listed.getD e.on false = true) : listed.getD j false = true := by
  simp only [edgeB, hx, Option.map_some, Option.getD_some, List.any_eq_true, Bool.and_eq_true, beq_iff_eq] at h
  obtain ⟨e, he, hb, hon⟩ := h
  rw [← hon]
  exact hall e (by simpa using he) hb
theorem edge_lt (hO : ordB L = true) {k j : Nat} (h : edgeB L k j = true) : j < k ∧ k < L.length := by
  have hk : k < L.length := by
    rcases Nat.lt_or_ge k L.length with h' | h'
    · exact h'
    · simp [edgeB, List.getElem?_eq_none h'] at h
  refine ⟨?_, hk⟩
  simp only [ordB, List.all_eq_true, List.mem_range] at hO
  have h1 := hO k hk
  have hk' : L[k]? = some L[k] := List.getElem?_eq_getElem hk
  rw [hk'] at h1
  simp only [edgeB, hk', Option.map_some, Option.getD_some, List.any_eq_true, Bool.and_eq_true, beq_iff_eq] at h
  obtain ⟨e, he, hb, hon⟩ := h
  simp only [Option.map_some, Option.getD_some, Array.all_eq_true_iff_forall_mem] at h1
  have h2 := h1 e (by simpa using he)
  rw [hb] at h2
  simp at h2
  omega
theorem getD_tf {listed : Array Bool} {j : Nat} (h : listed.getD j false = true) : listed.getD j true = true := by
  rcases Nat.lt_or_ge j listed.size with h' | h'
  · simp [h'] at h ⊢; exact h
  · simp [Array.getElem?_eq_none h'] at h

theorem all_before (hO : ordB L = true) (hdn : downB L m = true) {listed : Array Bool} (hc : Closed L listed) (hr : m ∈ Region.ready .any L.toArray listed) : ∀ j, j < m → listed.getD j false = true := by
  obtain ⟨_, o', ho', hall⟩ := mem_ready.1 hr
  have ho : L[m]? = some o' := by simpa using ho'
  simp only [downB, List.all_eq_true, List.mem_range, List.any_eq_true] at hdn
  have key : ∀ d j, j + d + 1 = m → listed.getD j false = true := by
    intro d
    induction d using Nat.strongRecOn with
    | ind d ih =>
      intro j hj
      obtain ⟨k, hk, he⟩ := hdn j (by omega)
      have hlt := edge_lt hO he
      by_cases hkm : k = m
      · subst hkm; exact edge_listed he ho hall
      · have h3 := ih (m - k - 1) (by omega) k (by omega)
        exact edge_listed he (List.getElem?_eq_getElem hlt.2) (hc k _ (List.getElem?_eq_getElem hlt.2) h3)
  intro j hj
  exact key (m - j - 1) j (by omega)

theorem late_not (hsq : seqB L m = true) {listed : Array Bool} (hc : Closed L listed) (hm : listed.getD m false = false) : ∀ k, k ∈ Region.ready .any L.toArray listed → k ≤ m := by
  intro k hk
  obtain ⟨_, x, hx, hall⟩ := mem_ready.1 hk
  have hx' : L[k]? = some x := by simpa using hx
  have hkl : k < L.length := (List.getElem?_eq_some_iff.1 hx').1
  simp only [seqB, List.all_eq_true, List.mem_range, Bool.or_eq_true, decide_eq_true_eq] at hsq
  rcases Nat.lt_or_ge m k with hmk | hmk
  · exfalso
    have key : ∀ d j, m + d = j → j < k → listed.getD j false = true → False := by
      intro d
      induction d with
      | zero => intro j hj _ h; rw [← hj] at h; simp only [Nat.add_zero] at h; rw [hm] at h; cases h
      | succ d ih =>
        intro j hj hjk h
        have hjl : j < L.length := by omega
        have he := (hsq j hjl).resolve_left (by omega)
        exact ih (j - 1) (by omega) (by omega) (edge_listed he (List.getElem?_eq_getElem hjl) (hc j _ (List.getElem?_eq_getElem hjl) h))
    have he := (hsq k hkl).resolve_left (by omega)
    exact key (k - 1 - m) (k - 1) (by omega) (by omega) (edge_listed he hx' hall)
  · exact hmk

theorem tail_seq {Q : Exit → Act → World → Prop} (hO : ordB L = true) (hsq : seqB L m = true) : ∀ (T : List Oper) (c : Nat), m ≤ c → L.drop c = T → ∀ (F : Nat) (listed : Array Bool) (a : Act) (w : World), T.length ≤ F → listed.size = L.length →
    (∀ j, j < L.length → (listed.getD j true = true ↔ j < c)) → wpList P L.toArray Q T a w → wpAny P .any L.toArray Q F listed a w := by
  intro T
  induction T with
  | nil =>
    intro c hmc hT F listed a w hF hs hl h
    have hcl : L.length ≤ c := by simpa using hT
    have hn : Region.ready .any L.toArray listed = [] := by
      apply List.eq_nil_iff_forall_not_mem.2
      intro j hj
      obtain ⟨h0, x, hx, _⟩ := mem_ready.1 hj
      have hjl : j < L.length := by have := (Array.getElem?_eq_some_iff.1 hx).1; simpa using this
      rw [(hl j hjl).2 (by omega)] at h0
      cases h0
    cases F with
    | zero => exact ⟨hn, h⟩
    | succ F => exact ⟨fun _ => h, fun i hi => by rw [hn] at hi; cases hi⟩
  | cons o T ih =>
    intro c hmc hT F listed a w hF hs hl h
    have hcl : c < L.length := by
      rcases Nat.lt_or_ge c L.length with h' | h'
      · exact h'
      · rw [List.drop_eq_nil_of_le h'] at hT; cases hT
    have ho : L[c]? = some o := by
      have := congrArg (fun l => l[0]?) hT
      simpa using this
    have hT' : L.drop (c + 1) = T := by
      have := congrArg List.tail hT
      simpa [List.tail_drop] using this
    obtain ⟨F, rfl⟩ : ∃ F', F = F' + 1 := ⟨F - 1, by simp at hF; omega⟩
    have hun : listed.getD c true = false := by
      cases hx : listed.getD c true with
      | false => rfl
      | true => have := (hl c hcl).1 hx; omega
    refine ⟨fun h0 => absurd h0 (ready_some hO hs c hcl hun), fun i hi => ?_⟩
    obtain ⟨h0, x, hx, hall⟩ := mem_ready.1 hi
    have hx' : L[i]? = some x := by simpa using hx
    have hil : i < L.length := (List.getElem?_eq_some_iff.1 hx').1
    have hic : ¬ i < c := fun hh => by rw [(hl i hil).2 hh] at h0; cases h0
    have : i = c := by
      rcases Nat.lt_or_ge c i with hci | hci
      · exfalso
        simp only [seqB, List.all_eq_true, List.mem_range, Bool.or_eq_true, decide_eq_true_eq] at hsq
        have he := (hsq i hil).resolve_left (by omega)
        have h3 := getD_tf (edge_listed he hx' hall)
        have := (hl (i - 1) (by omega)).1 h3
        omega
      · omega
    subst this
    unfold wpOp
    have ho' : L.toArray[i]? = some o := by simpa using ho
    simp only [ho']
    have hl' : ∀ j, j < L.length → ((listed.setIfInBounds i true).getD j true = true ↔ j < i + 1) := by
      intro j hj
      by_cases e : i = j
      · subst e; simp [show i < listed.size by omega]
      · rw [getD_set_ne true e, hl j hj]; omega
    have step : ∀ a' w', wpList P L.toArray Q T a' w' → wpAny P .any L.toArray Q F (listed.setIfInBounds i true) a' w' := fun a' w' hh =>
      ih (i + 1) (by omega) hT' F _ a' w' (by simp at hF; omega) (by simpa using hs) hl' hh
    simp only [wpList] at h
    split at h
    · rename_i hw; rw [if_pos hw]; exact h.imp_left fun h2 => Oper.wp_mono step h2
    · rename_i hw; rw [if_neg hw]; exact step _ _ h

end
end Go.Proofs.Ytnbkdlfkacbfjaa
