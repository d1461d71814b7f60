import Derived.Test.YtnbkdlfkacbfjaaAlloc
namespace Go.Proofs.Ytnbkdlfkacbfjaa
open Go Go.RowKit Go.Sort

section
variable {P : Program}

theorem put_ne (a : Act) (x : Option Tmp) (v : Value) (d : Tmp) (h : x ≠ some d) : (a.put x v).tmps[d]? = a.tmps[d]? := by
  cases x with
  | none => rfl
  | some e =>
    have : e ≠ d := fun h' => h (by rw [h'])
    simp [Act.put, Array.getElem?_setIfInBounds_ne this]
theorem put_same (a : Act) (x : Option Tmp) (v v1 : Value) (h : ∀ d, x = some d → (a.put x v).tmps[d]? = (a.put x v1).tmps[d]?) : a.put x v = a.put x v1 := by
  cases x with
  | none => rfl
  | some d =>
    have h1 := h d rfl
    rcases Nat.lt_or_ge d a.tmps.size with hd | hd
    · simp [Act.put, hd] at h1
      rw [h1]
    · simp [Act.put, Array.setIfInBounds_eq_of_size_le hd]

theorem slot_kept {ops : Array Oper} {C : World → Prop} {af : Act} {d : Tmp} : ∀ (k : Nat) (listed : Array Bool) (a : Act), wpAnyQ P .any ops C (fun x => x = af) k listed a →
    (∀ i o, ops[i]? = some o → listed.getD i true = false → o.dst ≠ some d) → af.tmps[d]? = a.tmps[d]? := by
  intro k
  induction k with
  | zero => intro listed a H _; rw [H.2]
  | succ k ih =>
    intro listed a H hd
    cases hr : Region.ready .any ops listed with
    | nil => rw [H.1 hr]
    | cons i l =>
      have hi : i ∈ Region.ready .any ops listed := by rw [hr]; simp
      obtain ⟨h0, o, ho, _⟩ := mem_ready.1 hi
      obtain ⟨v, _, hK⟩ := yieldsIn_of_qOp ho (H.2 i hi)
      rw [ih _ _ hK (fun j o' ho' hun => hd j o' ho' (by
        by_cases e : i = j
        · subst e; exact h0
        · rw [getD_set_ne true e] at hun; exact hun)), put_ne _ _ _ _ (hd i o ho h0)]

theorem any_irrel {ops : Array Oper} {C : World → Prop} {R : Act → Prop} {i : Nat} (hi : ops.size ≤ i) (hO : ∀ (j : Nat) (o : Oper), ops[j]? = some o → ∀ e ∈ o.after, Region.binds .any e = true → e.on < j) :
    ∀ (k : Nat) (listed : Array Bool) (a : Act), wpAnyQ P .any ops C R k listed a → wpAnyQ P .any ops C R k (listed.setIfInBounds i true) a := by
  have hm : ∀ (listed : Array Bool) (j : Nat), j ∈ Region.ready .any ops (listed.setIfInBounds i true) ↔ j ∈ Region.ready .any ops listed := by
    intro listed j
    rw [mem_ready, mem_ready]
    constructor
    · rintro ⟨h0, o, ho, hall⟩
      have hj : j < ops.size := (Array.getElem?_eq_some_iff.1 ho).1
      rw [getD_set_ne true (show i ≠ j by omega)] at h0
      exact ⟨h0, o, ho, fun e he hb => by have h1 := hall e he hb; have := hO j o ho e he hb; rwa [getD_set_ne false (show i ≠ e.on by omega)] at h1⟩
    · rintro ⟨h0, o, ho, hall⟩
      have hj : j < ops.size := (Array.getElem?_eq_some_iff.1 ho).1
      exact ⟨by rw [getD_set_ne true (show i ≠ j by omega)]; exact h0, o, ho, fun e he hb => getD_set_true (hall e he hb)⟩
  have hn : ∀ listed : Array Bool, Region.ready .any ops (listed.setIfInBounds i true) = [] ↔ Region.ready .any ops listed = [] := by
    intro listed
    rw [List.eq_nil_iff_forall_not_mem, List.eq_nil_iff_forall_not_mem]
    exact forall_congr' fun j => not_congr (hm listed j)
  intro k
  induction k with
  | zero => intro listed a H; exact ⟨(hn _).2 H.1, H.2⟩
  | succ k ih =>
    intro listed a H
    refine ⟨fun h => H.1 ((hn _).1 h), fun j hj => ?_⟩
    have hj' := (hm listed j).1 hj
    obtain ⟨_, o, ho, _⟩ := mem_ready.1 hj'
    have hjs : j < ops.size := (Array.getElem?_eq_some_iff.1 ho).1
    rw [Array.setIfInBounds_comm _ _ (show i ≠ j by omega)]
    exact qOp_mono (fun a' h => ih _ a' h) (H.2 j hj')

variable {L : List Oper} {q m : Nat} {Ts : List Tmp}

theorem take_at {i : Nat} (hi : i < q) : (L.take q).toArray[i]? = L.toArray[i]? := by
  simp [hi]

theorem wanted_take {i : Nat} {o : Oper} (hg : gdB L q = true) (ho : L[i]? = some o) (hi : i < q) (t : Array Value) : Region.wanted o (yielded (L.take q).toArray t) = Region.wanted o (yielded L.toArray t) := by
  have hmem : o ∈ L.take q := List.mem_iff_getElem?.2 ⟨i, by rw [List.getElem?_take, if_pos hi]; exact ho⟩
  simp only [gdB, List.all_eq_true] at hg
  have h1 := hg o hmem
  unfold Region.wanted
  cases hgd : o.guard with
  | none => rfl
  | some p =>
    obtain ⟨j, b⟩ := p
    rw [hgd] at h1
    simp at h1
    have : yielded (L.take q).toArray t j = yielded L.toArray t j := by
      unfold yielded
      rw [take_at h1]
    simp only [this]

theorem ap_look (h : apB L q Ts = true) {i : Nat} {o : Oper} (ho : L[i]? = some o) (hi : i < q) {t : Tmp} (ht : t ∈ Ts) : t ∉ o.looksAt L.toArray ∧ o.dst ≠ some t := by
  have hmem : o ∈ L.take q := List.mem_iff_getElem?.2 ⟨i, by rw [List.getElem?_take, if_pos hi]; exact ho⟩
  simp only [apB, List.all_eq_true] at h
  have h1 := h o hmem t ht
  simpa using h1

theorem exec_puts (o : Oper) (hs : ∀ cs b, o.op ≠ .select cs b) (l : List (Tmp × Value)) : ∀ a : Act, (∀ p ∈ l, p.1 ∉ o.looksAt L.toArray) → execOp (puts a l).eval o = execOp a.eval o := by
  induction l with
  | nil => intro a _; rfl
  | cons p l ih =>
    intro a h
    show execOp (puts (a.put (some p.1) p.2) l).eval o = _
    rw [ih _ (fun p' hp => h p' (by simp [hp])), execOp_put (ops := L.toArray) o hs a (some p.1) p.2 (fun d hd => by injection hd with hd; subst hd; exact h p (by simp))]
theorem wanted_puts (o : Oper) (l : List (Tmp × Value)) : ∀ a : Act, (∀ p ∈ l, p.1 ∉ o.looksAt L.toArray) → Region.wanted o (yielded L.toArray (puts a l).tmps) = Region.wanted o (yielded L.toArray a.tmps) := by
  induction l with
  | nil => intro a _; rfl
  | cons p l ih =>
    intro a h
    show Region.wanted o (yielded L.toArray (puts (a.put (some p.1) p.2) l).tmps) = _
    rw [ih _ (fun p' hp => h p' (by simp [hp])), wanted_put (ops := L.toArray) o a (some p.1) p.2 (fun d hd => by injection hd with hd; subst hd; exact h p (by simp))]

theorem ds_ne (h : dsB L q = true) {i j : Nat} {o o' : Oper} (hi : i < q) (hj : j < q) (ho : L[i]? = some o) (ho' : L[j]? = some o') (hij : i ≠ j) {d : Tmp} (hd : o.dst = some d) : o'.dst ≠ some d := by
  intro hd'
  simp only [dsB, decide_eq_true_eq] at h
  have key : ∀ (l : List Oper), (l.filterMap (·.dst)).Nodup → ∀ (i j : Nat), i < j → l[i]? = some o → l[j]? = some o' → False := by
    intro l
    induction l with
    | nil => intro _ i j _ h1; simp at h1
    | cons x l ih =>
      intro hn i j hlt h1 h2
      cases i with
      | zero =>
        simp at h1
        subst h1
        obtain ⟨j, rfl⟩ : ∃ j', j = j' + 1 := ⟨j - 1, by omega⟩
        simp at h2
        rw [List.filterMap_cons, hd] at hn
        simp only [List.nodup_cons] at hn
        exact hn.1 (List.mem_filterMap.2 ⟨o', List.mem_iff_getElem?.2 ⟨j, h2⟩, hd'⟩)
      | succ i =>
        obtain ⟨j, rfl⟩ : ∃ j', j = j' + 1 := ⟨j - 1, by omega⟩
        simp at h1 h2
        refine ih ?_ i j (by omega) h1 h2
        rw [List.filterMap_cons] at hn
        cases hx : x.dst with
        | none => simpa [hx] using hn
        | some _ => rw [hx] at hn; simp only [List.nodup_cons] at hn; exact hn.2
  have hi' : (L.take q)[i]? = some o := by rw [List.getElem?_take, if_pos hi]; exact ho
  have hj' : (L.take q)[j]? = some o' := by rw [List.getElem?_take, if_pos hj]; exact ho'
  rcases Nat.lt_or_ge i j with hlt | hge
  · exact key _ h i j hlt hi' hj'
  · have key2 : ∀ (l : List Oper), (l.filterMap (·.dst)).Nodup → ∀ (i j : Nat), j < i → l[i]? = some o → l[j]? = some o' → False := by
      intro l
      induction l with
      | nil => intro _ i j _ h1; simp at h1
      | cons x l ih =>
        intro hn i j hlt h1 h2
        cases j with
        | zero =>
          simp at h2
          subst h2
          obtain ⟨i, rfl⟩ : ∃ j', i = j' + 1 := ⟨i - 1, by omega⟩
          simp at h1
          rw [List.filterMap_cons, hd'] at hn
          simp only [List.nodup_cons] at hn
          exact hn.1 (List.mem_filterMap.2 ⟨o, List.mem_iff_getElem?.2 ⟨i, h1⟩, hd⟩)
        | succ j =>
          obtain ⟨i, rfl⟩ : ∃ j', i = j' + 1 := ⟨i - 1, by omega⟩
          simp at h1 h2
          refine ih ?_ i j (by omega) h1 h2
          rw [List.filterMap_cons] at hn
          cases hx : x.dst with
          | none => simpa [hx] using hn
          | some _ => rw [hx] at hn; simp only [List.nodup_cons] at hn; exact hn.2
    exact key2 _ h i j (by omega) hi' hj'

end
end Go.Proofs.Ytnbkdlfkacbfjaa
