import Derived.Lib.QuietBelow
import Derived.BigQuiet
import Derived.Tactics
namespace Go.Proofs.Ytnbkdlfkacbfjaa
open Go Go.RowKit

/-! A region that draws its order, whose operations are quiet but for ONE that waits for all others (a store): one walk of the text's order, then that one operation. -/

def idle (o : Oper) : Oper := { o with op := .move (.const undef) }
def lastB (L : List Oper) (m : Nat) : Bool := decide (m + 1 = L.length) && (List.range m).all fun j => (List.range L.length).any fun k => ((L[k]?).map fun o => o.after.toList.any fun e => Region.binds .any e && e.on == j).getD false
def Closed (L : List Oper) (listed : Array Bool) : Prop := ∀ k x, L[k]? = some x → listed.getD k false = true → ∀ e ∈ x.after, Region.binds .any e = true → listed.getD e.on false = true
def ordB (L : List Oper) : Bool := (List.range L.length).all fun k => ((L[k]?).map fun o => o.after.all fun e => !Region.binds .any e || decide (e.on < k)).getD true

section
variable {P : Program} {C : World → Prop} {L : List Oper} {m : Nat} {o : Oper}

theorem idle_at (h : L[m]? = some o) (i : Nat) : (L.set m (idle o)).toArray[i]? = if m = i then some (idle o) else L.toArray[i]? := by
  have hm : m < L.length := (List.getElem?_eq_some_iff.1 h).1
  simp only [List.getElem?_toArray, List.getElem?_set]
  by_cases e : m = i
  · subst e; simp [hm]
  · simp [e]

theorem idle_after (h : L[m]? = some o) (i : Nat) : ((L.set m (idle o)).toArray[i]?).map (·.after) = (L.toArray[i]?).map (·.after) := by
  rw [idle_at h]
  by_cases e : m = i
  · subst e; simp [h, idle]
  · simp [e]

theorem idle_dst (h : L[m]? = some o) (i : Nat) : ((L.set m (idle o)).toArray[i]?).bind (·.dst) = (L.toArray[i]?).bind (·.dst) := by
  rw [idle_at h]
  by_cases e : m = i
  · subst e; simp [h, idle]
  · simp [e]

theorem yielded_idle (h : L[m]? = some o) (t : Array Value) : yielded (L.set m (idle o)).toArray t = yielded L.toArray t := by
  funext j
  unfold yielded
  rw [idle_dst h]

theorem mem_ready_idle (h : L[m]? = some o) {listed : Array Bool} {i : Nat} : i ∈ Region.ready .any (L.set m (idle o)).toArray listed ↔ i ∈ Region.ready .any L.toArray listed := by
  have ha := idle_after h i
  rw [mem_ready, mem_ready]
  constructor
  · rintro ⟨h0, x, hx, hall⟩
    rw [hx] at ha
    cases hy : L.toArray[i]? with
    | none => rw [hy] at ha; cases ha
    | some y => rw [hy] at ha; simp at ha; exact ⟨h0, y, rfl, fun e he => hall e (by rw [ha]; exact he)⟩
  · rintro ⟨h0, x, hx, hall⟩
    rw [hx] at ha
    cases hy : (L.set m (idle o)).toArray[i]? with
    | none => rw [hy] at ha; cases ha
    | some y => rw [hy] at ha; simp at ha; exact ⟨h0, y, rfl, fun e he => hall e (by rw [← ha]; exact he)⟩

theorem ready_some (hO : ordB L = true) {listed : Array Bool} (hs : listed.size = L.length) : ∀ (k : Nat), k < L.length → listed.getD k true = false → Region.ready .any L.toArray listed ≠ [] := by
  intro k
  induction k using Nat.strongRecOn with
  | ind k ih =>
    intro hk hun
    have hk' : L[k]? = some L[k] := List.getElem?_eq_getElem hk
    have hO' := hO
    simp only [ordB, List.all_eq_true, List.mem_range] at hO'
    have h1 := hO' k hk
    rw [hk'] at h1
    simp only [Option.map_some, Option.getD_some, Array.all_eq_true_iff_forall_mem] at h1
    by_cases hall : ∀ e ∈ L[k].after, Region.binds .any e = true → listed.getD e.on false = true
    · intro he
      have : k ∈ Region.ready .any L.toArray listed := mem_ready.2 ⟨hun, L[k], by simp, hall⟩
      rw [he] at this
      cases this
    · simp only [Classical.not_forall] at hall
      obtain ⟨e, he, hb, hn⟩ := hall
      have h2 := h1 e he
      rw [hb] at h2
      simp at h2
      refine ih e.on h2 (by omega) ?_
      have hlt : e.on < listed.size := by omega
      simp [hlt] at hn ⊢
      exact hn

theorem Closed.set {listed : Array Bool} (hc : Closed L listed) {i : Nat} (hr : i ∈ Region.ready .any L.toArray listed) : Closed L (listed.setIfInBounds i true) := by
  intro k x hx hk e he hb
  obtain ⟨h0, o', ho', hall⟩ := mem_ready.1 hr
  by_cases hki : i = k
  · subst hki
    have : o' = x := by have := ho'.symm.trans (by simpa using hx : L.toArray[i]? = some x); simpa using this
    subst this
    exact getD_set_true (hall e he hb)
  · rw [getD_set_ne false hki] at hk
    exact getD_set_true (hc k x hx hk e he hb)

theorem ready_none (hO : ordB L = true) (hl : lastB L m = true) {listed : Array Bool} (hc : Closed L listed) (hr : m ∈ Region.ready .any L.toArray listed) : Region.ready .any L.toArray (listed.setIfInBounds m true) = [] := by
  obtain ⟨h0, o', ho', hall⟩ := mem_ready.1 hr
  simp only [lastB, Bool.and_eq_true, decide_eq_true_eq, List.all_eq_true, List.mem_range, List.any_eq_true] at hl
  obtain ⟨hml, hl⟩ := hl
  simp only [ordB, List.all_eq_true, List.mem_range] at hO
  have hdown : ∀ d j, j + d + 1 = m → listed.getD j false = true := by
    intro d
    induction d using Nat.strongRecOn with
    | ind d ih =>
      intro j hj
      obtain ⟨k, hk, hx⟩ := hl j (by omega)
      have hk' : L[k]? = some L[k] := List.getElem?_eq_getElem hk
      rw [hk'] at hx
      simp only [Option.map_some, Option.getD_some, List.any_eq_true, Bool.and_eq_true, beq_iff_eq] at hx
      obtain ⟨e, he, hb, hon⟩ := hx
      have he' : e ∈ L[k].after := by simpa using he
      have h1 := hO k hk
      rw [hk'] at h1
      simp only [Option.map_some, Option.getD_some, Array.all_eq_true_iff_forall_mem] at h1
      have h2 := h1 e he'
      rw [hb] at h2
      simp at h2
      by_cases hkm : k = m
      · subst hkm
        have : o' = L[k] := by have := ho'.symm.trans (by simp : L.toArray[k]? = some L[k]); simpa using this
        rw [← hon]
        exact hall e (by rw [this]; exact he') hb
      · have h3 := ih (m - k - 1) (by omega) k (by omega)
        rw [← hon]
        exact hc k L[k] hk' h3 e he' hb
  apply List.eq_nil_iff_forall_not_mem.2
  intro j hj
  obtain ⟨hj0, x, hx, _⟩ := mem_ready.1 hj
  by_cases e : m = j
  · subst e
    have hlt : m < listed.size := by
      rcases Nat.lt_or_ge m listed.size with h' | h'
      · exact h'
      · simp [Array.getElem?_eq_none h'] at h0
    simp [hlt] at hj0
  · rw [getD_set_ne true e] at hj0
    have hjl : j < L.length := by
      have := (Array.getElem?_eq_some_iff.1 hx).1
      simpa using this
    have h3 := hdown (m - j - 1) j (by omega)
    rcases Nat.lt_or_ge j listed.size with h' | h'
    · simp [h'] at hj0 h3; rw [hj0] at h3; cases h3
    · simp [Array.getElem?_eq_none h'] at h3

theorem wpAny_of_tail {Q' : Exit → Act → World → Prop} (h : L[m]? = some o) (hd : o.dst = none) (hg : o.guard = none) (hl : lastB L m = true) (hO : ordB L = true) :
    ∀ (fuel : Nat) (listed : Array Bool) (a : Act) (w : World), C w → listed.size = L.length → Closed L listed → listed.getD m true = false →
      wpAnyQ P .any (L.set m (idle o)).toArray C (fun a' => ∀ w', C w' → wpList P L.toArray Q' [o] a' w') fuel listed a → wpAny P .any L.toArray Q' fuel listed a w := by
  have hml : m < L.length := (List.getElem?_eq_some_iff.1 h).1
  have hnil : ∀ listed : Array Bool, Region.ready .any (L.set m (idle o)).toArray listed = [] ↔ Region.ready .any L.toArray listed = [] := by
    intro listed
    rw [List.eq_nil_iff_forall_not_mem, List.eq_nil_iff_forall_not_mem]
    exact forall_congr' fun i => not_congr (mem_ready_idle h)
  intro fuel
  induction fuel with
  | zero =>
    intro listed a w _ hs _ hun H
    exact absurd ((hnil _).1 H.1) (ready_some hO hs m hml hun)
  | succ fuel ih =>
    intro listed a w hw hs hc hun H
    refine ⟨fun h0 => absurd h0 (ready_some hO hs m hml hun), fun i hi => ?_⟩
    have hq := H.2 i ((mem_ready_idle h).2 hi)
    by_cases e : m = i
    · subst e
      have hn := ready_none hO hl hc hi
      unfold qOp at hq
      rw [idle_at h, if_pos rfl] at hq
      have hwant : Region.wanted (idle o) (yielded (L.set m (idle o)).toArray a.tmps) = true := by simp [Region.wanted, idle, hg]
      simp only [hwant, if_true] at hq
      obtain ⟨v, _, hK⟩ := hq
      have hput : a.put (idle o).dst v = a := by simp [idle, hd, Act.put]
      rw [hput] at hK
      have hQ : ∀ w', C w' → wpList P L.toArray Q' [o] a w' := by
        cases fuel with
        | zero => exact hK.2
        | succ f => exact hK.1 ((hnil _).2 hn)
      have h1 := hQ w hw
      unfold wpOp
      have ho : L.toArray[m]? = some o := by simpa using h
      simp only [ho]
      have hwant' : Region.wanted o (yielded L.toArray a.tmps) = true := by simp [Region.wanted, hg]
      simp only [wpList, hwant', if_true] at h1
      simp only [hwant', if_true]
      refine h1.imp_left fun h2 => Oper.wp_mono (fun a'' w'' h3 => ?_) h2
      cases fuel with
      | zero => exact ⟨hn, h3⟩
      | succ f => exact ⟨fun _ => h3, fun i hi => by rw [hn] at hi; cases hi⟩
    · have hq' : qOp P L.toArray C i (wpAnyQ P .any (L.set m (idle o)).toArray C (fun a' => ∀ w', C w' → wpList P L.toArray Q' [o] a' w') fuel (listed.setIfInBounds i true)) a := by
        unfold qOp at hq ⊢
        rw [idle_at h, if_neg e, yielded_idle h] at hq
        exact hq
      exact wpOp_of_qOp hw (fun a' w' hw' hk => ih _ a' w' hw' (by simpa using hs) (hc.set hi) (by rw [getD_set_ne true (Ne.symm e)]; exact hun) hk) hq'

/-- **ONE WALK OF THE TEXT's ORDER, THEN THE LAST OPERATION.** -/
theorem wp_region_tail {id : Nat} {Q : Exit → Act → World → Prop} {a : Act} {w : World} (m : Nat) (o : Oper) (h : L[m]? = some o) (hd : o.dst = none) (hg : o.guard = none) (hm : P.follows .mixedOrders = true)
    (hl : lastB L m = true) (hO : ordB L = true) (hB : Region.lexB .any (L.set m (idle o)).toArray = true) (hC : C { w with drawn := w.drawn + 1 })
    (hq : wpQuiet P (L.set m (idle o)).toArray C (fun a' => ∀ w', C w' → wpList P L.toArray Q [o] a' w') (L.set m (idle o)) a) : (Code.region id L.toArray true).wp P Q a w := by
  have hml : m < L.length := (List.getElem?_eq_some_iff.1 h).1
  simp only [Region.lexB, Bool.and_eq_true] at hB
  refine wp_region_any hm (wpAny_of_tail h hd hg hl hO _ _ _ _ hC (by simp) (fun k x hx hk => by simp only [Array.getD_eq_getD_getElem?, Array.getElem?_replicate] at hk; split at hk <;> simp at hk) (by simp [hml]) ?_)
  have := wpAnyQ_lex (C := C) (md := .any) hB.1 (L.set m (idle o)) 0 (Array.replicate L.length false) a (by simp) (by simpa using hB.2) hq
  simpa using this

/-- A whole row read, in every world of the class. -/
theorem wpQuiet_load_row {ops : Array Oper} {Q : Act → Prop} {a : Act} {o : Oper} {rest : List Oper} (hgd : o.guard = none) (ty : TypeId) (x : Operand) (ho : o.op = .load ty x)
    (g : Nat) (hx : a.eval x = .pointer (some ⟨g, 0, none⟩)) (t : TypeId) (cs : Array Value) (fr : Nat × Nat) (d : TypeDesc) (hg : ∀ w, C w → w.heap[g]? = some (.cells cs t fr))
    (hu : P.underlying ty = some d) (hd : (match d with | .struct _ | .array _ _ => true | _ => false) = true) (hi : (P.info? ty).map (·.size) = some cs.size)
    (h : wpQuiet P ops C Q rest (a.put o.dst (.agg cs))) : wpQuiet P ops C Q (o :: rest) a := by
  refine BigFrame.wpQuiet_want (by simp [Region.wanted, hgd]) fun K hK => ⟨.agg cs, fun w hw => ?_, hK _ h⟩
  unfold Oper.quietAt execOp
  simp only [ho, hx, Instr.loadAt, Instr.sureAddr, Sem.run_bind, Sem.run_pure, Result.andThen_ok, run_loadVar_row w g t ty cs fr d (hg w hw) hu hd hi]
  exact ⟨rfl, rfl⟩
/-- A call by its contract: the value is one, whatever world of the class it is made in. -/
theorem wpQuiet_idle {ops : Array Oper} {Q : Act → Prop} {a : Act} {o : Oper} (hd : o.dst = none) (hg : o.guard = none) (hop : o.op = .move (.const undef)) (hQ : Q a) : wpQuiet P ops C Q [o] a := by
  refine BigFrame.wpQuiet_want (by simp [Region.wanted, hg]) fun K hK => BigFrame.quiet_move (.const undef) hop (hK _ ?_)
  have hput : a.put o.dst (a.eval (.const undef)) = a := by simp [hd, Act.put]
  rw [hput]
  exact hQ

end
end Go.Proofs.Ytnbkdlfkacbfjaa
