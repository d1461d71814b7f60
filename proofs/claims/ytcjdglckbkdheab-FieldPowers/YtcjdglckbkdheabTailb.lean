import Derived.Test.YtcjdglckbkdheabTail
namespace Go.Proofs.Ytcjdglckbkdheab
open Go Go.RowKit

/-! A region that draws its order: quiet but for one store, which waits for all others but for one part that is taken out of a tuple. -/

def lastB2 (L : List Oper) (m x : Nat) : Bool := decide (m + 1 = L.length) && decide (x < m) && (List.range m).all fun j => j == x || (List.range L.length).any fun k => k != x && ((L[k]?).map fun o => o.after.toList.any fun e => Region.binds .any e && e.on == j).getD false

section
variable {P : Program} {C : World → Prop} {L : List Oper} {m x : Nat} {o ox : Oper}

theorem listed_x (hO : ordB L = true) (hl : lastB2 L m x = true) {listed : Array Bool} (hc : Closed L listed) (hr : m ∈ Region.ready .any L.toArray listed) : ∀ j, j < m → j ≠ x → listed.getD j false = true := by
  obtain ⟨h0, o', ho', hall⟩ := mem_ready.1 hr
  simp only [lastB2, Bool.and_eq_true, Bool.or_eq_true, decide_eq_true_eq, List.all_eq_true, List.mem_range, List.any_eq_true, bne_iff_ne, beq_iff_eq] at hl
  obtain ⟨⟨hml, hxm⟩, hl⟩ := hl
  simp only [ordB, List.all_eq_true, List.mem_range] at hO
  have hdown : ∀ d j, j + d + 1 = m → j ≠ x → listed.getD j false = true := by
    intro d
    induction d using Nat.strongRecOn with
    | ind d ih =>
      intro j hj hjx
      obtain ⟨k, hk, hkx, hx⟩ := (hl j (by omega)).resolve_left hjx
      have hk' : L[k]? = some L[k] := List.getElem?_eq_getElem hk
      rw [hk'] at hx
      simp only [Option.map_some, Option.getD_some, List.any_eq_true, Bool.and_eq_true, beq_iff_eq] at hx
      obtain ⟨e, he, hb, hon⟩ := hx
      have he' : e ∈ L[k].after := by simpa using he
      have h1 := hO k hk
      rw [hk'] at h1
      simp only [Option.map_some, Option.getD_some, Array.all_eq_true_iff_forall_mem] at h1
      have h2 := h1 e he'
      rw [hb] at h2
      simp at h2
      by_cases hkm : k = m
      · subst hkm
        have : o' = L[k] := by have := ho'.symm.trans (by simp : L.toArray[k]? = some L[k]); simpa using this
        rw [← hon]
        exact hall e (by rw [this]; exact he') hb
      · have h3 := ih (m - k - 1) (by omega) k (by omega) hkx
        rw [← hon]
        exact hc k L[k] hk' h3 e he' hb
  intro j hj hx
  exact hdown (m - j - 1) j (by omega) hx
theorem ready_x (hO : ordB L = true) (hl : lastB2 L m x = true) {listed : Array Bool} (hc : Closed L listed) (hr : m ∈ Region.ready .any L.toArray listed) : ∀ j ∈ Region.ready .any L.toArray (listed.setIfInBounds m true), j = x := by
  have hdown := listed_x hO hl hc hr
  obtain ⟨h0, _⟩ := mem_ready.1 hr
  simp only [lastB2, Bool.and_eq_true, decide_eq_true_eq] at hl
  intro j hj
  obtain ⟨hj0, y, hx, _⟩ := mem_ready.1 hj
  by_cases hjx : j = x
  · exact hjx
  exfalso
  by_cases e : m = j
  · subst e
    have hlt : m < listed.size := by
      rcases Nat.lt_or_ge m listed.size with h' | h'
      · exact h'
      · simp [Array.getElem?_eq_none h'] at h0
    simp [hlt] at hj0
  · rw [getD_set_ne true e] at hj0
    have hjl : j < L.length := by
      have := (Array.getElem?_eq_some_iff.1 hx).1
      simpa using this
    have h3 := hdown j (by omega) hjx
    rcases Nat.lt_or_ge j listed.size with h' | h'
    · simp [h'] at hj0 h3; rw [hj0] at h3; cases h3
    · simp [Array.getElem?_eq_none h'] at h3

/-- A part of a tuple is the same in every world. -/
theorem extract_same {t : Operand} {i : Nat} (hx : ox.op = .extract t i) (a : Act) {v : Value} {w w' : World} (h : ox.quietAt P a C w v) : (execOp a.eval ox).run P w' = .ok (.value v) w' := by
  unfold Oper.quietAt at h
  unfold execOp at *
  simp only [hx] at h ⊢
  unfold Instr.extract at *
  cases hE : a.eval t <;> rw [hE] at h <;> try (simp [Oper.quietUpon, go_sem] at h; done)
  rename_i vs
  simp only at *
  cases hv : vs[i]? with
  | none => rw [hv] at h; simp [Oper.quietUpon, go_sem] at h
  | some u => rw [hv] at h; simp [Oper.quietUpon, go_sem] at h; subst h; simp [go_sem]

theorem put_eval {a : Act} {d t : Tmp} {v : Value} (h : t ≠ d) : (a.put (some d) v).eval (.tmp t) = a.eval (.tmp t) := by
  simp only [Act.eval, Act.put]
  simp [Array.getD_eq_getD_getElem?, Ne.symm h]
theorem store_same {ty : TypeId} {s t : Tmp} (ho : o.op = .store ty (.tmp s) (.tmp t)) {d : Tmp} (hs : s ≠ d) (ht : t ≠ d) (a : Act) (v : Value) : execOp (a.put (some d) v).eval o = execOp a.eval o := by
  unfold execOp
  simp only [ho, put_eval hs, put_eval ht]

theorem wpAny_of_tail2 {Q' : Exit → Act → World → Prop} (h : L[m]? = some o) (hX : L[x]? = some ox) {tp : Operand} {i : Nat} (hox : ox.op = .extract tp i) {dx : Tmp} (hdx : ox.dst = some dx) (hgx : ox.guard = none) {ty : TypeId} {s t : Tmp} (hos : o.op = .store ty (.tmp s) (.tmp t)) (hs' : s ≠ dx) (ht : t ≠ dx)
    (hd : o.dst = none) (hg : o.guard = none) (hl : lastB2 L m x = true) (hO : ordB L = true) :
    ∀ (fuel : Nat) (listed : Array Bool) (a : Act) (w : World), C w → listed.size = L.length → Closed L listed → listed.getD m true = false →
      wpAnyQ P .any (L.set m (idle o)).toArray C (fun a' => ∀ w', C w' → ∃ w'', (execOp a'.eval o).run P w' = .ok .skip w'' ∧ Q' .normal a' w'') fuel listed a → wpAny P .any L.toArray Q' fuel listed a w := by
  have hml : m < L.length := (List.getElem?_eq_some_iff.1 h).1
  have hxm : x ≠ m := by
    simp only [lastB2, Bool.and_eq_true, decide_eq_true_eq] at hl
    omega
  have hnil : ∀ listed : Array Bool, Region.ready .any (L.set m (idle o)).toArray listed = [] ↔ Region.ready .any L.toArray listed = [] := by
    intro listed
    rw [List.eq_nil_iff_forall_not_mem, List.eq_nil_iff_forall_not_mem]
    exact forall_congr' fun i => not_congr (mem_ready_idle h)
  intro fuel
  induction fuel with
  | zero =>
    intro listed a w _ hs _ hun H
    exact absurd ((hnil _).1 H.1) (ready_some hO hs m hml hun)
  | succ fuel ih =>
    intro listed a w hw hs hc hun H
    refine ⟨fun h0 => absurd h0 (ready_some hO hs m hml hun), fun i hi => ?_⟩
    have hq := H.2 i ((mem_ready_idle h).2 hi)
    by_cases e : m = i
    · subst e
      have hn := ready_x hO hl hc hi
      unfold qOp at hq
      rw [idle_at h, if_pos rfl] at hq
      have hwant : Region.wanted (idle o) (yielded (L.set m (idle o)).toArray a.tmps) = true := by simp [Region.wanted, idle, hg]
      simp only [hwant, if_true] at hq
      obtain ⟨v, _, hK⟩ := hq
      have hput : a.put (idle o).dst v = a := by simp [idle, hd, Act.put]
      rw [hput] at hK
      have ho : L.toArray[m]? = some o := by simpa using h
      have hwant' : Region.wanted o (yielded L.toArray a.tmps) = true := by simp [Region.wanted, hg]
      unfold wpOp
      simp only [ho, hwant', if_true]
      left
      unfold Oper.wp
      by_cases hr : Region.ready .any L.toArray (listed.setIfInBounds m true) = []
      · have hQ : ∀ w', C w' → ∃ w'', (execOp a.eval o).run P w' = .ok .skip w'' ∧ Q' .normal a w'' := by
          cases fuel with
          | zero => exact hK.2
          | succ f => exact hK.1 ((hnil _).2 hr)
        obtain ⟨w'', h1, h2⟩ := hQ w hw
        rw [h1, Oper.upon_skip, hd]
        cases fuel with
        | zero => exact ⟨hr, h2⟩
        | succ f => exact ⟨fun _ => h2, fun i hi => by rw [hr] at hi; cases hi⟩
      · obtain ⟨j, hj⟩ := List.exists_mem_of_ne_nil _ hr
        obtain rfl := hn j hj
        cases fuel with
        | zero => exact absurd ((hnil _).1 hK.1) hr
        | succ f =>
          have hq := hK.2 j ((mem_ready_idle h).2 hj)
          unfold qOp at hq
          have hoj : L.toArray[j]? = some ox := by simpa using hX
          rw [idle_at h, if_neg (Ne.symm hxm), hoj] at hq
          have hwant2 : ∀ y, Region.wanted ox y = true := by intro y; simp [Region.wanted, hgx]
          simp only [hwant2, if_true] at hq
          obtain ⟨u, hu, hK2⟩ := hq
          have hrun : ∀ w', (execOp a.eval ox).run P w' = .ok (.value u) w' := fun w' => extract_same hox a (hu w hw)
          rw [hdx] at hK2
          have hr2 : Region.ready .any L.toArray ((listed.setIfInBounds m true).setIfInBounds j true) = [] := by
            apply List.eq_nil_iff_forall_not_mem.2
            intro k hk
            obtain ⟨k0, y, hy, _⟩ := mem_ready.1 hk
            have hjk : j ≠ k := by
              intro e
              subst e
              have : j < listed.size := by
                have := (List.getElem?_eq_some_iff.1 hX).1
                omega
              simp [this] at k0
            rw [getD_set_ne true hjk] at k0
            have hkm : m ≠ k := by
              intro e'
              subst e'
              have hlt : m < listed.size := by omega
              simp [hlt] at k0
            rw [getD_set_ne true hkm] at k0
            have hkl : k < L.length := by
              have := (Array.getElem?_eq_some_iff.1 hy).1
              simpa using this
            have h3 := listed_x hO hl hc hi k (by simp only [lastB2, Bool.and_eq_true, decide_eq_true_eq] at hl; omega) (Ne.symm hjk)
            have h' : k < listed.size := by omega
            simp [h'] at k0 h3
            rw [k0] at h3
            cases h3
          have hQ : ∀ w', C w' → ∃ w'', (execOp (a.put (some dx) u).eval o).run P w' = .ok .skip w'' ∧ Q' .normal (a.put (some dx) u) w'' := by
            cases f with
            | zero => exact hK2.2
            | succ f => exact hK2.1 ((hnil _).2 hr2)
          obtain ⟨w'', h1, h2⟩ := hQ w hw
          rw [store_same hos hs' ht] at h1
          rw [h1, Oper.upon_skip, hd]
          refine ⟨fun h0 => absurd h0 hr, fun i hi => ?_⟩
          obtain rfl := hn i hi
          unfold wpOp
          simp only [hoj, hwant2, if_true]
          left
          unfold Oper.wp
          have hp : a.put none undef = a := rfl
          rw [hp, hrun w'', Oper.upon_value, hdx]
          cases f with
          | zero => exact ⟨hr2, h2⟩
          | succ f => exact ⟨fun _ => h2, fun i hi => by rw [hr2] at hi; cases hi⟩
    · have hq' : qOp P L.toArray C i (wpAnyQ P .any (L.set m (idle o)).toArray C (fun a' => ∀ w', C w' → ∃ w'', (execOp a'.eval o).run P w' = .ok .skip w'' ∧ Q' .normal a' w'') fuel (listed.setIfInBounds i true)) a := by
        unfold qOp at hq ⊢
        rw [idle_at h, if_neg e, yielded_idle h] at hq
        exact hq
      exact wpOp_of_qOp hw (fun a' w' hw' hk => ih _ a' w' hw' (by simpa using hs) (hc.set hi) (by rw [getD_set_ne true (Ne.symm e)]; exact hun) hk) hq'

/-- **ONE WALK OF THE TEXT's ORDER, THEN THE STORE.** -/
theorem wp_region_tail2 {id : Nat} {Q : Exit → Act → World → Prop} {a : Act} {w : World} (m x : Nat) (o ox : Oper) (h : L[m]? = some o) (hX : L[x]? = some ox) (tp : Operand) (i : Nat) (hox : ox.op = .extract tp i) (dx : Tmp) (hdx : ox.dst = some dx) (hgx : ox.guard = none) (ty : TypeId) (s t : Tmp) (hos : o.op = .store ty (.tmp s) (.tmp t)) (hs : s ≠ dx) (ht : t ≠ dx)
    (hd : o.dst = none) (hg : o.guard = none) (hm : P.follows .mixedOrders = true) (hl : lastB2 L m x = true) (hO : ordB L = true) (hB : Region.lexB .any (L.set m (idle o)).toArray = true) (hC : C { w with drawn := w.drawn + 1 })
    (hq : wpQuiet P (L.set m (idle o)).toArray C (fun a' => ∀ w', C w' → ∃ w'', (execOp a'.eval o).run P w' = .ok .skip w'' ∧ Q .normal a' w'') (L.set m (idle o)) a) : (Code.region id L.toArray true).wp P Q a w := by
  have hml : m < L.length := (List.getElem?_eq_some_iff.1 h).1
  simp only [Region.lexB, Bool.and_eq_true] at hB
  refine wp_region_any hm (wpAny_of_tail2 h hX hox hdx hgx hos hs ht hd hg hl hO _ _ _ _ hC (by simp) (fun k x hx hk => by simp only [Array.getD_eq_getD_getElem?, Array.getElem?_replicate] at hk; split at hk <;> simp at hk) (by simp [hml]) ?_)
  have := wpAnyQ_lex (C := C) (md := .any) hB.1 (L.set m (idle o)) 0 (Array.replicate L.length false) a (by simp) (by simpa using hB.2) hq
  simpa using this
theorem run_store_op {a : Act} {w : World} (ty : TypeId) (x y : Operand) (ho : o.op = .store ty x y) (g : Nat) (cells : Array Value) (hx : a.eval x = .pointer (some ⟨g, 0, none⟩)) (hy : a.eval y = .agg cells)
    (t : TypeId) (old : Array Value) (hg : w.heap[g]? = some (.cells old t (0, 0))) (hi : (P.info? ty).map (·.size) = some cells.size) (hold : old.size = cells.size) (h1 : cells.all (·.oneCell') = true) : (execOp a.eval o).run P w = .ok .skip (w.setRow g cells) := by
  unfold execOp
  simp only [ho, hx, hy, Instr.storeAt, Instr.sureAddr, Sem.run_bind, Sem.run_pure, Result.andThen_ok, run_storeVar_row w g t ty old cells hg hi hold h1]
end
end Go.Proofs.Ytcjdglckbkdheab
