import Derived.Test.YtnbkdlfkacbfjaaAlloc2
namespace Go.Proofs.Ytnbkdlfkacbfjaa
open Go Go.RowKit Go.Sort

section
variable {P : Program} {L : List Oper} {q m : Nat} {Ts : List Tmp}

def ptrs (g : Tmp → Nat) (l : List Tmp) : List (Tmp × Value) := l.map fun t => (t, .pointer (some ⟨g t, 0, none⟩))
theorem ptrs_keys (g : Tmp → Nat) : ∀ l : List Tmp, (ptrs g l).map (·.1) = l
  | [] => rfl
  | t :: l => congrArg (t :: ·) (ptrs_keys g l)
theorem ptrs_key {g : Tmp → Nat} {l : List Tmp} {p : Tmp × Value} (h : p ∈ ptrs g l) : p.1 ∈ l := by
  simp only [ptrs, List.mem_map] at h
  obtain ⟨t, ht, rfl⟩ := h
  exact ht

theorem nodup_len : ∀ (l l' : List Tmp), l.Nodup → (∀ x ∈ l, x ∈ l') → l.length ≤ l'.length
  | [], _, _, _ => Nat.zero_le _
  | x :: l, l', hn, h => by
    have hn' := List.nodup_cons.1 hn
    have hx := h x (by simp)
    have ih := nodup_len l (l'.erase x) hn'.2 (fun y hy => (List.mem_erase_of_ne (fun e => by subst e; exact hn'.1 hy)).2 (h y (by simp [hy])))
    rw [List.length_erase_of_mem hx] at ih
    have := List.length_pos_of_mem hx
    simp
    omega

/-- What is known of the operations that lay a block. -/
def Lays (P : Program) (L : List Oper) (q m : Nat) (Ts : List Tmp) (zb : Tmp → Obj) : Prop :=
  ∀ s, q ≤ s → s < m → ∃ o t, L[s]? = some o ∧ o.dst = some t ∧ o.guard = none ∧ Ts[s - q]? = some t ∧ ∀ (a : Act) (w : World), (execOp a.eval o).run P w = .ok (.value (.pointer (some ⟨w.heap.size, 0, none⟩))) (w.alloc (zb t))

theorem hp_new (w : World) (o : Obj) : (w.alloc o).heap[w.heap.size]? = some o := by
  show (w.heap.push o)[w.heap.size]? = _
  rw [Array.getElem?_push, if_pos rfl]

theorem alloc_go {w0 : World} {af : Act} {Q : Exit → Act → World → Prop} {zb : Tmp → Obj} (hqm : q ≤ m) (hml : m < L.length) (hO : ordB L = true) (hap : apB L q Ts = true) (hgd : gdB L q = true) (hds : dsB L q = true) (hdn : downB L m = true) (hsq : seqB L m = true)
    (hns : Region.noSelect L.toArray = true) (hTl : Ts.length = m - q) (hTn : Ts.Nodup) (hal : Lays P L q m Ts zb)
    (hfin : ∀ (w : World) (g : Tmp → Nat), Below w0.heap.size w0 w → (∀ t ∈ Ts, w0.heap.size ≤ g t ∧ w.heap[g t]? = some (zb t)) → (∀ t ∈ Ts, ∀ t' ∈ Ts, t ≠ t' → g t ≠ g t') → wpList P L.toArray Q (L.drop m) (puts af (ptrs g Ts)) w) :
    ∀ (F k : Nat) (listed : Array Bool) (a : Act) (w : World) (done : List Tmp) (g : Tmp → Nat), k + (m - q - done.length) + (L.length - m) ≤ F → listed.size = L.length → Closed L listed →
      (∀ j, m ≤ j → j < L.length → listed.getD j true = false) → (∀ w1, Below w0.heap.size w0 w1 → wpAnyQ P .any (L.take q).toArray (Cl w1) (fun x => x = af) k listed a) → Below w0.heap.size w0 w →
      done.Nodup → (∀ s, q ≤ s → s < m → ∀ t, Ts[s - q]? = some t → (listed.getD s true = true ↔ t ∈ done)) → (∀ t ∈ done, t ∈ Ts) →
      (∀ t ∈ done, w0.heap.size ≤ g t ∧ w.heap[g t]? = some (zb t)) → (∀ t ∈ done, ∀ t' ∈ done, t ≠ t' → g t ≠ g t') →
      wpAny P .any L.toArray Q F listed (puts a (ptrs g done)) w := by
  have hml' : ∀ listed : Array Bool, listed.getD m true = false → listed.getD m false = false := fun listed h => by
    cases hx : listed.getD m false with
    | false => rfl
    | true => rw [getD_tf hx] at h; cases h
  have hT0 : (L.take q).length = q := by simp; omega
  intro F
  induction F with
  | zero => intro k listed a w done g hF; omega
  | succ F ih =>
    intro k listed a w done g hF hs hc hT H1 hbw hdn' hd2 hd3 hd4 hd5
    have hm0 := hml' listed (hT m (Nat.le_refl _) hml)
    by_cases hmr : m ∈ Region.ready .any L.toArray listed
    · -- all is done but what stands at the end
      have hall := all_before hO hdn hc hmr
      have hn0 : Region.ready .any (L.take q).toArray listed = [] := by
        apply List.eq_nil_iff_forall_not_mem.2
        intro j hj
        obtain ⟨h0, x, hx, _⟩ := mem_ready.1 hj
        have hjq : j < q := by have := (Array.getElem?_eq_some_iff.1 hx).1; simp at this; omega
        rw [getD_tf (hall j (by omega))] at h0
        cases h0
      have haf : a = af := by
        have h := H1 w hbw
        cases k with
        | zero => exact h.2
        | succ k => exact h.1 hn0
      have hperm : done.Perm Ts := by
        refine (List.perm_ext_iff_of_nodup hdn' hTn).2 fun t => ⟨hd3 t, fun ht => ?_⟩
        obtain ⟨i, hi⟩ := List.mem_iff_getElem?.1 ht
        have hil : i < m - q := by rw [← hTl]; exact (List.getElem?_eq_some_iff.1 hi).1
        exact (hd2 (q + i) (by omega) (by omega) t (by rw [show q + i - q = i by omega]; exact hi)).1 (getD_tf (hall (q + i) (by omega)))
      have hputs : puts a (ptrs g done) = puts af (ptrs g Ts) := by
        rw [haf]
        refine puts_perm (hperm.map _) af ?_
        have hk := ptrs_keys g done
        unfold ptrs at hk
        rw [hk]; exact hdn'
      rw [hputs]
      have hmem := fun t (ht : t ∈ Ts) => hperm.mem_iff.2 ht
      refine tail_seq hO hsq _ m (Nat.le_refl _) rfl (F + 1) listed _ w (by simp; omega) hs (fun j hj => ?_) (hfin w g hbw (fun t ht => hd4 t (hmem t ht)) (fun t ht t' ht' hne => hd5 t (hmem t ht) t' (hmem t' ht') hne))
      constructor
      · intro h
        rcases Nat.lt_or_ge j m with h' | h'
        · exact h'
        · rw [hT j h' hj] at h; cases h
      · intro h; exact getD_tf (hall j h)
    · refine ⟨fun h0 => absurd h0 (ready_some hO hs m hml (hT m (Nat.le_refl _) hml)), fun i hi => ?_⟩
      have him := late_not hsq hc hm0 i hi
      have hine : i ≠ m := fun e => hmr (e ▸ hi)
      obtain ⟨h0, o, ho', hall⟩ := mem_ready.1 hi
      have ho : L[i]? = some o := by simpa using ho'
      have hs' : (listed.setIfInBounds i true).size = L.length := by simpa using hs
      have hc' := hc.set hi
      have hT' : ∀ j, m ≤ j → j < L.length → (listed.setIfInBounds i true).getD j true = false := fun j h1 h2 => by rw [getD_set_ne true (show i ≠ j by omega)]; exact hT j h1 h2
      rcases Nat.lt_or_ge i q with hiq | hiq
      · -- a quiet operation
        have hi0 : i ∈ Region.ready .any (L.take q).toArray listed := mem_ready.2 ⟨h0, o, by rw [take_at hiq]; exact ho', hall⟩
        have ho0 : (L.take q).toArray[i]? = some o := by rw [take_at hiq]; exact ho'
        obtain ⟨k, rfl⟩ : ∃ k', k = k' + 1 := by
          cases k with
          | zero => have h := (H1 w hbw).1; rw [h] at hi0; cases hi0
          | succ k => exact ⟨k, rfl⟩
        have hY := fun w1 hw1 => yieldsIn_of_qOp ho0 ((H1 w1 hw1).2 i hi0)
        obtain ⟨v, hv, hK⟩ := hY w hbw
        have hdst : ∀ d, o.dst = some d → ∀ (j : Nat) (x : Oper), (L.take q).toArray[j]? = some x → (listed.setIfInBounds i true).getD j true = false → x.dst ≠ some d := fun d hd j x hx hun => by
          have hjq : j < q := by have := (Array.getElem?_eq_some_iff.1 hx).1; simp at this; omega
          have hli : i < listed.size := by have := (List.getElem?_eq_some_iff.1 ho).1; omega
          have hij : i ≠ j := fun e => by subst e; simp [hli] at hun
          rw [take_at hjq] at hx
          exact ds_ne hds hiq hjq ho (by simpa using hx) hij hd
        have H1' : ∀ w1, Below w0.heap.size w0 w1 → wpAnyQ P .any (L.take q).toArray (Cl w1) (fun x => x = af) k (listed.setIfInBounds i true) (a.put o.dst v) := fun w1 hw1 => by
          obtain ⟨v1, _, hK1⟩ := hY w1 hw1
          have e : a.put o.dst v = a.put o.dst v1 := put_same a o.dst v v1 fun d hd => by
            rw [← slot_kept k _ _ hK (hdst d hd), ← slot_kept k _ _ hK1 (hdst d hd)]
          rw [e]; exact hK1
        have hkeys : ∀ p ∈ ptrs g done, p.1 ∉ o.looksAt L.toArray := fun p hp => (ap_look hap ho hiq (hd3 _ (ptrs_key hp))).1
        have hdk : ∀ p ∈ ptrs g done, o.dst ≠ some p.1 := fun p hp => (ap_look hap ho hiq (hd3 _ (ptrs_key hp))).2
        have hd2' : ∀ s, q ≤ s → s < m → ∀ t, Ts[s - q]? = some t → ((listed.setIfInBounds i true).getD s true = true ↔ t ∈ done) := fun s h1 h2 t ht => by rw [getD_set_ne true (show i ≠ s by omega)]; exact hd2 s h1 h2 t ht
        have next : ∀ w', Cl w w' → wpAny P .any L.toArray Q F (listed.setIfInBounds i true) ((puts a (ptrs g done)).put o.dst v) w' := fun w' hw' => by
          rw [puts_put _ _ _ _ hdk]
          have hb := hw'.below
          refine ih k _ _ w' done g (by omega) hs' hc' hT' H1' (hbw.trans (hb.mono hbw.size)) hdn' hd2' hd3 (fun t ht => ⟨(hd4 t ht).1, ?_⟩) hd5
          have h1 := (hd4 t ht).2
          rw [hb.block _ (Array.getElem?_eq_some_iff.1 h1).1]; exact h1
        unfold wpOp
        simp only [ho']
        have hw1 : Region.wanted o (yielded L.toArray (puts a (ptrs g done)).tmps) = Region.wanted o (yielded (L.take q).toArray a.tmps) := by rw [wanted_puts o _ a hkeys, wanted_take hgd ho hiq]
        rcases hv with ⟨hw, hv⟩ | ⟨hw, rfl⟩
        · rw [hw1, if_pos hw]
          refine .inl (Oper.wp_of_quiet (C := Cl w) (K := fun x => x = (puts a (ptrs g done)).put o.dst v) (Cl.refl w) (fun a2 w' hw' he => by rw [he]; exact next w' hw') ⟨v, fun W hW => ?_, rfl⟩)
          have := hv W hW
          unfold Oper.quietAt at this ⊢
          rwa [exec_puts o (Region.noSelect_spec hns i o · · ho') _ a hkeys]
        · rw [hw1, if_neg (by rw [hw]; decide)]
          exact next w (Cl.refl w)
      · -- a new block
        obtain ⟨o2, t, ho2, hdt, hg0, hTs, hrun⟩ := hal i hiq (by omega)
        have : o2 = o := by rw [ho] at ho2; injection ho2 with h; exact h.symm
        subst this
        have htd : t ∉ done := fun h => by rw [(hd2 i hiq (by omega) t hTs).2 h] at h0; cases h0
        have htT : t ∈ Ts := List.mem_iff_getElem?.2 ⟨_, hTs⟩
        unfold wpOp
        simp only [ho']
        rw [if_pos (by simp [Region.wanted, hg0])]
        refine .inl ?_
        unfold Oper.wp
        rw [hrun]
        simp only [Oper.upon]
        rw [hdt]
        have hlen : done.length < m - q := by
          have hsub : (t :: done).length ≤ Ts.length := nodup_len _ _ (List.nodup_cons.2 ⟨htd, hdn'⟩) (fun x hx => by rcases List.mem_cons.1 hx with rfl | h; exact htT; exact hd3 x h)
          simp at hsub; omega
        let g' : Tmp → Nat := fun x => if x = t then w.heap.size else g x
        have hg' : ∀ x ∈ done, g' x = g x := fun x hx => by show (if x = t then _ else _) = _; rw [if_neg (fun e : x = t => htd (e ▸ hx))]
        have hgt : g' t = w.heap.size := by show (if t = t then _ else _) = _; rw [if_pos rfl]
        have e1 : (puts a (ptrs g done)).put (some t) (.pointer (some ⟨w.heap.size, 0, none⟩)) = puts a (ptrs g' (done ++ [t])) := by
          have e2 : ptrs g' (done ++ [t]) = ptrs g done ++ [(t, .pointer (some ⟨w.heap.size, 0, none⟩))] := by
            simp only [ptrs, List.map_append, List.map_cons, List.map_nil, hgt]
            congr 1
            exact List.map_congr_left fun x hx => by rw [hg' x hx]
          rw [e2, puts_snoc]
        rw [e1]
        have hszw := hbw.size
        have hlt : ∀ x ∈ done, g x < w.heap.size := fun x hx => (Array.getElem?_eq_some_iff.1 (hd4 x hx).2).1
        refine ih k _ _ _ (done ++ [t]) g' (by simp; omega) hs' hc' hT' (fun w1 hw1 => any_irrel (by simp; omega) (fun j x hx e he hb => ?_) k _ _ (H1 w1 hw1)) (hbw.alloc hszw _) ?_ (fun s h1 h2 t' ht' => ?_) (fun x hx => ?_) (fun x hx => ?_) (fun x hx x' hx' hne => ?_)
        · have hjq : j < q := by have := (Array.getElem?_eq_some_iff.1 hx).1; simp at this; omega
          rw [take_at hjq] at hx
          have hx' : L[j]? = some x := by simpa using hx
          have hO' := hO
          simp only [ordB, List.all_eq_true, List.mem_range] at hO'
          have h1 := hO' j (List.getElem?_eq_some_iff.1 hx').1
          rw [hx'] at h1
          simp only [Option.map_some, Option.getD_some, Array.all_eq_true_iff_forall_mem] at h1
          have h2 := h1 e he
          rw [hb] at h2
          simpa using h2
        · exact List.nodup_append.2 ⟨hdn', by simp, fun x hx y hy => by simp at hy; subst hy; exact fun e => htd (e ▸ hx)⟩
        · by_cases e : i = s
          · subst e
            rw [hTs] at ht'
            injection ht' with ht'
            subst ht'
            have hlt2 : i < listed.size := by have := (List.getElem?_eq_some_iff.1 ho).1; omega
            simp [hlt2]
          · rw [getD_set_ne true e, hd2 s h1 h2 t' ht']
            constructor
            · intro h; simp [h]
            · intro h
              rcases List.mem_append.1 h with h | h
              · exact h
              · exfalso
                simp at h
                subst h
                have h5 : s - q = i - q := by
                  have a1 := (List.getElem?_eq_some_iff.1 ht')
                  have a2 := (List.getElem?_eq_some_iff.1 hTs)
                  exact (List.getElem_inj hTn).1 (a1.2.trans a2.2.symm)
                omega
        · rcases List.mem_append.1 hx with h | h
          · exact hd3 x h
          · simp at h; subst h; exact htT
        · rcases List.mem_append.1 hx with h | h
          · rw [hg' x h]
            refine ⟨(hd4 x h).1, ?_⟩
            rw [Below.heap_alloc _ _ _ (hlt x h)]; exact (hd4 x h).2
          · simp at h
            subst h
            rw [hgt]
            exact ⟨hszw, hp_new w _⟩
        · rcases List.mem_append.1 hx with h | h <;> rcases List.mem_append.1 hx' with h' | h'
          · rw [hg' x h, hg' x' h']; exact hd5 x h x' h' hne
          · simp at h'; subst h'; rw [hg' x h, hgt]; have := hlt x h; omega
          · simp at h; subst h; rw [hg' x' h', hgt]; have := hlt x' h'; omega
          · simp at h h'; subst h h'; exact absurd rfl hne

/-- **THE RULE.** 'af': the frame behind the quiet operations. -/
theorem wp_region_alloc {id : Nat} {Q : Exit → Act → World → Prop} {a : Act} {w : World} (q m : Nat) (Ts : List Tmp) (zb : Tmp → Obj) (af : Act) (hm : P.follows .mixedOrders = true) (hqm : q ≤ m) (hml : m < L.length) (hO : ordB L = true) (hap : apB L q Ts = true) (hgd : gdB L q = true) (hds : dsB L q = true)
    (hdn : downB L m = true) (hsq : seqB L m = true) (hns : Region.noSelect L.toArray = true) (hlex : Region.noSelect (L.take q).toArray = true ∧ Region.lexFrom .any (L.take q).toArray q 0 (Array.replicate L.length false) = true) (hTl : Ts.length = m - q) (hTn : Ts.Nodup) (hal : Lays P L q m Ts zb)
    (hq : ∀ w1, Below w.heap.size w w1 → wpQuiet P (L.take q).toArray (fun W => ∃ p : Regrown, W = grow (redrawn w1 p.d) p.os) (fun x => x = af) (L.take q) a)
    (hfin : ∀ (w1 : World) (g : Tmp → Nat), Below w.heap.size w w1 → (∀ t ∈ Ts, w.heap.size ≤ g t ∧ w1.heap[g t]? = some (zb t)) → (∀ t ∈ Ts, ∀ t' ∈ Ts, t ≠ t' → g t ≠ g t') → wpList P L.toArray Q (L.drop m) (puts af (ptrs g Ts)) w1) :
    (Code.region id L.toArray true).wp P Q a w := by
  have hw0 : Below w.heap.size w { w with drawn := w.drawn + 1 } := ⟨rfl, rfl, rfl, Nat.le_refl _, fun _ _ => rfl⟩
  have hlen : (L.take q).length = q := by simp; omega
  refine wp_region_any hm ?_
  have h := alloc_go (w0 := w) (af := af) (Q := Q) hqm hml hO hap hgd hds hdn hsq hns hTl hTn hal hfin L.toArray.size q (Array.replicate L.toArray.size false) a { w with drawn := w.drawn + 1 } [] (fun _ => 0) (by simp; omega) (by simp)
    (fun k x hx hk => by simp only [Array.getD_eq_getD_getElem?, Array.getElem?_replicate] at hk; split at hk <;> simp at hk)
    (fun j _ hj => by simp [hj]) (fun w1 hw1 => ?_) hw0 List.nodup_nil (fun s _ hs t _ => by simp [show s < L.length by omega]) (by simp) (by simp) (by simp)
  · simpa [ptrs, puts] using h
  · have := wpAnyQ_lex (C := Cl w1) (md := .any) hlex.1 (L.take q) 0 (Array.replicate L.length false) a (by simp) (by rw [hlen]; exact hlex.2) (hq w1 hw1)
    rw [hlen] at this
    simpa using this

/-- The same, the frame left to the walk. -/
theorem wp_region_alloc_ex {id : Nat} {Q : Exit → Act → World → Prop} {a : Act} {w : World} (q m : Nat) (Ts : List Tmp) (zb : Tmp → Obj) (hm : P.follows .mixedOrders = true) (hqm : q ≤ m) (hml : m < L.length) (hO : ordB L = true) (hap : apB L q Ts = true) (hgd : gdB L q = true) (hds : dsB L q = true)
    (hdn : downB L m = true) (hsq : seqB L m = true) (hns : Region.noSelect L.toArray = true) (hlex : (Region.noSelect (L.take q).toArray && Region.lexFrom .any (L.take q).toArray q 0 (Array.replicate L.length false)) = true) (hTl : Ts.length = m - q) (hTn : Ts.Nodup) (hal : Lays P L q m Ts zb)
    (h : ∃ af, (∀ w1, Below w.heap.size w w1 → wpQuiet P (L.take q).toArray (fun W => ∃ p : Regrown, W = grow (redrawn w1 p.d) p.os) (fun x => x = af) (L.take q) a) ∧
      (∀ (w1 : World) (g : Tmp → Nat), Below w.heap.size w w1 → (∀ t ∈ Ts, w.heap.size ≤ g t ∧ w1.heap[g t]? = some (zb t)) → (∀ t ∈ Ts, ∀ t' ∈ Ts, t ≠ t' → g t ≠ g t') → wpList P L.toArray Q (L.drop m) (puts af (ptrs g Ts)) w1)) :
    (Code.region id L.toArray true).wp P Q a w := by
  obtain ⟨af, h1, h2⟩ := h
  exact wp_region_alloc q m Ts zb af hm hqm hml hO hap hgd hds hdn hsq hns (by simpa using hlex) hTl hTn hal h1 h2

end
end Go.Proofs.Ytnbkdlfkacbfjaa
