import Derived.Test.YtnbkdlfkacbfjaaProg
import Derived.WalkKit
import Derived.WalkSpells
import Derived.WalkLawsBesides
import Derived.Lib.QuietBelow
import Derived.Laws.BitsAllLaws
import Derived.BigQuiet
import Derived.WalkMore
import Derived.Test.YtnbkdlfkacbfjaaKit
import Derived.Test.YtnbkdlfkacbfjaaWj
namespace Go.Proofs.Ytnbkdlfkacbfjaa
open Go Go.RowKit Go.Sort
attribute [local go_sem] setCell_drewN alloc_drewN

/-- An append to a list of one's own: where the row lies behind it. -/
theorem wp_append_gen {P : Program} {w : World} {o : Oper} {a : Act} {K : Act → World → Prop} {Q : Exit → Act → World → Prop} (s x : Operand) (t : TypeId)
    (ho : o.op = .call { callee := .builtin .append, args := #[s, x], argTypes := #[t, t] })
    (base : Nat) (e : TypeId) (i : TypeInfo) (z : Value) (size bytes : Nat) (ht : P.underlying t = some (.slice e)) (hi : P.info? e = some i) (hz : i.zero = some z)
    (hsize : i.size = size) (hby : i.bytes = bytes) (hzs : z.cells.size = size) (hsz : 0 < size)
    (v : Value) (n : Nat) (xs : List Value) (hs : a.eval s = v) (hown : w.ownsRow base e size v n xs)
    (ad : Addr) (m c : Nat) (news : List Value) (hx : a.eval x = .slice (some ad) m c) (hl : news.length = m * size) (hm : 0 < m) (hnews : ∀ j u, news[j]? = some u → w.cell? (ad.add j) = some u) (h1 : ∀ u ∈ news, u.oneCell' = true)
    (h63 : n + m ≤ maxLen) (hbytes : (n + m) * bytes ≤ 140737488355328) (hbase : base ≤ w.heap.size)
    (h : ∀ v' w', w'.ownsRow base e size v' (n + m) (xs ++ news) → w.grownBy w' v.ownBlock → ((v'.ownBlock = v.ownBlock ∧ v.ownBlock ≠ none) ∨ ∃ k, v'.ownBlock = some k ∧ w.heap.size ≤ k) → K (a.put o.dst v') w') : o.wp P a w K Q := by
  obtain ⟨v', w', hr, h2, h3, h4⟩ := run_append_own (P := P) w base t o.type e i z size bytes ht hi hz hsize hby hzs hsz _ n xs hown ad m c news hl hnews h1 h63 hbytes hbase
  have key : (v'.ownBlock = v.ownBlock ∧ v.ownBlock ≠ none) ∨ ∃ k, v'.ownBlock = some k ∧ w.heap.size ≤ k := by
    rcases hown.2 with ⟨rfl, hn0⟩ | ⟨g1, cap1, cur, rfl, hbg, hg, hnc, hcm, hcs, htake⟩
    · have hown2 : w.ownsRow w.heap.size e size (.slice none 0 0) n xs := ⟨hown.1, .inl ⟨rfl, hn0⟩⟩
      obtain ⟨v2, w2, hr2, g2, _, g4⟩ := run_append_own (P := P) w w.heap.size t o.type e i z size bytes ht hi hz hsize hby hzs hsz _ n xs hown2 ad m c news hl hnews h1 h63 hbytes (Nat.le_refl _)
      have he := hr.symm.trans hr2
      injection he with e1 e2
      subst e1
      rcases g2.2 with ⟨hv, _⟩ | ⟨g, cap, _, hv, hbg, _⟩
      · have := g4.1 hv
        omega
      · exact .inr ⟨g, by rw [hv]; rfl, hbg⟩
    · by_cases hroom : n + m ≤ cap1
      · have hr2 := run_append_room (P := P) w t o.type e i ht hi g1 n cap1 cur hg ad m c news (by rw [hsize]; exact hl) hnews h1 hroom (by rw [hsize, hl, hcs, ← Nat.add_mul]; exact Nat.mul_le_mul_right _ hroom)
        have he := hr.symm.trans hr2
        injection he with e1 e2
        exact .inl ⟨by rw [e1]; rfl, by simp [Value.ownBlock]⟩
      · have holds : ∀ j u, xs[j]? = some u → w.cell? ((⟨g1, 0, none⟩ : Addr).add j) = some u := hown.cells (g := g1) rfl
        have hr2 := run_append_grow (P := P) w t o.type e i z ht hi hz ⟨g1, 0, none⟩ n cap1 xs (by rw [hsize]; exact hown.1) holds ad m c news (by rw [hsize]; exact hl) hnews (by omega) (by simp only [maxLen] at h63; omega) (growslice_fits (by omega) (by rw [hby]; exact hbytes))
        have he := hr.symm.trans hr2
        injection he with e1 e2
        exact .inr ⟨w.heap.size, by rw [e1]; rfl, Nat.le_refl _⟩
  unfold Oper.wp execOp
  simp only [ho, resolve, invoke, builtin, Sem.run_bind, Sem.run_pure, Result.andThen_ok, List.map_toArray, List.map_cons, List.map_nil, hs, hx, hr]
  exact h v' w' h2 h3 key
set_option maxRecDepth 100000 in
theorem info24 : ∃ i, Try.prog.info? 22 = some i ∧ i.zero = some (.slice none 0 0) ∧ i.size = 1 ∧ i.bytes = 24 := ⟨_, rfl, rfl, rfl, rfl⟩
/-- A value of a list. -/
def gv (us : List Value) (i : Nat) : Value := us.getD i undef
/-- Items handed out: a list of one's own, each item of its own. -/
def Its (W : World) (base : Nat) (v : Value) (us : List Value) (ps : List (List B)) : Prop :=
  W.ownsRow base 22 1 v us.length us ∧ us.length = ps.length ∧ (∀ i, i < us.length → Own W base (gv us i) (gp ps i)) ∧
  (∀ i, i < us.length → ∀ k, (gv us i).ownBlock = some k → v.ownBlock ≠ some k) ∧ (∀ i j, i < j → j < us.length → ∀ k, (gv us i).ownBlock = some k → (gv us j).ownBlock ≠ some k)
theorem own_keep_row {W V : World} {b : Nat} {e : TypeId} {sz : Nat} {v : Value} {n : Nat} {xs : List Value} (h : W.ownsRow b e sz v n xs) (hb : Below W.heap.size W V) : V.ownsRow b e sz v n xs := by
  obtain ⟨h1, h2 | ⟨g, cap, cur, rfl, hb2, hg, h3⟩⟩ := h
  · exact ⟨h1, .inl h2⟩
  · exact ⟨h1, .inr ⟨g, cap, cur, rfl, hb2, Go.Proofs.Ytnbkdlfkacbfjaa.keep hb hg, h3⟩⟩
theorem own_high_row {W : World} {b : Nat} {e : TypeId} {sz : Nat} {v : Value} {n : Nat} {xs : List Value} (h : W.ownsRow b e sz v n xs) : ∀ k, v.ownBlock = some k → b ≤ k ∧ k < W.heap.size := by
  obtain ⟨h1, ⟨rfl, _⟩ | ⟨g, cap, cur, rfl, hb, hg, _⟩⟩ := h
  · intro k hk; cases hk
  · intro k hk
    have : g = k := by simpa [Value.ownBlock] using hk
    have := lt_of_row hg
    omega
theorem Its.keep {W V : World} {b : Nat} {v : Value} {us : List Value} {ps : List (List B)} (h : Its W b v us ps) (hb : Below W.heap.size W V) : Its V b v us ps :=
  ⟨own_keep_row h.1 hb, h.2.1, fun i hi => (h.2.2.1 i hi).keep hb, h.2.2.2⟩
theorem its_nil (W : World) (b : Nat) : Its W b (.slice none 0 0) [] [] := ⟨⟨rfl, .inl ⟨rfl, rfl⟩⟩, rfl, fun i hi => by simp at hi, fun i hi => by simp at hi, fun i j _ hj => by simp at hj⟩
theorem its_empty (W : World) : Its (W.alloc (.cells #[] 22)) W.heap.size (.slice (some ⟨W.heap.size, 0, none⟩) 0 0) [] [] :=
  ⟨⟨rfl, .inr ⟨W.heap.size, 0, #[], rfl, Nat.le_refl _, hp1_0 _ _, Nat.le_refl _, by decide, rfl, rfl⟩⟩, rfl, fun i hi => by simp at hi, fun i hi => by simp at hi, fun i j _ hj => by simp at hj⟩
theorem gv_app_lo {us : List Value} {u : Value} {i : Nat} (h : i < us.length) : gv (us ++ [u]) i = gv us i := by
  rw [gv, gv, List.getD_eq_getElem?_getD, List.getElem?_append_left h, ← List.getD_eq_getElem?_getD]
theorem gv_app_hi {us : List Value} {u : Value} : gv (us ++ [u]) us.length = u := by
  rw [gv, List.getD_eq_getElem?_getD, List.getElem?_append_right (Nat.le_refl _), Nat.sub_self]; rfl
theorem gp_app_lo {ps : List (List B)} {p : List B} {i : Nat} (h : i < ps.length) : gp (ps ++ [p]) i = gp ps i := by
  rw [gp, gp, List.getD_eq_getElem?_getD, List.getElem?_append_left h, ← List.getD_eq_getElem?_getD]
theorem gp_app_hi {ps : List (List B)} {p : List B} : gp (ps ++ [p]) ps.length = p := by
  rw [gp, List.getD_eq_getElem?_getD, List.getElem?_append_right (Nat.le_refl _), Nat.sub_self]; rfl
/-- Where the row has grown: an item more. -/
theorem Its.snoc {W W' : World} {b L : Nat} {v v' : Value} {us : List Value} {ps : List (List B)} {u : Value} {p : List B} (h : Its W b v us ps) (hL : ∀ k, v.ownBlock = some k → k < L) (hLi : ∀ i, i < us.length → ∀ k, (gv us i).ownBlock = some k → k < L) (hbL : b ≤ L)
    (hu : Own W L u p) (ho : W'.ownsRow b 22 1 v' (us.length + 1) (us ++ [u])) (hg : W.grownBy W' v.ownBlock) (hk : (v'.ownBlock = v.ownBlock ∧ v.ownBlock ≠ none) ∨ ∃ k, v'.ownBlock = some k ∧ W.heap.size ≤ k) : Its W' b v' (us ++ [u]) (ps ++ [p]) := by
  obtain ⟨h1, h2, h3, h4, h5⟩ := h
  have hu2 : Own W' L u p := hu.grown2 hg hL
  have hlu : ∀ k, u.ownBlock = some k → L ≤ k ∧ k < W.heap.size := fun k e => ⟨own_low hu k e, own_high hu k e⟩
  refine ⟨by rw [List.length_append, List.length_singleton]; exact ho, by rw [List.length_append, List.length_append, h2]; rfl, fun i hi => ?_, fun i hi k e => ?_, fun i j hij hj k e => ?_⟩
  · rw [List.length_append, List.length_singleton] at hi
    rcases Nat.lt_or_ge i us.length with q | q
    · rw [gv_app_lo q, gp_app_lo (by omega)]
      have ho3 := h3 i q
      obtain ⟨q1, q2 | ⟨g, cap, cur, q2, hb2, hr, q3⟩⟩ := ho3
      · exact ⟨q1, .inl q2⟩
      · refine ⟨q1, .inr ⟨g, cap, cur, q2, hb2, (hg.block g (lt_of_row hr) (fun e => ?_)).trans hr, q3⟩⟩
        exact h4 i q g (by rw [q2]; rfl) e.symm
    · obtain rfl : i = us.length := by omega
      rw [gv_app_hi, h2, gp_app_hi]
      obtain ⟨q1, q2 | ⟨g, cap, cur, q2, hb2, hr⟩⟩ := hu2
      · exact ⟨q1, .inl q2⟩
      · exact ⟨q1, .inr ⟨g, cap, cur, q2, by omega, hr⟩⟩
  · rw [List.length_append, List.length_singleton] at hi
    intro e2
    rcases hk with ⟨hk1, hk2⟩ | ⟨k', hk1, hk2⟩
    · rw [hk1] at e2
      rcases Nat.lt_or_ge i us.length with q | q
      · rw [gv_app_lo q] at e
        exact h4 i q k e e2
      · obtain rfl : i = us.length := by omega
        rw [gv_app_hi] at e
        have := hL k e2
        have := (hlu k e).1
        omega
    · rw [hk1] at e2
      cases e2
      rcases Nat.lt_or_ge i us.length with q | q
      · rw [gv_app_lo q] at e
        have := own_high (h3 i q) _ e
        omega
      · obtain rfl : i = us.length := by omega
        rw [gv_app_hi] at e
        have := (hlu _ e).2
        omega
  · rw [List.length_append, List.length_singleton] at hj
    rcases Nat.lt_or_ge j us.length with q | q
    · rw [gv_app_lo (by omega)] at e
      rw [gv_app_lo q]
      exact h5 i j hij q k e
    · obtain rfl : j = us.length := by omega
      rw [gv_app_lo hij] at e
      rw [gv_app_hi]
      intro e2
      have := hLi i hij k e
      have := (hlu k e2).1
      omega
theorem Its.high {W : World} {b : Nat} {v : Value} {us : List Value} {ps : List (List B)} (h : Its W b v us ps) : (∀ k, v.ownBlock = some k → k < W.heap.size) ∧ ∀ i, i < us.length → ∀ k, (gv us i).ownBlock = some k → k < W.heap.size :=
  ⟨fun k e => (own_high_row h.1 k e).2, fun i hi k e => own_high (h.2.2.1 i hi) k e⟩
theorem Its.pcb {W : World} {b : Nat} {v : Value} {us : List Value} {ps : List (List B)} (h : Its W b v us ps) (hl : ps.length ≤ 5864062014634) (hp : ∀ i, i < ps.length → (gp ps i).length ≤ 140737488351232) : PcB W v ps := by
  obtain ⟨h1, h2, h3, _⟩ := h
  have h1' := h1
  obtain ⟨_, ⟨rfl, h0⟩ | ⟨g, cap, cur, rfl, hb, hg, hn, hm, hs, ht⟩⟩ := h1'
  · refine ⟨none, 0, by rw [← h2, h0], hl, fun _ => rfl, fun i hi => ?_⟩
    omega
  · refine ⟨some ⟨g, 0, none⟩, cap, by rw [h2], hl, fun e => (by cases e), fun i hi => ⟨g, 0, gv us i, rfl, lt_of_row hg, ?_, (h3 i (by omega)).bysB (by have := hp i hi; omega), hp i hi⟩⟩
    have := h1.cells (g := g) rfl i (gv us i) (by rw [gv, List.getD_eq_getElem?_getD, List.getElem?_eq_getElem (by omega)]; rfl)
    rw [addr_add] at this
    exact this
theorem gvb {us : List Value} {i : Nat} (h : i < us.length) : us[i]? = some (gv us i) := by
  rw [gv, List.getD_eq_getElem?_getD, List.getElem?_eq_getElem h]; rfl
theorem new_cell1 (wr : World) (u : Value) (t : TypeId) : ∀ j x, [u][j]? = some x → (wr.alloc (.cells #[u] t)).cell? ((⟨wr.heap.size, 0, none⟩ : Addr).add j) = some x := by
  intro j x hx
  have hj : j = 0 := by
    have := (List.getElem?_eq_some_iff.1 hx).1
    simp at this
    exact this
  subst hj
  simp at hx
  subst hx
  rw [addr_add]
  have hg : (wr.alloc (.cells #[u] t)).heap[wr.heap.size]? = some (.cells #[u] t (0, 0)) := hp1_0 wr _
  simp only [World.cell?, hg]
  rfl
end Go.Proofs.Ytnbkdlfkacbfjaa
