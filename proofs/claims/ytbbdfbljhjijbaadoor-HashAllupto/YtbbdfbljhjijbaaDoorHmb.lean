import Derived.Test.YtbbdfbljhjijbaaDoorHma
namespace Go.Proofs.YtbbdfbljhjijbaaDoor
open Go Go.ChangeShapes Go.WideShapes Go.ChangeAt Go.RowKit Go.Deep

/-- Steps, as they lie in a world. -/
def Acs (W : World) (v : Value) (ps : List (List Int)) : Prop := ∃ ao cap, v = .slice ao ps.length cap ∧ ps.length ≤ 9223372036854775807 ∧ ∀ i, i < ps.length → ∃ b off cs, ao = some ⟨b, off, none⟩ ∧ b < W.heap.size ∧ W.rangeAt b (off + i * 4) cs ∧ ActOf W cs (ps.getD i [])
theorem acs_of_trod {H : Type} {enc : TypeId × Value → H} {W : World} {m : Nat} {v : Value} {x : DataW H × List MemPlace} (hf : DataW.trod enc Tryd.prog W 0 (fun _ => true) true m 48 [v] = some x) :
    ∃ ps : List (List Int), Acs W v ps ∧ ps.flatten.length ≤ Rows.uptoBulk x.1 := by
  rcases open_slice Tryd.underlying48 hf with ⟨hcs, hx⟩ | ⟨a, len, cap, m, n, D, Pl, hcs, _, hl, hm, hmm, hx, hel⟩
  · injection hcs with hv _
    subst hv
    exact ⟨[], ⟨none, 0, rfl, by decide, fun i hi => by simp at hi⟩, Nat.zero_le _⟩
  · injection hcs with hv _
    subst hv
    subst hx
    simp only [if_true] at hmm
    subst hmm
    rw [cellsAct] at hel
    obtain ⟨PS, hPS⟩ := choose_lt (α := List Int) (p := fun i P => ∃ cs', W.cells? 0 (a.add (i * 4)) 4 = some cs' ∧ ActOf W cs' P ∧ P.length ≤ Rows.uptoBulk (D i)) (n := len) (fun i hi => by
      obtain ⟨cs', h1, h2⟩ := hel i (by omega)
      obtain ⟨P, h3, h4⟩ := act_of_trod h2
      exact ⟨P, cs', h1, h3, h4⟩)
    have hb := bulk_elems ((List.range len).map D) ((List.range (m - len)).map fun j => D (len + j))
    have hfb := flat_bulk PS D (List.range len) (fun i hi => by
      obtain ⟨_, _, _, h⟩ := hPS i (List.mem_range.1 hi)
      exact h)
    simp only [maxLen] at hm
    refine ⟨(List.range len).map PS, ⟨some a, _, by simp; rfl, by simp; omega, fun i hi => ?_⟩, by show _ ≤ Rows.uptoBulk (DataW.slice _ _); omega⟩
    have hi' : i < len := by simpa using hi
    obtain ⟨cs', h1, h2, _⟩ := hPS i hi'
    obtain ⟨_, hln, hc⟩ := World.cells?_some h1
    obtain ⟨bb, off, spot⟩ := a
    have hspot : spot = none := by
      obtain ⟨cs0, h0, _⟩ := hel 0 (by omega)
      obtain ⟨_, hl0, hc0⟩ := World.cells?_some h0
      have := hc0 0 (by omega)
      rw [List.getElem?_eq_getElem (by omega)] at this
      simpa [Addr.add] using World.cell?_spot this
    subst hspot
    rw [range_getD PS [] len i hi']
    have hr : W.rangeAt bb (off + i * 4) cs' := by
      intro j v hv
      have hj : j < 4 := by have := (List.getElem?_eq_some_iff.1 hv).1; omega
      have := hc j hj
      rw [addr_add, addr_add, hv] at this
      exact this
    refine ⟨bb, off, cs', rfl, ?_, hr, h2⟩
    have h0 := hr 0 _ (List.getElem?_eq_getElem (by omega))
    exact blk_of_cell h0
/-- The state: three hashes, what came to each (c: by the hash, d: by the law's own list); all blocks below N. -/
def Inv (N : Nat) (w W : World) (gA gC : Nat) (h : Nat → Nat) (s : Nat → Value) (c d : Nat → List Int) : Prop :=
  W.heap[gA]? = some (.cells (prow h) 49 (0, 0)) ∧ W.heap[gC]? = some (.cells (srow s) 50 (0, 0)) ∧ (gA ≠ gC ∧ w.heap.size ≤ gA ∧ w.heap.size ≤ gC ∧ gA < N ∧ gC < N ∧ N ≤ W.heap.size) ∧
  (∀ i, i < 3 → W.heap[h i]? = some (.cells (hst (c i)) 63 (0, 0)) ∧ w.heap.size ≤ h i ∧ h i < N ∧ h i ≠ gA ∧ h i ≠ gC ∧ (∀ z ∈ c i, 0 ≤ z ∧ z < 256)) ∧
  (∀ i j, i < 3 → j < 3 → i ≠ j → h i ≠ h j) ∧
  (∀ i, i < 3 → ∃ ao cap, s i = .slice ao (d i).length cap ∧ Bys W (.slice ao (d i).length cap) (d i) ∧ (ao = none → cap = 0) ∧ (∀ a, ao = some a → 0 < (d i).length → a.block < N ∧ a.block ≠ gA ∧ a.block ≠ gC ∧ ∀ j, j < 3 → a.block ≠ h j))
theorem Bys.move {W W' : World} {ao : Option Addr} {cap : Nat} {bs : List Int} (hB : Bys W (.slice ao bs.length cap) bs) (hk : ∀ a, ao = some a → 0 < bs.length → W'.heap[a.block]? = W.heap[a.block]?) : Bys W' (.slice ao bs.length cap) bs := by
  obtain ⟨ao', cap', e, hl, hc, hz⟩ := hB
  cases e
  refine ⟨ao, cap, rfl, hl, fun j hj => ?_, hz⟩
  obtain ⟨b, off, rfl, h1, h2⟩ := hc j hj
  have he := hk _ rfl (by omega)
  refine ⟨b, off, rfl, ?_, (World.cell?_of_block (a := ⟨b, off + j, none⟩) he).trans h2⟩
  have : W.heap[b]? ≠ none := by rw [Array.getElem?_eq_getElem h1]; simp
  rw [← he] at this
  rcases Nat.lt_or_ge b W'.heap.size with q | q
  · exact q
  · exact absurd (Array.getElem?_eq_none q) this
theorem Inv.move {N : Nat} {w W W' : World} {gA gC : Nat} {h : Nat → Nat} {s : Nat → Value} {c d : Nat → List Int} (hI : Inv N w W gA gC h s c d) (hN : N ≤ W'.heap.size) (hk : ∀ k, k < N → W'.heap[k]? = W.heap[k]?) : Inv N w W' gA gC h s c d := by
  obtain ⟨h1, h2, ⟨h3, h4, h5, h6, h7, h8⟩, h9, h10, h11⟩ := hI
  refine ⟨(hk _ h6).trans h1, (hk _ h7).trans h2, ⟨h3, h4, h5, h6, h7, hN⟩, fun i hi => ?_, h10, fun i hi => ?_⟩
  · obtain ⟨q1, q2, q3, q4⟩ := h9 i hi
    exact ⟨(hk _ q3).trans q1, q2, q3, q4⟩
  · obtain ⟨ao, cap, q1, q2, q3, q4⟩ := h11 i hi
    exact ⟨ao, cap, q1, q2.move (fun a ha hl => hk _ (q4 a ha hl).1), q3, q4⟩
theorem Inv.below {N : Nat} {w W W' : World} {gA gC : Nat} {h : Nat → Nat} {s : Nat → Value} {c d : Nat → List Int} (hI : Inv N w W gA gC h s c d) (hb : Below N W W') : Inv N w W' gA gC h s c d :=
  hI.move (Nat.le_trans hI.2.2.1.2.2.2.2.2 hb.size) (fun k hk => hb.block k hk)
theorem Inv.raise {N N' : Nat} {w W : World} {gA gC : Nat} {h : Nat → Nat} {s : Nat → Value} {c d : Nat → List Int} (hI : Inv N w W gA gC h s c d) (hN : N ≤ N') (hs : N' ≤ W.heap.size) : Inv N' w W gA gC h s c d := by
  obtain ⟨h1, h2, ⟨h3, h4, h5, h6, h7, h8⟩, h9, h10, h11⟩ := hI
  refine ⟨h1, h2, ⟨h3, h4, h5, by omega, by omega, hs⟩, fun i hi => ?_, h10, fun i hi => ?_⟩
  · obtain ⟨q1, q2, q3, q4⟩ := h9 i hi
    exact ⟨q1, q2, by omega, q4⟩
  · obtain ⟨ao, cap, q1, q2, q3, q4⟩ := h11 i hi
    refine ⟨ao, cap, q1, q2, q3, fun a ha hl => ?_⟩
    obtain ⟨r1, r2⟩ := q4 a ha hl
    exact ⟨by omega, r2⟩
/-- One hash has turned. -/
theorem Inv.write {N : Nat} {w W W' : World} {gA gC : Nat} {h : Nat → Nat} {s : Nat → Value} {c d : Nat → List Int} (hI : Inv N w W gA gC h s c d) {o : Nat} (ho : o < 3) {b : List Int} (hg : W.grownBy W' (some (h o))) (hn : W'.heap[h o]? = some (.cells (hst b) 63 (0, 0))) (hz : ∀ z ∈ b, 0 ≤ z ∧ z < 256) : Inv N w W' gA gC h s (upd c o b) d := by
  obtain ⟨h1, h2, ⟨h3, h4, h5, h6, h7, h8⟩, h9, h10, h11⟩ := hI
  have hk : ∀ k, k < N → k ≠ h o → W'.heap[k]? = W.heap[k]? := fun k hk hne => hg.block k (by omega) (by intro e; injection e with e; exact hne e)
  obtain ⟨_, _, _, t4, t5, _⟩ := h9 o ho
  refine ⟨(hk _ h6 (Ne.symm t4)).trans h1, (hk _ h7 (Ne.symm t5)).trans h2, ⟨h3, h4, h5, h6, h7, Nat.le_trans h8 hg.size⟩, fun i hi => ?_, h10, fun i hi => ?_⟩
  · obtain ⟨q1, q2, q3, q4, q5, q6⟩ := h9 i hi
    by_cases e : i = o
    · subst e; rw [upd_same]; exact ⟨hn, q2, q3, q4, q5, hz⟩
    · rw [upd_other _ _ e]; exact ⟨(hk _ q3 (h10 i o hi ho e)).trans q1, q2, q3, q4, q5, q6⟩
  · obtain ⟨ao, cap, q1, q2, q3, q4⟩ := h11 i hi
    exact ⟨ao, cap, q1, q2.move (fun a ha hl => hk _ (q4 a ha hl).1 ((q4 a ha hl).2.2.2 o ho)), q3, q4⟩
/-- Another hash in the place of one. -/
theorem Inv.setH {N N' : Nat} {w W W' : World} {gA gC : Nat} {h : Nat → Nat} {s : Nat → Value} {c d : Nat → List Int} (hI : Inv N w W gA gC h s c d) {o g : Nat} (ho : o < 3) {b : List Int} (hk : ∀ k, k < N → k ≠ gA → W'.heap[k]? = W.heap[k]?) (hA : W'.heap[gA]? = some (.cells (prow (upd h o g)) 49 (0, 0))) (hn : W'.heap[g]? = some (.cells (hst b) 63 (0, 0))) (hz : ∀ z ∈ b, 0 ≤ z ∧ z < 256) (hg : N ≤ g) (hg' : g < N') (hN : N' ≤ W'.heap.size) : Inv N' w W' gA gC (upd h o g) s (upd c o b) d := by
  obtain ⟨h1, h2, ⟨h3, h4, h5, h6, h7, h8⟩, h9, h10, h11⟩ := hI
  refine ⟨hA, (hk _ h7 (Ne.symm h3)).trans h2, ⟨h3, h4, h5, by omega, by omega, hN⟩, fun i hi => ?_, fun i j hi hj hne => ?_, fun i hi => ?_⟩
  · by_cases e : i = o
    · subst e; rw [upd_same, upd_same]; exact ⟨hn, by omega, hg', by omega, by omega, hz⟩
    · obtain ⟨q1, q2, q3, q4, q5, q6⟩ := h9 i hi
      rw [upd_other _ _ e, upd_other _ _ e]; exact ⟨(hk _ q3 q4).trans q1, q2, by omega, q4, q5, q6⟩
  · by_cases e : i = o
    · subst e
      rw [upd_same, upd_other _ _ (Ne.symm hne)]
      have := (h9 j hj).2.2.1
      omega
    · rw [upd_other _ _ e]
      by_cases e2 : j = o
      · subst e2
        rw [upd_same]
        have := (h9 i hi).2.2.1
        omega
      · rw [upd_other _ _ e2]; exact h10 i j hi hj hne
  · obtain ⟨ao, cap, q1, q2, q3, q4⟩ := h11 i hi
    refine ⟨ao, cap, q1, q2.move (fun a ha hl => hk _ (q4 a ha hl).1 (q4 a ha hl).2.1), q3, fun a ha hl => ?_⟩
    obtain ⟨r1, r2, r3, r4⟩ := q4 a ha hl
    refine ⟨by omega, r2, r3, fun j hj => ?_⟩
    by_cases e : j = o
    · subst e; rw [upd_same]; omega
    · rw [upd_other _ _ e]; exact r4 j hj
/-- Another list in the place of one. -/
theorem Inv.setS {N N' : Nat} {w W W' : World} {gA gC : Nat} {h : Nat → Nat} {s : Nat → Value} {c d : Nat → List Int} (hI : Inv N w W gA gC h s c d) {o : Nat} (ho : o < 3) {b : List Int} {ao : Option Addr} {cap : Nat} (hk : ∀ k, k < N → k ≠ gC → W'.heap[k]? = W.heap[k]?) (hC : W'.heap[gC]? = some (.cells (srow (upd s o (.slice ao b.length cap))) 50 (0, 0)))
    (hB : Bys W' (.slice ao b.length cap) b) (hn : ao = none → cap = 0) (hb : ∀ a, ao = some a → 0 < b.length → a.block < N' ∧ a.block ≠ gA ∧ a.block ≠ gC ∧ ∀ j, j < 3 → a.block ≠ h j) (hNN : N ≤ N') (hN : N' ≤ W'.heap.size) : Inv N' w W' gA gC h (upd s o (.slice ao b.length cap)) c (upd d o b) := by
  obtain ⟨h1, h2, ⟨h3, h4, h5, h6, h7, h8⟩, h9, h10, h11⟩ := hI
  refine ⟨(hk _ h6 h3).trans h1, hC, ⟨h3, h4, h5, by omega, by omega, hN⟩, fun i hi => ?_, h10, fun i hi => ?_⟩
  · obtain ⟨q1, q2, q3, q4, q5, q6⟩ := h9 i hi
    exact ⟨(hk _ q3 q5).trans q1, q2, by omega, q4, q5, q6⟩
  · by_cases e : i = o
    · subst e; rw [upd_same, upd_same]; exact ⟨ao, cap, rfl, hB, hn, hb⟩
    · obtain ⟨ao2, cap2, q1, q2, q3, q4⟩ := h11 i hi
      rw [upd_other _ _ e, upd_other _ _ e]
      refine ⟨ao2, cap2, q1, q2.move (fun a ha hl => hk _ (q4 a ha hl).1 (q4 a ha hl).2.2.1), q3, fun a ha hl => ?_⟩
      obtain ⟨r1, r2⟩ := q4 a ha hl
      exact ⟨by omega, r2⟩
end Go.Proofs.YtbbdfbljhjijbaaDoor
