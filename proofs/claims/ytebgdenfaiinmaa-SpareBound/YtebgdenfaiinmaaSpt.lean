import Derived.Test.YtebgdenfaiinmaaSpr
import Derived.Test.YtebgdenfaiinmaaSpm
namespace Go.Proofs.Ytebgdenfaiinmaa
open Go Go.RowKit Go.Sort Go.ChangeShapes Go.WideShapes Go.Deep

/-! Scripts out of the data. -/
theorem cOpA : Try.prog.cellsOf 43 = 37 := by kernel_rfl
theorem bOpA : Try.prog.bytesOf 43 = 88 := by kernel_rfl
theorem cIntA : Try.prog.cellsOf 3 = 1 := by kernel_rfl
theorem cBoolA : Try.prog.cellsOf 4 = 1 := by kernel_rfl
theorem cSlA : Try.prog.cellsOf 38 = 1 := by kernel_rfl
theorem op_of_trod {H : Type} {enc : TypeId × Value → H} {W : World} {m : Nat} {cs : List Value} {x : DataW H × List MemPlace} (hf : DataW.trod enc Try.prog W 0 (fun _ => true) true m 43 cs = some x) (hs : ∀ n ∈ x.1.weights Try.prog 43, n ≤ reachBytes) : ∃ (o : Opd) (u : Value), cs = opc o u ∧ SpL W u o.L ∧ o.h.length = 32 := by
  obtain ⟨xs, n, _, rfl, hl, hlen, hfld⟩ := DataW.trod_struct Try.underlying43 hf
  rw [cOpA] at hl
  match xs, hlen with
  | [y0, y1, y2, y3, y4, y5], _ =>
  have f0 : DataW.trod enc Try.prog W 0 (fun _ => true) true n 3 ((cs.drop 0).take (Try.prog.cellsOf 3)) = some y0 := hfld 0 _ rfl
  have f1 : DataW.trod enc Try.prog W 0 (fun _ => true) true n 4 ((cs.drop 1).take (Try.prog.cellsOf 4)) = some y1 := hfld 1 _ rfl
  have f2 : DataW.trod enc Try.prog W 0 (fun _ => true) true n 38 ((cs.drop 2).take (Try.prog.cellsOf 38)) = some y2 := hfld 2 _ rfl
  have f3 : DataW.trod enc Try.prog W 0 (fun _ => true) true n 40 ((cs.drop 3).take (Try.prog.cellsOf 40)) = some y3 := hfld 3 _ rfl
  have f4 : DataW.trod enc Try.prog W 0 (fun _ => true) true n 41 ((cs.drop 35).take (Try.prog.cellsOf 41)) = some y4 := hfld 4 _ rfl
  have f5 : DataW.trod enc Try.prog W 0 (fun _ => true) true n 3 ((cs.drop 36).take (Try.prog.cellsOf 3)) = some y5 := hfld 5 _ rfl
  simp only [cKeyA, cU32A, cIntA, cBoolA, cSlA, List.drop_zero] at f0 f1 f2 f3 f4 f5
  obtain ⟨kd, e0, _, _⟩ := DataW.trod_int Try.underlying3 f0
  obtain ⟨ot, e1, _⟩ := DataW.trod_bool Try.underlying4 f1
  obtain ⟨h, hh, e3⟩ := cells_key f3
  obtain ⟨a, e4, _, _⟩ := DataW.trod_int Try.underlying41 f4
  obtain ⟨ct, e5, _, _⟩ := DataW.trod_int Try.underlying3 f5
  obtain ⟨u, e2⟩ : ∃ u, (cs.drop 2).take 1 = [u] := by
    rw [List.drop_eq_getElem_cons (by omega), List.take_succ_cons, List.take_zero]
    exact ⟨_, rfl⟩
  rw [e2] at f2
  obtain ⟨L, hL⟩ := spl_of_trod f2 (fun n hn => hs n (by
    simp only [DataW.weights, Try.underlying43]
    exact DataW.weights_mem_each (j := 2) rfl rfl n hn))
  refine ⟨⟨kd, ot, L, h, a, ct⟩, u, ?_, hL, hh⟩
  have h1 := (List.take_append_drop 1 cs).symm
  have h2 := (List.take_append_drop 1 (cs.drop 1)).symm
  have h3 := (List.take_append_drop 1 (cs.drop 2)).symm
  have h4 := (List.take_append_drop 32 (cs.drop 3)).symm
  have h5 := (List.take_append_drop 1 (cs.drop 35)).symm
  have h6 : (cs.drop 36).take 1 = cs.drop 36 := List.take_of_length_le (by rw [List.length_drop]; omega)
  rw [List.drop_drop] at h2 h3 h4 h5
  rw [e0] at h1
  rw [e1] at h2
  rw [e2] at h3
  rw [e3] at h4
  rw [e4] at h5
  rw [e5] at h6
  rw [h1, h2]
  show _ ++ (_ ++ List.drop 2 cs) = _
  rw [h3]
  show _ ++ (_ ++ (_ ++ List.drop 3 cs)) = _
  rw [h4]
  show _ ++ (_ ++ (_ ++ (_ ++ List.drop 35 cs))) = _
  rw [h5]
  show _ ++ (_ ++ (_ ++ (_ ++ (_ ++ List.drop 36 cs)))) = _
  rw [← h6]
  rfl
theorem range_gop (PS : Nat → Opd) (n i : Nat) (h : i < n) : gop ((List.range n).map PS) i = PS i := by
  rw [gop, List.getD_eq_getElem?_getD, List.getElem?_map, List.getElem?_range h]; rfl
theorem weightsAll_in {H : Type} {P : Program} {e : TypeId} : ∀ {l : List (DataW H)} {d : DataW H}, d ∈ l → ∀ n ∈ d.weights P e, n ∈ DataW.weightsAll P e l
  | x :: r, d, h, n, hn => by
    rw [DataW.weightsAll, List.mem_append]
    rcases List.mem_cons.1 h with rfl | h
    · exact .inl hn
    · exact .inr (weightsAll_in h n hn)
theorem ops_of_trod {H : Type} {enc : TypeId × Value → H} {W : World} {m : Nat} {v : Value} {x : DataW H × List MemPlace} (hf : DataW.trod enc Try.prog W 0 (fun _ => true) true m 22 [v] = some x) (hs : ∀ n ∈ x.1.weights Try.prog 22, n ≤ reachBytes) : ∃ os : List Opd, Ops W v os := by
  rcases open_slice Try.underlying22 hf with ⟨hcs, hx⟩ | ⟨a, len, cap, m, n, D, Pl, hcs, _, hl, hm, hmm, hx, hel⟩
  · injection hcs with hv _
    subst hv
    exact ⟨[], ⟨none, 0, rfl, by decide, fun i hi => by simp at hi⟩⟩
  · injection hcs with hv _
    subst hv
    subst hx
    simp only [if_true] at hmm
    subst hmm
    rw [cOpA] at hel
    have hb := hs ((((List.range len).map D).length + ((List.range (m - len)).map fun j => D (len + j)).length) * 88) (by simp [DataW.weights, Try.underlying22, bOpA])
    simp only [List.length_map, List.length_range, reachBytes] at hb
    obtain ⟨PS, hPS⟩ := @choose_lt Opd ⟨zopd⟩ len (fun i o => ∃ cs' u, W.cells? 0 (a.add (i * 37)) 37 = some cs' ∧ cs' = opc o u ∧ SpL W u o.L ∧ o.h.length = 32) (fun i hi => by
      obtain ⟨cs', h1, h2⟩ := hel i (by omega)
      obtain ⟨o, u, h3, h4, h5⟩ := op_of_trod h2 (fun n hn => hs n (by
        simp only [DataW.weights, Try.underlying22]
        exact List.mem_cons_of_mem _ (List.mem_append_left _ (weightsAll_in (List.mem_map.2 ⟨i, List.mem_range.2 hi, rfl⟩) n hn))))
      exact ⟨o, cs', u, h1, h3, h4, h5⟩)
    refine ⟨(List.range len).map PS, ⟨some a, _, by simp; rfl, by simp; omega, fun i hi => ?_⟩⟩
    have hi' : i < len := by simpa using hi
    obtain ⟨cs', u, h1, h2, h3, h4⟩ := hPS i hi'
    obtain ⟨_, hln, hc⟩ := World.cells?_some h1
    obtain ⟨bb, off, spot⟩ := a
    have hspot : spot = none := by
      obtain ⟨cs0, h0, _⟩ := hel 0 (by omega)
      obtain ⟨_, hl0, hc0⟩ := World.cells?_some h0
      have := hc0 0 (by omega)
      rw [List.getElem?_eq_getElem (by omega)] at this
      simpa [Addr.add] using World.cell?_spot this
    subst hspot
    rw [range_gop PS len i hi']
    have hr : W.rangeAt bb (off + i * 37) cs' := by
      intro j v hv
      have hj : j < 37 := by have := (List.getElem?_eq_some_iff.1 hv).1; omega
      have := hc j hj
      rw [addr_add, addr_add, hv] at this
      exact this
    have h0 : cs'[0]? = some (cs'[0]'(by omega)) := List.getElem?_eq_getElem (by omega)
    have hbb := block_lt (hr 0 _ h0)
    rw [h2] at hr
    exact ⟨bb, off, u, rfl, hbb, hr, h3, h4⟩
end Go.Proofs.Ytebgdenfaiinmaa
