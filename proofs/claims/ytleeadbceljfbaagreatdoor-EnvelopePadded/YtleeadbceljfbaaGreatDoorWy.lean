import Derived.Test.YtleeadbceljfbaaGreatDoorQa6
import Derived.Test.YtleeadbceljfbaaGreatDoorWh
import Derived.Deep.Slices
namespace Go.Proofs.YtleeadbceljfbaaGreatDoor
set_option maxRecDepth 100000
open Go Go.ChangeShapes Go.WideShapes Go.ChangeAt Go.RowKit Go.Deep

/-! Fields out of the data. -/
theorem bFd48 : Tryz.prog.bytesOf 60 = 48 := by kernel_rfl
theorem cFd4 : Tryz.prog.cellsOf 60 = 4 := by kernel_rfl
theorem cI1 : Tryz.prog.cellsOf 3 = 1 := by kernel_rfl
theorem cU1 : Tryz.prog.cellsOf 58 = 1 := by kernel_rfl
theorem weightsAll_inF {H : Type} {P : Program} {e : TypeId} : ∀ {l : List (DataW H)} {d : DataW H}, d ∈ l → ∀ n ∈ d.weights P e, n ∈ DataW.weightsAll P e l
  | x :: r, d, h, n, hn => by
    rw [DataW.weightsAll, List.mem_append]
    rcases List.mem_cons.1 h with rfl | h
    · exact .inl hn
    · exact .inr (weightsAll_inF h n hn)
theorem range_gf (PS : Nat → Fd) (n i : Nat) (h : i < n) : gf ((List.range n).map PS) i = PS i := by
  rw [gf, List.getD_eq_getElem?_getD, List.getElem?_map, List.getElem?_range h]; rfl
theorem fd_of_trod {H : Type} {enc : TypeId × Value → H} {W : World} {m : Nat} {cs : List Value} {x : DataW H × List MemPlace} (h : DataW.trod enc Tryz.prog W 0 (fun _ => true) true m 60 cs = some x) (hs : ∀ n ∈ x.1.weights Tryz.prog 60, n ≤ reachBytes) : ∃ (f : Fd) (u : Value), cs = frow f u ∧ BysB W u f.dat ∧ Fok f := by
  obtain ⟨xs, m, rfl, rfl, hlen, hxl, hf⟩ := DataW.trod_struct Tryz.underlying60 h
  rw [cFd4] at hlen
  have g0 := hf 0 _ rfl; have g1 := hf 1 _ rfl; have g2 := hf 2 _ rfl; have g3 := hf 3 _ rfl
  clear hf h
  match cs, hlen, xs, hxl, g0, g1, g2, g3, hs with
  | [c0, c1, c2, c3], _, [x0, x1, x2, x3], _, g0, g1, g2, g3, hs =>
    obtain ⟨K, e0, _, wK⟩ := DataW.trod_int Tryz.underlying3 g0
    obtain ⟨A, e1, _, _⟩ := DataW.trod_int Tryz.underlying3 g1
    obtain ⟨C, e2, _, wC⟩ := DataW.trod_int Tryz.underlying58 g2
    have q0 : c0 = .int .i64 K := by
      have q : ([c0, c1, c2, c3].drop 0).take (Tryz.prog.cellsOf 3) = [.int .i64 K] := e0
      rw [cI1] at q
      simpa using q
    have q1 : c1 = .int .i64 A := by
      have q : ([c0, c1, c2, c3].drop 1).take (Tryz.prog.cellsOf 3) = [.int .i64 A] := e1
      rw [cI1] at q
      simpa using q
    have q2 : c2 = .int .u64 C := by
      have q : ([c0, c1, c2, c3].drop 2).take (Tryz.prog.cellsOf 58) = [.int .u64 C] := e2
      rw [cU1] at q
      simpa using q
    have q3 : DataW.trod enc Tryz.prog W 0 (fun _ => true) true m 28 [c3] = some x3 := by
      have q : DataW.trod enc Tryz.prog W 0 (fun _ => true) true m 28 (([c0, c1, c2, c3].drop 3).take (Tryz.prog.cellsOf 28)) = some x3 := g3
      rw [cSl6] at q
      simpa using q
    obtain ⟨v', d, ev, hB⟩ := bysC_of_trod q3 (fun n hn => hs n (by
      simp only [DataW.weights, Tryz.underlying60]
      exact DataW.weights_mem_each (j := 3) rfl rfl n hn))
    have ev' : c3 = v' := by simpa using ev
    subst ev'
    have bC := bounds_u64 wC
    have bK := bounds_i64 wK
    obtain ⟨N, rfl⟩ := Int.eq_ofNat_of_zero_le bC.1
    exact ⟨⟨K, A, N, d⟩, c3, by rw [q0, q1, q2]; rfl, hB.1, by show N < _; omega, hB.2.1, by show _ ≤ K; omega, by show K ≤ _; omega⟩
theorem fds_of_trod {H : Type} {enc : TypeId × Value → H} {W : World} {m : Nat} {v : Value} {x : DataW H × List MemPlace} (hf : DataW.trod enc Tryz.prog W 0 (fun _ => true) true m 55 [v] = some x) (hs : ∀ n ∈ x.1.weights Tryz.prog 55, n ≤ reachBytes) : ∃ fs : List Fd, Fds W v fs := by
  rcases open_slice Tryz.underlying55 hf with ⟨hcs, hx⟩ | ⟨a, len, cap, m, n, D, Pl, hcs, _, hl, hm, hmm, hx, hel⟩
  · injection hcs with hv _
    subst hv
    exact ⟨[], ⟨none, 0, rfl, by decide, by decide, fun _ => rfl, fun i hi => by simp at hi⟩⟩
  · injection hcs with hv _
    subst hv
    subst hx
    simp only [if_true] at hmm
    subst hmm
    rw [cFd4] at hel
    have hb := hs ((((List.range len).map D).length + ((List.range (m - len)).map fun j => D (len + j)).length) * 48) (by simp [DataW.weights, Tryz.underlying55, bFd48])
    simp only [List.length_map, List.length_range, reachBytes] at hb
    obtain ⟨PS, hPS⟩ := @choose_lt Fd ⟨f0⟩ len (fun i f => ∃ cs' u, W.cells? 0 (a.add (i * 4)) 4 = some cs' ∧ cs' = frow f u ∧ BysB W u f.dat ∧ Fok f) (fun i hi => by
      obtain ⟨cs', h1, h2⟩ := hel i (by omega)
      obtain ⟨f, u, h3, h4, h5⟩ := fd_of_trod h2 (fun n hn => hs n (by
        simp only [DataW.weights, Tryz.underlying55]
        exact List.mem_cons_of_mem _ (List.mem_append_left _ (weightsAll_inF (List.mem_map.2 ⟨i, List.mem_range.2 hi, rfl⟩) n hn))))
      exact ⟨f, cs', u, h1, h3, h4, h5⟩)
    refine ⟨(List.range len).map PS, ⟨some a, _, by simp; rfl, by simp; omega, by simp; exact hl, (fun e => by cases e), fun i hi => ?_⟩⟩
    have hi' : i < len := by simpa using hi
    obtain ⟨cs', u, h1, h2, h3, h4⟩ := hPS i hi'
    obtain ⟨_, hln, hc⟩ := World.cells?_some h1
    obtain ⟨bb, off, spot⟩ := a
    have hspot : spot = none := by
      obtain ⟨cs0, h0, _⟩ := hel 0 (by omega)
      obtain ⟨_, hl0, hc0⟩ := World.cells?_some h0
      have := hc0 0 (by omega)
      rw [List.getElem?_eq_getElem (by omega)] at this
      simpa [Addr.add] using World.cell?_spot this
    subst hspot
    rw [range_gf PS len i hi']
    have hr : W.rangeAt bb (off + i * 4) cs' := by
      intro j v hv
      have hj : j < 4 := by have := (List.getElem?_eq_some_iff.1 hv).1; omega
      have := hc j hj
      rw [addr_add, addr_add, hv] at this
      exact this
    rw [h2] at hr
    exact ⟨bb, off, u, rfl, block_lt6 (hr 0 _ rfl), hr, h3, h4⟩
end Go.Proofs.YtleeadbceljfbaaGreatDoor
