import Derived.Test.YtdfpmgjholdknaaDoorUq
import Derived.ProofKit
import Derived.OpenShut
import Derived.ChangeOld
import Derived.Deep.Slices
namespace Go.Proofs.YtdfpmgjholdknaaDoor
set_option maxRecDepth 100000
open Go Go.ChangeShapes Go.WideShapes Go.ChangeAt Go.RowKit Go.Deep

/-! Schemas out of the data. -/
theorem bSl56 : Tryd.prog.bytesOf 55 = 56 := by kernel_rfl
theorem cSl5 : Tryd.prog.cellsOf 55 = 5 := by kernel_rfl
theorem cI1s : Tryd.prog.cellsOf 3 = 1 := by kernel_rfl
theorem cU1s : Tryd.prog.cellsOf 38 = 1 := by kernel_rfl
theorem cSs1 : Tryd.prog.cellsOf 22 = 1 := by kernel_rfl
theorem block_lts {w : World} {b o : Nat} {v : Value} (h : w.cell? ⟨b, o, none⟩ = some v) : b < w.heap.size := by
  rcases Nat.lt_or_ge b w.heap.size with x | x
  · exact x
  · have : w.heap[b]? = none := Array.getElem?_eq_none x
    simp [World.cell?, this] at h
theorem weightsAll_inS {H : Type} {P : Program} {e : TypeId} : ∀ {l : List (DataW H)} {d : DataW H}, d ∈ l → ∀ n ∈ d.weights P e, n ∈ DataW.weightsAll P e l
  | x :: r, d, h, n, hn => by
    rw [DataW.weightsAll, List.mem_append]
    rcases List.mem_cons.1 h with rfl | h
    · exact .inl hn
    · exact .inr (weightsAll_inS h n hn)
theorem range_gs (PS : Nat → Slt) (n i : Nat) (h : i < n) : gs ((List.range n).map PS) i = PS i := by
  rw [gs, List.getD_eq_getElem?_getD, List.getElem?_map, List.getElem?_range h]; rfl
theorem range_gvs (PS : Nat → Value) (n i : Nat) (h : i < n) : gvs ((List.range n).map PS) i = PS i := by
  rw [gvs, List.getD_eq_getElem?_getD, List.getElem?_map, List.getElem?_range h]; rfl
/-- A slot's cells, its Sub left as it is read. -/
theorem slot_of_trod {H : Type} {enc : TypeId × Value → H} {W : World} {m : Nat} {cs : List Value} {x : DataW H × List MemPlace} (h : DataW.trod enc Tryd.prog W 0 (fun _ => true) true m 55 cs = some x) :
    ∃ (no k : Int) (l mo : Nat) (u : Value) (n : Nat) (y : DataW H × List MemPlace), (∀ sub, cs = srow (.mk no k l mo sub) u ∧ Sok (.mk no k l mo sub)) ∧ DataW.trod enc Tryd.prog W 0 (fun _ => true) true n 22 [u] = some y ∧ SizeOf.sizeOf y.1 < SizeOf.sizeOf x.1 ∧ ∀ z ∈ y.1.weights Tryd.prog 22, z ∈ x.1.weights Tryd.prog 55 := by
  obtain ⟨xs, m, rfl, rfl, hlen, hxl, hf⟩ := DataW.trod_struct Tryd.underlying55 h
  rw [cSl5] at hlen
  have g0 := hf 0 _ rfl; have g1 := hf 1 _ rfl; have g2 := hf 2 _ rfl; have g3 := hf 3 _ rfl; have g4 := hf 4 _ rfl
  clear hf h
  match cs, hlen, xs, hxl, g0, g1, g2, g3, g4 with
  | [c0, c1, c2, c3, c4], _, [x0, x1, x2, x3, x4], _, g0, g1, g2, g3, g4 =>
    obtain ⟨K, e0, _, wK⟩ := DataW.trod_int Tryd.underlying3 g0
    obtain ⟨A, e1, _, wA⟩ := DataW.trod_int Tryd.underlying3 g1
    obtain ⟨C, e2, _, wC⟩ := DataW.trod_int Tryd.underlying38 g2
    obtain ⟨E, e3, _, wE⟩ := DataW.trod_int Tryd.underlying38 g3
    have q0 : c0 = .int .i64 K := by
      have q : ([c0, c1, c2, c3, c4].drop 0).take (Tryd.prog.cellsOf 3) = [.int .i64 K] := e0
      rw [cI1s] at q
      simpa using q
    have q1 : c1 = .int .i64 A := by
      have q : ([c0, c1, c2, c3, c4].drop 1).take (Tryd.prog.cellsOf 3) = [.int .i64 A] := e1
      rw [cI1s] at q
      simpa using q
    have q2 : c2 = .int .u64 C := by
      have q : ([c0, c1, c2, c3, c4].drop 2).take (Tryd.prog.cellsOf 38) = [.int .u64 C] := e2
      rw [cU1s] at q
      simpa using q
    have q3 : c3 = .int .u64 E := by
      have q : ([c0, c1, c2, c3, c4].drop 3).take (Tryd.prog.cellsOf 38) = [.int .u64 E] := e3
      rw [cU1s] at q
      simpa using q
    have q4 : DataW.trod enc Tryd.prog W 0 (fun _ => true) true m 22 [c4] = some x4 := by
      have q : DataW.trod enc Tryd.prog W 0 (fun _ => true) true m 22 (([c0, c1, c2, c3, c4].drop 4).take (Tryd.prog.cellsOf 22)) = some x4 := g4
      rw [cSs1] at q
      simpa using q
    have bK := bounds_i64 wK
    have bA := bounds_i64 wA
    have bC := bounds_u64 wC
    have bE := bounds_u64 wE
    obtain ⟨N, rfl⟩ := Int.eq_ofNat_of_zero_le bC.1
    obtain ⟨M, rfl⟩ := Int.eq_ofNat_of_zero_le bE.1
    refine ⟨K, A, N, M, c4, m, x4, fun sub => ⟨by rw [q0, q1, q2, q3]; rfl, bK, bA, by show N < _; omega, by show M < _; omega⟩, q4, ?_, fun z hz => ?_⟩
    · simp only [List.map_cons, List.map_nil, DataW.agg.sizeOf_spec, List.cons.sizeOf_spec]
      omega
    · simp only [DataW.weights, Tryd.underlying55]
      exact DataW.weights_mem_each (j := 4) rfl rfl z hz
theorem slo_of_size {H : Type} {enc : TypeId × Value → H} {W : World} : ∀ (N : Nat) {m : Nat} {v : Value} {x : DataW H × List MemPlace}, SizeOf.sizeOf x.1 ≤ N → DataW.trod enc Tryd.prog W 0 (fun _ => true) true m 22 [v] = some x → (∀ n ∈ x.1.weights Tryd.prog 22, n ≤ reachBytes) → ∃ ts : List Slt, Slo W v ts
  | 0, m, v, x, hN, _, _ => by
    exfalso
    cases h : x.1 <;> rw [h] at hN <;> simp at hN
  | N + 1, m, v, x, hN, hf, hs => by
    rcases open_slice Tryd.underlying22 hf with ⟨hcs, hx⟩ | ⟨a, len, cap, m, n, D, Pl, hcs, _, hl, hm, hmm, hx, hel⟩
    · injection hcs with hv _
      subst hv
      exact ⟨[], .mk none 0 [] [] (by simp) (by simp) (fun _ => rfl) (fun i hi => by simp at hi) (fun i hi => by simp at hi)⟩
    · injection hcs with hv _
      subst hv
      subst hx
      simp only [if_true] at hmm
      subst hmm
      rw [cSl5] at hel
      have hb := hs ((((List.range len).map D).length + ((List.range (m - len)).map fun j => D (len + j)).length) * 56) (by simp [DataW.weights, Tryd.underlying22, bSl56])
      simp only [List.length_map, List.length_range, reachBytes] at hb
      obtain ⟨PS, hPS⟩ := @choose_lt (Slt × Value) ⟨(s0, undef)⟩ len (fun i f => ∃ cs', W.cells? 0 (a.add (i * 5)) 5 = some cs' ∧ cs' = srow f.1 f.2 ∧ Sok f.1 ∧ Slo W f.2 f.1.sub) (fun i hi => by
        obtain ⟨cs', h1, h2⟩ := hel i (by omega)
        obtain ⟨no, k, l, mo, u, n', y, h3, h4, h5, h6⟩ := slot_of_trod h2
        have hmem : D i ∈ (List.range len).map D := List.mem_map.2 ⟨i, List.mem_range.2 hi, rfl⟩
        have hsz : SizeOf.sizeOf (D i) < SizeOf.sizeOf ((List.range len).map D) := List.sizeOf_lt_of_mem hmem
        obtain ⟨sub, hsub⟩ := slo_of_size N (x := y) (by
          simp only [DataW.slice.sizeOf_spec] at hN
          simp only at h5
          omega) h4 (fun z hz => hs z (by
          simp only [DataW.weights, Tryd.underlying22]
          exact List.mem_cons_of_mem _ (List.mem_append_left _ (weightsAll_inS hmem z (h6 z hz)))))
        exact ⟨(.mk no k l mo sub, u), cs', h1, (h3 sub).1, (h3 sub).2, hsub⟩)
      have e : (Value.slice (some a) len m) = .slice (some a) ((List.range len).map fun i => (PS i).1).length m := by simp
      rw [e]
      refine ⟨_, .mk (some a) m _ ((List.range len).map fun i => (PS i).2) (by simp; omega) (by simp; exact hl) (fun e => by cases e) (fun i hi => ?_) (fun i hi => ?_)⟩
      · have hi' : i < len := by simpa using hi
        obtain ⟨cs', h1, h2, h3, _⟩ := hPS i hi'
        obtain ⟨_, hln, hc⟩ := World.cells?_some h1
        obtain ⟨bb, off, spot⟩ := a
        have hspot : spot = none := by
          obtain ⟨cs0, h0, _⟩ := hel 0 (by omega)
          obtain ⟨_, hl0, hc0⟩ := World.cells?_some h0
          have := hc0 0 (by omega)
          rw [List.getElem?_eq_getElem (by omega)] at this
          simpa [Addr.add] using World.cell?_spot this
        subst hspot
        rw [range_gs _ len i hi', range_gvs _ len i hi']
        have hr : W.rangeAt bb (off + i * 5) cs' := by
          intro j v hv
          have hj : j < 5 := by have := (List.getElem?_eq_some_iff.1 hv).1; omega
          have := hc j hj
          rw [addr_add, addr_add, hv] at this
          exact this
        rw [h2] at hr
        exact ⟨bb, off, rfl, block_lts (hr 0 _ rfl), hr, h3⟩
      · have hi' : i < len := by simpa using hi
        obtain ⟨_, _, _, _, h4⟩ := hPS i hi'
        rw [range_gs _ len i hi', range_gvs _ len i hi']
        exact h4
theorem slo_of_trod {H : Type} {enc : TypeId × Value → H} {W : World} {m : Nat} {v : Value} {x : DataW H × List MemPlace} (hf : DataW.trod enc Tryd.prog W 0 (fun _ => true) true m 22 [v] = some x) (hs : ∀ n ∈ x.1.weights Tryd.prog 22, n ≤ reachBytes) : ∃ ts : List Slt, Slo W v ts := slo_of_size _ (Nat.le_refl _) hf hs
end Go.Proofs.YtdfpmgjholdknaaDoor
