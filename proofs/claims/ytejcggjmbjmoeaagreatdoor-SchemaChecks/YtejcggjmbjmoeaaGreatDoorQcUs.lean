import Derived.Test.YtejcggjmbjmoeaaGreatDoorQcKyk
import Derived.ProofKit
import Derived.OpenShut
import Derived.ChangeOld
import Derived.Deep.Slices
import Derived.Test.YtejcggjmbjmoeaaGreatDoorQcIrf
import Derived.Test.YtejcggjmbjmoeaaGreatDoorRows
import Derived.Test.YtejcggjmbjmoeaaGreatDoorProg
import Derived.Lib.LaidU8T
import Derived.Lib.LaidIn
import Derived.Laws.EntriesVeiled
namespace Go.Proofs.YtejcggjmbjmoeaaGreatDoor
set_option maxRecDepth 100000
open Go Go.ChangeShapes Go.WideShapes Go.ChangeAt Go.RowKit Go.Deep
/-! Schemas out of the data. -/
theorem bSl56 : Tryz.prog.bytesOf 88 = 56 := by kernel_rfl
theorem cSl5 : Tryz.prog.cellsOf 88 = 5 := by kernel_rfl
theorem cI1s : Tryz.prog.cellsOf 3 = 1 := by kernel_rfl
theorem cU1s : Tryz.prog.cellsOf 23 = 1 := by kernel_rfl
theorem cSs1 : Tryz.prog.cellsOf 22 = 1 := by kernel_rfl
theorem block_lts {w : World} {b o : Nat} {v : Value} (h : w.cell? ⟨b, o, none⟩ = some v) : b < w.heap.size := by
 rcases Nat.lt_or_ge b w.heap.size with x | x
 ·exact x
 ·have : w.heap[b]? = none := Array.getElem?_eq_none x
  simp [World.cell?, this] at h
theorem weightsAll_inS {H : Type} {P : Program} {e : TypeId} : ∀ {l : List (DataW H)} {d : DataW H}, d ∈ l → ∀ n ∈ d.weights P e, n ∈ DataW.weightsAll P e l
 | x :: r, d, h, n, hn => by
  rw [DataW.weightsAll, List.mem_append]
  rcases List.mem_cons.1 h with rfl | h
  ·exact .inl hn
  ·exact .inr (weightsAll_inS h n hn)
theorem range_gs (PS : Nat → Slt) (n i : Nat) (h : i < n) : gs ((List.range n).map PS) i = PS i := by
 rw [gs, List.getD_eq_getElem?_getD, List.getElem?_map, List.getElem?_range h]; rfl
theorem range_gvs (PS : Nat → Value) (n i : Nat) (h : i < n) : gvs ((List.range n).map PS) i = PS i := by
 rw [gvs, List.getD_eq_getElem?_getD, List.getElem?_map, List.getElem?_range h]; rfl
theorem slot_of_trod {H : Type} {enc : TypeId × Value → H} {W : World} {m : Nat} {cs : List Value} {x : DataW H × List MemPlace} (h : DataW.trod enc Tryz.prog W 0 (fun _ => true) true m 88 cs = some x) :
 ∃ (no k : Int) (l mo : Nat) (u : Value) (n : Nat) (y : DataW H × List MemPlace), (∀ sub, cs = srow (.mk no k l mo sub) u ∧ Sok (.mk no k l mo sub)) ∧ DataW.trod enc Tryz.prog W 0 (fun _ => true) true n 22 [u] = some y ∧ SizeOf.sizeOf y.1 < SizeOf.sizeOf x.1 ∧ ∀ z ∈ y.1.weights Tryz.prog 22, z ∈ x.1.weights Tryz.prog 88 := by
 obtain ⟨xs, m, rfl, rfl, hlen, hxl, hf⟩ := DataW.trod_struct Tryz.underlying88 h
 rw [cSl5] at hlen
 have g0 := hf 0 _ rfl; have g1 := hf 1 _ rfl; have g2 := hf 2 _ rfl; have g3 := hf 3 _ rfl; have g4 := hf 4 _ rfl
 clear hf h
 match cs, hlen, xs, hxl, g0, g1, g2, g3, g4 with
 | [c0, c1, c2, c3, c4], _, [x0, x1, x2, x3, x4], _, g0, g1, g2, g3, g4 =>
  obtain ⟨K, e0, _, wK⟩ := DataW.trod_int Tryz.underlying3 g0
  obtain ⟨A, e1, _, wA⟩ := DataW.trod_int Tryz.underlying3 g1
  obtain ⟨C, e2, _, wC⟩ := DataW.trod_int Tryz.underlying23 g2
  obtain ⟨E, e3, _, wE⟩ := DataW.trod_int Tryz.underlying23 g3
  have q0 : c0 = .int .i64 K := by
   have q : ([c0, c1, c2, c3, c4].drop 0).take (Tryz.prog.cellsOf 3) = [.int .i64 K] := e0
   rw [cI1s] at q
   simpa using q
  have q1 : c1 = .int .i64 A := by
   have q : ([c0, c1, c2, c3, c4].drop 1).take (Tryz.prog.cellsOf 3) = [.int .i64 A] := e1
   rw [cI1s] at q
   simpa using q
  have q2 : c2 = .int .u64 C := by
   have q : ([c0, c1, c2, c3, c4].drop 2).take (Tryz.prog.cellsOf 23) = [.int .u64 C] := e2
   rw [cU1s] at q
   simpa using q
  have q3 : c3 = .int .u64 E := by
   have q : ([c0, c1, c2, c3, c4].drop 3).take (Tryz.prog.cellsOf 23) = [.int .u64 E] := e3
   rw [cU1s] at q
   simpa using q
  have q4 : DataW.trod enc Tryz.prog W 0 (fun _ => true) true m 22 [c4] = some x4 := by
   have q : DataW.trod enc Tryz.prog W 0 (fun _ => true) true m 22 (([c0, c1, c2, c3, c4].drop 4).take (Tryz.prog.cellsOf 22)) = some x4 := g4
   rw [cSs1] at q
   simpa using q
  have bK := bounds_i64 wK
  have bA := bounds_i64 wA
  have bC := bounds_u64 wC
  have bE := bounds_u64 wE
  obtain ⟨N, rfl⟩ := Int.eq_ofNat_of_zero_le bC.1
  obtain ⟨M, rfl⟩ := Int.eq_ofNat_of_zero_le bE.1
  refine ⟨K, A, N, M, c4, m, x4, fun sub => ⟨by rw [q0, q1, q2, q3]; rfl, bK, bA, by show N < _; omega, by show M < _; omega⟩, q4, ?_, fun z hz => ?_⟩
  ·simp only [List.map_cons, List.map_nil, DataW.agg.sizeOf_spec, List.cons.sizeOf_spec]
   omega
  ·simp only [DataW.weights, Tryz.underlying88]
   exact DataW.weights_mem_each (j := 4) rfl rfl z hz
theorem slo_of_size {H : Type} {enc : TypeId × Value → H} {W : World} : ∀ (N : Nat) {m : Nat} {v : Value} {x : DataW H × List MemPlace}, SizeOf.sizeOf x.1 ≤ N → DataW.trod enc Tryz.prog W 0 (fun _ => true) true m 22 [v] = some x → (∀ n ∈ x.1.weights Tryz.prog 22, n ≤ reachBytes) → ∃ ts : List Slt, Slo W v ts
 | 0, m, v, x, hN, _, _ => by
  exfalso
  cases h : x.1 <;> rw [h] at hN <;> simp at hN
 | N + 1, m, v, x, hN, hf, hs => by
  rcases open_slice Tryz.underlying22 hf with ⟨hcs, hx⟩ | ⟨a, len, cap, m, n, D, Pl, hcs, _, hl, hm, hmm, hx, hel⟩
  ·injection hcs with hv _
   subst hv
   exact ⟨[], .mk none 0 [] [] (by simp) (by simp) (fun _ => rfl) (fun i hi => by simp at hi) (fun i hi => by simp at hi)⟩
  ·injection hcs with hv _
   subst hv
   subst hx
   simp only [if_true] at hmm
   subst hmm
   rw [cSl5] at hel
   have hb := hs ((((List.range len).map D).length + ((List.range (m - len)).map fun j => D (len + j)).length) * 56) (by simp [DataW.weights, Tryz.underlying22, bSl56])
   simp only [List.length_map, List.length_range, reachBytes] at hb
   obtain ⟨PS, hPS⟩ := @choose_lt (Slt × Value) ⟨(s0, undef)⟩ len (fun i f => ∃ cs', W.cells? 0 (a.add (i * 5)) 5 = some cs' ∧ cs' = srow f.1 f.2 ∧ Sok f.1 ∧ Slo W f.2 f.1.sub) (fun i hi => by
    obtain ⟨cs', h1, h2⟩ := hel i (by omega)
    obtain ⟨no, k, l, mo, u, n', y, h3, h4, h5, h6⟩ := slot_of_trod h2
    have hmem : D i ∈ (List.range len).map D := List.mem_map.2 ⟨i, List.mem_range.2 hi, rfl⟩
    have hsz : SizeOf.sizeOf (D i) < SizeOf.sizeOf ((List.range len).map D) := List.sizeOf_lt_of_mem hmem
    obtain ⟨sub, hsub⟩ := slo_of_size N (x := y) (by
     simp only [DataW.slice.sizeOf_spec] at hN
     simp only at h5
     omega) h4 (fun z hz => hs z (by
     simp only [DataW.weights, Tryz.underlying22]
     exact List.mem_cons_of_mem _ (List.mem_append_left _ (weightsAll_inS hmem z (h6 z hz)))))
    exact ⟨(.mk no k l mo sub, u), cs', h1, (h3 sub).1, (h3 sub).2, hsub⟩)
   have e : (Value.slice (some a) len m) = .slice (some a) ((List.range len).map fun i => (PS i).1).length m := by simp
   rw [e]
   refine ⟨_, .mk (some a) m _ ((List.range len).map fun i => (PS i).2) (by simp; omega) (by simp; exact hl) (fun e => by cases e) (fun i hi => ?_) (fun i hi => ?_)⟩
   ·have hi' : i < len := by simpa using hi
    obtain ⟨cs', h1, h2, h3, _⟩ := hPS i hi'
    obtain ⟨_, hln, hc⟩ := World.cells?_some h1
    obtain ⟨bb, off, spot⟩ := a
    have hspot : spot = none := by
     obtain ⟨cs0, h0, _⟩ := hel 0 (by omega)
     obtain ⟨_, hl0, hc0⟩ := World.cells?_some h0
     have := hc0 0 (by omega)
     rw [List.getElem?_eq_getElem (by omega)] at this
     simpa [Addr.add] using World.cell?_spot this
    subst hspot
    rw [range_gs _ len i hi', range_gvs _ len i hi']
    have hr : W.rangeAt bb (off + i * 5) cs' := by
     intro j v hv
     have hj : j < 5 := by have := (List.getElem?_eq_some_iff.1 hv).1; omega
     have := hc j hj
     rw [addr_add, addr_add, hv] at this
     exact this
    rw [h2] at hr
    exact ⟨bb, off, rfl, block_lts (hr 0 _ rfl), hr, h3⟩
   ·have hi' : i < len := by simpa using hi
    obtain ⟨_, _, _, _, h4⟩ := hPS i hi'
    rw [range_gs _ len i hi', range_gvs _ len i hi']
    exact h4
theorem slo_of_trod {H : Type} {enc : TypeId × Value → H} {W : World} {m : Nat} {v : Value} {x : DataW H × List MemPlace} (hf : DataW.trod enc Tryz.prog W 0 (fun _ => true) true m 22 [v] = some x) (hs : ∀ n ∈ x.1.weights Tryz.prog 22, n ≤ reachBytes) : ∃ ts : List Slt, Slo W v ts := slo_of_size _ (Nat.le_refl _) hf hs
end Go.Proofs.YtejcggjmbjmoeaaGreatDoor
namespace Go.Proofs.YtejcggjmbjmoeaaGreatDoor
set_option maxRecDepth 100000
open Go Go.ChangeShapes Go.WideShapes Go.ChangeAt Go.RowKit Go.Deep
/-! Values out of the data. -/
theorem bVl56 : Tryz.prog.bytesOf 27 = 56 := by kernel_rfl
theorem cVl3 : Tryz.prog.cellsOf 27 = 3 := by kernel_rfl
theorem cUv1 : Tryz.prog.cellsOf 23 = 1 := by kernel_rfl
theorem cSv1 : Tryz.prog.cellsOf 25 = 1 := by kernel_rfl
theorem cBv1 : Tryz.prog.cellsOf 24 = 1 := by kernel_rfl
theorem block_ltv {w : World} {b o : Nat} {v : Value} (h : w.cell? ⟨b, o, none⟩ = some v) : b < w.heap.size := by
 rcases Nat.lt_or_ge b w.heap.size with x | x
 ·exact x
 ·have : w.heap[b]? = none := Array.getElem?_eq_none x
  simp [World.cell?, this] at h
theorem weightsAll_inV {H : Type} {P : Program} {e : TypeId} : ∀ {l : List (DataW H)} {d : DataW H}, d ∈ l → ∀ n ∈ d.weights P e, n ∈ DataW.weightsAll P e l
 | x :: r, d, h, n, hn => by
  rw [DataW.weightsAll, List.mem_append]
  rcases List.mem_cons.1 h with rfl | h
  ·exact .inl hn
  ·exact .inr (weightsAll_inV h n hn)
theorem range_gx (PS : Nat → VR) (n i : Nat) (h : i < n) : gx ((List.range n).map PS) i = PS i := by
 rw [gx, List.getD_eq_getElem?_getD, List.getElem?_map, List.getElem?_range h]; rfl
theorem range_gvt (PS : Nat → VT) (n i : Nat) (h : i < n) : gvt ((List.range n).map PS) i = PS i := by
 rw [gvt, List.getD_eq_getElem?_getD, List.getElem?_map, List.getElem?_range h]; rfl
theorem val_of_trod {H : Type} {enc : TypeId × Value → H} {W : World} {m : Nat} {cs : List Value} {x : DataW H × List MemPlace} (h : DataW.trod enc Tryz.prog W 0 (fun _ => true) true m 27 cs = some x) (hs : ∀ n ∈ x.1.weights Tryz.prog 27, n ≤ reachBytes) :
 ∃ (N : Nat) (bs : List B) (v u : Value) (n : Nat) (y : DataW H × List MemPlace), cs = [.int .u64 (N : Int), v, u] ∧ N < 18446744073709551616 ∧ BysC W v bs ∧ DataW.trod enc Tryz.prog W 0 (fun _ => true) true n 25 [u] = some y ∧ SizeOf.sizeOf y.1 < SizeOf.sizeOf x.1 ∧ ∀ z ∈ y.1.weights Tryz.prog 25, z ∈ x.1.weights Tryz.prog 27 := by
 obtain ⟨xs, m, rfl, rfl, hlen, hxl, hf⟩ := DataW.trod_struct Tryz.underlying27 h
 rw [cVl3] at hlen
 have g0 := hf 0 _ rfl; have g1 := hf 1 _ rfl; have g2 := hf 2 _ rfl
 clear hf h
 match cs, hlen, xs, hxl, g0, g1, g2 with
 | [c0, c1, c2], _, [x0, x1, x2], _, g0, g1, g2 =>
  obtain ⟨C, e0, _, wC⟩ := DataW.trod_int Tryz.underlying23 g0
  have q0 : c0 = .int .u64 C := by
   have q : ([c0, c1, c2].drop 0).take (Tryz.prog.cellsOf 23) = [.int .u64 C] := e0
   rw [cUv1] at q
   simpa using q
  have q1 : DataW.trod enc Tryz.prog W 0 (fun _ => true) true m 24 [c1] = some x1 := by
   have q : DataW.trod enc Tryz.prog W 0 (fun _ => true) true m 24 (([c0, c1, c2].drop 1).take (Tryz.prog.cellsOf 24)) = some x1 := g1
   rw [cBv1] at q
   simpa using q
  have q2 : DataW.trod enc Tryz.prog W 0 (fun _ => true) true m 25 [c2] = some x2 := by
   have q : DataW.trod enc Tryz.prog W 0 (fun _ => true) true m 25 (([c0, c1, c2].drop 2).take (Tryz.prog.cellsOf 25)) = some x2 := g2
   rw [cSv1] at q
   simpa using q
  have bC := bounds_u64 wC
  obtain ⟨N, rfl⟩ := Int.eq_ofNat_of_zero_le bC.1
  obtain ⟨v, bs, ev, hB⟩ := bysC_of_trod q1 (fun z hz => hs z (by
   simp only [DataW.weights, Tryz.underlying27]
   exact DataW.weights_mem_each (j := 1) rfl rfl z hz))
  injection ev with ev _
  subst ev
  refine ⟨N, bs, c1, c2, m, x2, by rw [q0], by omega, hB, q2, ?_, fun z hz => ?_⟩
  ·simp only [List.map_cons, List.map_nil, DataW.agg.sizeOf_spec, List.cons.sizeOf_spec]
   omega
  ·simp only [DataW.weights, Tryz.underlying27]
   exact DataW.weights_mem_each (j := 2) rfl rfl z hz
theorem bysC_form {W : World} {v : Value} {bs : List B} (h : BysC W v bs) : ∃ da dc, v = .slice da bs.length dc ∧ bs.length ≤ dc := by
 obtain ⟨⟨⟨ao, cap, e, _⟩, _⟩, _, hc⟩ := h
 rw [bl_len] at e
 exact ⟨ao, cap, e, hc _ _ _ e⟩
theorem inS_data {W : World} {da : Option Addr} {dl dc : Nat} {bs : List B} (h : BysC W (.slice da dl dc) bs) : InS W (fun _ => True) (lv dl da) := by
 intro a e
 have e1 := lv_some e
 subst e1
 obtain ⟨⟨ao, cap, e2, hl, hc, hz⟩, _⟩ := h.1
 injection e2 with e3 e4 e5
 subst e3
 have hpos : 0 < dl := by
  rcases Nat.eq_zero_or_pos dl with h0 | h0
  ·rw [h0] at e
   cases e
  ·exact h0
 obtain ⟨b, off, ea, hb, _⟩ := hc 0 (by omega)
 injection ea with ea
 subst ea
 exact ⟨trivial, hb⟩
theorem vtm_of_size {H : Type} {enc : TypeId × Value → H} {W : World} : ∀ (N : Nat) {m : Nat} {cs : List Value} {x : DataW H × List MemPlace}, SizeOf.sizeOf x.1 ≤ N → DataW.trod enc Tryz.prog W 0 (fun _ => true) true m 27 cs = some x → (∀ n ∈ x.1.weights Tryz.prog 27, n ≤ reachBytes) → ∃ (r : VR) (X : VT), cs = (vrv r).toList ∧ VtM W (fun _ => True) r X
 | 0, m, cs, x, hN, _, _ => by
  exfalso
  cases h : x.1 <;> rw [h] at hN <;> simp at hN
 | N + 1, m, cs, x, hN, hf, hs => by
  obtain ⟨Nn, bs, dv, u, n', y, hcs, hNn, hB, hy, hsz, hw⟩ := val_of_trod hf hs
  obtain ⟨da, dc, rfl, hdc⟩ := bysC_form hB
  have hI := inS_data hB
  rcases open_slice Tryz.underlying25 hy with ⟨hcu, hx⟩ | ⟨a, len, cap, m, n, D, Pl, hcu, _, hl, hm, hmm, hx, hel⟩
  ·injection hcu with hv _
   subst hv
   exact ⟨⟨Nn, da, bs.length, dc, none, 0, 0⟩, .mk Nn bs [], hcs, .mk ⟨Nn, da, bs.length, dc, none, 0, 0⟩ bs [] [] hNn rfl hB.2.1 hB.1 hdc hI rfl rfl (by simp) (by simp) (fun a e => by cases lv_some e) (fun i hi => by simp at hi) (fun i hi => by simp at hi)⟩
  ·injection hcu with hv _
   subst hv
   simp only [if_true] at hmm
   subst hmm
   rw [cVl3] at hel
   have hy1 : y.1 = .slice ((List.range len).map D) ((List.range (m - len)).map fun j => D (len + j)) := by rw [hx]
   have hb := hs ((((List.range len).map D).length + ((List.range (m - len)).map fun j => D (len + j)).length) * 56) (hw _ (by rw [hy1]; simp [DataW.weights, Tryz.underlying25, bVl56]))
   simp only [List.length_map, List.length_range, reachBytes] at hb
   obtain ⟨PS, hPS⟩ := @choose_lt (VR × VT) ⟨(vr0, vt0)⟩ len (fun i f => ∃ cs', W.cells? 0 (a.add (i * 3)) 3 = some cs' ∧ cs' = (vrv f.1).toList ∧ VtM W (fun _ => True) f.1 f.2) (fun i hi => by
    obtain ⟨cs', h1, h2⟩ := hel i (by omega)
    have hmem : D i ∈ (List.range len).map D := List.mem_map.2 ⟨i, List.mem_range.2 hi, rfl⟩
    have hsz2 : SizeOf.sizeOf (D i) < SizeOf.sizeOf ((List.range len).map D) := List.sizeOf_lt_of_mem hmem
    obtain ⟨r, X, e1, e2⟩ := vtm_of_size N (x := (D i, _)) (by
     rw [hy1] at hsz
     simp only [DataW.slice.sizeOf_spec] at hsz
     simp only
     omega) h2 (fun z hz => hs z (hw z (by
     rw [hy1]
     simp only [DataW.weights, Tryz.underlying25]
     exact List.mem_cons_of_mem _ (List.mem_append_left _ (weightsAll_inV hmem z hz)))))
    exact ⟨(r, X), cs', h1, e1, e2⟩)
   have spot : 0 < len → ∃ bb off, a = ⟨bb, off, none⟩ := fun h0 => by
    obtain ⟨bb, off, sp⟩ := a
    obtain ⟨cs0, h0', _⟩ := hel 0 (by omega)
    obtain ⟨_, hl0, hc0⟩ := World.cells?_some h0'
    have := hc0 0 (by omega)
    rw [List.getElem?_eq_getElem (by omega)] at this
    exact ⟨bb, off, by rw [show sp = none by simpa [Addr.add] using World.cell?_spot this]⟩
   have rng : ∀ i, i < len → ∃ b off, some a = some (⟨b, off, none⟩ : Addr) ∧ b < W.heap.size ∧ W.rangeAt b (off + i * 3) (vrv (PS i).1).toList := fun i hi => by
    obtain ⟨cs', h1, h2, _⟩ := hPS i hi
    obtain ⟨_, hln, hc⟩ := World.cells?_some h1
    obtain ⟨bb, off, rfl⟩ := spot (by omega)
    have hr : W.rangeAt bb (off + i * 3) cs' := by
     intro j v hv
     have hj : j < 3 := by have := (List.getElem?_eq_some_iff.1 hv).1; omega
     have := hc j hj
     rw [addr_add, addr_add, hv] at this
     exact this
    rw [h2] at hr
    exact ⟨bb, off, rfl, block_ltv (hr 0 _ rfl), hr⟩
   refine ⟨⟨Nn, da, bs.length, dc, some a, len, m⟩, .mk Nn bs ((List.range len).map fun i => (PS i).2), hcs, .mk ⟨Nn, da, bs.length, dc, some a, len, m⟩ bs ((List.range len).map fun i => (PS i).1) _ hNn rfl hB.2.1 hB.1 hdc hI (by simp) (by simp) (by simp; exact hl) (by simp; omega) (fun b e => ?_) (fun i hi => ?_) (fun i hi => ?_)⟩
   ·have e1 := lv_some e
    injection e1 with e1
    subst e1
    have hpos : 0 < len := by
     rcases Nat.eq_zero_or_pos len with h0 | h0
     ·rw [h0] at e
      cases e
     ·exact h0
    obtain ⟨bb, off, e2, hb2, _⟩ := rng 0 hpos
    injection e2 with e2
    subst e2
    exact ⟨trivial, hb2⟩
   ·have hi' : i < len := by simpa using hi
    obtain ⟨bb, off, e2, hb2, hr⟩ := rng i hi'
    rw [range_gx _ len i hi']
    exact ⟨bb, off, e2, hr⟩
   ·have hi' : i < len := by simpa using hi
    obtain ⟨_, _, _, h4⟩ := hPS i hi'
    rw [range_gx _ len i hi', range_gvt _ len i hi']
    exact h4
theorem val_of_data {H : Type} {enc : TypeId × Value → H} {W : World} {m : Nat} {cs : List Value} {x : DataW H × List MemPlace} (hf : DataW.trod enc Tryz.prog W 0 (fun _ => true) true m 27 cs = some x) (hs : ∀ n ∈ x.1.weights Tryz.prog 27, n ≤ reachBytes) : ∃ (r : VR) (X : VT), cs = (vrv r).toList ∧ VtM W (fun _ => True) r X := vtm_of_size _ (Nat.le_refl _) hf hs
end Go.Proofs.YtejcggjmbjmoeaaGreatDoor
namespace Go.Proofs.YtejcggjmbjmoeaaGreatDoor
set_option maxRecDepth 100000
open Go Go.RowKit
def rU : Go.Shelf.Ren where
 f := fun n => n
 t := fun n => if n = 5 then 5 else if n = 119 then 221 else if n = 138 then 223 else 224
 g := fun n => if n = 3 then 2 else 3
theorem tabs_of_reads {W : World} (h : laidMet Tryz.prog [("unicode/utf8.acceptRanges", Rows.laid_unicode_utf8_acceptRanges), ("unicode/utf8.first", Rows.laid_unicode_utf8_first)] W) : Lib.Utf8Tabs 2 3 W :=
 utf8Tabs_of_readsT (P := Tryz.prog) (ρ := rU) ⟨by kernel_rfl, by kernel_rfl, by kernel_rfl, by kernel_rfl⟩ ⟨by kernel_rfl, by kernel_rfl, by kernel_rfl, by kernel_rfl, by kernel_rfl, by kernel_rfl, by kernel_rfl⟩ (Lib.laidMet.reads h (.tail _ (.head _))) (Lib.laidMet.reads h (.head _))
end Go.Proofs.YtejcggjmbjmoeaaGreatDoor

