import Derived.Test.YtlbcdjflcghkeaaDoorTuw
import Derived.Test.YtlbcdjflcghkeaaDoorOpen
import Derived.Deep.Slices
import Derived.ChangeSlices
import Derived.SizedLaws
namespace Go.Proofs.YtlbcdjflcghkeaaDoor
set_option maxRecDepth 100000
open Go Go.RowKit Go.Sort Go.ChangeShapes Go.WideShapes Go.Deep

/-! Scripts out of the data. -/
theorem cKeyZ : Tryd.prog.cellsOf 23 = 32 := by kernel_rfl
theorem cU8Z : Tryd.prog.cellsOf 5 = 1 := by kernel_rfl
theorem cOpZ : Tryd.prog.cellsOf 30 = 37 := by kernel_rfl
theorem cIntZ : Tryd.prog.cellsOf 3 = 1 := by kernel_rfl
theorem cBoolZ : Tryd.prog.cellsOf 4 = 1 := by kernel_rfl
theorem cStrZ : Tryd.prog.cellsOf 9 = 1 := by kernel_rfl
theorem block_ltZ {w : World} {b o : Nat} {v : Value} (h : w.cell? ⟨b, o, none⟩ = some v) : b < w.heap.size := by
  rcases Nat.lt_or_ge b w.heap.size with q | q
  · exact q
  · simp [World.cell?, Array.getElem?_eq_none q] at h
theorem cells_keyZ {H : Type} {enc : TypeId × Value → H} {W : World} {m : Nat} {cs : List Value} {x : DataW H × List MemPlace} (h : DataW.trod enc Tryd.prog W 0 (fun _ => true) true m 23 cs = some x) : ∃ l : List Int, K32 l ∧ cs = l.map (Value.int .u8) := by
  obtain ⟨xs, m, _, _, hlen, hn, hel⟩ := DataW.trod_array Tryd.underlying23 h
  rw [cKeyZ] at hlen
  obtain ⟨l, hl, hw⟩ := ints_of cs .u8 (fun i hi => by
    have hin : i < 32 := by omega
    have e1 := hel i hin
    rw [cU8Z, List.getElem?_eq_getElem (show i < xs.length by omega)] at e1
    obtain ⟨a, q0, _, q2⟩ := DataW.trod_int Tryd.underlying5 e1
    simp only [Nat.mul_one] at q0
    rw [List.drop_eq_getElem_cons hi, List.take_succ_cons, List.take_zero] at q0
    injection q0 with q0 _
    exact ⟨a, q0, q2⟩)
  refine ⟨l, ⟨?_, fun z hz => u8_of_wf (hw z hz)⟩, hl⟩
  have := congrArg List.length hl
  rw [List.length_map, hlen] at this
  omega
theorem opn_of_trod {H : Type} {enc : TypeId × Value → H} {W : World} {m : Nat} {cs : List Value} {x : DataW H × List MemPlace} (hf : DataW.trod enc Tryd.prog W 0 (fun _ => true) true m 30 cs = some x) (hs : ∀ n ∈ x.1.weights Tryd.prog 30, n ≤ reachBytes) : ∃ o : Opn, cs = opl o ∧ OkO o := by
  obtain ⟨xs, n, _, rfl, hl, hlen, hfld⟩ := DataW.trod_struct Tryd.underlying30 hf
  rw [cOpZ] at hl
  match xs, hlen with
  | [y0, y1, y2, y3, y4, y5], _ =>
  have f0 : DataW.trod enc Tryd.prog W 0 (fun _ => true) true n 3 ((cs.drop 0).take (Tryd.prog.cellsOf 3)) = some y0 := hfld 0 _ rfl
  have f1 : DataW.trod enc Tryd.prog W 0 (fun _ => true) true n 4 ((cs.drop 1).take (Tryd.prog.cellsOf 4)) = some y1 := hfld 1 _ rfl
  have f2 : DataW.trod enc Tryd.prog W 0 (fun _ => true) true n 9 ((cs.drop 2).take (Tryd.prog.cellsOf 9)) = some y2 := hfld 2 _ rfl
  have f3 : DataW.trod enc Tryd.prog W 0 (fun _ => true) true n 23 ((cs.drop 3).take (Tryd.prog.cellsOf 23)) = some y3 := hfld 3 _ rfl
  have f4 : DataW.trod enc Tryd.prog W 0 (fun _ => true) true n 4 ((cs.drop 35).take (Tryd.prog.cellsOf 4)) = some y4 := hfld 4 _ rfl
  have f5 : DataW.trod enc Tryd.prog W 0 (fun _ => true) true n 9 ((cs.drop 36).take (Tryd.prog.cellsOf 9)) = some y5 := hfld 5 _ rfl
  simp only [cKeyZ, cStrZ, cIntZ, cBoolZ, List.drop_zero] at f0 f1 f2 f3 f4 f5
  obtain ⟨d, e0, _, _⟩ := DataW.trod_int Tryd.underlying3 f0
  obtain ⟨t, e1, _⟩ := DataW.trod_bool Tryd.underlying4 f1
  obtain ⟨s, e2, ew2, _⟩ := DataW.trod_string Tryd.underlying9 f2
  obtain ⟨k, hk, e3⟩ := cells_keyZ f3
  obtain ⟨r, e4, _⟩ := DataW.trod_bool Tryd.underlying4 f4
  obtain ⟨u, e5, _, _⟩ := DataW.trod_string Tryd.underlying9 f5
  refine ⟨⟨d, t, s, k, r, u⟩, ?_, hk, ?_⟩
  · have h1 := (List.take_append_drop 1 cs).symm
    have h2 := (List.take_append_drop 1 (cs.drop 1)).symm
    have h3 := (List.take_append_drop 1 (cs.drop 2)).symm
    have h4 := (List.take_append_drop 32 (cs.drop 3)).symm
    have h5 := (List.take_append_drop 1 (cs.drop 35)).symm
    have h6 : (cs.drop 36).take 1 = cs.drop 36 := List.take_of_length_le (by rw [List.length_drop]; omega)
    rw [List.drop_drop] at h2 h3 h4 h5
    rw [e0] at h1
    rw [e1] at h2
    rw [e2] at h3
    rw [e3] at h4
    rw [e4] at h5
    rw [e5] at h6
    rw [h1, h2]
    show _ ++ (_ ++ List.drop 2 cs) = _
    rw [h3]
    show _ ++ (_ ++ (_ ++ List.drop 3 cs)) = _
    rw [h4]
    show _ ++ (_ ++ (_ ++ (_ ++ List.drop 35 cs))) = _
    rw [h5]
    show _ ++ (_ ++ (_ ++ (_ ++ (_ ++ List.drop 36 cs)))) = _
    rw [← h6]
    rfl
  · have := hs s.data.toList.length (by
      simp only [DataW.weights, Tryd.underlying30]
      refine DataW.weights_mem_each (j := 2) rfl rfl _ ?_
      rw [ew2]
      simp [DataW.weights])
    simp only [reachBytes, Array.length_toList] at this
    show s.data.size ≤ _
    omega
theorem range_gopZ (PS : Nat → Opn) (n i : Nat) (h : i < n) : gop ((List.range n).map PS) i = PS i := by
  rw [gop, List.getD_eq_getElem?_getD, List.getElem?_map, List.getElem?_range h]; rfl
theorem weightsAll_inZ {H : Type} {P : Program} {e : TypeId} : ∀ {l : List (DataW H)} {d : DataW H}, d ∈ l → ∀ n ∈ d.weights P e, n ∈ DataW.weightsAll P e l
  | x :: r, d, h, n, hn => by
    rw [DataW.weightsAll, List.mem_append]
    rcases List.mem_cons.1 h with rfl | h
    · exact .inl hn
    · exact .inr (weightsAll_inZ h n hn)
theorem bOpZ : Tryd.prog.bytesOf 30 = 88 := by kernel_rfl
theorem scr_of_trod {H : Type} {enc : TypeId × Value → H} {W : World} {m : Nat} {v : Value} {x : DataW H × List MemPlace} (hf : DataW.trod enc Tryd.prog W 0 (fun _ => true) true m 24 [v] = some x) (hs : ∀ n ∈ x.1.weights Tryd.prog 24, n ≤ reachBytes) : ∃ os : List Opn, Scr W v os := by
  rcases open_slice Tryd.underlying24 hf with ⟨hcs, hx⟩ | ⟨a, len, cap, m, n, D, Pl, hcs, _, hl, hm, hmm, hx, hel⟩
  · injection hcs with hv _
    subst hv
    exact ⟨[], ⟨none, 0, rfl, by decide, fun i hi => by simp at hi⟩⟩
  · injection hcs with hv _
    subst hv
    subst hx
    simp only [if_true] at hmm
    subst hmm
    rw [cOpZ] at hel
    have hb := hs ((((List.range len).map D).length + ((List.range (m - len)).map fun j => D (len + j)).length) * 88) (by simp [DataW.weights, Tryd.underlying24, bOpZ])
    simp only [List.length_map, List.length_range, reachBytes] at hb
    obtain ⟨PS, hPS⟩ := @choose_lt Opn ⟨zop⟩ len (fun i o => ∃ cs', W.cells? 0 (a.add (i * 37)) 37 = some cs' ∧ cs' = opl o ∧ OkO o) (fun i hi => by
      obtain ⟨cs', h1, h2⟩ := hel i (by omega)
      obtain ⟨o, h3, h4⟩ := opn_of_trod h2 (fun n hn => hs n (by
        simp only [DataW.weights, Tryd.underlying24]
        exact List.mem_cons_of_mem _ (List.mem_append_left _ (weightsAll_inZ (List.mem_map.2 ⟨i, List.mem_range.2 hi, rfl⟩) n hn))))
      exact ⟨o, cs', h1, h3, h4⟩)
    refine ⟨(List.range len).map PS, ⟨some a, _, by simp; rfl, by simp; omega, fun i hi => ?_⟩⟩
    have hi' : i < len := by simpa using hi
    obtain ⟨cs', h1, h2, h3⟩ := hPS i hi'
    obtain ⟨_, hln, hc⟩ := World.cells?_some h1
    obtain ⟨bb, off, spot⟩ := a
    have hspot : spot = none := by
      obtain ⟨cs0, h0, _⟩ := hel 0 (by omega)
      obtain ⟨_, hl0, hc0⟩ := World.cells?_some h0
      have := hc0 0 (by omega)
      rw [List.getElem?_eq_getElem (by omega)] at this
      simpa [Addr.add] using World.cell?_spot this
    subst hspot
    rw [range_gopZ PS len i hi']
    have hr : W.rangeAt bb (off + i * 37) cs' := by
      intro j v hv
      have hj : j < 37 := by have := (List.getElem?_eq_some_iff.1 hv).1; omega
      have := hc j hj
      rw [addr_add, addr_add, hv] at this
      exact this
    have h0 : cs'[0]? = some (cs'[0]'(by omega)) := List.getElem?_eq_getElem (by omega)
    have hbb := block_ltZ (hr 0 _ h0)
    rw [h2] at hr
    exact ⟨h3, bb, off, rfl, hbb, hr⟩
end Go.Proofs.YtlbcdjflcghkeaaDoor
