import Derived.Test.YtjofbnilhkmpeaaDoorHka
import Derived.Test.YtjofbnilhkmpeaaDoorOpen
import Derived.Deep.Slices
import Derived.ChangeSlices
import Derived.SizedLaws
namespace Go.Proofs.YtjofbnilhkmpeaaDoor
set_option maxRecDepth 100000
open Go Go.RowKit Go.Sort Go.ChangeShapes Go.WideShapes Go.Deep

/-! Spares out of the data. -/
theorem cSpA : Tryd.prog.cellsOf 52 = 65 := by kernel_rfl
theorem bSpA : Tryd.prog.bytesOf 52 = 68 := by kernel_rfl
theorem cKeyA : Tryd.prog.cellsOf 23 = 32 := by kernel_rfl
theorem cU32A : Tryd.prog.cellsOf 35 = 1 := by kernel_rfl
theorem cU8A : Tryd.prog.cellsOf 5 = 1 := by kernel_rfl
theorem block_lt {w : World} {b o : Nat} {v : Value} (h : w.cell? ⟨b, o, none⟩ = some v) : b < w.heap.size := by
  rcases Nat.lt_or_ge b w.heap.size with q | q
  · exact q
  · simp [World.cell?, Array.getElem?_eq_none q] at h
/-- Cells that are read as an array of bytes. -/
theorem cells_key {H : Type} {enc : TypeId × Value → H} {W : World} {m : Nat} {cs : List Value} {x : DataW H × List MemPlace} (h : DataW.trod enc Tryd.prog W 0 (fun _ => true) true m 23 cs = some x) : ∃ l : List Int, l.length = 32 ∧ cs = l.map (Value.int .u8) := by
  obtain ⟨xs, m, _, _, hlen, hn, hel⟩ := DataW.trod_array Tryd.underlying23 h
  rw [cKeyA] at hlen
  obtain ⟨l, hl, hw⟩ := ints_of cs .u8 (fun i hi => by
    have hin : i < 32 := by omega
    have e1 := hel i hin
    rw [cU8A, List.getElem?_eq_getElem (show i < xs.length by omega)] at e1
    obtain ⟨a, q0, _, q2⟩ := DataW.trod_int Tryd.underlying5 e1
    simp only [Nat.mul_one] at q0
    rw [List.drop_eq_getElem_cons hi, List.take_succ_cons, List.take_zero] at q0
    injection q0 with q0 _
    exact ⟨a, q0, q2⟩)
  refine ⟨l, ?_, hl⟩
  have := congrArg List.length hl
  rw [List.length_map, hlen] at this
  omega
theorem sr_of_trod {H : Type} {enc : TypeId × Value → H} {W : World} {m : Nat} {cs : List Value} {x : DataW H × List MemPlace} (hf : DataW.trod enc Tryd.prog W 0 (fun _ => true) true m 52 cs = some x) : ∃ s : Sr, s.ok ∧ cs = srl s := by
  obtain ⟨xs, n, _, rfl, hl, hlen, hfld⟩ := DataW.trod_struct Tryd.underlying52 hf
  rw [cSpA] at hl
  match xs, hlen with
  | [y0, y1, y2], _ =>
  have f0 : DataW.trod enc Tryd.prog W 0 (fun _ => true) true n 23 ((cs.drop 0).take (Tryd.prog.cellsOf 23)) = some y0 := hfld 0 _ rfl
  have f1 : DataW.trod enc Tryd.prog W 0 (fun _ => true) true n 35 ((cs.drop 32).take (Tryd.prog.cellsOf 35)) = some y1 := hfld 1 _ rfl
  have f2 : DataW.trod enc Tryd.prog W 0 (fun _ => true) true n 23 ((cs.drop 33).take (Tryd.prog.cellsOf 23)) = some y2 := hfld 2 _ rfl
  simp only [cKeyA, cU32A, List.drop_zero] at f0 f1 f2
  obtain ⟨h, hh, e0⟩ := cells_key f0
  obtain ⟨a, e1, _, _⟩ := DataW.trod_int Tryd.underlying35 f1
  obtain ⟨k, hk, e2⟩ := cells_key f2
  refine ⟨⟨h, a, k⟩, ⟨hh, hk⟩, ?_⟩
  have h1 := (List.take_append_drop 32 cs).symm
  have h2 := (List.take_append_drop 1 (cs.drop 32)).symm
  have h3 : (cs.drop 33).take 32 = cs.drop 33 := List.take_of_length_le (by rw [List.length_drop]; omega)
  rw [List.drop_drop] at h2
  rw [e0] at h1
  rw [e1] at h2
  rw [e2] at h3
  rw [h1, h2]
  show _ ++ (_ ++ List.drop 33 cs) = _
  rw [← h3]
  rfl
theorem range_gs (PS : Nat → Sr) (n i : Nat) (h : i < n) : gs ((List.range n).map PS) i = PS i := by
  rw [gs, List.getD_eq_getElem?_getD, List.getElem?_map, List.getElem?_range h]; rfl
theorem spl_of_trod {H : Type} {enc : TypeId × Value → H} {W : World} {m : Nat} {v : Value} {x : DataW H × List MemPlace} (hf : DataW.trod enc Tryd.prog W 0 (fun _ => true) true m 36 [v] = some x) (hs : ∀ n ∈ x.1.weights Tryd.prog 36, n ≤ reachBytes) : ∃ l : List Sr, SpL W v l := by
  rcases open_slice Tryd.underlying36 hf with ⟨hcs, hx⟩ | ⟨a, len, cap, m, n, D, Pl, hcs, _, hl, hm, hmm, hx, hel⟩
  · injection hcs with hv _
    subst hv
    exact ⟨[], ⟨none, 0, rfl, by decide, by decide, fun _ => rfl, AllOk.nil, fun i hi => by simp at hi⟩⟩
  · injection hcs with hv _
    subst hv
    subst hx
    simp only [if_true] at hmm
    subst hmm
    rw [cSpA] at hel
    have hb := hs ((((List.range len).map D).length + ((List.range (m - len)).map fun j => D (len + j)).length) * 68) (by simp [DataW.weights, Tryd.underlying36, bSpA])
    simp only [List.length_map, List.length_range, reachBytes] at hb
    obtain ⟨PS, hPS⟩ := @choose_lt Sr ⟨zsr⟩ len (fun i s => ∃ cs', W.cells? 0 (a.add (i * 65)) 65 = some cs' ∧ cs' = srl s ∧ s.ok) (fun i hi => by
      obtain ⟨cs', h1, h2⟩ := hel i (by omega)
      obtain ⟨s, h3, h4⟩ := sr_of_trod h2
      exact ⟨s, cs', h1, h4, h3⟩)
    refine ⟨(List.range len).map PS, ⟨some a, _, by simp; rfl, by simp; omega, by simp; exact hl, (fun e => by cases e), fun s hs => ?_, fun i hi => ?_⟩⟩
    · obtain ⟨i, hi, rfl⟩ := List.mem_map.1 hs
      obtain ⟨_, _, _, h⟩ := hPS i (List.mem_range.1 hi)
      exact h
    have hi' : i < len := by simpa using hi
    obtain ⟨cs', h1, h2, h3⟩ := hPS i hi'
    obtain ⟨_, hln, hc⟩ := World.cells?_some h1
    obtain ⟨bb, off, spot⟩ := a
    have hspot : spot = none := by
      obtain ⟨cs0, h0, _⟩ := hel 0 (by omega)
      obtain ⟨_, hl0, hc0⟩ := World.cells?_some h0
      have := hc0 0 (by omega)
      rw [List.getElem?_eq_getElem (by omega)] at this
      simpa [Addr.add] using World.cell?_spot this
    subst hspot
    rw [range_gs PS len i hi']
    have hr : W.rangeAt bb (off + i * 65) cs' := by
      intro j v hv
      have hj : j < 65 := by have := (List.getElem?_eq_some_iff.1 hv).1; omega
      have := hc j hj
      rw [addr_add, addr_add, hv] at this
      exact this
    have h0 : cs'[0]? = some (cs'[0]'(by omega)) := List.getElem?_eq_getElem (by omega)
    have hbb := block_lt (hr 0 _ h0)
    rw [h2] at hr
    exact ⟨bb, off, rfl, hbb, hr⟩
end Go.Proofs.YtjofbnilhkmpeaaDoor
