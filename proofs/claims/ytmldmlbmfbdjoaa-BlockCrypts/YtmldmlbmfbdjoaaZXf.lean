import Derived.Test.YtmldmlbmfbdjoaaS4
import Derived.Test.YtmldmlbmfbdjoaaS0
import Derived.Deep.Slices
import Derived.ChangeSlices
import Derived.SizedLaws
namespace Go.Proofs.Ytmldmlbmfbdjoaa
open Go Go.RowKit Go.Sort Go.ChangeShapes Go.WideShapes Go.Deep

theorem cAsk : Try.prog.cellsOf 45 = 50 := by kernel_rfl
theorem cKeyA : Try.prog.cellsOf 26 = 32 := by kernel_rfl
theorem cNonceA : Try.prog.cellsOf 41 = 16 := by kernel_rfl
theorem cU64A : Try.prog.cellsOf 42 = 1 := by kernel_rfl
theorem cSlA : Try.prog.cellsOf 43 = 1 := by kernel_rfl
theorem cU8A : Try.prog.cellsOf 5 = 1 := by kernel_rfl
theorem bU8A : Try.prog.bytesOf 5 = 1 := by kernel_rfl
theorem bvA {z : Int} (h : 0 ≤ z ∧ z < 256) : ∃ x : B, z = bv x := by
  obtain ⟨n, rfl⟩ := Int.eq_ofNat_of_zero_le h.1
  exact ⟨BitVec.ofNat 8 n, by unfold bv; rw [BitVec.toNat_ofNat]; omega⟩
theorem blA : ∀ (l : List Int), (∀ z ∈ l, 0 ≤ z ∧ z < 256) → ∃ bs : List B, l = bl bs ∧ bs.length = l.length
  | [], _ => ⟨[], rfl, rfl⟩
  | z :: r, h => by
    obtain ⟨x, rfl⟩ := bvA (h z (by simp))
    obtain ⟨bs, rfl, e⟩ := blA r (fun y hy => h y (by simp [hy]))
    exact ⟨x :: bs, rfl, by simp [e]⟩
/-- Cells that are read as an array of bytes. -/
theorem cells_bytes {H : Type} {enc : TypeId × Value → H} {W : World} {m n : Nat} {t : TypeId} {cs : List Value} {x : DataW H × List MemPlace} (hu : Try.prog.underlying t = some (.array n 5)) (hc : Try.prog.cellsOf t = n) (h : DataW.trod enc Try.prog W 0 (fun _ => true) true m t cs = some x) : ∃ l : List B, l.length = n ∧ cs = (irow .u8 (bl l)).toList := by
  obtain ⟨xs, m, _, _, hlen, hn, hel⟩ := DataW.trod_array hu h
  rw [hc] at hlen
  obtain ⟨l, hl, hw⟩ := ints_of cs .u8 (fun i hi => by
    have hin : i < n := by omega
    have e1 := hel i hin
    rw [cU8A, List.getElem?_eq_getElem (show i < xs.length by omega)] at e1
    obtain ⟨a, q0, _, q2⟩ := DataW.trod_int Try.underlying5 e1
    simp only [Nat.mul_one] at q0
    rw [List.drop_eq_getElem_cons hi, List.take_succ_cons, List.take_zero] at q0
    injection q0 with q0 _
    exact ⟨a, q0, q2⟩)
  obtain ⟨bs, rfl, e⟩ := blA l (fun z hz => u8_of_wf (hw z hz))
  refine ⟨bs, ?_, by rw [hl]; simp [irow]⟩
  have := congrArg List.length hl
  rw [List.length_map, hlen] at this
  omega
theorem block_lt {w : World} {b o : Nat} {v : Value} (h : w.cell? ⟨b, o, none⟩ = some v) : b < w.heap.size := by
  rcases Nat.lt_or_ge b w.heap.size with q | q
  · exact q
  · simp [World.cell?, Array.getElem?_eq_none q] at h
/-- A list of bytes that is read. -/
theorem bys_of_trod {H : Type} {enc : TypeId × Value → H} {W : World} {m : Nat} {cs : List Value} {x : DataW H × List MemPlace} (hf : DataW.trod enc Try.prog W 0 (fun _ => true) true m 43 cs = some x) (hs : ∀ n ∈ x.1.weights Try.prog 43, n ≤ reachBytes) : ∃ v d, cs = [v] ∧ BysB W v d := by
  rcases open_ints Try.underlying43 Try.underlying5 cU8A hf with ⟨hcs, hx⟩ | ⟨a, len, cap, zs, hcs, _, hl, hm, hz, hx, hcell, hwz⟩
  · exact ⟨_, [], hcs, ⟨none, 0, rfl, by decide, fun j hj => by simp [bl] at hj, bl_bnd _⟩, by decide, fun a l c h _ => by cases h; rfl⟩
  · subst hx
    simp only [if_true] at hz
    have hb := hs ((lits (H := H) .u8 (zs.take len)).length + (lits (H := H) .u8 (zs.drop len)).length) (by simp [DataW.weights, Try.underlying43, bU8A])
    simp only [lits, List.length_map, List.length_take, List.length_drop, reachBytes] at hb
    have hlen : (zs.take len).length = len := by rw [List.length_take]; omega
    obtain ⟨d, hd, e⟩ := blA (zs.take len) (fun z h => u8_of_wf (hwz z (List.mem_of_mem_take h)))
    rw [hlen] at e
    refine ⟨_, d, hcs, ⟨some a, cap, by rw [bl_len, e], by rw [bl_len]; omega, fun j hj => ?_, bl_bnd _⟩, by omega, fun a l c h h2 => by cases h; cases h2⟩
    rw [bl_len, e] at hj
    have hc := hcell j (by omega)
    obtain ⟨bb, off, spot⟩ := a
    have hspot : spot = none := by simpa [Addr.add] using World.cell?_spot (hcell 0 (by omega))
    subst hspot
    rw [addr_add] at hc
    refine ⟨bb, off, rfl, block_lt hc, ?_⟩
    rw [hc, ← hd, List.getD_eq_getElem?_getD, List.getD_eq_getElem?_getD, List.getElem?_take_of_lt hj]
/-- What is asked, out of the data. -/
theorem ask_of_trod {H : Type} {enc : TypeId × Value → H} {W : World} {m : Nat} {cs : List Value} {x : DataW H × List MemPlace} (hf : DataW.trod enc Try.prog W 0 (fun _ => true) true m 45 cs = some x) (hs : ∀ n ∈ x.1.weights Try.prog 45, n ≤ reachBytes) : ∃ (key nonce : List B) (at_ : Nat) (v : Value) (d : List B), key.length = 32 ∧ nonce.length = 16 ∧ at_ < 18446744073709551616 ∧ cs = (askr key nonce at_ v).toList ∧ BysB W v d := by
  obtain ⟨xs, n, _, rfl, hl, hlen, hfld⟩ := DataW.trod_struct Try.underlying45 hf
  rw [cAsk] at hl
  match xs, hlen with
  | [y0, y1, y2, y3], _ =>
  have f0 : DataW.trod enc Try.prog W 0 (fun _ => true) true n 26 ((cs.drop 0).take (Try.prog.cellsOf 26)) = some y0 := hfld 0 _ rfl
  have f1 : DataW.trod enc Try.prog W 0 (fun _ => true) true n 41 ((cs.drop 32).take (Try.prog.cellsOf 41)) = some y1 := hfld 1 _ rfl
  have f2 : DataW.trod enc Try.prog W 0 (fun _ => true) true n 42 ((cs.drop 48).take (Try.prog.cellsOf 42)) = some y2 := hfld 2 _ rfl
  have f3 : DataW.trod enc Try.prog W 0 (fun _ => true) true n 43 ((cs.drop 49).take (Try.prog.cellsOf 43)) = some y3 := hfld 3 _ rfl
  simp only [cKeyA, cNonceA, cU64A, cSlA, List.drop_zero] at f0 f1 f2 f3
  obtain ⟨key, hk, e0⟩ := cells_bytes Try.underlying26 cKeyA f0
  obtain ⟨nonce, hn, e1⟩ := cells_bytes Try.underlying41 cNonceA f1
  obtain ⟨a, e2, _, wa⟩ := DataW.trod_int Try.underlying42 f2
  have ba := bounds_u64 wa
  obtain ⟨at_, rfl⟩ := Int.eq_ofNat_of_zero_le ba.1
  obtain ⟨v, d, e3, hB⟩ := bys_of_trod f3 (fun n hn => hs n (by
    simp only [DataW.weights, Try.underlying45]
    exact DataW.weights_mem_each (j := 3) rfl rfl n hn))
  refine ⟨key, nonce, at_, v, d, hk, hn, by omega, ?_, hB⟩
  have h1 := (List.take_append_drop 32 cs).symm
  have h2 := (List.take_append_drop 16 (cs.drop 32)).symm
  have h3 := (List.take_append_drop 1 (cs.drop 48)).symm
  have h4 : (cs.drop 49).take 1 = cs.drop 49 := List.take_of_length_le (by rw [List.length_drop]; omega)
  rw [List.drop_drop] at h2 h3
  rw [e0] at h1
  rw [e1] at h2
  rw [e2] at h3
  rw [e3] at h4
  rw [h1, h2]
  show _ ++ (_ ++ List.drop 48 cs) = _
  rw [h3]
  show _ ++ (_ ++ (_ ++ List.drop 49 cs)) = _
  rw [← h4, askr, Array.toList_append, Array.toList_append]
  rfl
end Go.Proofs.Ytmldmlbmfbdjoaa
