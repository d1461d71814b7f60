import Derived.Test.YtmldmlbmfbdjoabRows
import Derived.Test.YtmldmlbmfbdjoabS4
namespace Go.Proofs.Ytmldmlbmfbdjoab

/-! What the bound on the values gives. -/
theorem bulk_pos {H : Type} (d : DataW H) : 1 ≤ Rows.uptoBulk d := by
  cases d with
  | lit l => cases l <;> simp [Rows.uptoBulk]
  | nil => simp [Rows.uptoBulk]
  | ptr d => simp [Rows.uptoBulk]
  | slice elems spare => simp [Rows.uptoBulk]
  | agg parts => simp [Rows.uptoBulk]
  | iface t d => simp [Rows.uptoBulk]
  | map entries => simp [Rows.uptoBulk]
  | held h => simp [Rows.uptoBulk]
theorem bulk_len {H : Type} : ∀ l : List (DataW H), l.length ≤ Rows.uptoBulkAll l
  | [] => by simp [Rows.uptoBulkAll]
  | x :: r => by have h1 := bulk_pos x; have h2 := bulk_len r; simp only [Rows.uptoBulkAll, List.length_cons]; omega
theorem bulk_slice {H : Type} (es sp : List (DataW H)) : es.length + 1 ≤ Rows.uptoBulk (.slice es sp) := by
  have h1 := bulk_len es
  simp only [Rows.uptoBulk]
  omega
theorem bulk_elems {H : Type} (es sp : List (DataW H)) : Rows.uptoBulkAll es + 1 ≤ Rows.uptoBulk (.slice es sp) := by
  simp only [Rows.uptoBulk]
  omega
theorem bulk_cons {H : Type} (d : DataW H) (l : List (DataW H)) : Rows.uptoBulkAll (d :: l) = Rows.uptoBulk d + Rows.uptoBulkAll l := by
  simp only [Rows.uptoBulkAll]
theorem bulk_bound {H : Type} {l : List (DataW H)} (hk : Rows.uptoSmall H l = true) : Rows.uptoBulkAll l ≤ 1048576 := of_decide_eq_true hk
end Go.Proofs.Ytmldmlbmfbdjoab

namespace Go.Proofs.Ytmldmlbmfbdjoab
open Go Go.RowKit Go.Sort Go.ChangeShapes Go.WideShapes Go.Deep

/-- A list of bytes that is read, of a bounded bulk. -/
theorem bys_of_bulk {H : Type} {enc : TypeId × Value → H} {W : World} {m : Nat} {cs : List Value} {x : DataW H × List MemPlace} (hf : DataW.trod enc Try.prog W 0 (fun _ => true) true m 27 cs = some x) (hs : Rows.uptoBulk x.1 ≤ 1048576) : ∃ v d, cs = [v] ∧ BysB W v d ∧ d.length ≤ Rows.uptoBulk x.1 := by
  rcases open_ints Try.underlying27 Try.underlying5 cU8A hf with ⟨hcs, hx⟩ | ⟨a, len, cap, zs, hcs, _, hl, hm, hz, hx, hcell, hwz⟩
  · exact ⟨_, [], hcs, ⟨⟨none, 0, rfl, by decide, fun j hj => by simp [bl] at hj, bl_bnd _⟩, by decide, fun a l c h _ => by cases h; rfl⟩, Nat.zero_le _⟩
  · subst hx
    simp only [if_true] at hz
    have hb := bulk_slice (lits (H := H) .u8 (zs.take len)) (lits .u8 (zs.drop len))
    have hlen : (zs.take len).length = len := by rw [List.length_take]; omega
    have hb2 : len + 1 ≤ Rows.uptoBulk (DataW.slice (lits (H := H) .u8 (zs.take len)) (lits .u8 (zs.drop len))) := by
      simp only [lits, List.length_map, hlen] at hb ⊢
      exact hb
    obtain ⟨d, hd, e⟩ := blA (zs.take len) (fun z h => u8_of_wf (hwz z (List.mem_of_mem_take h)))
    rw [hlen] at e
    simp only at hs
    refine ⟨_, d, hcs, ⟨⟨some a, cap, by rw [bl_len, e], by rw [bl_len]; omega, fun j hj => ?_, bl_bnd _⟩, by omega, fun a l c h h2 => by cases h; cases h2⟩, by simp only; omega⟩
    rw [bl_len, e] at hj
    have hc := hcell j (by omega)
    obtain ⟨bb, off, spot⟩ := a
    have hspot : spot = none := by simpa [Addr.add] using World.cell?_spot (hcell 0 (by omega))
    subst hspot
    rw [addr_add] at hc
    refine ⟨bb, off, rfl, block_lt hc, ?_⟩
    rw [hc, ← hd, List.getD_eq_getElem?_getD, List.getD_eq_getElem?_getD, List.getElem?_take_of_lt hj]
/-- What is asked, out of the data, of a bounded bulk. -/
theorem ask_of_bulk {H : Type} {enc : TypeId × Value → H} {W : World} {m : Nat} {cs : List Value} {x : DataW H × List MemPlace} (hf : DataW.trod enc Try.prog W 0 (fun _ => true) true m 29 cs = some x) (hs : Rows.uptoBulk x.1 ≤ 1048576) : ∃ (key nonce : List B) (at_ : Nat) (v : Value) (d : List B), key.length = 32 ∧ nonce.length = 16 ∧ at_ < 18446744073709551616 ∧ cs = (askr key nonce at_ v).toList ∧ BysB W v d ∧ d.length ≤ 1048576 := by
  obtain ⟨xs, n, _, rfl, hl, hlen, hfld⟩ := DataW.trod_struct Try.underlying29 hf
  rw [cAsk] at hl
  match xs, hlen with
  | [y0, y1, y2, y3], _ =>
  have f0 : DataW.trod enc Try.prog W 0 (fun _ => true) true n 23 ((cs.drop 0).take (Try.prog.cellsOf 23)) = some y0 := hfld 0 _ rfl
  have f1 : DataW.trod enc Try.prog W 0 (fun _ => true) true n 25 ((cs.drop 32).take (Try.prog.cellsOf 25)) = some y1 := hfld 1 _ rfl
  have f2 : DataW.trod enc Try.prog W 0 (fun _ => true) true n 26 ((cs.drop 48).take (Try.prog.cellsOf 26)) = some y2 := hfld 2 _ rfl
  have f3 : DataW.trod enc Try.prog W 0 (fun _ => true) true n 27 ((cs.drop 49).take (Try.prog.cellsOf 27)) = some y3 := hfld 3 _ rfl
  simp only [cKeyA, cNonceA, cU64A, cSlA, List.drop_zero] at f0 f1 f2 f3
  obtain ⟨key, hk, e0⟩ := cells_bytes Try.underlying23 cKeyA f0
  obtain ⟨nonce, hn, e1⟩ := cells_bytes Try.underlying25 cNonceA f1
  obtain ⟨a, e2, _, wa⟩ := DataW.trod_int Try.underlying26 f2
  have ba := bounds_u64 wa
  obtain ⟨at_, rfl⟩ := Int.eq_ofNat_of_zero_le ba.1
  have hs3 : Rows.uptoBulk y3.1 ≤ 1048576 := by
    simp only [List.map_cons, List.map_nil, Rows.uptoBulk, Rows.uptoBulkAll] at hs
    omega
  obtain ⟨v, d, e3, hB, hd⟩ := bys_of_bulk f3 hs3
  refine ⟨key, nonce, at_, v, d, hk, hn, by omega, ?_, hB, by omega⟩
  have h1 := (List.take_append_drop 32 cs).symm
  have h2 := (List.take_append_drop 16 (cs.drop 32)).symm
  have h3 := (List.take_append_drop 1 (cs.drop 48)).symm
  have h4 : (cs.drop 49).take 1 = cs.drop 49 := List.take_of_length_le (by rw [List.length_drop]; omega)
  rw [List.drop_drop] at h2 h3
  rw [e0] at h1
  rw [e1] at h2
  rw [e2] at h3
  rw [e3] at h4
  rw [h1, h2]
  show _ ++ (_ ++ List.drop 48 cs) = _
  rw [h3]
  show _ ++ (_ ++ (_ ++ List.drop 49 cs)) = _
  rw [← h4, askr, Array.toList_append, Array.toList_append]
  rfl
end Go.Proofs.Ytmldmlbmfbdjoab
