import Derived.Test.YtamieopjigjfiabDoorSy
import Derived.Test.YtamieopjigjfiabDoorSb
import Derived.Test.YtamieopjigjfiabDoorSp
import Derived.Test.YtamieopjigjfiabDoorOpen
import Derived.Deep.Slices
import Derived.ChangeSlices
import Derived.SizedLaws
namespace Go.Proofs.YtamieopjigjfiabDoor
set_option maxRecDepth 100000
open Go Go.RowKit Go.Sort Go.ChangeShapes Go.WideShapes Go.Deep

/-- The cells of a Box. -/
def boxr (key nonce : List B) (u v : Value) : Array Value := (irow .u8 (bl key)) ++ ((irow .u8 (bl nonce)) ++ #[u, v])
theorem box_key (key nonce : List B) (u v : Value) : (boxr key nonce u v).extract 0 (0 + (irow .u8 (bl key)).size) = (irow .u8 (bl key)) := by
  simp [boxr, Array.extract_append]
theorem box_nonce (key nonce : List B) (u v : Value) (hk : key.length = 32) : (boxr key nonce u v).extract 32 (32 + (irow .u8 (bl nonce)).size) = (irow .u8 (bl nonce)) := by
  have hs : (irow .u8 (bl key)).size = 32 := by rw [irow_size, bl_len, hk]
  rw [boxr, Array.extract_append, hs, Array.extract_eq_empty_of_le (by omega), Array.empty_append, Array.extract_append]
  simp
theorem box_cell {W : World} {g : Nat} {key nonce : List B} {u v : Value} {t : TypeId} (h : W.heap[g]? = some (.cells (boxr key nonce u v) t (0, 0))) (hk : key.length = 32) (hn : nonce.length = 16) : W.cell? ⟨g, 48, none⟩ = some u ∧ W.cell? ⟨g, 49, none⟩ = some v := by
  have s1 : (irow .u8 (bl key)).size = 32 := by rw [irow_size, bl_len, hk]
  have s2 : (irow .u8 (bl nonce)).size = 16 := by rw [irow_size, bl_len, hn]
  constructor
  · rw [cell_of_row _ _ _ _ _ _ h, boxr, Array.getElem?_append_right (by omega), Array.getElem?_append_right (by omega), s1, s2]
    rfl
  · rw [cell_of_row _ _ _ _ _ _ h, boxr, Array.getElem?_append_right (by omega), Array.getElem?_append_right (by omega), s1, s2]
    rfl
theorem bBox (cs : Array Value) (W : World) : (Instr.box 28 (.agg cs)).run Tryd.prog W = .ok (.pointer (some ⟨W.heap.size, 0, none⟩)) (W.alloc (.cells cs 28)) := by kernel_rfl
/-- The law's small calls, of bytes. -/
theorem sB_same (a b : List B) (w : World) (u v : Value) (hu : Bys w u (bl a)) (hv : Bys w v (bl b)) : Calls Tryd.prog 11 #[u, v] w fun e w' => e = .returned (.bool (decide (a = b))) ∧ Below w.heap.size w w' := by
  have h := s_same (bl a) (bl b) w u v hu hv
  rw [bl_dec] at h
  exact h
theorem sB_eq (a : List B) (w : World) (u v : Value) (hu : Bys w u (bl a)) (hv : Bys w v (bl a)) : Calls Tryd.prog 11 #[u, v] w fun e w' => e = .returned (.bool true) ∧ Below w.heap.size w w' := by
  have h := sB_same a a w u v hu hv
  rw [decide_eq_true rfl] at h
  exact h
/-- An own list, as apart takes it. -/
theorem own_ap {W : World} {b : Nat} {v : Value} {d : List B} (h : Own W b v d) : ∃ x : Option Nat × Nat × Nat, v = apV x ∧ ∀ g m c, x = (some g, m, c) → m = d.length ∧ b ≤ g ∧ g < W.heap.size ∧ W.ownsRow b 5 1 (.slice (some ⟨g, 0, none⟩) m c) m ((bl d).map (Value.int .u8)) := by
  have h0 : W.ownsRow b 5 1 v d.length ((bl d).map (Value.int .u8)) := h
  obtain ⟨q1, ⟨hv, _⟩ | ⟨g1, cap1, cur, hv, hbg, hg, hq⟩⟩ := h
  · exact ⟨(none, 0, 0), hv, fun g m c e => by cases e⟩
  · refine ⟨(some g1, d.length, cap1), hv, fun g m c e => ?_⟩
    cases e
    rw [hv] at h0
    exact ⟨rfl, hbg, lt_of_row hg, h0⟩
theorem cKey6 : Tryd.prog.cellsOf 23 = 32 := by kernel_rfl
theorem cNonce6 : Tryd.prog.cellsOf 25 = 16 := by kernel_rfl
theorem cBox6 : Tryd.prog.cellsOf 28 = 50 := by kernel_rfl
theorem cSl6 : Tryd.prog.cellsOf 26 = 1 := by kernel_rfl
theorem cU86 : Tryd.prog.cellsOf 5 = 1 := by kernel_rfl
theorem bU86 : Tryd.prog.bytesOf 5 = 1 := by kernel_rfl
theorem bl_of6 (l : List Int) (h : ∀ z ∈ l, 0 ≤ z ∧ z < 256) : ∃ bs : List B, l = bl bs ∧ bs.length = l.length := ⟨lb l, (bl_lb h).symm, lb_len l⟩
theorem cells_bytes6 {H : Type} {enc : TypeId × Value → H} {W : World} {m n : Nat} {t : TypeId} {cs : List Value} {x : DataW H × List MemPlace} (hu : Tryd.prog.underlying t = some (.array n 5)) (hc : Tryd.prog.cellsOf t = n) (h : DataW.trod enc Tryd.prog W 0 (fun _ => true) true m t cs = some x) : ∃ l : List B, l.length = n ∧ cs = (irow .u8 (bl l)).toList := by
  obtain ⟨xs, m, _, _, hlen, hn, hel⟩ := DataW.trod_array hu h
  rw [hc] at hlen
  obtain ⟨l, hl, hw⟩ := ints_of cs .u8 (fun i hi => by
    have hin : i < n := by omega
    have e1 := hel i hin
    rw [cU86, List.getElem?_eq_getElem (show i < xs.length by omega)] at e1
    obtain ⟨a, q0, _, q2⟩ := DataW.trod_int Tryd.underlying5 e1
    simp only [Nat.mul_one] at q0
    rw [List.drop_eq_getElem_cons hi, List.take_succ_cons, List.take_zero] at q0
    injection q0 with q0 _
    exact ⟨a, q0, q2⟩)
  obtain ⟨bs, rfl, e⟩ := bl_of6 l (fun z hz => u8_of_wf (hw z hz))
  refine ⟨bs, ?_, by rw [hl]; simp [irow]⟩
  have := congrArg List.length hl
  rw [List.length_map, hlen] at this
  omega
theorem block_lt6 {w : World} {b o : Nat} {v : Value} (h : w.cell? ⟨b, o, none⟩ = some v) : b < w.heap.size := by
  rcases Nat.lt_or_ge b w.heap.size with q | q
  · exact q
  · simp [World.cell?, Array.getElem?_eq_none q] at h
/-- Bytes handed in: and their room. -/
def BysC (W : World) (v : Value) (d : List B) : Prop := BysB W v d ∧ ∀ a l c, v = .slice a l c → l ≤ c
theorem bysC_of_trod {H : Type} {enc : TypeId × Value → H} {W : World} {m : Nat} {cs : List Value} {x : DataW H × List MemPlace} (hf : DataW.trod enc Tryd.prog W 0 (fun _ => true) true m 26 cs = some x) (hs : ∀ n ∈ x.1.weights Tryd.prog 26, n ≤ reachBytes) : ∃ v d, cs = [v] ∧ BysC W v d := by
  rcases open_ints Tryd.underlying26 Tryd.underlying5 cU86 hf with ⟨hcs, hx⟩ | ⟨a, len, cap, zs, hcs, _, hl, hm, hz, hx, hcell, hwz⟩
  · exact ⟨_, [], hcs, ⟨⟨none, 0, rfl, by decide, fun j hj => by simp [bl] at hj, bl_bnd _⟩, by decide, fun a l c h _ => by cases h; rfl⟩, fun a l c h => by cases h; exact Nat.le_refl _⟩
  · subst hx
    simp only [if_true] at hz
    have hb := hs ((lits (H := H) .u8 (zs.take len)).length + (lits (H := H) .u8 (zs.drop len)).length) (by simp [DataW.weights, Tryd.underlying26, bU86])
    simp only [lits, List.length_map, List.length_take, List.length_drop, reachBytes] at hb
    have hlen : (zs.take len).length = len := by rw [List.length_take]; omega
    obtain ⟨d, hd, e⟩ := bl_of6 (zs.take len) (fun z h => u8_of_wf (hwz z (List.mem_of_mem_take h)))
    rw [hlen] at e
    refine ⟨_, d, hcs, ⟨⟨some a, cap, by rw [bl_len, e], by rw [bl_len]; omega, fun j hj => ?_, bl_bnd _⟩, by omega, fun a l c h h2 => by cases h; cases h2⟩, fun a l c h => by cases h; exact hl⟩
    rw [bl_len, e] at hj
    have hc := hcell j (by omega)
    obtain ⟨bb, off, spot⟩ := a
    have hspot : spot = none := by simpa [Addr.add] using World.cell?_spot (hcell 0 (by omega))
    subst hspot
    rw [addr_add] at hc
    refine ⟨bb, off, rfl, block_lt6 hc, ?_⟩
    rw [hc, ← hd, List.getD_eq_getElem?_getD, List.getD_eq_getElem?_getD, List.getElem?_take_of_lt hj]
/-- A Box out of the data. -/
theorem box_of_trod {H : Type} {enc : TypeId × Value → H} {W : World} {m : Nat} {cs : List Value} {x : DataW H × List MemPlace} (hf : DataW.trod enc Tryd.prog W 0 (fun _ => true) true m 28 cs = some x) (hs : ∀ n ∈ x.1.weights Tryd.prog 28, n ≤ reachBytes) : ∃ (key nonce : List B) (u v : Value) (e d : List B), key.length = 32 ∧ nonce.length = 16 ∧ cs = (boxr key nonce u v).toList ∧ BysC W u e ∧ BysC W v d := by
  obtain ⟨xs, n, _, rfl, hl, hlen, hfld⟩ := DataW.trod_struct Tryd.underlying28 hf
  rw [cBox6] at hl
  match xs, hlen with
  | [y0, y1, y2, y3], _ =>
  have f0 : DataW.trod enc Tryd.prog W 0 (fun _ => true) true n 23 ((cs.drop 0).take (Tryd.prog.cellsOf 23)) = some y0 := hfld 0 _ rfl
  have f1 : DataW.trod enc Tryd.prog W 0 (fun _ => true) true n 25 ((cs.drop 32).take (Tryd.prog.cellsOf 25)) = some y1 := hfld 1 _ rfl
  have f2 : DataW.trod enc Tryd.prog W 0 (fun _ => true) true n 26 ((cs.drop 48).take (Tryd.prog.cellsOf 26)) = some y2 := hfld 2 _ rfl
  have f3 : DataW.trod enc Tryd.prog W 0 (fun _ => true) true n 26 ((cs.drop 49).take (Tryd.prog.cellsOf 26)) = some y3 := hfld 3 _ rfl
  simp only [cKey6, cNonce6, cSl6, List.drop_zero] at f0 f1 f2 f3
  obtain ⟨key, hk, e0⟩ := cells_bytes6 Tryd.underlying23 cKey6 f0
  obtain ⟨nonce, hn, e1⟩ := cells_bytes6 Tryd.underlying25 cNonce6 f1
  obtain ⟨u, e, e2, hE⟩ := bysC_of_trod f2 (fun n hn => hs n (by
    simp only [DataW.weights, Tryd.underlying28]
    exact DataW.weights_mem_each (j := 2) rfl rfl n hn))
  obtain ⟨v, d, e3, hB⟩ := bysC_of_trod f3 (fun n hn => hs n (by
    simp only [DataW.weights, Tryd.underlying28]
    exact DataW.weights_mem_each (j := 3) rfl rfl n hn))
  refine ⟨key, nonce, u, v, e, d, hk, hn, ?_, hE, hB⟩
  have h1 := (List.take_append_drop 32 cs).symm
  have h2 := (List.take_append_drop 16 (cs.drop 32)).symm
  have h3 := (List.take_append_drop 1 (cs.drop 48)).symm
  have h4 : (cs.drop 49).take 1 = cs.drop 49 := List.take_of_length_le (by rw [List.length_drop]; omega)
  rw [List.drop_drop] at h2 h3
  rw [e0] at h1
  rw [e1] at h2
  rw [e2] at h3
  rw [e3] at h4
  rw [h1, h2]
  show _ ++ (_ ++ List.drop 48 cs) = _
  rw [h3]
  show _ ++ (_ ++ (_ ++ List.drop 49 cs)) = _
  rw [← h4, boxr, Array.toList_append, Array.toList_append]
  rfl
end Go.Proofs.YtamieopjigjfiabDoor
