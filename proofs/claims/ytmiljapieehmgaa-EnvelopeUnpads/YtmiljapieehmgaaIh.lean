import Derived.Test.YtmiljapieehmgaaProg
import Derived.WalkKit
import Derived.WalkSpells
import Derived.WalkLawsBesides
import Derived.Lib.QuietBelow
import Derived.BigQuiet
import Derived.Test.YtmiljapieehmgaaKit
import Derived.Test.YtmiljapieehmgaaIg
import Derived.Laws.BytesArg
import Derived.Lib.SlBytesConst
import Derived.OwnWalk
namespace Go.Proofs.Ytmiljapieehmgaa
open Go Go.RowKit Go.Sort
attribute [local go_sem] setCell_drewN alloc_drewN
theorem grown_below {a b c : World} {g : Nat} (h : a.grownBy b (some g)) (hb : Below b.heap.size b c) : a.grownBy c (some g) :=
  ⟨hb.os.trans h.os, hb.tape.trans h.tape, hb.output.trans h.output, Nat.le_trans h.size hb.size, fun k hk hn => (hb.block k (Nat.lt_of_lt_of_le hk h.size)).trans (h.block k hk hn)⟩
theorem grown_setRow {a b : World} {g : Nat} (cs : Array Value) (h : a.grownBy b (some g)) : a.grownBy (b.setRow g cs) (some g) := by
  refine ⟨h.os, h.tape, h.output, ?_, fun k hk hn => ?_⟩
  · have e : (b.setRow g cs).heap.size = b.heap.size := by simp
    rw [e]; exact h.size
  · rw [setRow_other b g k cs (fun e => hn (by rw [e]))]
    exact h.block k hk hn
theorem slice_rest (b0 o m c n : Nat) (h : n ≤ m) (hc : m ≤ c) : ∃ ao2 : Option Addr, (n < m → ao2 = some ⟨b0, o + n, none⟩) ∧ ∀ W, (Instr.sliceAt 26 (.slice (some ⟨b0, o, none⟩) m c) (some (.int .i64 (n : Int))) none none).run Try.prog W = .ok (.slice ao2 (m - n) (c - n)) W := by
  refine ⟨if c = n then some ⟨b0, o, none⟩ else some ⟨b0, o + n, none⟩, fun hn => if_neg (by omega), fun W => ?_⟩
  rw [run_sliceAt_slice _ _ _ _ _ _ elem8, run_slice_l W 26 (some ⟨b0, o, none⟩) m c elem8 .i64 _ (by omega) (by omega), size8]
  show Result.ok (sliced _ _ _ _ 1) W = _
  rw [Int.toNat_natCast, sliced, Nat.mul_one, Option.map_some, addr_add]
theorem mix_all (a c : List Int) (h : a.length = c.length) : mix a c c.length = a := by
  unfold mix
  rw [← h, List.take_length, h, List.drop_length, List.append_nil]
theorem bys_rowF {W : World} {g n : Nat} {l : List Int} {t : TypeId} {fr : Nat × Nat} (hg : W.heap[g]? = some (.cells (irow .u8 l) t fr)) (hl : l.length ≤ 9223372036854775807) (hz : ∀ z ∈ l, 0 ≤ z ∧ z < 256) (hn : l.length = n) {cap : Nat} : Bys W (.slice (some ⟨g, 0, none⟩) n cap) l := by
  subst hn
  refine ⟨_, _, rfl, hl, fun j hj => ⟨g, 0, rfl, lt_of_row hg, ?_⟩, hz⟩
  rw [Nat.zero_add, cell_of_row _ _ _ _ _ _ hg]
  simp [irow, List.getD_eq_getElem?_getD, List.getElem?_eq_getElem hj]
/-- An own list, as apart takes it. -/
theorem own_ap {W : World} {b : Nat} {v : Value} {d : List B} (h : Own W b v d) : ∃ x : Option Nat × Nat × Nat, v = apV x ∧ ∀ g m c, x = (some g, m, c) → m = d.length ∧ b ≤ g ∧ g < W.heap.size ∧ W.ownsRow b 5 1 (.slice (some ⟨g, 0, none⟩) m c) m ((bl d).map (Value.int .u8)) := by
  have h0 : W.ownsRow b 5 1 v d.length ((bl d).map (Value.int .u8)) := h
  obtain ⟨q1, ⟨hv, _⟩ | ⟨g1, cap1, cur, hv, hbg, hg, hq⟩⟩ := h
  · exact ⟨(none, 0, 0), hv, fun g m c e => by cases e⟩
  · refine ⟨(some g1, d.length, cap1), hv, fun g m c e => ?_⟩
    cases e
    rw [hv] at h0
    exact ⟨rfl, hbg, lt_of_row hg, h0⟩
theorem oth_bys (W : World) : BysB (W.alloc (.cells #[.int .u8 111, .int .u8 116, .int .u8 104, .int .u8 101, .int .u8 114] 5 (5, 6))) (.slice (some ⟨W.heap.size, 0, none⟩) 5 5) [111#8, 116#8, 104#8, 101#8, 114#8] := ⟨bys_rowF (l := bl [111#8, 116#8, 104#8, 101#8, 114#8]) (hp1_0 W _) (by decide) (bl_bnd _) rfl, by decide, fun a l c h h2 => by cases h; cases h2⟩
theorem head_bysB {W : World} {g n : Nat} {e : List B} {m : List Int} {t : TypeId} (hg : W.heap[g]? = some (.cells (irow .u8 (bl e ++ m)) t (0, 0))) (hn : e.length = n) (hl : n ≤ 140737488355000) (cap : Nat) : BysB W (.slice (some ⟨g, 0, none⟩) n cap) e := by
  have h := Bys.of_prefix hg (by rw [bl_len]; omega) (bl_bnd e) cap
  rw [bl_len, hn] at h
  exact ⟨h, by omega, fun a l c h h2 => by cases h; cases h2⟩
theorem row_bysB {W : World} {g n : Nat} {e : List B} {t : TypeId} (hg : W.heap[g]? = some (.cells (irow .u8 (bl e)) t (0, 0))) (hn : e.length = n) (hl : n ≤ 140737488355000) (cap : Nat) : BysB W (.slice (some ⟨g, 0, none⟩) n cap) e := head_bysB (m := []) (by rw [List.append_nil]; exact hg) hn hl cap
theorem rv_len (bs : List Int) : bs.reverse.length = bs.length := by simp
theorem rv_get (bs : List Int) (k : Nat) (h : k < bs.length) : bs.reverse.getD k 0 = bs.getD (bs.length - 1 - k) 0 := by
  rw [List.getD_eq_getElem?_getD, List.getD_eq_getElem?_getD, List.getElem?_reverse h]
theorem rv_bd (bs : List Int) (h : ∀ z ∈ bs, 0 ≤ z ∧ z < 256) : ∀ z ∈ bs.reverse, 0 ≤ z ∧ z < 256 := fun z hz => h z (by simpa using hz)
set_option maxRecDepth 100000 in
set_option maxHeartbeats 4000000 in
theorem s_turned (bs : List Int) (g : Nat) (w : World) (v : Value) (hB : Bys w v bs) (hl : bs.length ≤ 140737488355200) (rg : w.heap[g]? = some (.cells (irow .u8 (bs ++ mk4 80)) 5 (0, 0))) : Calls Try.prog 16 #[.slice (some ⟨g, 0, none⟩) (bs.length + 80) (bs.length + 80), v] w fun e w' => e = .returned (.slice (some ⟨w.heap.size, 0, none⟩) bs.length bs.length) ∧ w'.heap[w.heap.size]? = some (.cells (irow .u8 (bs.reverse)) 5 (0, 0)) ∧ w'.heap[g]? = some (.cells (irow .u8 (bs.reverse ++ mk4 80)) 5 (0, 0)) ∧ w.grownBy w' (some g) := by
  have hlg := lt_of_row rg
  have hmk := make_len bs.length (by omega) w
  have r0 : (w.alloc (.cells (irow .u8 (zr bs.length)) 5)).heap[w.heap.size]? = some (.cells (irow .u8 (mix (bs.reverse) (zr bs.length) 0)) 5 (0, 0)) := by rw [mix_zero]; exact hp1_0 w _
  have hw : Below w.heap.size w (w.alloc (.cells (irow .u8 (zr bs.length)) 5)) := (Below.refl _ _).alloc (Nat.le_refl _) _
  have htl := rv_len bs
  have htg := rv_get bs
  have hzl := zr_len bs.length
  obtain ⟨ao, cap, rfl, _, hc, _⟩ := id hB
  go_enter Try.func16, Try.ntmps16
  go_wp2
  generalize (w.alloc (.cells (irow .u8 (zr bs.length)) 5)) = w1 at *
  clear hmk
  go_loopw [6] (fun i wr => ∃ k : Nat, k ≤ bs.length ∧ i = .int .i64 k ∧ wr.heap[w.heap.size]? = some (.cells (irow .u8 (mix (bs.reverse) (zr bs.length) k)) 5 (0, 0)) ∧ Below w.heap.size w wr) (fun i _ => bs.length - (intOf i).toNat)
  case atStart => exact ⟨0, by omega, rfl, r0, hw⟩
  case round =>
    clear r0 hw
    obtain ⟨k, hk, rfl, r0, hw⟩ := hrel
    by_cases hlt : k < bs.length
    · have hd : decide ((k : Int) < (bs.length : Int)) = true := by simp; omega
      obtain ⟨b, off, rfl, hb1, hb2⟩ := hc (bs.length - 1 - k) (by omega)
      replace hb2 := (hw.cell (p := ⟨b, off + (bs.length - 1 - k), none⟩) hb1).trans hb2
      have hset := mix_set (bs.reverse) (zr bs.length) k (by omega) (by omega)
      rw [htg k hlt] at hset
      have hml := mix_length (bs.reverse) (zr bs.length) k (by omega) (by omega)
      have cf := row_frozen r0 k
      have cc := irow_cell r0 (j := k) (by omega)
      have r2 := irow_set r0 k (bs.getD (bs.length - 1 - k) 0)
      rw [hset] at r2
      have hw2 := hw.setCell (show w.heap.size ≤ (⟨w.heap.size, k, none⟩ : Addr).block from Nat.le_refl _) (.int .u8 (bs.getD (bs.length - 1 - k) 0))
      have ej2 : (bs.length : Int) - 1 - (k : Int) = ((bs.length - 1 - k : Nat) : Int) := by omega
      clear r0 hw hset hml hc htg hB
      generalize bs.getD (bs.length - 1 - k) 0 = z at *
      generalize (mix (bs.reverse) (zr bs.length) k).getD k 0 = y at *
      go_wp2
      refine ⟨⟨k + 1, by omega, by go_num, r2, hw2⟩, ?_⟩
      simp [intOf]; omega
    · obtain rfl : k = bs.length := by omega
      have hd : decide ((bs.length : Int) < (bs.length : Int)) = false := by simp
      have em := mix_all (bs.reverse) (zr bs.length) (by omega)
      rw [hzl] at em
      rw [em] at r0
      have rg2 := keep hw rg
      have hBo := Bys.of_row r0 (by omega) (rv_bd bs (bys_bd hB)) bs.length
      have hcp := copy_bys (o := 0) (dLen := bs.length + 80) (dCap := bs.length + 80) rg2 hBo (by omega) (by rw [List.length_append]; omega)
      have ez : (bs ++ mk4 80).take 0 ++ bs.reverse ++ (bs ++ mk4 80).drop (0 + (bs.reverse).length) = bs.reverse ++ mk4 80 := by
        rw [List.take_zero, List.nil_append, Nat.zero_add, htl, List.drop_left]
      rw [ez] at hcp
      have hgo : goInt (bs.reverse).length = .int .i64 ((bs.reverse).length : Int) := rfl
      rw [hgo, htl] at hcp
      have r1 := setRow_heap _ g _ (irow .u8 (bs.reverse ++ mk4 80)) _ _ rg2
      have r3 : (wr.setRow g (irow .u8 (bs.reverse ++ mk4 80))).heap[w.heap.size]? = _ := (setRow_other wr g (w.heap.size) (irow .u8 (bs.reverse ++ mk4 80)) (by omega)).trans r0
      have hgr : w.grownBy (wr.setRow g (irow .u8 (bs.reverse ++ mk4 80))) (some g) := grown_setRow _ (grown_below (World.grownBy.refl _ _) hw)
      clear hc htg r0 hw
      go_wp2
      go_ret
      exact ⟨rfl, r3, r1, hgr⟩
theorem bl_rev (e : List B) : bl e.reverse = (bl e).reverse := by simp [bl, List.map_reverse]
theorem sB_same (a b : List B) (w : World) (u v : Value) (hu : Bys w u (bl a)) (hv : Bys w v (bl b)) : Calls Try.prog 13 #[u, v] w fun e w' => e = .returned (.bool (decide (a = b))) ∧ Below w.heap.size w w' := by
  have h := s_same (bl a) (bl b) w u v hu hv
  rw [bl_dec] at h
  exact h
theorem sB_hand (e : List B) (w : World) (v : Value) (hB : BysB w v e) : Calls Try.prog 10 #[v] w fun r w' => r = .returned (.slice (some ⟨w.heap.size, 0, none⟩) (e.length + 80) (e.length + 80)) ∧ w'.heap[w.heap.size]? = some (.cells (irow .u8 (bl e ++ mk4 80)) 5 (0, 0)) ∧ Below w.heap.size w w' := by
  have h := s_hand (bl e) w v hB.1 (by rw [bl_len]; have := hB.2.1; omega)
  rw [bl_len] at h
  exact h
theorem sB_left (e : List B) (g : Nat) (w : World) (v : Value) (hB : BysB w v e) (rg : w.heap[g]? = some (.cells (irow .u8 (bl e ++ mk4 80)) 5 (0, 0))) : Calls Try.prog 15 #[.slice (some ⟨g, 0, none⟩) (e.length + 80) (e.length + 80), v] w fun r w' => r = .returned (.bool true) ∧ Below w.heap.size w w' := by
  have h := s_left (bl e) g w v hB.1 (by rw [bl_len]; have := hB.2.1; omega) rg
  rw [bl_len] at h
  exact h
theorem sB_turned (e : List B) (g : Nat) (w : World) (v : Value) (hB : BysB w v e) (rg : w.heap[g]? = some (.cells (irow .u8 (bl e ++ mk4 80)) 5 (0, 0))) : Calls Try.prog 16 #[.slice (some ⟨g, 0, none⟩) (e.length + 80) (e.length + 80), v] w fun r w' => r = .returned (.slice (some ⟨w.heap.size, 0, none⟩) e.length e.length) ∧ w'.heap[w.heap.size]? = some (.cells (irow .u8 (bl e.reverse)) 5 (0, 0)) ∧ w'.heap[g]? = some (.cells (irow .u8 (bl e.reverse ++ mk4 80)) 5 (0, 0)) ∧ w.grownBy w' (some g) := by
  have h := s_turned (bl e) g w v hB.1 (by rw [bl_len]; have := hB.2.1; omega) rg
  rw [bl_len] at h
  rw [bl_rev]
  exact h
end Go.Proofs.Ytmiljapieehmgaa
