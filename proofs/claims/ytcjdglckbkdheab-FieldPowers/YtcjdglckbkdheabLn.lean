import Derived.Test.YtcjdglckbkdheabProg
import Derived.WalkKit
import Derived.WalkSpells
import Derived.WalkLawsBesides
import Derived.Lib.QuietBelow
import Derived.BigQuiet
import Derived.Test.YtcjdglckbkdheabKit
import Derived.Test.YtcjdglckbkdheabLm
import Derived.Test.YtcjdglckbkdheabGq
import Derived.Test.YtcjdglckbkdheabKit7
namespace Go.Proofs.Ytcjdglckbkdheab
open Go.RowKit Go.Sort
attribute [local go_sem] setCell_drewN alloc_drewN


theorem Bys.of_prefix {W : World} {g : Nat} {l m : List Int} {t : TypeId} (hg : W.heap[g]? = some (.cells (brow (l ++ m)) t (0, 0))) (hl : l.length ≤ 9223372036854775807) (hz : ∀ z ∈ l, 0 ≤ z ∧ z < 256) (cap : Nat) : Bys W (.slice (some ⟨g, 0, none⟩) l.length cap) l := by
  refine ⟨_, cap, rfl, hl, fun j hj => ⟨g, 0, rfl, lt_of_row hg, ?_⟩, hz⟩
  rw [Nat.zero_add, brow_cell hg (by rw [List.length_append]; omega), List.getD_eq_getElem?_getD, List.getElem?_append_left hj, ← List.getD_eq_getElem?_getD]
/-- Two results: a row in a block, and a bool. -/
theorem results_row_slot {P : Program} {fn : Func} {p q : Tmp} {ty : TypeId} (h : fn.results = #[.cell p ty, .tmp q]) (tmps : Array Value) (w : World) (g : Nat) (t : TypeId) (cs : Array Value) (fr : Nat × Nat) (d : TypeDesc) (v : Value)
    (hp : tmps.getD p undef = .pointer (some ⟨g, 0, none⟩)) (hg : w.heap[g]? = some (.cells cs t fr)) (hq : tmps.getD q undef = v)
    (hu : P.underlying ty = some d) (hd : (match d with | .struct _ | .array _ _ => true | _ => false) = true) (hi : (P.info? ty).map (·.size) = some cs.size) :
    (results fn tmps).run P w = .ok (.tuple #[.agg cs, v]) w := by
  have hp' : tmps[p]?.getD undef = .pointer (some ⟨g, 0, none⟩) := by simpa using hp
  have hq' : tmps[q]?.getD undef = v := by simpa using hq
  simp [results, h, hp', hq', asAddr, run_loadVar_row w g t ty cs fr d hg hu hd hi]
set_option maxHeartbeats 2000000 in
theorem a_raised {r : Array Value} {x : Int} (h : NumOf r x) (bs : List Int) (hz : ∀ z ∈ bs, 0 ≤ z ∧ z < 256) (hl : bs.length + 32 ≤ 281474976710656) : ∃ s, NumOf s (x ^ bval bs) ∧ ∀ (w : World) (ev : Value), Bys w ev bs → (∀ a l c, ev = .slice a l c → a = none → c = 0) → Calls Try.prog 15 #[.agg r, ev] w fun e w' => e = .returned (.tuple #[.agg s, .bool true]) ∧ Below w.heap.size w w' := by
  obtain ⟨s, hs, cP⟩ := a_power h bs hz
  refine ⟨s, hs, fun w ev hB hnil => ?_⟩
  go_enter Try.func15, Try.ntmps15
  go_wp2_with (first | (refine wpList_load_want rfl 27 _ rfl (w.heap.size) rfl 27 r (0, 0) _ (hp2_0 w _ _) Try.underlying27 rfl h.info ?_) | (refine wpList_load_want rfl 27 _ rfl (w.heap.size + 1) rfl 27 #[.int .u64 0, .int .u64 0, .int .u64 0, .int .u64 0, .int .u64 0] (0, 0) _ (hp2_1 w _ _) Try.underlying27 rfl num_zero.info ?_) | fail)
  have rp0 : ((w.alloc (.cells r 27)).alloc (.cells #[.int .u64 0, .int .u64 0, .int .u64 0, .int .u64 0, .int .u64 0] 27)).heap[w.heap.size]? = some (.cells r 27 (0, 0)) := hp2_0 w _ _
  have rp1 : ((w.alloc (.cells r 27)).alloc (.cells #[.int .u64 0, .int .u64 0, .int .u64 0, .int .u64 0, .int .u64 0] 27)).heap[w.heap.size + 1]? = some (.cells #[.int .u64 0, .int .u64 0, .int .u64 0, .int .u64 0, .int .u64 0] 27 (0, 0)) := hp2_1 w _ _
  have hw : Below w.heap.size w ((w.alloc (.cells r 27)).alloc (.cells #[.int .u64 0, .int .u64 0, .int .u64 0, .int .u64 0, .int .u64 0] 27)) := (((Below.refl _ _).alloc (Nat.le_refl _) _).alloc (by simp) _)
  generalize ((w.alloc (.cells r 27)).alloc (.cells #[.int .u64 0, .int .u64 0, .int .u64 0, .int .u64 0, .int .u64 0] 27)) = w0 at *
  refine (lent_walk bs w0 ev (hB.keep hw) hl hnil).mono ?_
  rintro e w1 ⟨_, rfl, gl, rfl, hge, hrow, hb⟩
  have hgl : w.heap.size + 1 < gl := Nat.lt_of_lt_of_le (lt_of_row rp1) hge
  clear hge
  replace rp0 := keep hb rp0
  replace rp1 := keep hb rp1
  replace hw := Below.after hw hb
  clear hb
  go_wp2_with (first | (refine wpList_load_want rfl 27 _ rfl (w.heap.size) rfl 27 r (0, 0) _ rp0 Try.underlying27 rfl h.info ?_) | fail)
  refine (cP _ _ (Bys.of_prefix hrow (by omega) hz _)).mono ?_
  rintro e w2 ⟨rfl, hb⟩
  replace rp0 := keep hb rp0
  replace rp1 := keep hb rp1
  replace hrow := keep hb hrow
  replace hw := Below.after hw hb
  clear hb
  go_wp2_with (first | (refine wpList_store_row rfl 27 _ _ rfl (w2.heap.size) s rfl rfl 27 #[.int .u64 0, .int .u64 0, .int .u64 0, .int .u64 0, .int .u64 0] (hp1_0 w2 _) hs.info (hs.fits rfl) hs.one ?_; rw [setRow_alloc_new _ _ _ _ _ _ (by simp)]) | fail | fail)
  have rl8 : (w2.alloc (.cells s 27)).heap[w2.heap.size]? = some (.cells s 27 (0, 0)) := hp1_0 w2 _
  have hb : Below w2.heap.size w2 (w2.alloc (.cells s 27)) := ((Below.refl _ _).alloc (Nat.le_refl _) _)
  generalize (w2.alloc (.cells s 27)) = w3 at *
  have yg8_0 := lt_of_row rp0
  have yg8_1 := lt_of_row rp1
  have yg8_2 := lt_of_row hrow
  have yg8 := hw.size
  replace rp0 := keep hb rp0
  replace rp1 := keep hb rp1
  replace hrow := keep hb hrow
  replace hw := Below.after hw hb
  clear hb
  generalize w2.heap.size = g8 at *
  clear w2
  refine wp_region_any (by kernel_rfl) ?_
  have hb : Below w3.heap.size w3 { w3 with drawn := w3.drawn + 1 } := ⟨rfl, rfl, rfl, Nat.le_refl _, fun _ _ => rfl⟩
  generalize ({ w3 with drawn := w3.drawn + 1 } : World) = w1 at *
  replace rp0 := keep hb rp0
  replace rp1 := keep hb rp1
  replace hrow := keep hb hrow
  replace rl8 := keep hb rl8
  replace hw := Below.after hw hb
  clear hb
  refine wpAny_ready (rs := [0, 1, 2]) (fuel := 5) (by kernel_rfl) (by simp) (AllReady.cons rfl (fun K' hK => ?_) (AllReady.cons rfl (fun K' hK => ?_) (AllReady.cons rfl (fun K' hK => ?_) AllReady.nil)))
  · skip
    rw [if_pos (by kernel_rfl)]
    simp only [List.getElem_toArray, List.getElem_cons_zero]
    refine wp_load_row 27 _ rfl (g8) rfl 27 s (0, 0) _ rl8 Try.underlying27 rfl hs.info (hK _ _ ?_)
    simp only [Act.put, List.setIfInBounds_toArray, List.set_cons_succ, List.set_cons_zero]
    clear hK
    refine wpAny_ready (rs := [1, 2]) (fuel := 4) (by kernel_rfl) (by simp) (AllReady.cons rfl (fun K' hK => ?_) (AllReady.cons rfl (fun K' hK => ?_) AllReady.nil))
    · skip
      rw [if_pos (by kernel_rfl)]
      simp only [List.getElem_toArray, List.getElem_cons_succ, List.getElem_cons_zero]
      refine wp_pure_op ((.slice (some ⟨gl, 0, none⟩) (bs.length + 32) (bs.length + 32))) (by kernel_rfl) (hK _ _ ?_)
      simp only [Act.put, List.setIfInBounds_toArray, List.set_cons_succ, List.set_cons_zero]
      clear hK
      refine wpAny_ready (rs := [2]) (fuel := 3) (by kernel_rfl) (by simp) (AllReady.cons rfl (fun K' hK => ?_) AllReady.nil)
      rw [if_pos (by kernel_rfl)]
      simp only [List.getElem_toArray, List.getElem_cons_succ, List.getElem_cons_zero]
      refine wp_pure_op (ev) (by kernel_rfl) (hK _ _ ?_)
      simp only [Act.put, List.setIfInBounds_toArray, List.set_cons_succ, List.set_cons_zero]
      clear hK
      refine wpAny_ready (rs := [3]) (fuel := 2) (by kernel_rfl) (by simp) (AllReady.cons rfl (fun K' hK => ?_) AllReady.nil)
      rw [if_pos (by kernel_rfl)]
      simp only [List.getElem_toArray, List.getElem_cons_succ, List.getElem_cons_zero]
      refine wp_call_op (f := 33) (args := #[(.slice (some ⟨gl, 0, none⟩) (bs.length + 32) (bs.length + 32)), ev]) (by kernel_rfl) (kept_walk bs gl w1 ev (hB.keep hw) hl hrow) (fun w2 hb => hK _ _ ?_)
      simp only [Act.put, List.setIfInBounds_toArray, List.set_cons_succ, List.set_cons_zero]
      clear hK
      replace rp0 := keep hb rp0
      replace rp1 := keep hb rp1
      replace hrow := keep hb hrow
      replace rl8 := keep hb rl8
      replace hw := Below.after hw hb
      clear hb
      refine wpAny_ready (rs := [4]) (fuel := 1) (by kernel_rfl) (by simp) (AllReady.cons rfl (fun K' hK => ?_) AllReady.nil)
      rw [if_pos (by kernel_rfl)]
      simp only [List.getElem_toArray, List.getElem_cons_succ, List.getElem_cons_zero]
      refine wp_store_row 27 _ _ rfl (w.heap.size + 1) s rfl rfl 27 _ rp1 hs.info (num_zero.size.trans hs.size.symm) hs.one (hK _ _ ?_)
      simp only [Act.put]
      clear hK
      replace rp0 := (setRow_other w2 (w.heap.size + 1) (w.heap.size) s (by first | assumption | omega)).trans rp0
      replace hrow := (setRow_other w2 (w.heap.size + 1) (gl) s (by first | assumption | omega)).trans hrow
      replace rl8 := (setRow_other w2 (w.heap.size + 1) (g8) s (by first | assumption | omega)).trans rl8
      replace rp1 := setRow_heap w2 (w.heap.size + 1) _ s _ _ rp1
      replace hw := below_setRow hw (show w.heap.size ≤ w.heap.size + 1 by first | assumption | omega) s
      generalize w2.setRow (w.heap.size + 1) s = w3 at *
      refine wpAny_ready (rs := [5]) (fuel := 0) (by kernel_rfl) (by simp) (AllReady.cons rfl (fun K' hK => ?_) AllReady.nil)
      rw [if_pos (by kernel_rfl)]
      simp only [List.getElem_toArray, List.getElem_cons_succ, List.getElem_cons_zero]
      refine wp_pure_op (.bool true) (by kernel_rfl) (hK _ _ ?_)
      simp only [Act.put, List.setIfInBounds_toArray, List.set_cons_succ, List.set_cons_zero]
      clear hK
      refine wpAny_done (by kernel_rfl) ?_ _
      go_wp2
      exact bodyPost_ret (v := .tuple #[.agg s, .bool true]) (results_row_slot Try.results15 _ _ (w.heap.size + 1) _ s _ _ (.bool true) rfl rp1 rfl Try.underlying27 rfl hs.info) rfl ⟨rfl, hw⟩
    · skip
      rw [if_pos (by kernel_rfl)]
      simp only [List.getElem_toArray, List.getElem_cons_succ, List.getElem_cons_zero]
      refine wp_pure_op (ev) (by kernel_rfl) (hK _ _ ?_)
      simp only [Act.put, List.setIfInBounds_toArray, List.set_cons_succ, List.set_cons_zero]
      clear hK
      refine wpAny_ready (rs := [1]) (fuel := 3) (by kernel_rfl) (by simp) (AllReady.cons rfl (fun K' hK => ?_) AllReady.nil)
      rw [if_pos (by kernel_rfl)]
      simp only [List.getElem_toArray, List.getElem_cons_succ, List.getElem_cons_zero]
      refine wp_pure_op ((.slice (some ⟨gl, 0, none⟩) (bs.length + 32) (bs.length + 32))) (by kernel_rfl) (hK _ _ ?_)
      simp only [Act.put, List.setIfInBounds_toArray, List.set_cons_succ, List.set_cons_zero]
      clear hK
      refine wpAny_ready (rs := [3]) (fuel := 2) (by kernel_rfl) (by simp) (AllReady.cons rfl (fun K' hK => ?_) AllReady.nil)
      rw [if_pos (by kernel_rfl)]
      simp only [List.getElem_toArray, List.getElem_cons_succ, List.getElem_cons_zero]
      refine wp_call_op (f := 33) (args := #[(.slice (some ⟨gl, 0, none⟩) (bs.length + 32) (bs.length + 32)), ev]) (by kernel_rfl) (kept_walk bs gl w1 ev (hB.keep hw) hl hrow) (fun w4 hb => hK _ _ ?_)
      simp only [Act.put, List.setIfInBounds_toArray, List.set_cons_succ, List.set_cons_zero]
      clear hK
      replace rp0 := keep hb rp0
      replace rp1 := keep hb rp1
      replace hrow := keep hb hrow
      replace rl8 := keep hb rl8
      replace hw := Below.after hw hb
      clear hb
      refine wpAny_ready (rs := [4]) (fuel := 1) (by kernel_rfl) (by simp) (AllReady.cons rfl (fun K' hK => ?_) AllReady.nil)
      rw [if_pos (by kernel_rfl)]
      simp only [List.getElem_toArray, List.getElem_cons_succ, List.getElem_cons_zero]
      refine wp_store_row 27 _ _ rfl (w.heap.size + 1) s rfl rfl 27 _ rp1 hs.info (num_zero.size.trans hs.size.symm) hs.one (hK _ _ ?_)
      simp only [Act.put]
      clear hK
      replace rp0 := (setRow_other w4 (w.heap.size + 1) (w.heap.size) s (by first | assumption | omega)).trans rp0
      replace hrow := (setRow_other w4 (w.heap.size + 1) (gl) s (by first | assumption | omega)).trans hrow
      replace rl8 := (setRow_other w4 (w.heap.size + 1) (g8) s (by first | assumption | omega)).trans rl8
      replace rp1 := setRow_heap w4 (w.heap.size + 1) _ s _ _ rp1
      replace hw := below_setRow hw (show w.heap.size ≤ w.heap.size + 1 by first | assumption | omega) s
      generalize w4.setRow (w.heap.size + 1) s = w5 at *
      refine wpAny_ready (rs := [5]) (fuel := 0) (by kernel_rfl) (by simp) (AllReady.cons rfl (fun K' hK => ?_) AllReady.nil)
      rw [if_pos (by kernel_rfl)]
      simp only [List.getElem_toArray, List.getElem_cons_succ, List.getElem_cons_zero]
      refine wp_pure_op (.bool true) (by kernel_rfl) (hK _ _ ?_)
      simp only [Act.put, List.setIfInBounds_toArray, List.set_cons_succ, List.set_cons_zero]
      clear hK
      refine wpAny_done (by kernel_rfl) ?_ _
      go_wp2
      exact bodyPost_ret (v := .tuple #[.agg s, .bool true]) (results_row_slot Try.results15 _ _ (w.heap.size + 1) _ s _ _ (.bool true) rfl rp1 rfl Try.underlying27 rfl hs.info) rfl ⟨rfl, hw⟩
  · skip
    rw [if_pos (by kernel_rfl)]
    simp only [List.getElem_toArray, List.getElem_cons_succ, List.getElem_cons_zero]
    refine wp_pure_op ((.slice (some ⟨gl, 0, none⟩) (bs.length + 32) (bs.length + 32))) (by kernel_rfl) (hK _ _ ?_)
    simp only [Act.put, List.setIfInBounds_toArray, List.set_cons_succ, List.set_cons_zero]
    clear hK
    refine wpAny_ready (rs := [0, 2]) (fuel := 4) (by kernel_rfl) (by simp) (AllReady.cons rfl (fun K' hK => ?_) (AllReady.cons rfl (fun K' hK => ?_) AllReady.nil))
    · skip
      rw [if_pos (by kernel_rfl)]
      simp only [List.getElem_toArray, List.getElem_cons_zero]
      refine wp_load_row 27 _ rfl (g8) rfl 27 s (0, 0) _ rl8 Try.underlying27 rfl hs.info (hK _ _ ?_)
      simp only [Act.put, List.setIfInBounds_toArray, List.set_cons_succ, List.set_cons_zero]
      clear hK
      refine wpAny_ready (rs := [2]) (fuel := 3) (by kernel_rfl) (by simp) (AllReady.cons rfl (fun K' hK => ?_) AllReady.nil)
      rw [if_pos (by kernel_rfl)]
      simp only [List.getElem_toArray, List.getElem_cons_succ, List.getElem_cons_zero]
      refine wp_pure_op (ev) (by kernel_rfl) (hK _ _ ?_)
      simp only [Act.put, List.setIfInBounds_toArray, List.set_cons_succ, List.set_cons_zero]
      clear hK
      refine wpAny_ready (rs := [3]) (fuel := 2) (by kernel_rfl) (by simp) (AllReady.cons rfl (fun K' hK => ?_) AllReady.nil)
      rw [if_pos (by kernel_rfl)]
      simp only [List.getElem_toArray, List.getElem_cons_succ, List.getElem_cons_zero]
      refine wp_call_op (f := 33) (args := #[(.slice (some ⟨gl, 0, none⟩) (bs.length + 32) (bs.length + 32)), ev]) (by kernel_rfl) (kept_walk bs gl w1 ev (hB.keep hw) hl hrow) (fun w6 hb => hK _ _ ?_)
      simp only [Act.put, List.setIfInBounds_toArray, List.set_cons_succ, List.set_cons_zero]
      clear hK
      replace rp0 := keep hb rp0
      replace rp1 := keep hb rp1
      replace hrow := keep hb hrow
      replace rl8 := keep hb rl8
      replace hw := Below.after hw hb
      clear hb
      refine wpAny_ready (rs := [4]) (fuel := 1) (by kernel_rfl) (by simp) (AllReady.cons rfl (fun K' hK => ?_) AllReady.nil)
      rw [if_pos (by kernel_rfl)]
      simp only [List.getElem_toArray, List.getElem_cons_succ, List.getElem_cons_zero]
      refine wp_store_row 27 _ _ rfl (w.heap.size + 1) s rfl rfl 27 _ rp1 hs.info (num_zero.size.trans hs.size.symm) hs.one (hK _ _ ?_)
      simp only [Act.put]
      clear hK
      replace rp0 := (setRow_other w6 (w.heap.size + 1) (w.heap.size) s (by first | assumption | omega)).trans rp0
      replace hrow := (setRow_other w6 (w.heap.size + 1) (gl) s (by first | assumption | omega)).trans hrow
      replace rl8 := (setRow_other w6 (w.heap.size + 1) (g8) s (by first | assumption | omega)).trans rl8
      replace rp1 := setRow_heap w6 (w.heap.size + 1) _ s _ _ rp1
      replace hw := below_setRow hw (show w.heap.size ≤ w.heap.size + 1 by first | assumption | omega) s
      generalize w6.setRow (w.heap.size + 1) s = w7 at *
      refine wpAny_ready (rs := [5]) (fuel := 0) (by kernel_rfl) (by simp) (AllReady.cons rfl (fun K' hK => ?_) AllReady.nil)
      rw [if_pos (by kernel_rfl)]
      simp only [List.getElem_toArray, List.getElem_cons_succ, List.getElem_cons_zero]
      refine wp_pure_op (.bool true) (by kernel_rfl) (hK _ _ ?_)
      simp only [Act.put, List.setIfInBounds_toArray, List.set_cons_succ, List.set_cons_zero]
      clear hK
      refine wpAny_done (by kernel_rfl) ?_ _
      go_wp2
      exact bodyPost_ret (v := .tuple #[.agg s, .bool true]) (results_row_slot Try.results15 _ _ (w.heap.size + 1) _ s _ _ (.bool true) rfl rp1 rfl Try.underlying27 rfl hs.info) rfl ⟨rfl, hw⟩
    · skip
      rw [if_pos (by kernel_rfl)]
      simp only [List.getElem_toArray, List.getElem_cons_succ, List.getElem_cons_zero]
      refine wp_pure_op (ev) (by kernel_rfl) (hK _ _ ?_)
      simp only [Act.put, List.setIfInBounds_toArray, List.set_cons_succ, List.set_cons_zero]
      clear hK
      refine wpAny_ready (rs := [0, 3]) (fuel := 3) (by kernel_rfl) (by simp) (AllReady.cons rfl (fun K' hK => ?_) (AllReady.cons rfl (fun K' hK => ?_) AllReady.nil))
      · skip
        rw [if_pos (by kernel_rfl)]
        simp only [List.getElem_toArray, List.getElem_cons_zero]
        refine wp_load_row 27 _ rfl (g8) rfl 27 s (0, 0) _ rl8 Try.underlying27 rfl hs.info (hK _ _ ?_)
        simp only [Act.put, List.setIfInBounds_toArray, List.set_cons_succ, List.set_cons_zero]
        clear hK
        refine wpAny_ready (rs := [3]) (fuel := 2) (by kernel_rfl) (by simp) (AllReady.cons rfl (fun K' hK => ?_) AllReady.nil)
        rw [if_pos (by kernel_rfl)]
        simp only [List.getElem_toArray, List.getElem_cons_succ, List.getElem_cons_zero]
        refine wp_call_op (f := 33) (args := #[(.slice (some ⟨gl, 0, none⟩) (bs.length + 32) (bs.length + 32)), ev]) (by kernel_rfl) (kept_walk bs gl w1 ev (hB.keep hw) hl hrow) (fun w8 hb => hK _ _ ?_)
        simp only [Act.put, List.setIfInBounds_toArray, List.set_cons_succ, List.set_cons_zero]
        clear hK
        replace rp0 := keep hb rp0
        replace rp1 := keep hb rp1
        replace hrow := keep hb hrow
        replace rl8 := keep hb rl8
        replace hw := Below.after hw hb
        clear hb
        refine wpAny_ready (rs := [4]) (fuel := 1) (by kernel_rfl) (by simp) (AllReady.cons rfl (fun K' hK => ?_) AllReady.nil)
        rw [if_pos (by kernel_rfl)]
        simp only [List.getElem_toArray, List.getElem_cons_succ, List.getElem_cons_zero]
        refine wp_store_row 27 _ _ rfl (w.heap.size + 1) s rfl rfl 27 _ rp1 hs.info (num_zero.size.trans hs.size.symm) hs.one (hK _ _ ?_)
        simp only [Act.put]
        clear hK
        replace rp0 := (setRow_other w8 (w.heap.size + 1) (w.heap.size) s (by first | assumption | omega)).trans rp0
        replace hrow := (setRow_other w8 (w.heap.size + 1) (gl) s (by first | assumption | omega)).trans hrow
        replace rl8 := (setRow_other w8 (w.heap.size + 1) (g8) s (by first | assumption | omega)).trans rl8
        replace rp1 := setRow_heap w8 (w.heap.size + 1) _ s _ _ rp1
        replace hw := below_setRow hw (show w.heap.size ≤ w.heap.size + 1 by first | assumption | omega) s
        generalize w8.setRow (w.heap.size + 1) s = w9 at *
        refine wpAny_ready (rs := [5]) (fuel := 0) (by kernel_rfl) (by simp) (AllReady.cons rfl (fun K' hK => ?_) AllReady.nil)
        rw [if_pos (by kernel_rfl)]
        simp only [List.getElem_toArray, List.getElem_cons_succ, List.getElem_cons_zero]
        refine wp_pure_op (.bool true) (by kernel_rfl) (hK _ _ ?_)
        simp only [Act.put, List.setIfInBounds_toArray, List.set_cons_succ, List.set_cons_zero]
        clear hK
        refine wpAny_done (by kernel_rfl) ?_ _
        go_wp2
        exact bodyPost_ret (v := .tuple #[.agg s, .bool true]) (results_row_slot Try.results15 _ _ (w.heap.size + 1) _ s _ _ (.bool true) rfl rp1 rfl Try.underlying27 rfl hs.info) rfl ⟨rfl, hw⟩
      · skip
        rw [if_pos (by kernel_rfl)]
        simp only [List.getElem_toArray, List.getElem_cons_succ, List.getElem_cons_zero]
        refine wp_call_op (f := 33) (args := #[(.slice (some ⟨gl, 0, none⟩) (bs.length + 32) (bs.length + 32)), ev]) (by kernel_rfl) (kept_walk bs gl w1 ev (hB.keep hw) hl hrow) (fun w10 hb => hK _ _ ?_)
        simp only [Act.put, List.setIfInBounds_toArray, List.set_cons_succ, List.set_cons_zero]
        clear hK
        replace rp0 := keep hb rp0
        replace rp1 := keep hb rp1
        replace hrow := keep hb hrow
        replace rl8 := keep hb rl8
        replace hw := Below.after hw hb
        clear hb
        refine wpAny_ready (rs := [0]) (fuel := 2) (by kernel_rfl) (by simp) (AllReady.cons rfl (fun K' hK => ?_) AllReady.nil)
        rw [if_pos (by kernel_rfl)]
        simp only [List.getElem_toArray, List.getElem_cons_zero]
        refine wp_load_row 27 _ rfl (g8) rfl 27 s (0, 0) _ rl8 Try.underlying27 rfl hs.info (hK _ _ ?_)
        simp only [Act.put, List.setIfInBounds_toArray, List.set_cons_succ, List.set_cons_zero]
        clear hK
        refine wpAny_ready (rs := [4]) (fuel := 1) (by kernel_rfl) (by simp) (AllReady.cons rfl (fun K' hK => ?_) AllReady.nil)
        rw [if_pos (by kernel_rfl)]
        simp only [List.getElem_toArray, List.getElem_cons_succ, List.getElem_cons_zero]
        refine wp_store_row 27 _ _ rfl (w.heap.size + 1) s rfl rfl 27 _ rp1 hs.info (num_zero.size.trans hs.size.symm) hs.one (hK _ _ ?_)
        simp only [Act.put]
        clear hK
        replace rp0 := (setRow_other w10 (w.heap.size + 1) (w.heap.size) s (by first | assumption | omega)).trans rp0
        replace hrow := (setRow_other w10 (w.heap.size + 1) (gl) s (by first | assumption | omega)).trans hrow
        replace rl8 := (setRow_other w10 (w.heap.size + 1) (g8) s (by first | assumption | omega)).trans rl8
        replace rp1 := setRow_heap w10 (w.heap.size + 1) _ s _ _ rp1
        replace hw := below_setRow hw (show w.heap.size ≤ w.heap.size + 1 by first | assumption | omega) s
        generalize w10.setRow (w.heap.size + 1) s = w11 at *
        refine wpAny_ready (rs := [5]) (fuel := 0) (by kernel_rfl) (by simp) (AllReady.cons rfl (fun K' hK => ?_) AllReady.nil)
        rw [if_pos (by kernel_rfl)]
        simp only [List.getElem_toArray, List.getElem_cons_succ, List.getElem_cons_zero]
        refine wp_pure_op (.bool true) (by kernel_rfl) (hK _ _ ?_)
        simp only [Act.put, List.setIfInBounds_toArray, List.set_cons_succ, List.set_cons_zero]
        clear hK
        refine wpAny_done (by kernel_rfl) ?_ _
        go_wp2
        exact bodyPost_ret (v := .tuple #[.agg s, .bool true]) (results_row_slot Try.results15 _ _ (w.heap.size + 1) _ s _ _ (.bool true) rfl rp1 rfl Try.underlying27 rfl hs.info) rfl ⟨rfl, hw⟩
  · skip
    rw [if_pos (by kernel_rfl)]
    simp only [List.getElem_toArray, List.getElem_cons_succ, List.getElem_cons_zero]
    refine wp_pure_op (ev) (by kernel_rfl) (hK _ _ ?_)
    simp only [Act.put, List.setIfInBounds_toArray, List.set_cons_succ, List.set_cons_zero]
    clear hK
    refine wpAny_ready (rs := [0, 1]) (fuel := 4) (by kernel_rfl) (by simp) (AllReady.cons rfl (fun K' hK => ?_) (AllReady.cons rfl (fun K' hK => ?_) AllReady.nil))
    · skip
      rw [if_pos (by kernel_rfl)]
      simp only [List.getElem_toArray, List.getElem_cons_zero]
      refine wp_load_row 27 _ rfl (g8) rfl 27 s (0, 0) _ rl8 Try.underlying27 rfl hs.info (hK _ _ ?_)
      simp only [Act.put, List.setIfInBounds_toArray, List.set_cons_succ, List.set_cons_zero]
      clear hK
      refine wpAny_ready (rs := [1]) (fuel := 3) (by kernel_rfl) (by simp) (AllReady.cons rfl (fun K' hK => ?_) AllReady.nil)
      rw [if_pos (by kernel_rfl)]
      simp only [List.getElem_toArray, List.getElem_cons_succ, List.getElem_cons_zero]
      refine wp_pure_op ((.slice (some ⟨gl, 0, none⟩) (bs.length + 32) (bs.length + 32))) (by kernel_rfl) (hK _ _ ?_)
      simp only [Act.put, List.setIfInBounds_toArray, List.set_cons_succ, List.set_cons_zero]
      clear hK
      refine wpAny_ready (rs := [3]) (fuel := 2) (by kernel_rfl) (by simp) (AllReady.cons rfl (fun K' hK => ?_) AllReady.nil)
      rw [if_pos (by kernel_rfl)]
      simp only [List.getElem_toArray, List.getElem_cons_succ, List.getElem_cons_zero]
      refine wp_call_op (f := 33) (args := #[(.slice (some ⟨gl, 0, none⟩) (bs.length + 32) (bs.length + 32)), ev]) (by kernel_rfl) (kept_walk bs gl w1 ev (hB.keep hw) hl hrow) (fun w12 hb => hK _ _ ?_)
      simp only [Act.put, List.setIfInBounds_toArray, List.set_cons_succ, List.set_cons_zero]
      clear hK
      replace rp0 := keep hb rp0
      replace rp1 := keep hb rp1
      replace hrow := keep hb hrow
      replace rl8 := keep hb rl8
      replace hw := Below.after hw hb
      clear hb
      refine wpAny_ready (rs := [4]) (fuel := 1) (by kernel_rfl) (by simp) (AllReady.cons rfl (fun K' hK => ?_) AllReady.nil)
      rw [if_pos (by kernel_rfl)]
      simp only [List.getElem_toArray, List.getElem_cons_succ, List.getElem_cons_zero]
      refine wp_store_row 27 _ _ rfl (w.heap.size + 1) s rfl rfl 27 _ rp1 hs.info (num_zero.size.trans hs.size.symm) hs.one (hK _ _ ?_)
      simp only [Act.put]
      clear hK
      replace rp0 := (setRow_other w12 (w.heap.size + 1) (w.heap.size) s (by first | assumption | omega)).trans rp0
      replace hrow := (setRow_other w12 (w.heap.size + 1) (gl) s (by first | assumption | omega)).trans hrow
      replace rl8 := (setRow_other w12 (w.heap.size + 1) (g8) s (by first | assumption | omega)).trans rl8
      replace rp1 := setRow_heap w12 (w.heap.size + 1) _ s _ _ rp1
      replace hw := below_setRow hw (show w.heap.size ≤ w.heap.size + 1 by first | assumption | omega) s
      generalize w12.setRow (w.heap.size + 1) s = w13 at *
      refine wpAny_ready (rs := [5]) (fuel := 0) (by kernel_rfl) (by simp) (AllReady.cons rfl (fun K' hK => ?_) AllReady.nil)
      rw [if_pos (by kernel_rfl)]
      simp only [List.getElem_toArray, List.getElem_cons_succ, List.getElem_cons_zero]
      refine wp_pure_op (.bool true) (by kernel_rfl) (hK _ _ ?_)
      simp only [Act.put, List.setIfInBounds_toArray, List.set_cons_succ, List.set_cons_zero]
      clear hK
      refine wpAny_done (by kernel_rfl) ?_ _
      go_wp2
      exact bodyPost_ret (v := .tuple #[.agg s, .bool true]) (results_row_slot Try.results15 _ _ (w.heap.size + 1) _ s _ _ (.bool true) rfl rp1 rfl Try.underlying27 rfl hs.info) rfl ⟨rfl, hw⟩
    · skip
      rw [if_pos (by kernel_rfl)]
      simp only [List.getElem_toArray, List.getElem_cons_succ, List.getElem_cons_zero]
      refine wp_pure_op ((.slice (some ⟨gl, 0, none⟩) (bs.length + 32) (bs.length + 32))) (by kernel_rfl) (hK _ _ ?_)
      simp only [Act.put, List.setIfInBounds_toArray, List.set_cons_succ, List.set_cons_zero]
      clear hK
      refine wpAny_ready (rs := [0, 3]) (fuel := 3) (by kernel_rfl) (by simp) (AllReady.cons rfl (fun K' hK => ?_) (AllReady.cons rfl (fun K' hK => ?_) AllReady.nil))
      · skip
        rw [if_pos (by kernel_rfl)]
        simp only [List.getElem_toArray, List.getElem_cons_zero]
        refine wp_load_row 27 _ rfl (g8) rfl 27 s (0, 0) _ rl8 Try.underlying27 rfl hs.info (hK _ _ ?_)
        simp only [Act.put, List.setIfInBounds_toArray, List.set_cons_succ, List.set_cons_zero]
        clear hK
        refine wpAny_ready (rs := [3]) (fuel := 2) (by kernel_rfl) (by simp) (AllReady.cons rfl (fun K' hK => ?_) AllReady.nil)
        rw [if_pos (by kernel_rfl)]
        simp only [List.getElem_toArray, List.getElem_cons_succ, List.getElem_cons_zero]
        refine wp_call_op (f := 33) (args := #[(.slice (some ⟨gl, 0, none⟩) (bs.length + 32) (bs.length + 32)), ev]) (by kernel_rfl) (kept_walk bs gl w1 ev (hB.keep hw) hl hrow) (fun w14 hb => hK _ _ ?_)
        simp only [Act.put, List.setIfInBounds_toArray, List.set_cons_succ, List.set_cons_zero]
        clear hK
        replace rp0 := keep hb rp0
        replace rp1 := keep hb rp1
        replace hrow := keep hb hrow
        replace rl8 := keep hb rl8
        replace hw := Below.after hw hb
        clear hb
        refine wpAny_ready (rs := [4]) (fuel := 1) (by kernel_rfl) (by simp) (AllReady.cons rfl (fun K' hK => ?_) AllReady.nil)
        rw [if_pos (by kernel_rfl)]
        simp only [List.getElem_toArray, List.getElem_cons_succ, List.getElem_cons_zero]
        refine wp_store_row 27 _ _ rfl (w.heap.size + 1) s rfl rfl 27 _ rp1 hs.info (num_zero.size.trans hs.size.symm) hs.one (hK _ _ ?_)
        simp only [Act.put]
        clear hK
        replace rp0 := (setRow_other w14 (w.heap.size + 1) (w.heap.size) s (by first | assumption | omega)).trans rp0
        replace hrow := (setRow_other w14 (w.heap.size + 1) (gl) s (by first | assumption | omega)).trans hrow
        replace rl8 := (setRow_other w14 (w.heap.size + 1) (g8) s (by first | assumption | omega)).trans rl8
        replace rp1 := setRow_heap w14 (w.heap.size + 1) _ s _ _ rp1
        replace hw := below_setRow hw (show w.heap.size ≤ w.heap.size + 1 by first | assumption | omega) s
        generalize w14.setRow (w.heap.size + 1) s = w15 at *
        refine wpAny_ready (rs := [5]) (fuel := 0) (by kernel_rfl) (by simp) (AllReady.cons rfl (fun K' hK => ?_) AllReady.nil)
        rw [if_pos (by kernel_rfl)]
        simp only [List.getElem_toArray, List.getElem_cons_succ, List.getElem_cons_zero]
        refine wp_pure_op (.bool true) (by kernel_rfl) (hK _ _ ?_)
        simp only [Act.put, List.setIfInBounds_toArray, List.set_cons_succ, List.set_cons_zero]
        clear hK
        refine wpAny_done (by kernel_rfl) ?_ _
        go_wp2
        exact bodyPost_ret (v := .tuple #[.agg s, .bool true]) (results_row_slot Try.results15 _ _ (w.heap.size + 1) _ s _ _ (.bool true) rfl rp1 rfl Try.underlying27 rfl hs.info) rfl ⟨rfl, hw⟩
      · skip
        rw [if_pos (by kernel_rfl)]
        simp only [List.getElem_toArray, List.getElem_cons_succ, List.getElem_cons_zero]
        refine wp_call_op (f := 33) (args := #[(.slice (some ⟨gl, 0, none⟩) (bs.length + 32) (bs.length + 32)), ev]) (by kernel_rfl) (kept_walk bs gl w1 ev (hB.keep hw) hl hrow) (fun w16 hb => hK _ _ ?_)
        simp only [Act.put, List.setIfInBounds_toArray, List.set_cons_succ, List.set_cons_zero]
        clear hK
        replace rp0 := keep hb rp0
        replace rp1 := keep hb rp1
        replace hrow := keep hb hrow
        replace rl8 := keep hb rl8
        replace hw := Below.after hw hb
        clear hb
        refine wpAny_ready (rs := [0]) (fuel := 2) (by kernel_rfl) (by simp) (AllReady.cons rfl (fun K' hK => ?_) AllReady.nil)
        rw [if_pos (by kernel_rfl)]
        simp only [List.getElem_toArray, List.getElem_cons_zero]
        refine wp_load_row 27 _ rfl (g8) rfl 27 s (0, 0) _ rl8 Try.underlying27 rfl hs.info (hK _ _ ?_)
        simp only [Act.put, List.setIfInBounds_toArray, List.set_cons_succ, List.set_cons_zero]
        clear hK
        refine wpAny_ready (rs := [4]) (fuel := 1) (by kernel_rfl) (by simp) (AllReady.cons rfl (fun K' hK => ?_) AllReady.nil)
        rw [if_pos (by kernel_rfl)]
        simp only [List.getElem_toArray, List.getElem_cons_succ, List.getElem_cons_zero]
        refine wp_store_row 27 _ _ rfl (w.heap.size + 1) s rfl rfl 27 _ rp1 hs.info (num_zero.size.trans hs.size.symm) hs.one (hK _ _ ?_)
        simp only [Act.put]
        clear hK
        replace rp0 := (setRow_other w16 (w.heap.size + 1) (w.heap.size) s (by first | assumption | omega)).trans rp0
        replace hrow := (setRow_other w16 (w.heap.size + 1) (gl) s (by first | assumption | omega)).trans hrow
        replace rl8 := (setRow_other w16 (w.heap.size + 1) (g8) s (by first | assumption | omega)).trans rl8
        replace rp1 := setRow_heap w16 (w.heap.size + 1) _ s _ _ rp1
        replace hw := below_setRow hw (show w.heap.size ≤ w.heap.size + 1 by first | assumption | omega) s
        generalize w16.setRow (w.heap.size + 1) s = w17 at *
        refine wpAny_ready (rs := [5]) (fuel := 0) (by kernel_rfl) (by simp) (AllReady.cons rfl (fun K' hK => ?_) AllReady.nil)
        rw [if_pos (by kernel_rfl)]
        simp only [List.getElem_toArray, List.getElem_cons_succ, List.getElem_cons_zero]
        refine wp_pure_op (.bool true) (by kernel_rfl) (hK _ _ ?_)
        simp only [Act.put, List.setIfInBounds_toArray, List.set_cons_succ, List.set_cons_zero]
        clear hK
        refine wpAny_done (by kernel_rfl) ?_ _
        go_wp2
        exact bodyPost_ret (v := .tuple #[.agg s, .bool true]) (results_row_slot Try.results15 _ _ (w.heap.size + 1) _ s _ _ (.bool true) rfl rp1 rfl Try.underlying27 rfl hs.info) rfl ⟨rfl, hw⟩

end Go.Proofs.Ytcjdglckbkdheab

