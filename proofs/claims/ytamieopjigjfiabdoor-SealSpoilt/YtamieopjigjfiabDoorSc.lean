import Derived.Test.YtamieopjigjfiabDoorProg
import Derived.WalkKit
import Derived.WalkSpells
import Derived.WalkLawsBesides
import Derived.Lib.QuietBelow
import Derived.BigQuiet
import Derived.OrdersHeld
import Derived.Deep.RegionHeld3
import Derived.Lib.SlBytesConst
import Derived.Test.YtamieopjigjfiabDoorKa
import Derived.Test.YtamieopjigjfiabDoorSa
import Derived.Test.YtamieopjigjfiabDoorWn
namespace Go.Proofs.YtamieopjigjfiabDoor
set_option maxRecDepth 100000
open Go Go.RowKit Go.Sort
attribute [local go_sem] setCell_drewN alloc_drewN

variable {P : Program} {ops : Array Oper} {Q : Exit → Act → World → Prop} {md : Region.Mode} {S : World → Prop}
/-- Either of two operations may come up. -/
theorem wpAnyH_two {j k : Nat} {oj ok : Oper} {fuel : Nat} {listed : Array Bool} {a : Act} {w : World} (hr : Region.ready md ops listed = [j, k]) (hj : ops[j]? = some oj) (hk : ops[k]? = some ok) (wj : Region.wanted oj (yielded ops a.tmps) = true) (wk : Region.wanted ok (yielded ops a.tmps) = true)
    (h1 : ∀ K : Act → World → Prop, (∀ a' w', S w' → wpAnyH P md ops Q S fuel (listed.setIfInBounds j true) a' w' → K a' w') → oj.wp P a w K Q)
    (h2 : ∀ K : Act → World → Prop, (∀ a' w', S w' → wpAnyH P md ops Q S fuel (listed.setIfInBounds k true) a' w' → K a' w') → ok.wp P a w K Q) : wpAnyH P md ops Q S (fuel + 1) listed a w := by
  refine wpAnyH_all hr (by simp) (fun i hi' => ?_)
  obtain rfl | rfl : i = j ∨ i = k := by simpa using hi'
  · unfold wpOp
    simp only [hj, wj, if_true]
    exact .inl (h1 _ (fun a' w' hS hn => ⟨hS, hn⟩))
  · unfold wpOp
    simp only [hk, wk, if_true]
    exact .inl (h2 _ (fun a' w' hS hn => ⟨hS, hn⟩))
/-- Two results that lie in rows. -/
theorem results_cell2_row {fn : Func} {p q : Tmp} {ty : TypeId} (h : fn.results = #[.cell p ty, .cell q ty]) (tmps : Array Value) (w : World) (g k : Nat) (t u : TypeId) (cs ds : Array Value) (fr gr : Nat × Nat) (d : TypeDesc)
    (hp : tmps.getD p undef = .pointer (some ⟨g, 0, none⟩)) (hq : tmps.getD q undef = .pointer (some ⟨k, 0, none⟩)) (hg : w.heap[g]? = some (.cells cs t fr)) (hk : w.heap[k]? = some (.cells ds u gr))
    (hu : P.underlying ty = some d) (hd : (match d with | .struct _ | .array _ _ => true | _ => false) = true) (hi : (P.info? ty).map (·.size) = some cs.size) (hj : (P.info? ty).map (·.size) = some ds.size) :
    (results fn tmps).run P w = .ok (.tuple #[.agg cs, .agg ds]) w := by
  have hp' : tmps[p]?.getD undef = .pointer (some ⟨g, 0, none⟩) := by simpa using hp
  have hq' : tmps[q]?.getD undef = .pointer (some ⟨k, 0, none⟩) := by simpa using hq
  simp [results, h, hp', hq', asAddr, run_loadVar_row w g t ty cs fr d hg hu hd hi, run_loadVar_row w k u ty ds gr d hk hu hd hj]
theorem mk8 (w : World) : (Instr.makeSlice 26 (.int .i64 8) (.int .i64 8)).run Tryd.prog w = .ok (.slice (some ⟨w.heap.size, 0, none⟩) 8 8) (w.alloc (.cells #[.int .u8 0, .int .u8 0, .int .u8 0, .int .u8 0, .int .u8 0, .int .u8 0, .int .u8 0, .int .u8 0] 5)) := by kernel_rfl
set_option maxRecDepth 100000 in
set_option maxHeartbeats 4000000 in
theorem a_eight (n : Nat) (hn : n < 18446744073709551616) (w : World) : Calls Tryd.prog 26 #[.int .u64 (n : Int)] w fun e w' => ∃ v, e = .returned v ∧ ∃ g, v = .slice (some ⟨g, 0, none⟩) 8 8 ∧ w.heap.size ≤ g ∧ w'.heap[g]? = some (.cells (irow .u8 (n8 n)) 5 (0, 0)) ∧ Below w.heap.size w w' := by
  have hmk := mk8 w
  go_enter Tryd.func26, Tryd.ntmps26
  go_wp2
  refine wp_loop_rounds 9 ?_
  rw [rounds_succ]; go_wp2
  rw [rounds_succ]; go_wp2
  rw [rounds_succ]; go_wp2
  rw [rounds_succ]; go_wp2
  rw [rounds_succ]; go_wp2
  rw [rounds_succ]; go_wp2
  rw [rounds_succ]; go_wp2
  rw [rounds_succ]; go_wp2
  rw [rounds_succ]; go_wp2
  go_ret
  refine ⟨_, rfl, w.heap.size, rfl, Nat.le_refl _, ?_, ?_⟩
  · rw [n8_lit, show (n : Int) / 72057594037927936 % 256 = (n : Int) / 72057594037927936 by omega]
    exact hp1_0 w _
  · exact (Below.refl _ _).alloc (Nat.le_refl _) _
theorem arr_k (g o c : Nat) (W : World) : (Instr.arrayAt 23 (.slice (some ⟨g, o, none⟩) 32 c)).run Tryd.prog W = .ok (.pointer (some ⟨g, o, none⟩)) W := by kernel_rfl
theorem sl_lo (g : Nat) (W : World) : (Instr.sliceAt 26 (.slice (some ⟨g, 0, none⟩) 64 64) none (some (.int .i64 32)) none).run Tryd.prog W = .ok (.slice (some ⟨g, 0, none⟩) 32 64) W := by kernel_rfl
theorem sl_hi (g : Nat) (W : World) : (Instr.sliceAt 26 (.slice (some ⟨g, 0, none⟩) 64 64) (some (.int .i64 32)) none none).run Tryd.prog W = .ok (.slice (some ⟨g, 32, none⟩) 32 32) W := by kernel_rfl
theorem irow_take (l : List Int) (n : Nat) (k : IntKind) (h : n ≤ l.length) : (irow k l).extract 0 (0 + (irow k (l.take n)).size) = irow k (l.take n) := by
  apply Array.ext'
  simp [irow, List.map_take, h]
theorem irow_drop (l : List Int) (n : Nat) (k : IntKind) : (irow k l).extract n (n + (irow k (l.drop n)).size) = irow k (l.drop n) := by
  apply Array.ext'
  simp only [irow, List.extract_toArray, List.extract_eq_take_drop, List.map_drop, List.size_toArray, List.length_drop, List.length_map, Nat.add_sub_cancel_left]
  exact List.take_of_length_le (by simp)
theorem bys_rowF {W : World} {g n : Nat} {l : List Int} {t : TypeId} {fr : Nat × Nat} (hg : W.heap[g]? = some (.cells (irow .u8 l) t fr)) (hl : l.length ≤ 9223372036854775807) (hz : ∀ z ∈ l, 0 ≤ z ∧ z < 256) (hn : l.length = n) {cap : Nat} : Bys W (.slice (some ⟨g, 0, none⟩) n cap) l := by
  subst hn
  refine ⟨_, _, rfl, hl, fun j hj => ⟨g, 0, rfl, lt_of_row hg, ?_⟩, hz⟩
  rw [Nat.zero_add, cell_of_row _ _ _ _ _ _ hg]
  simp [irow, List.getD_eq_getElem?_getD, List.getElem?_eq_getElem hj]
theorem ps9_bys (W : World) : Bys (W.alloc (.cells #[.int .u8 112, .int .u8 97, .int .u8 119, .int .u8 108, .int .u8 32, .int .u8 115, .int .u8 101, .int .u8 97, .int .u8 108] 5 (9, 10))) (.slice (some ⟨W.heap.size, 0, none⟩) 9 9) ps9 := bys_rowF (l := ps9) (hp1_0 W _) (by decide) ps9_bd rfl
set_option maxRecDepth 100000 in
set_option maxHeartbeats 4000000 in
theorem a_keys (key : List B) (hk : key.length = 32) (w : World) (hS : Sta w) (hK : Kon w) : Calls Tryd.prog 12 #[.agg (irow .u8 (bl key))] w fun e w' => e = .returned (.tuple #[.agg (irow .u8 (bl (ck key))), .agg (irow .u8 (bl (tk key)))]) ∧ Below w.heap.size w w' := by
  have hkl : (bl key).length = 32 := by rw [bl_len, hk]
  have xck : (irow .u8 (xpd (bl key) ps9 64)).extract 0 (0 + (irow .u8 (bl (ck key))).size) = irow .u8 (bl (ck key)) := by rw [bl_ck]; exact irow_take _ _ _ (by rw [xpd_len]; decide)
  have xtk : (irow .u8 (xpd (bl key) ps9 64)).extract 32 (32 + (irow .u8 (bl (tk key))).size) = irow .u8 (bl (tk key)) := by rw [bl_tk]; exact irow_drop _ _ _
  have R0 := hp3_0 w (.cells (irow .u8 (bl key)) 23) (.cells (irow .u8 (zr 32)) 23) (.cells (irow .u8 (zr 32)) 23)
  have R1 := hp3_1 w (.cells (irow .u8 (bl key)) 23) (.cells (irow .u8 (zr 32)) 23) (.cells (irow .u8 (zr 32)) 23)
  have R2 := hp3_2 w (.cells (irow .u8 (bl key)) 23) (.cells (irow .u8 (zr 32)) 23) (.cells (irow .u8 (zr 32)) 23)
  have hw : Below w.heap.size w (((w.alloc (.cells (irow .u8 (bl key)) 23)).alloc (.cells (irow .u8 (zr 32)) 23)).alloc (.cells (irow .u8 (zr 32)) 23)) := ((((Below.refl _ _).alloc (Nat.le_refl _) _).alloc (by simp) _).alloc (by simp; omega) _)
  have hz0 : (((w.alloc (.cells (irow .u8 (bl key)) 23)).alloc (.cells (irow .u8 (zr 32)) 23)).alloc (.cells (irow .u8 (zr 32)) 23)).heap.size = w.heap.size + 1 + 1 + 1 := by rw [size_alloc1, size_alloc1, size_alloc1]
  have cvs : (convert 26 26 (.slice (some ⟨w.heap.size + 1 + 1 + 1, 0, none⟩) 9 9)).run Tryd.prog ((((w.alloc (.cells (irow .u8 (bl key)) 23)).alloc (.cells (irow .u8 (zr 32)) 23)).alloc (.cells (irow .u8 (zr 32)) 23)).alloc (.cells #[.int .u8 112, .int .u8 97, .int .u8 119, .int .u8 108, .int .u8 32, .int .u8 115, .int .u8 101, .int .u8 97, .int .u8 108] 5)) = .ok (.slice (some ⟨w.heap.size + 1 + 1 + 1, 0, none⟩) 9 9) ((((w.alloc (.cells (irow .u8 (bl key)) 23)).alloc (.cells (irow .u8 (zr 32)) 23)).alloc (.cells (irow .u8 (zr 32)) 23)).alloc (.cells #[.int .u8 112, .int .u8 97, .int .u8 119, .int .u8 108, .int .u8 32, .int .u8 115, .int .u8 101, .int .u8 97, .int .u8 108] 5 (9, 10))) := by
    have h := Go.Lib.run_convert_bytes_const (P := Tryd.prog) (((w.alloc (.cells (irow .u8 (bl key)) 23)).alloc (.cells (irow .u8 (zr 32)) 23)).alloc (.cells (irow .u8 (zr 32)) 23)) 26 5 #[.int .u8 112, .int .u8 97, .int .u8 119, .int .u8 108, .int .u8 32, .int .u8 115, .int .u8 101, .int .u8 97, .int .u8 108] 9 9 Tryd.underlying26 Tryd.underlying5
    rw [hz0] at h
    exact h
  go_enter Tryd.func12, Tryd.ntmps12
  go_wp2_with (first | (refine wpList_box rfl 23 _ rfl _ rfl (bK _) ?_) | (refine wpList_alloc rfl 23 rfl (irow .u8 (zr 32)) zkey ?_) | (refine wpList_load_want rfl 23 _ rfl (w.heap.size) rfl 23 (irow .u8 (bl key)) (0, 0) _ R0 Tryd.underlying23 rfl (infok8 _ hkl) ?_) | fail)
  try simp only [size_alloc1, Act.put, List.setIfInBounds_toArray, List.set_cons_succ, List.set_cons_zero]
  clear cvs
  generalize (((w.alloc (.cells (irow .u8 (bl key)) 23)).alloc (.cells (irow .u8 (zr 32)) 23)).alloc (.cells (irow .u8 (zr 32)) 23)) = w0 at *
  have hba : Below w0.heap.size w0 (w0.alloc (.cells #[.int .u8 112, .int .u8 97, .int .u8 119, .int .u8 108, .int .u8 32, .int .u8 115, .int .u8 101, .int .u8 97, .int .u8 108] 5 (9, 10))) := (Below.refl _ _).alloc (Nat.le_refl _) _
  have hI := ps9_bys w0
  rw [hz0] at hI
  replace R1 := keep hba R1
  replace R2 := keep hba R2
  replace hw := Below.after hw hba
  generalize w0.alloc (.cells #[.int .u8 112, .int .u8 97, .int .u8 119, .int .u8 108, .int .u8 32, .int .u8 115, .int .u8 101, .int .u8 97, .int .u8 108] 5 (9, 10)) = w1 at *
  have cX := a_expand (bl key) ps9 64 w1 _ (hS.below hw) (hK.below hw) hkl (bl_bnd _) hI (fun a l c h => by cases h; exact Nat.le_refl _) (by decide) (by decide)
  clear hba hI R0 hz0
  refine cX.mono ?_
  rintro e_ w2 ⟨v_, g, rfl, rfl, lg, rg, hb⟩
  replace lg : w1.heap.size ≤ g := lg
  have l1 := lt_of_row R1
  have l2 := lt_of_row R2
  replace R1 := keep hb R1
  replace R2 := keep hb R2
  replace hw := Below.after hw hb
  clear hb cX
  have ap0 := arr_k g 0 64
  have ap1 := arr_k g 32 32
  have s0 := sl_lo g
  have s1 := sl_hi g
  go_wp2_with (fail)
  have hbd : Below w2.heap.size w2 w2.drew := below_drN (Below.refl _ _) 1
  replace R1 := keep hbd R1
  replace R2 := keep hbd R2
  replace rg := keep hbd rg
  replace hw := Below.after hw hbd
  clear hbd
  refine wp_region_noPanic ?_
  refine wp_region_held (S := fun W => W.heap[g]? = some (.cells (irow .u8 (xpd (bl key) ps9 64)) 5 (0, 0))) (by kernel_rfl) ?_
  change wpAnyH _ _ _ _ _ _ _ _ (World.drew _)
  generalize w2.drew = w3 at *
  refine wpAnyH_take (i := 0) (v := ?v1) rfl (by kernel_rfl) (by kernel_rfl) (by kernel_rfl) (fun _ _ _ h => h) (Or.inl ⟨by rfl, ?y1⟩) rg ?r1
  case y1 =>
    intro w_ hS_
    go_simp
    try with_reducible rfl
  simp only [Act.put, List.getElem_toArray, List.getElem_cons_zero, List.setIfInBounds_toArray, List.set_cons_succ, List.set_cons_zero]
  refine wpAnyH_take (i := 1) (v := ?v2) rfl (by kernel_rfl) (by kernel_rfl) (by kernel_rfl) (fun _ _ _ h => h) (Or.inl ⟨by rfl, ?y2⟩) rg ?r2
  case y2 =>
    intro w_ hS_
    go_simp
    try with_reducible rfl
  simp only [Act.put, List.getElem_toArray, List.getElem_cons_succ, List.getElem_cons_zero, List.setIfInBounds_toArray, List.set_cons_succ, List.set_cons_zero]
  refine wpAnyH_take (i := 2) (v := ?v3) rfl (by kernel_rfl) (by kernel_rfl) (by kernel_rfl) (fun _ _ _ h => h) (Or.inl ⟨by rfl, ?y3⟩) rg ?r3
  case y3 =>
    intro w_ hS_
    go_simp
    try with_reducible rfl
  simp only [Act.put, List.getElem_toArray, List.getElem_cons_succ, List.getElem_cons_zero, List.setIfInBounds_toArray, List.set_cons_succ, List.set_cons_zero]
  refine wpAnyH_take (i := 3) (v := .agg (irow .u8 (bl (ck key)))) rfl (by kernel_rfl) (by kernel_rfl) (by kernel_rfl) (fun _ _ _ h => h) (Or.inl ⟨by rfl, ?y4⟩) rg ?r4
  case y4 =>
    intro w_ hS_
    simp only [List.getElem_toArray, List.getElem_cons_succ, List.getElem_cons_zero]
    exact run_load_part 23 _ (by rfl) g 0 (by rfl) 5 (irow .u8 (xpd (bl key) ps9 64)) (0, 0) (irow .u8 (bl (ck key))) _ hS_ xck Tryd.underlying23 rfl (infok8 _ (by rw [bl_len, ck_len]))
  simp only [Act.put, List.getElem_toArray, List.getElem_cons_succ, List.getElem_cons_zero, List.setIfInBounds_toArray, List.set_cons_succ, List.set_cons_zero]
  refine wpAnyH_take (i := 4) (v := ?v5) rfl (by kernel_rfl) (by kernel_rfl) (by kernel_rfl) (fun _ _ _ h => h) (Or.inl ⟨by rfl, ?y5⟩) rg ?r5
  case y5 =>
    intro w_ hS_
    go_simp
    try with_reducible rfl
  simp only [Act.put, List.getElem_toArray, List.getElem_cons_succ, List.getElem_cons_zero, List.setIfInBounds_toArray, List.set_cons_succ, List.set_cons_zero]
  refine wpAnyH_take (i := 5) (v := ?v6) rfl (by kernel_rfl) (by kernel_rfl) (by kernel_rfl) (fun _ _ _ h => h) (Or.inl ⟨by rfl, ?y6⟩) rg ?r6
  case y6 =>
    intro w_ hS_
    go_simp
    try with_reducible rfl
  simp only [Act.put, List.getElem_toArray, List.getElem_cons_succ, List.getElem_cons_zero, List.setIfInBounds_toArray, List.set_cons_succ, List.set_cons_zero]
  refine wpAnyH_take (i := 6) (v := ?v7) rfl (by kernel_rfl) (by kernel_rfl) (by kernel_rfl) (fun _ _ _ h => h) (Or.inl ⟨by rfl, ?y7⟩) rg ?r7
  case y7 =>
    intro w_ hS_
    go_simp
    try with_reducible rfl
  simp only [Act.put, List.getElem_toArray, List.getElem_cons_succ, List.getElem_cons_zero, List.setIfInBounds_toArray, List.set_cons_succ, List.set_cons_zero]
  refine wpAnyH_take (i := 7) (v := .agg (irow .u8 (bl (tk key)))) rfl (by kernel_rfl) (by kernel_rfl) (by kernel_rfl) (fun _ _ _ h => h) (Or.inl ⟨by rfl, ?y8⟩) rg ?r8
  case y8 =>
    intro w_ hS_
    simp only [List.getElem_toArray, List.getElem_cons_succ, List.getElem_cons_zero]
    exact run_load_part 23 _ (by rfl) g 32 (by rfl) 5 (irow .u8 (xpd (bl key) ps9 64)) (0, 0) (irow .u8 (bl (tk key))) _ hS_ xtk Tryd.underlying23 rfl (infok8 _ (by rw [bl_len, tk_len]))
  simp only [Act.put, List.getElem_toArray, List.getElem_cons_succ, List.getElem_cons_zero, List.setIfInBounds_toArray, List.set_cons_succ, List.set_cons_zero]
  refine wpAnyH_one (k := 8) (fuel := 1) (by kernel_rfl) rfl (by kernel_rfl) (fun K_ hK_ => ?_)
  refine wp_store_row 23 _ _ rfl (w.heap.size + 1) (irow .u8 (bl (ck key))) rfl rfl 23 _ R1 (infok8 _ (by rw [bl_len, ck_len])) (fit32 _ _ (zr_len 32) (by rw [bl_len, ck_len])) (irow_one _ _) (hK_ _ _ ((setRow_other w3 (w.heap.size + 1) g _ (by omega)).trans rg) ?_)
  replace R1 := setRow_heap w3 (w.heap.size + 1) _ (irow .u8 (bl (ck key))) _ _ R1
  replace R2 := (setRow_other w3 (w.heap.size + 1) (w.heap.size + 1 + 1) (irow .u8 (bl (ck key))) (by omega)).trans R2
  replace rg := (setRow_other w3 (w.heap.size + 1) g (irow .u8 (bl (ck key))) (by omega)).trans rg
  replace hw := below_setRow hw (show w.heap.size ≤ w.heap.size + 1 by omega) (irow .u8 (bl (ck key)))
  clear hK_
  generalize w3.setRow (w.heap.size + 1) (irow .u8 (bl (ck key))) = w4 at *
  refine wpAnyH_one (k := 9) (fuel := 0) (by kernel_rfl) rfl (by kernel_rfl) (fun K_ hK_ => ?_)
  refine wp_store_row 23 _ _ rfl (w.heap.size + 1 + 1) (irow .u8 (bl (tk key))) rfl rfl 23 _ R2 (infok8 _ (by rw [bl_len, tk_len])) (fit32 _ _ (zr_len 32) (by rw [bl_len, tk_len])) (irow_one _ _) (hK_ _ _ ((setRow_other w4 (w.heap.size + 1 + 1) g _ (by omega)).trans rg) ?_)
  replace R2 := setRow_heap w4 (w.heap.size + 1 + 1) _ (irow .u8 (bl (tk key))) _ _ R2
  replace R1 := (setRow_other w4 (w.heap.size + 1 + 1) (w.heap.size + 1) (irow .u8 (bl (tk key))) (by omega)).trans R1
  replace rg := (setRow_other w4 (w.heap.size + 1 + 1) g (irow .u8 (bl (tk key))) (by omega)).trans rg
  replace hw := below_setRow hw (show w.heap.size ≤ w.heap.size + 1 + 1 by omega) (irow .u8 (bl (tk key)))
  clear hK_
  generalize w4.setRow (w.heap.size + 1 + 1) (irow .u8 (bl (tk key))) = w5 at *
  refine wpAnyH_done (by kernel_rfl) ?_ _
  refine NoPanic.normal ?_
  go_wp2
  exact bodyPost_ret (results_cell2_row Tryd.results12 _ _ (w.heap.size + 1) (w.heap.size + 1 + 1) _ _ _ _ _ _ _ rfl rfl R1 R2 Tryd.underlying23 rfl (infok8 _ (by rw [bl_len, ck_len])) (infok8 _ (by rw [bl_len, tk_len]))) rfl ⟨rfl, hw⟩

end Go.Proofs.YtamieopjigjfiabDoor
