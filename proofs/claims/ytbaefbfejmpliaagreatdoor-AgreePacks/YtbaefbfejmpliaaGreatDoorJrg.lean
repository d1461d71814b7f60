import Derived.Test.YtbaefbfejmpliaaGreatDoorJrf
import Derived.Test.YtbaefbfejmpliaaGreatDoorJry
import Derived.OwnWalk
import Derived.Deep.Cut
import Derived.Deep.RegionHeld3
namespace Go.Proofs.YtbaefbfejmpliaaGreatDoor
set_option maxRecDepth 100000
open Go Go.RowKit Go.Sort
attribute [local go_sem] setCell_drewN alloc_drewN
section
variable {P : Program}
/-- A part of a row, as it is read. -/
theorem run_load_part {o : Oper} {a : Act} {w : World} (ty : TypeId) (x : Operand) (ho : o.op = .load ty x) (g off : Nat) (hx : a.eval x = .pointer (some ⟨g, off, none⟩)) (t : TypeId) (cs : Array Value) (fr : Nat × Nat) (part : Array Value) (d : TypeDesc) (hg : w.heap[g]? = some (.cells cs t fr)) (hp : cs.extract off (off + part.size) = part)
    (hu : P.underlying ty = some d) (hd : d.isRow = true) (hi : (P.info? ty).map (·.size) = some part.size) : (execOp a.eval o).run P w = .ok (.value (.agg part)) w := by
  have hr := World.rangeAt_of_block hg off part.size
  rw [hp] at hr
  have hl := run_loadVar_mid (P := P) w g off ty part.toList d hr hu hd (by simpa using hi)
  unfold execOp
  simp only [ho, hx, Instr.loadAt, Instr.sureAddr, Sem.run_bind, Sem.run_pure, Result.andThen_ok, hl]
end
section
variable {P : Program} {ops : Array Oper} {Q : Exit → Act → World → Prop} {md : Region.Mode} {S : World → Prop}
/-- Either of two operations may come up. -/
theorem wpAnyH_two {j k : Nat} {oj ok : Oper} {fuel : Nat} {listed : Array Bool} {a : Act} {w : World} (hr : Region.ready md ops listed = [j, k]) (hj : ops[j]? = some oj) (hk : ops[k]? = some ok) (wj : Region.wanted oj (yielded ops a.tmps) = true) (wk : Region.wanted ok (yielded ops a.tmps) = true)
    (h1 : ∀ K : Act → World → Prop, (∀ a' w', S w' → wpAnyH P md ops Q S fuel (listed.setIfInBounds j true) a' w' → K a' w') → oj.wp P a w K Q)
    (h2 : ∀ K : Act → World → Prop, (∀ a' w', S w' → wpAnyH P md ops Q S fuel (listed.setIfInBounds k true) a' w' → K a' w') → ok.wp P a w K Q) : wpAnyH P md ops Q S (fuel + 1) listed a w := by
  refine wpAnyH_all hr (by simp) (fun i hi' => ?_)
  obtain rfl | rfl : i = j ∨ i = k := by simpa using hi'
  · unfold wpOp
    simp only [hj, wj, if_true]
    exact .inl (h1 _ (fun a' w' hS hn => ⟨hS, hn⟩))
  · unfold wpOp
    simp only [hk, wk, if_true]
    exact .inl (h2 _ (fun a' w' hS hn => ⟨hS, hn⟩))
end
theorem slice_ko (g o : Nat) (W : World) : (Instr.sliceAt 23 (.pointer (some ⟨g, o, none⟩)) none none none).run Tryz.prog W = .ok (.slice (some ⟨g, o, none⟩) 32 32) W := by kernel_rfl
theorem all_rowB (cs : Array Value) : cs.extract 0 (0 + cs.size) = cs := by simp
/-- The fields of a bundle. -/
def bfs (i s o : List B) (h : Bool) : List Fd := [⟨1, 2, 0, i⟩, ⟨2, 2, 0, s⟩, ⟨3, 0, if h then 1 else 0, []⟩, ⟨4, 2, 0, o⟩]
def bxs (g g1 fl : Nat) : List VR := [⟨0, some ⟨g, 0, none⟩, 32, 32, none, 0, 0⟩, ⟨0, some ⟨g, 32, none⟩, 32, 32, none, 0, 0⟩, ⟨fl, none, 0, 0, none, 0, 0⟩, ⟨0, some ⟨g1, 0, none⟩, 32, 32, none, 0, 0⟩]
theorem bxs_fdk (g g1 : Nat) (i s o : List B) (h : Bool) : fdk bsl (bxs g g1 (if h then 1 else 0)) [i, s, [], o] 4 = bfs i s o h := rfl
theorem bsl_prt {W : World} {g g1 gp fl : Nat} (hfl : fl < 2) (h : Bx W gp #[.int .u64 0, .slice (some ⟨g, 0, none⟩) 32 32, .slice none 0 0, .int .u64 0, .slice (some ⟨g, 32, none⟩) 32 32, .slice none 0 0, .int .u64 (fl : Int), .slice none 0 0, .slice none 0 0, .int .u64 0, .slice (some ⟨g1, 0, none⟩) 32 32, .slice none 0 0]) : Prt W (.slice (some ⟨gp, 0, none⟩) 4 4) (bxs g g1 fl) := by
  have hlt := h.lt
  obtain ⟨T, h⟩ := h
  refine ⟨some ⟨gp, 0, none⟩, 4, rfl, by show 4 ≤ 4; decide, fun i hi => ?_, fun i hi => ⟨gp, 0, rfl, hlt, fun j v hv => ?_⟩⟩
  · have hi4 : i < 4 := hi
    rcases (by omega : i = 0 ∨ i = 1 ∨ i = 2 ∨ i = 3) with rfl | rfl | rfl | rfl
    · exact ⟨by show 0 < _; decide, by show 32 < _; decide⟩
    · exact ⟨by show 0 < _; decide, by show 32 < _; decide⟩
    · exact ⟨by show fl < _; omega, by show 0 < _; decide⟩
    · exact ⟨by show 0 < _; decide, by show 32 < _; decide⟩
  · have hi4 : i < 4 := hi
    rw [cell_of_row _ _ _ _ _ _ h]
    have hj : j < 3 := by have := (List.getElem?_eq_some_iff.1 hv).1; simpa [vrv, vrw] using this
    rcases (by omega : i = 0 ∨ i = 1 ∨ i = 2 ∨ i = 3) with rfl | rfl | rfl | rfl <;> rcases (by omega : j = 0 ∨ j = 1 ∨ j = 2) with rfl | rfl | rfl <;> exact hv
theorem bsl_ck (g g1 fl : Nat) (hfl : fl < 2) : ckF bsl 0 0 (bxs g g1 fl) 1 = none := by
  rcases (by omega : fl = 0 ∨ fl = 1) with rfl | rfl <;> rfl
/-- Bytes in the midst of a row. -/
theorem mid_bys {W : World} {g off : Nat} {cs : Array Value} {t : TypeId} {fr : Nat × Nat} {l : List B} (hg : W.heap[g]? = some (.cells cs t fr)) (hl : l.length = 32) (he : cs.extract off (off + (irow .u8 (bl l)).size) = irow .u8 (bl l)) : BysB W (.slice (some ⟨g, off, none⟩) 32 32) l := by
  refine ⟨⟨some ⟨g, off, none⟩, 32, ?_, ?_, fun j hj => ?_, bl_bnd _⟩, ?_, fun a l c e1 e2 => ?_⟩
  · rw [bl_len, hl]
  · rw [bl_len, hl]; decide
  · refine ⟨g, off, rfl, lt_of_row hg, ?_⟩
    rw [cell_of_row _ _ _ _ _ _ hg]
    have e := congrArg (fun c : Array Value => c[j]?) he
    simp only [irow_size] at e
    rw [Array.getElem?_extract] at e
    have hk : (irow .u8 (bl l))[j]? = some (.int .u8 ((bl l).getD j 0)) := by simp [irow, List.getD_eq_getElem?_getD, List.getElem?_eq_getElem hj]
    rw [hk] at e
    split at e
    · exact e
    · cases e
  · rw [hl]; decide
  · cases e1; cases e2
theorem bsl_bys {W : World} {g g1 fl : Nat} {i s o p : List B} {h : Bool} (li : i.length = 32) (ls : s.length = 32) (lp : p.length = 32) (hfl : fl < 2) (RB : W.heap[g]? = some (.cells (brow (bl i) (bl s) (bl o) h) 48 (0, 0))) (RO : W.heap[g1]? = some (.cells (irow .u8 (bl p)) 23 (0, 0))) : ∀ k, k < bsl.length → BysB W (.slice (gx (bxs g g1 fl) k).da (gx (bxs g g1 fl) k).dl (gx (bxs g g1 fl) k).dc) (gd1 [i, s, [], p] k) ∧ Fok (fdF (gs bsl k) (gx (bxs g g1 fl) k) (gd1 [i, s, [], p] k)) := fun k hk => by
  have hk4 : k < 4 := hk
  rcases (by omega : k = 0 ∨ k = 1 ∨ k = 2 ∨ k = 3) with rfl | rfl | rfl | rfl
  · exact ⟨mid_bys RB li (bn_i _ _ _ _ (by rw [bl_len, li])), by show 0 < _; decide, by show i.length ≤ _; rw [li]; decide, by show (-9223372036854775808 : Int) ≤ 1; decide, by show (1 : Int) ≤ _; decide⟩
  · exact ⟨mid_bys RB ls (bn_s _ _ _ _ (by rw [bl_len, li]) (by rw [bl_len, ls])), by show 0 < _; decide, by show s.length ≤ _; rw [ls]; decide, by show (-9223372036854775808 : Int) ≤ 2; decide, by show (2 : Int) ≤ _; decide⟩
  · exact ⟨bys_nil W, by show fl < _; omega, by show 0 ≤ _; omega, by show (-9223372036854775808 : Int) ≤ 3; decide, by show (3 : Int) ≤ _; decide⟩
  · exact ⟨mid_bys RO lp (all_rowB _), by show 0 < _; decide, by show p.length ≤ _; rw [lp]; decide, by show (-9223372036854775808 : Int) ≤ 4; decide, by show (4 : Int) ≤ _; decide⟩
def z32 : List B := List.replicate 32 0#8
theorem z32_len : z32.length = 32 := rfl
theorem z32_zr : irow .u8 (zr 32) = irow .u8 (bl z32) := by rw [show zr 32 = bl z32 by decide]
/-- The key for once that is told. -/
def onc (h : Bool) (o : List B) : List B := match h with
  | true => o
  | false => z32
set_option maxRecDepth 100000 in
set_option maxHeartbeats 8000000 in
theorem a_Pack (i s o : List B) (h : Bool) (li : i.length = 32) (ls : s.length = 32) (lo : o.length = 32) (w : World) : Calls Tryz.prog 21 #[.agg (brow (bl i) (bl s) (bl o) h)] w fun e w' => ∃ u, e = .returned u ∧ Own w' w.heap.size u (eout (bfs i s (onc h o) h)) ∧ Below w.heap.size w w' := by
  have RB := hp2_0 w (.cells (brow (bl i) (bl s) (bl o) h) 48) (.cells (irow .u8 (zr 32)) 23)
  have RO := hp2_1 w (.cells (brow (bl i) (bl s) (bl o) h) 48) (.cells (irow .u8 (zr 32)) 23)
  have hw : Below w.heap.size w ((w.alloc (.cells (brow (bl i) (bl s) (bl o) h) 48)).alloc (.cells (irow .u8 (zr 32)) 23)) := ((Below.refl _ _).alloc (Nat.le_refl _) _).alloc (by simp) _
  have skA := slice_ko w.heap.size 0
  have skB := slice_ko w.heap.size 32
  have skC := slice_ko (w.heap.size + 1) 0
  go_enter Tryz.func21, Tryz.ntmps21
  go_upto_region 3 with (first | (refine wpList_box rfl 48 _ rfl _ rfl (box_brow _) ?_) | (refine wpList_alloc rfl 23 rfl (irow .u8 (zr 32)) zkey ?_) | fail)
  try simp only [size_alloc1, Act.put, List.setIfInBounds_toArray, List.set_cons_succ, List.set_cons_zero]
  generalize ((w.alloc (.cells (brow (bl i) (bl s) (bl o) h) 48)).alloc (.cells (irow .u8 (zr 32)) 23)) = w0 at *
  have ch : w0.cell? ⟨w.heap.size, 96, none⟩ = some (.bool h) := by rw [cell_of_row _ _ _ _ _ _ RB]; exact bn_h _ _ _ _ (by rw [bl_len, li]) (by rw [bl_len, ls]) (by rw [bl_len, lo])
  cases h with
  | true =>
    go_upto_region 4 with (fail)
    clear ch
    have hbd : Below w0.heap.size w0 w0.drew := below_drN (Below.refl _ _) 1
    replace RB := keep hbd RB
    replace RO := keep hbd RO
    replace hw := Below.after hw hbd
    clear hbd
    refine wp_region_noPanic ?_
    refine wp_region_held (S := fun W : World => W.heap[w.heap.size]? = some (.cells (brow (bl i) (bl s) (bl o) true) 48 (0, 0))) (by kernel_rfl) ?_
    change wpAnyH _ _ _ _ _ _ _ _ (World.drew _)
    generalize w0.drew = x1 at *
    refine wpAnyH_take (i := 0) (v := ?v23) rfl (by kernel_rfl) (by kernel_rfl) (by kernel_rfl) (fun _ _ _ h => h) (Or.inl ⟨by rfl, ?y23⟩) RB ?r23
    case y23 =>
      intro w_ hS_
      go_simp
      try with_reducible rfl
    simp only [Act.put, List.getElem_toArray, List.getElem_cons_zero, List.setIfInBounds_toArray, List.set_cons_succ, List.set_cons_zero]
    refine wpAnyH_take (i := 1) (v := .agg (irow .u8 (bl o))) rfl (by kernel_rfl) (by kernel_rfl) (by kernel_rfl) (fun _ _ _ h => h) (Or.inl ⟨by rfl, ?y24⟩) RB ?r24
    case y24 =>
      intro w_ hS_
      simp only [List.getElem_toArray, List.getElem_cons_succ, List.getElem_cons_zero]
      exact run_load_part 23 _ (by rfl) (w.heap.size) 64 (by rfl) 48 (brow (bl i) (bl s) (bl o) true) (0, 0) (irow .u8 (bl o)) _ (hS_) (bn_o _ _ _ _ (by rw [bl_len, li]) (by rw [bl_len, ls]) (by rw [bl_len, lo])) Tryz.underlying23 rfl (infoKy _ (by rw [bl_len, lo]))
    simp only [Act.put, List.getElem_toArray, List.getElem_cons_succ, List.getElem_cons_zero, List.setIfInBounds_toArray, List.set_cons_succ, List.set_cons_zero]
    refine wpAnyH_take (i := 2) (v := ?v25) rfl (by kernel_rfl) (by kernel_rfl) (by kernel_rfl) (fun _ _ _ h => h) (Or.inl ⟨by rfl, ?y25⟩) RB ?r25
    case y25 =>
      intro w_ hS_
      go_simp
      try with_reducible rfl
    simp only [Act.put, List.getElem_toArray, List.getElem_cons_succ, List.getElem_cons_zero, List.setIfInBounds_toArray, List.set_cons_succ, List.set_cons_zero]
    refine wpAnyH_one (k := 3) (fuel := 0) (by kernel_rfl) rfl (by kernel_rfl) (fun K_ hK => ?_)
    refine wp_store_row 23 _ _ rfl (w.heap.size + 1) (irow .u8 (bl o)) rfl rfl 23 _ RO (infoKy _ (by rw [bl_len, lo])) (by rw [irow_size, irow_size, zr_len, bl_len, lo]) (irow_one _ _) ?_
    replace RB := (setRow_other x1 (w.heap.size + 1) (w.heap.size) (irow .u8 (bl o)) (by omega)).trans RB
    replace RO := setRow_heap x1 (w.heap.size + 1) _ (irow .u8 (bl o)) _ _ RO
    replace hw := below_setRow hw (show w.heap.size ≤ w.heap.size + 1 by omega) (irow .u8 (bl o))
    refine hK _ _ RB ?_
    simp only [Act.put]
    clear hK
    generalize x1.setRow (w.heap.size + 1) (irow .u8 (bl o)) = x2 at *
    refine wpAnyH_done (by kernel_rfl) ?_ _
    refine NoPanic.normal ?_
    obtain ⟨p, hp⟩ : ∃ p, p = o := ⟨_, rfl⟩
    have lp : p.length = 32 := by rw [hp, lo]
    rw [← hp] at RO
    obtain ⟨fl, hfl0⟩ : ∃ fl : Nat, fl = 1 := ⟨_, rfl⟩
    have hfl : fl < 2 := by omega
    have hfin : Hid (eout (fdk bsl (bxs (w.heap.size) (w.heap.size + 1) fl) [i, s, [], p] 4) = eout (bfs i s (onc true o) true)) := hide (by rw [hfl0, hp]; rfl)
    rw [show (Value.int .u64 1) = .int .u64 (fl : Int) by rw [hfl0]; rfl]
    replace hp := hide hp
    replace hfl0 := hide hfl0
    go_upto_region 5 with (fail)
    have hbd : Below x2.heap.size x2 x2.drew := below_drN (Below.refl _ _) 1
    replace RB := keep hbd RB
    replace RO := keep hbd RO
    replace hw := Below.after hw hbd
    clear hbd
    refine wp_region_noPanic ?_
    refine wp_region_held (S := fun W : World => W.heap[w.heap.size]? = some (.cells (brow (bl i) (bl s) (bl o) true) 48 (0, 0)) ∧ W.heap[w.heap.size + 1]? = some (.cells (irow .u8 (bl p)) 23 (0, 0))) (by kernel_rfl) ?_
    change wpAnyH _ _ _ _ _ _ _ _ (World.drew _)
    generalize x2.drew = w1 at *
    refine wpAnyH_take (i := 1) (v := ?v1) rfl (by kernel_rfl) (by kernel_rfl) (by kernel_rfl) (fun _ _ _ h => h) (Or.inl ⟨by rfl, ?y1⟩) (⟨RB, RO⟩) ?r1
    case y1 =>
      intro w_ hS_
      go_simp
      try with_reducible rfl
    simp only [Act.put, List.getElem_toArray, List.getElem_cons_succ, List.getElem_cons_zero, List.setIfInBounds_toArray, List.set_cons_succ, List.set_cons_zero]
    refine wpAnyH_take (i := 2) (v := ?v2) rfl (by kernel_rfl) (by kernel_rfl) (by kernel_rfl) (fun _ _ _ h => h) (Or.inl ⟨by rfl, ?y2⟩) (⟨RB, RO⟩) ?r2
    case y2 =>
      intro w_ hS_
      go_simp
      try with_reducible rfl
    simp only [Act.put, List.getElem_toArray, List.getElem_cons_succ, List.getElem_cons_zero, List.setIfInBounds_toArray, List.set_cons_succ, List.set_cons_zero]
    refine wpAnyH_take (i := 3) (v := .agg #[.int .u64 0, .slice (some ⟨w.heap.size, 0, none⟩) 32 32, .slice none 0 0]) rfl (by kernel_rfl) (by kernel_rfl) (by kernel_rfl) (fun _ _ _ h => h) (Or.inl ⟨by rfl, ?y3⟩) (⟨RB, RO⟩) ?r3
    case y3 =>
      intro w_ hS_
      go_simp
      try with_reducible rfl
    simp only [Act.put, List.getElem_toArray, List.getElem_cons_succ, List.getElem_cons_zero, List.setIfInBounds_toArray, List.set_cons_succ, List.set_cons_zero]
    refine wpAnyH_take (i := 4) (v := ?v4) rfl (by kernel_rfl) (by kernel_rfl) (by kernel_rfl) (fun _ _ _ h => h) (Or.inl ⟨by rfl, ?y4⟩) (⟨RB, RO⟩) ?r4
    case y4 =>
      intro w_ hS_
      go_simp
      try with_reducible rfl
    simp only [Act.put, List.getElem_toArray, List.getElem_cons_succ, List.getElem_cons_zero, List.setIfInBounds_toArray, List.set_cons_succ, List.set_cons_zero]
    refine wpAnyH_take (i := 5) (v := ?v5) rfl (by kernel_rfl) (by kernel_rfl) (by kernel_rfl) (fun _ _ _ h => h) (Or.inl ⟨by rfl, ?y5⟩) (⟨RB, RO⟩) ?r5
    case y5 =>
      intro w_ hS_
      go_simp
      try with_reducible rfl
    simp only [Act.put, List.getElem_toArray, List.getElem_cons_succ, List.getElem_cons_zero, List.setIfInBounds_toArray, List.set_cons_succ, List.set_cons_zero]
    refine wpAnyH_take (i := 6) (v := .agg #[.int .u64 0, .slice (some ⟨w.heap.size, 32, none⟩) 32 32, .slice none 0 0]) rfl (by kernel_rfl) (by kernel_rfl) (by kernel_rfl) (fun _ _ _ h => h) (Or.inl ⟨by rfl, ?y6⟩) (⟨RB, RO⟩) ?r6
    case y6 =>
      intro w_ hS_
      go_simp
      try with_reducible rfl
    simp only [Act.put, List.getElem_toArray, List.getElem_cons_succ, List.getElem_cons_zero, List.setIfInBounds_toArray, List.set_cons_succ, List.set_cons_zero]
    refine wpAnyH_take (i := 7) (v := ?v7) rfl (by kernel_rfl) (by kernel_rfl) (by kernel_rfl) (fun _ _ _ h => h) (Or.inl ⟨by rfl, ?y7⟩) (⟨RB, RO⟩) ?r7
    case y7 =>
      intro w_ hS_
      go_simp
      try with_reducible rfl
    simp only [Act.put, List.getElem_toArray, List.getElem_cons_succ, List.getElem_cons_zero, List.setIfInBounds_toArray, List.set_cons_succ, List.set_cons_zero]
    refine wpAnyH_take (i := 8) (v := .agg #[.int .u64 (fl : Int), .slice none 0 0, .slice none 0 0]) rfl (by kernel_rfl) (by kernel_rfl) (by kernel_rfl) (fun _ _ _ h => h) (Or.inl ⟨by rfl, ?y8⟩) (⟨RB, RO⟩) ?r8
    case y8 =>
      intro w_ hS_
      go_simp
      try with_reducible rfl
    simp only [Act.put, List.getElem_toArray, List.getElem_cons_succ, List.getElem_cons_zero, List.setIfInBounds_toArray, List.set_cons_succ, List.set_cons_zero]
    refine wpAnyH_take (i := 9) (v := ?v9) rfl (by kernel_rfl) (by kernel_rfl) (by kernel_rfl) (fun _ _ _ h => h) (Or.inl ⟨by rfl, ?y9⟩) (⟨RB, RO⟩) ?r9
    case y9 =>
      intro w_ hS_
      go_simp
      try with_reducible rfl
    simp only [Act.put, List.getElem_toArray, List.getElem_cons_succ, List.getElem_cons_zero, List.setIfInBounds_toArray, List.set_cons_succ, List.set_cons_zero]
    refine wpAnyH_take (i := 10) (v := .agg #[.int .u64 0, .slice (some ⟨w.heap.size + 1, 0, none⟩) 32 32, .slice none 0 0]) rfl (by kernel_rfl) (by kernel_rfl) (by kernel_rfl) (fun _ _ _ h => h) (Or.inl ⟨by rfl, ?y10⟩) (⟨RB, RO⟩) ?r10
    case y10 =>
      intro w_ hS_
      go_simp
      try with_reducible rfl
    simp only [Act.put, List.getElem_toArray, List.getElem_cons_succ, List.getElem_cons_zero, List.setIfInBounds_toArray, List.set_cons_succ, List.set_cons_zero]
    refine wpAnyH_two (j := 0) (k := 11) (fuel := 8) (by kernel_rfl) rfl rfl (by kernel_rfl) (by kernel_rfl) (fun K_ hK_ => ?_) (fun K_ hK_ => ?_)
    · refine wp_call_ex (f := 39) (by kernel_rfl) (a_codec w1) (fun v_ q1 hX_ => ?_)
      obtain ⟨⟨q, rfl, hq1, hC⟩, hb_⟩ := hX_
      replace RB := keep hb_ RB
      replace RO := keep hb_ RO
      replace hw := Below.after hw hb_
      clear hb_
      refine hK_ _ _ (⟨RB, RO⟩) ?_
      simp only [Act.put, List.getElem_toArray, List.getElem_cons_zero, List.setIfInBounds_toArray, List.set_cons_succ, List.set_cons_zero]
      clear hK_
      refine wpAnyH_one (k := 11) (fuel := 7) (by kernel_rfl) rfl (by kernel_rfl) (fun K_ hK_ => ?_)
      refine wp_val_op (.slice (some ⟨q1.heap.size, 0, none⟩) 4 4) (w' := q1.alloc (.cells #[.int .u64 0, .slice (some ⟨w.heap.size, 0, none⟩) 32 32, .slice none 0 0, .int .u64 0, .slice (some ⟨w.heap.size, 32, none⟩) 32 32, .slice none 0 0, .int .u64 (fl : Int), .slice none 0 0, .slice none 0 0, .int .u64 0, .slice (some ⟨w.heap.size + 1, 0, none⟩) 32 32, .slice none 0 0] 62)) (by kernel_rfl) ?_
      have hPs : Bx (q1.alloc (.cells #[.int .u64 0, .slice (some ⟨w.heap.size, 0, none⟩) 32 32, .slice none 0 0, .int .u64 0, .slice (some ⟨w.heap.size, 32, none⟩) 32 32, .slice none 0 0, .int .u64 (fl : Int), .slice none 0 0, .slice none 0 0, .int .u64 0, .slice (some ⟨w.heap.size + 1, 0, none⟩) 32 32, .slice none 0 0] 62)) q1.heap.size #[.int .u64 0, .slice (some ⟨w.heap.size, 0, none⟩) 32 32, .slice none 0 0, .int .u64 0, .slice (some ⟨w.heap.size, 32, none⟩) 32 32, .slice none 0 0, .int .u64 (fl : Int), .slice none 0 0, .slice none 0 0, .int .u64 0, .slice (some ⟨w.heap.size + 1, 0, none⟩) 32 32, .slice none 0 0] := ⟨_, hp1_0 q1 _⟩
      have hb_ : Below q1.heap.size q1 (q1.alloc (.cells #[.int .u64 0, .slice (some ⟨w.heap.size, 0, none⟩) 32 32, .slice none 0 0, .int .u64 0, .slice (some ⟨w.heap.size, 32, none⟩) 32 32, .slice none 0 0, .int .u64 (fl : Int), .slice none 0 0, .slice none 0 0, .int .u64 0, .slice (some ⟨w.heap.size + 1, 0, none⟩) 32 32, .slice none 0 0] 62)) := (Below.refl _ _).alloc (Nat.le_refl _) _
      replace RB := keep hb_ RB
      replace RO := keep hb_ RO
      replace hC := hC.keep hb_
      replace hw := Below.after hw hb_
      clear hb_
      refine hK_ _ _ (⟨RB, RO⟩) ?_
      simp only [Act.put, List.getElem_toArray, List.getElem_cons_succ, List.getElem_cons_zero, List.setIfInBounds_toArray, List.set_cons_succ, List.set_cons_zero]
      clear hK_
      generalize q1.alloc (.cells #[.int .u64 0, .slice (some ⟨w.heap.size, 0, none⟩) 32 32, .slice none 0 0, .int .u64 0, .slice (some ⟨w.heap.size, 32, none⟩) 32 32, .slice none 0 0, .int .u64 (fl : Int), .slice none 0 0, .slice none 0 0, .int .u64 0, .slice (some ⟨w.heap.size + 1, 0, none⟩) 32 32, .slice none 0 0] 62) = q2 at *
      generalize q1.heap.size = gp at *
      refine wpAnyH_take (i := 12) (v := .agg #[.int .u64 0, .slice none 0 0, .slice (some ⟨gp, 0, none⟩) 4 4]) rfl (by kernel_rfl) (by kernel_rfl) (by kernel_rfl) (fun _ _ _ h => h) (Or.inl ⟨by rfl, ?y11⟩) (⟨RB, RO⟩) ?r11
      case y11 =>
        intro w_ hS_
        go_simp
        try with_reducible rfl
      simp only [Act.put, List.getElem_toArray, List.getElem_cons_succ, List.getElem_cons_zero, List.setIfInBounds_toArray, List.set_cons_succ, List.set_cons_zero]
      refine wpAnyH_one (k := 13) (fuel := 5) (by kernel_rfl) rfl (by kernel_rfl) (fun K_ hK_ => ?_)
      have cE := a_EncodeF bsl_flat 0 (by decide) none 0 0 (.slice (some ⟨gp, 0, none⟩) 4 4) (bxs (w.heap.size) (w.heap.size + 1) fl) [i, s, [], p] q2 hC (bsl_prt hfl hPs) (fun _ => bsl_bys li ls lp hfl RB RO)
      rw [bsl_ck _ _ _ hfl] at cE
      have cE2 := cE.mono (fun e w' h => (by obtain ⟨⟨u, e1, e2⟩, e3⟩ := h; exact ⟨_, e1, u, rfl, e2, e3⟩ : ∃ v, e = .returned v ∧ ∃ u, v = .tuple #[u, .nilIface] ∧ Own w' q2.heap.size u (eout (fdk bsl (bxs (w.heap.size) (w.heap.size + 1) fl) [i, s, [], p] 4)) ∧ Below q2.heap.size q2 w'))
      refine wp_call_ex (R := fun v w' => ∃ u, v = .tuple #[u, .nilIface] ∧ Own w' q2.heap.size u (eout (fdk bsl (bxs (w.heap.size) (w.heap.size + 1) fl) [i, s, [], p] 4)) ∧ Below q2.heap.size q2 w') (by kernel_rfl) cE2 (fun v_ q3 hX_ => ?_)
      obtain ⟨u, rfl, hU, hb_⟩ := hX_
      have hU2 := own_down hU hw.size
      clear cE cE2 hC hPs
      replace RB := keep hb_ RB
      replace RO := keep hb_ RO
      replace hw := Below.after hw hb_
      clear hb_ hU
      obtain ⟨L, hL⟩ : ∃ L, (eout (fdk bsl (bxs (w.heap.size) (w.heap.size + 1) fl) [i, s, [], p] 4)) = L := ⟨_, rfl⟩
      rw [hL] at hU2
      replace hL := hide hL
      obtain ⟨ua, uc, rfl⟩ := slen_own hU2
      refine hK_ _ _ (⟨RB, RO⟩) ?_
      simp only [Act.put, List.getElem_toArray, List.getElem_cons_succ, List.getElem_cons_zero, List.setIfInBounds_toArray, List.set_cons_succ, List.set_cons_zero]
      clear hK_
      refine wpAnyH_take (i := 14) (v := ?v12) rfl (by kernel_rfl) (by kernel_rfl) (by kernel_rfl) (fun _ _ _ h => h) (Or.inl ⟨by rfl, ?y12⟩) (⟨RB, RO⟩) ?r12
      case y12 =>
        intro w_ hS_
        go_simp
        try with_reducible rfl
      simp only [Act.put, List.getElem_toArray, List.getElem_cons_succ, List.getElem_cons_zero, List.setIfInBounds_toArray, List.set_cons_succ, List.set_cons_zero]
      refine wpAnyH_take (i := 15) (v := ?v13) rfl (by kernel_rfl) (by kernel_rfl) (by kernel_rfl) (fun _ _ _ h => h) (Or.inl ⟨by rfl, ?y13⟩) (⟨RB, RO⟩) ?r13
      case y13 =>
        intro w_ hS_
        go_simp
        try with_reducible rfl
      simp only [Act.put, List.getElem_toArray, List.getElem_cons_succ, List.getElem_cons_zero, List.setIfInBounds_toArray, List.set_cons_succ, List.set_cons_zero]
      refine wpAnyH_take (i := 16) (v := ?v14) rfl (by kernel_rfl) (by kernel_rfl) (by kernel_rfl) (fun _ _ _ h => h) (Or.inl ⟨by rfl, ?y14⟩) (⟨RB, RO⟩) ?r14
      case y14 =>
        intro w_ hS_
        go_simp
        try with_reducible rfl
      simp only [Act.put, List.getElem_toArray, List.getElem_cons_succ, List.getElem_cons_zero, List.setIfInBounds_toArray, List.set_cons_succ, List.set_cons_zero]
      refine wpAnyH_take (i := 17) (v := ?v15) rfl (by kernel_rfl) (by kernel_rfl) (by kernel_rfl) (fun _ _ _ h => h) (Or.inl ⟨by rfl, ?y15⟩) (⟨RB, RO⟩) ?r15
      case y15 =>
        intro w_ hS_
        go_simp
        try with_reducible rfl
      simp only [Act.put, List.getElem_toArray, List.getElem_cons_succ, List.getElem_cons_zero, List.setIfInBounds_toArray, List.set_cons_succ, List.set_cons_zero]
      refine wpAnyH_take (i := 18) (v := ?v16) rfl (by kernel_rfl) (by kernel_rfl) (by kernel_rfl) (fun _ _ _ h => h) (Or.inl ⟨by rfl, ?y16⟩) (⟨RB, RO⟩) ?r16
      case y16 =>
        intro w_ hS_
        go_simp
        try with_reducible rfl
      simp only [Act.put, List.getElem_toArray, List.getElem_cons_succ, List.getElem_cons_zero, List.setIfInBounds_toArray, List.set_cons_succ, List.set_cons_zero]
      refine wpAnyH_done (by kernel_rfl) ?_ _
      refine NoPanic.normal ?_
      have A1 := hide hU2
      have A2 := hide hw
      clear hU2 hw RB RO
      go_wp2_with (fail)
      go_ret
      exact ⟨_, rfl, by rw [← hfin.out, hL.out]; exact A1.out, A2.out⟩
    · refine wp_val_op (.slice (some ⟨w1.heap.size, 0, none⟩) 4 4) (w' := w1.alloc (.cells #[.int .u64 0, .slice (some ⟨w.heap.size, 0, none⟩) 32 32, .slice none 0 0, .int .u64 0, .slice (some ⟨w.heap.size, 32, none⟩) 32 32, .slice none 0 0, .int .u64 (fl : Int), .slice none 0 0, .slice none 0 0, .int .u64 0, .slice (some ⟨w.heap.size + 1, 0, none⟩) 32 32, .slice none 0 0] 62)) (by kernel_rfl) ?_
      have hPs : Bx (w1.alloc (.cells #[.int .u64 0, .slice (some ⟨w.heap.size, 0, none⟩) 32 32, .slice none 0 0, .int .u64 0, .slice (some ⟨w.heap.size, 32, none⟩) 32 32, .slice none 0 0, .int .u64 (fl : Int), .slice none 0 0, .slice none 0 0, .int .u64 0, .slice (some ⟨w.heap.size + 1, 0, none⟩) 32 32, .slice none 0 0] 62)) w1.heap.size #[.int .u64 0, .slice (some ⟨w.heap.size, 0, none⟩) 32 32, .slice none 0 0, .int .u64 0, .slice (some ⟨w.heap.size, 32, none⟩) 32 32, .slice none 0 0, .int .u64 (fl : Int), .slice none 0 0, .slice none 0 0, .int .u64 0, .slice (some ⟨w.heap.size + 1, 0, none⟩) 32 32, .slice none 0 0] := ⟨_, hp1_0 w1 _⟩
      have hb_ : Below w1.heap.size w1 (w1.alloc (.cells #[.int .u64 0, .slice (some ⟨w.heap.size, 0, none⟩) 32 32, .slice none 0 0, .int .u64 0, .slice (some ⟨w.heap.size, 32, none⟩) 32 32, .slice none 0 0, .int .u64 (fl : Int), .slice none 0 0, .slice none 0 0, .int .u64 0, .slice (some ⟨w.heap.size + 1, 0, none⟩) 32 32, .slice none 0 0] 62)) := (Below.refl _ _).alloc (Nat.le_refl _) _
      replace RB := keep hb_ RB
      replace RO := keep hb_ RO
      replace hw := Below.after hw hb_
      clear hb_
      refine hK_ _ _ (⟨RB, RO⟩) ?_
      simp only [Act.put, List.getElem_toArray, List.getElem_cons_succ, List.getElem_cons_zero, List.setIfInBounds_toArray, List.set_cons_succ, List.set_cons_zero]
      clear hK_
      generalize w1.alloc (.cells #[.int .u64 0, .slice (some ⟨w.heap.size, 0, none⟩) 32 32, .slice none 0 0, .int .u64 0, .slice (some ⟨w.heap.size, 32, none⟩) 32 32, .slice none 0 0, .int .u64 (fl : Int), .slice none 0 0, .slice none 0 0, .int .u64 0, .slice (some ⟨w.heap.size + 1, 0, none⟩) 32 32, .slice none 0 0] 62) = q4 at *
      generalize w1.heap.size = gp at *
      refine wpAnyH_take (i := 12) (v := .agg #[.int .u64 0, .slice none 0 0, .slice (some ⟨gp, 0, none⟩) 4 4]) rfl (by kernel_rfl) (by kernel_rfl) (by kernel_rfl) (fun _ _ _ h => h) (Or.inl ⟨by rfl, ?y17⟩) (⟨RB, RO⟩) ?r17
      case y17 =>
        intro w_ hS_
        go_simp
        try with_reducible rfl
      simp only [Act.put, List.getElem_toArray, List.getElem_cons_succ, List.getElem_cons_zero, List.setIfInBounds_toArray, List.set_cons_succ, List.set_cons_zero]
      refine wpAnyH_one (k := 0) (fuel := 6) (by kernel_rfl) rfl (by kernel_rfl) (fun K_ hK_ => ?_)
      refine wp_call_ex (f := 39) (by kernel_rfl) (a_codec q4) (fun v_ q5 hX_ => ?_)
      obtain ⟨⟨q, rfl, hq1, hC⟩, hb_⟩ := hX_
      replace RB := keep hb_ RB
      replace RO := keep hb_ RO
      replace hPs := hPs.keep hb_
      replace hw := Below.after hw hb_
      clear hb_
      refine hK_ _ _ (⟨RB, RO⟩) ?_
      simp only [Act.put, List.getElem_toArray, List.getElem_cons_zero, List.setIfInBounds_toArray, List.set_cons_succ, List.set_cons_zero]
      clear hK_
      refine wpAnyH_one (k := 13) (fuel := 5) (by kernel_rfl) rfl (by kernel_rfl) (fun K_ hK_ => ?_)
      have cE := a_EncodeF bsl_flat 0 (by decide) none 0 0 (.slice (some ⟨gp, 0, none⟩) 4 4) (bxs (w.heap.size) (w.heap.size + 1) fl) [i, s, [], p] q5 hC (bsl_prt hfl hPs) (fun _ => bsl_bys li ls lp hfl RB RO)
      rw [bsl_ck _ _ _ hfl] at cE
      have cE2 := cE.mono (fun e w' h => (by obtain ⟨⟨u, e1, e2⟩, e3⟩ := h; exact ⟨_, e1, u, rfl, e2, e3⟩ : ∃ v, e = .returned v ∧ ∃ u, v = .tuple #[u, .nilIface] ∧ Own w' q5.heap.size u (eout (fdk bsl (bxs (w.heap.size) (w.heap.size + 1) fl) [i, s, [], p] 4)) ∧ Below q5.heap.size q5 w'))
      refine wp_call_ex (R := fun v w' => ∃ u, v = .tuple #[u, .nilIface] ∧ Own w' q5.heap.size u (eout (fdk bsl (bxs (w.heap.size) (w.heap.size + 1) fl) [i, s, [], p] 4)) ∧ Below q5.heap.size q5 w') (by kernel_rfl) cE2 (fun v_ q6 hX_ => ?_)
      obtain ⟨u, rfl, hU, hb_⟩ := hX_
      have hU2 := own_down hU hw.size
      clear cE cE2 hC hPs
      replace RB := keep hb_ RB
      replace RO := keep hb_ RO
      replace hw := Below.after hw hb_
      clear hb_ hU
      obtain ⟨L, hL⟩ : ∃ L, (eout (fdk bsl (bxs (w.heap.size) (w.heap.size + 1) fl) [i, s, [], p] 4)) = L := ⟨_, rfl⟩
      rw [hL] at hU2
      replace hL := hide hL
      obtain ⟨ua, uc, rfl⟩ := slen_own hU2
      refine hK_ _ _ (⟨RB, RO⟩) ?_
      simp only [Act.put, List.getElem_toArray, List.getElem_cons_succ, List.getElem_cons_zero, List.setIfInBounds_toArray, List.set_cons_succ, List.set_cons_zero]
      clear hK_
      refine wpAnyH_take (i := 14) (v := ?v18) rfl (by kernel_rfl) (by kernel_rfl) (by kernel_rfl) (fun _ _ _ h => h) (Or.inl ⟨by rfl, ?y18⟩) (⟨RB, RO⟩) ?r18
      case y18 =>
        intro w_ hS_
        go_simp
        try with_reducible rfl
      simp only [Act.put, List.getElem_toArray, List.getElem_cons_succ, List.getElem_cons_zero, List.setIfInBounds_toArray, List.set_cons_succ, List.set_cons_zero]
      refine wpAnyH_take (i := 15) (v := ?v19) rfl (by kernel_rfl) (by kernel_rfl) (by kernel_rfl) (fun _ _ _ h => h) (Or.inl ⟨by rfl, ?y19⟩) (⟨RB, RO⟩) ?r19
      case y19 =>
        intro w_ hS_
        go_simp
        try with_reducible rfl
      simp only [Act.put, List.getElem_toArray, List.getElem_cons_succ, List.getElem_cons_zero, List.setIfInBounds_toArray, List.set_cons_succ, List.set_cons_zero]
      refine wpAnyH_take (i := 16) (v := ?v20) rfl (by kernel_rfl) (by kernel_rfl) (by kernel_rfl) (fun _ _ _ h => h) (Or.inl ⟨by rfl, ?y20⟩) (⟨RB, RO⟩) ?r20
      case y20 =>
        intro w_ hS_
        go_simp
        try with_reducible rfl
      simp only [Act.put, List.getElem_toArray, List.getElem_cons_succ, List.getElem_cons_zero, List.setIfInBounds_toArray, List.set_cons_succ, List.set_cons_zero]
      refine wpAnyH_take (i := 17) (v := ?v21) rfl (by kernel_rfl) (by kernel_rfl) (by kernel_rfl) (fun _ _ _ h => h) (Or.inl ⟨by rfl, ?y21⟩) (⟨RB, RO⟩) ?r21
      case y21 =>
        intro w_ hS_
        go_simp
        try with_reducible rfl
      simp only [Act.put, List.getElem_toArray, List.getElem_cons_succ, List.getElem_cons_zero, List.setIfInBounds_toArray, List.set_cons_succ, List.set_cons_zero]
      refine wpAnyH_take (i := 18) (v := ?v22) rfl (by kernel_rfl) (by kernel_rfl) (by kernel_rfl) (fun _ _ _ h => h) (Or.inl ⟨by rfl, ?y22⟩) (⟨RB, RO⟩) ?r22
      case y22 =>
        intro w_ hS_
        go_simp
        try with_reducible rfl
      simp only [Act.put, List.getElem_toArray, List.getElem_cons_succ, List.getElem_cons_zero, List.setIfInBounds_toArray, List.set_cons_succ, List.set_cons_zero]
      refine wpAnyH_done (by kernel_rfl) ?_ _
      refine NoPanic.normal ?_
      have A1 := hide hU2
      have A2 := hide hw
      clear hU2 hw RB RO
      go_wp2_with (fail)
      go_ret
      exact ⟨_, rfl, by rw [← hfin.out, hL.out]; exact A1.out, A2.out⟩
  | false =>
    go_upto_region 5 with (fail)
    clear ch
    rw [z32_zr] at RO
    obtain ⟨p, hp⟩ : ∃ p, p = z32 := ⟨_, rfl⟩
    have lp : p.length = 32 := by rw [hp]; rfl
    rw [← hp] at RO
    obtain ⟨fl, hfl0⟩ : ∃ fl : Nat, fl = 0 := ⟨_, rfl⟩
    have hfl : fl < 2 := by omega
    have hfin : Hid (eout (fdk bsl (bxs (w.heap.size) (w.heap.size + 1) fl) [i, s, [], p] 4) = eout (bfs i s (onc false o) false)) := hide (by rw [hfl0, hp]; rfl)
    rw [show (Value.int .u64 0) = .int .u64 (fl : Int) by rw [hfl0]; rfl]
    replace hp := hide hp
    replace hfl0 := hide hfl0
    have hbd : Below w0.heap.size w0 w0.drew := below_drN (Below.refl _ _) 1
    replace RB := keep hbd RB
    replace RO := keep hbd RO
    replace hw := Below.after hw hbd
    clear hbd
    refine wp_region_noPanic ?_
    refine wp_region_held (S := fun W : World => W.heap[w.heap.size]? = some (.cells (brow (bl i) (bl s) (bl o) false) 48 (0, 0)) ∧ W.heap[w.heap.size + 1]? = some (.cells (irow .u8 (bl p)) 23 (0, 0))) (by kernel_rfl) ?_
    change wpAnyH _ _ _ _ _ _ _ _ (World.drew _)
    generalize w0.drew = w1 at *
    refine wpAnyH_take (i := 1) (v := ?vz1) rfl (by kernel_rfl) (by kernel_rfl) (by kernel_rfl) (fun _ _ _ h => h) (Or.inl ⟨by rfl, ?yz1⟩) (⟨RB, RO⟩) ?rz1
    case yz1 =>
      intro w_ hS_
      go_simp
      try with_reducible rfl
    simp only [Act.put, List.getElem_toArray, List.getElem_cons_succ, List.getElem_cons_zero, List.setIfInBounds_toArray, List.set_cons_succ, List.set_cons_zero]
    refine wpAnyH_take (i := 2) (v := ?vz2) rfl (by kernel_rfl) (by kernel_rfl) (by kernel_rfl) (fun _ _ _ h => h) (Or.inl ⟨by rfl, ?yz2⟩) (⟨RB, RO⟩) ?rz2
    case yz2 =>
      intro w_ hS_
      go_simp
      try with_reducible rfl
    simp only [Act.put, List.getElem_toArray, List.getElem_cons_succ, List.getElem_cons_zero, List.setIfInBounds_toArray, List.set_cons_succ, List.set_cons_zero]
    refine wpAnyH_take (i := 3) (v := .agg #[.int .u64 0, .slice (some ⟨w.heap.size, 0, none⟩) 32 32, .slice none 0 0]) rfl (by kernel_rfl) (by kernel_rfl) (by kernel_rfl) (fun _ _ _ h => h) (Or.inl ⟨by rfl, ?yz3⟩) (⟨RB, RO⟩) ?rz3
    case yz3 =>
      intro w_ hS_
      go_simp
      try with_reducible rfl
    simp only [Act.put, List.getElem_toArray, List.getElem_cons_succ, List.getElem_cons_zero, List.setIfInBounds_toArray, List.set_cons_succ, List.set_cons_zero]
    refine wpAnyH_take (i := 4) (v := ?vz4) rfl (by kernel_rfl) (by kernel_rfl) (by kernel_rfl) (fun _ _ _ h => h) (Or.inl ⟨by rfl, ?yz4⟩) (⟨RB, RO⟩) ?rz4
    case yz4 =>
      intro w_ hS_
      go_simp
      try with_reducible rfl
    simp only [Act.put, List.getElem_toArray, List.getElem_cons_succ, List.getElem_cons_zero, List.setIfInBounds_toArray, List.set_cons_succ, List.set_cons_zero]
    refine wpAnyH_take (i := 5) (v := ?vz5) rfl (by kernel_rfl) (by kernel_rfl) (by kernel_rfl) (fun _ _ _ h => h) (Or.inl ⟨by rfl, ?yz5⟩) (⟨RB, RO⟩) ?rz5
    case yz5 =>
      intro w_ hS_
      go_simp
      try with_reducible rfl
    simp only [Act.put, List.getElem_toArray, List.getElem_cons_succ, List.getElem_cons_zero, List.setIfInBounds_toArray, List.set_cons_succ, List.set_cons_zero]
    refine wpAnyH_take (i := 6) (v := .agg #[.int .u64 0, .slice (some ⟨w.heap.size, 32, none⟩) 32 32, .slice none 0 0]) rfl (by kernel_rfl) (by kernel_rfl) (by kernel_rfl) (fun _ _ _ h => h) (Or.inl ⟨by rfl, ?yz6⟩) (⟨RB, RO⟩) ?rz6
    case yz6 =>
      intro w_ hS_
      go_simp
      try with_reducible rfl
    simp only [Act.put, List.getElem_toArray, List.getElem_cons_succ, List.getElem_cons_zero, List.setIfInBounds_toArray, List.set_cons_succ, List.set_cons_zero]
    refine wpAnyH_take (i := 7) (v := ?vz7) rfl (by kernel_rfl) (by kernel_rfl) (by kernel_rfl) (fun _ _ _ h => h) (Or.inl ⟨by rfl, ?yz7⟩) (⟨RB, RO⟩) ?rz7
    case yz7 =>
      intro w_ hS_
      go_simp
      try with_reducible rfl
    simp only [Act.put, List.getElem_toArray, List.getElem_cons_succ, List.getElem_cons_zero, List.setIfInBounds_toArray, List.set_cons_succ, List.set_cons_zero]
    refine wpAnyH_take (i := 8) (v := .agg #[.int .u64 (fl : Int), .slice none 0 0, .slice none 0 0]) rfl (by kernel_rfl) (by kernel_rfl) (by kernel_rfl) (fun _ _ _ h => h) (Or.inl ⟨by rfl, ?yz8⟩) (⟨RB, RO⟩) ?rz8
    case yz8 =>
      intro w_ hS_
      go_simp
      try with_reducible rfl
    simp only [Act.put, List.getElem_toArray, List.getElem_cons_succ, List.getElem_cons_zero, List.setIfInBounds_toArray, List.set_cons_succ, List.set_cons_zero]
    refine wpAnyH_take (i := 9) (v := ?vz9) rfl (by kernel_rfl) (by kernel_rfl) (by kernel_rfl) (fun _ _ _ h => h) (Or.inl ⟨by rfl, ?yz9⟩) (⟨RB, RO⟩) ?rz9
    case yz9 =>
      intro w_ hS_
      go_simp
      try with_reducible rfl
    simp only [Act.put, List.getElem_toArray, List.getElem_cons_succ, List.getElem_cons_zero, List.setIfInBounds_toArray, List.set_cons_succ, List.set_cons_zero]
    refine wpAnyH_take (i := 10) (v := .agg #[.int .u64 0, .slice (some ⟨w.heap.size + 1, 0, none⟩) 32 32, .slice none 0 0]) rfl (by kernel_rfl) (by kernel_rfl) (by kernel_rfl) (fun _ _ _ h => h) (Or.inl ⟨by rfl, ?yz10⟩) (⟨RB, RO⟩) ?rz10
    case yz10 =>
      intro w_ hS_
      go_simp
      try with_reducible rfl
    simp only [Act.put, List.getElem_toArray, List.getElem_cons_succ, List.getElem_cons_zero, List.setIfInBounds_toArray, List.set_cons_succ, List.set_cons_zero]
    refine wpAnyH_two (j := 0) (k := 11) (fuel := 8) (by kernel_rfl) rfl rfl (by kernel_rfl) (by kernel_rfl) (fun K_ hK_ => ?_) (fun K_ hK_ => ?_)
    · refine wp_call_ex (f := 39) (by kernel_rfl) (a_codec w1) (fun v_ q1 hX_ => ?_)
      obtain ⟨⟨q, rfl, hq1, hC⟩, hb_⟩ := hX_
      replace RB := keep hb_ RB
      replace RO := keep hb_ RO
      replace hw := Below.after hw hb_
      clear hb_
      refine hK_ _ _ (⟨RB, RO⟩) ?_
      simp only [Act.put, List.getElem_toArray, List.getElem_cons_zero, List.setIfInBounds_toArray, List.set_cons_succ, List.set_cons_zero]
      clear hK_
      refine wpAnyH_one (k := 11) (fuel := 7) (by kernel_rfl) rfl (by kernel_rfl) (fun K_ hK_ => ?_)
      refine wp_val_op (.slice (some ⟨q1.heap.size, 0, none⟩) 4 4) (w' := q1.alloc (.cells #[.int .u64 0, .slice (some ⟨w.heap.size, 0, none⟩) 32 32, .slice none 0 0, .int .u64 0, .slice (some ⟨w.heap.size, 32, none⟩) 32 32, .slice none 0 0, .int .u64 (fl : Int), .slice none 0 0, .slice none 0 0, .int .u64 0, .slice (some ⟨w.heap.size + 1, 0, none⟩) 32 32, .slice none 0 0] 62)) (by kernel_rfl) ?_
      have hPs : Bx (q1.alloc (.cells #[.int .u64 0, .slice (some ⟨w.heap.size, 0, none⟩) 32 32, .slice none 0 0, .int .u64 0, .slice (some ⟨w.heap.size, 32, none⟩) 32 32, .slice none 0 0, .int .u64 (fl : Int), .slice none 0 0, .slice none 0 0, .int .u64 0, .slice (some ⟨w.heap.size + 1, 0, none⟩) 32 32, .slice none 0 0] 62)) q1.heap.size #[.int .u64 0, .slice (some ⟨w.heap.size, 0, none⟩) 32 32, .slice none 0 0, .int .u64 0, .slice (some ⟨w.heap.size, 32, none⟩) 32 32, .slice none 0 0, .int .u64 (fl : Int), .slice none 0 0, .slice none 0 0, .int .u64 0, .slice (some ⟨w.heap.size + 1, 0, none⟩) 32 32, .slice none 0 0] := ⟨_, hp1_0 q1 _⟩
      have hb_ : Below q1.heap.size q1 (q1.alloc (.cells #[.int .u64 0, .slice (some ⟨w.heap.size, 0, none⟩) 32 32, .slice none 0 0, .int .u64 0, .slice (some ⟨w.heap.size, 32, none⟩) 32 32, .slice none 0 0, .int .u64 (fl : Int), .slice none 0 0, .slice none 0 0, .int .u64 0, .slice (some ⟨w.heap.size + 1, 0, none⟩) 32 32, .slice none 0 0] 62)) := (Below.refl _ _).alloc (Nat.le_refl _) _
      replace RB := keep hb_ RB
      replace RO := keep hb_ RO
      replace hC := hC.keep hb_
      replace hw := Below.after hw hb_
      clear hb_
      refine hK_ _ _ (⟨RB, RO⟩) ?_
      simp only [Act.put, List.getElem_toArray, List.getElem_cons_succ, List.getElem_cons_zero, List.setIfInBounds_toArray, List.set_cons_succ, List.set_cons_zero]
      clear hK_
      generalize q1.alloc (.cells #[.int .u64 0, .slice (some ⟨w.heap.size, 0, none⟩) 32 32, .slice none 0 0, .int .u64 0, .slice (some ⟨w.heap.size, 32, none⟩) 32 32, .slice none 0 0, .int .u64 (fl : Int), .slice none 0 0, .slice none 0 0, .int .u64 0, .slice (some ⟨w.heap.size + 1, 0, none⟩) 32 32, .slice none 0 0] 62) = q2 at *
      generalize q1.heap.size = gp at *
      refine wpAnyH_take (i := 12) (v := .agg #[.int .u64 0, .slice none 0 0, .slice (some ⟨gp, 0, none⟩) 4 4]) rfl (by kernel_rfl) (by kernel_rfl) (by kernel_rfl) (fun _ _ _ h => h) (Or.inl ⟨by rfl, ?yz11⟩) (⟨RB, RO⟩) ?rz11
      case yz11 =>
        intro w_ hS_
        go_simp
        try with_reducible rfl
      simp only [Act.put, List.getElem_toArray, List.getElem_cons_succ, List.getElem_cons_zero, List.setIfInBounds_toArray, List.set_cons_succ, List.set_cons_zero]
      refine wpAnyH_one (k := 13) (fuel := 5) (by kernel_rfl) rfl (by kernel_rfl) (fun K_ hK_ => ?_)
      have cE := a_EncodeF bsl_flat 0 (by decide) none 0 0 (.slice (some ⟨gp, 0, none⟩) 4 4) (bxs (w.heap.size) (w.heap.size + 1) fl) [i, s, [], p] q2 hC (bsl_prt hfl hPs) (fun _ => bsl_bys li ls lp hfl RB RO)
      rw [bsl_ck _ _ _ hfl] at cE
      have cE2 := cE.mono (fun e w' h => (by obtain ⟨⟨u, e1, e2⟩, e3⟩ := h; exact ⟨_, e1, u, rfl, e2, e3⟩ : ∃ v, e = .returned v ∧ ∃ u, v = .tuple #[u, .nilIface] ∧ Own w' q2.heap.size u (eout (fdk bsl (bxs (w.heap.size) (w.heap.size + 1) fl) [i, s, [], p] 4)) ∧ Below q2.heap.size q2 w'))
      refine wp_call_ex (R := fun v w' => ∃ u, v = .tuple #[u, .nilIface] ∧ Own w' q2.heap.size u (eout (fdk bsl (bxs (w.heap.size) (w.heap.size + 1) fl) [i, s, [], p] 4)) ∧ Below q2.heap.size q2 w') (by kernel_rfl) cE2 (fun v_ q3 hX_ => ?_)
      obtain ⟨u, rfl, hU, hb_⟩ := hX_
      have hU2 := own_down hU hw.size
      clear cE cE2 hC hPs
      replace RB := keep hb_ RB
      replace RO := keep hb_ RO
      replace hw := Below.after hw hb_
      clear hb_ hU
      obtain ⟨L, hL⟩ : ∃ L, (eout (fdk bsl (bxs (w.heap.size) (w.heap.size + 1) fl) [i, s, [], p] 4)) = L := ⟨_, rfl⟩
      rw [hL] at hU2
      replace hL := hide hL
      obtain ⟨ua, uc, rfl⟩ := slen_own hU2
      refine hK_ _ _ (⟨RB, RO⟩) ?_
      simp only [Act.put, List.getElem_toArray, List.getElem_cons_succ, List.getElem_cons_zero, List.setIfInBounds_toArray, List.set_cons_succ, List.set_cons_zero]
      clear hK_
      refine wpAnyH_take (i := 14) (v := ?vz12) rfl (by kernel_rfl) (by kernel_rfl) (by kernel_rfl) (fun _ _ _ h => h) (Or.inl ⟨by rfl, ?yz12⟩) (⟨RB, RO⟩) ?rz12
      case yz12 =>
        intro w_ hS_
        go_simp
        try with_reducible rfl
      simp only [Act.put, List.getElem_toArray, List.getElem_cons_succ, List.getElem_cons_zero, List.setIfInBounds_toArray, List.set_cons_succ, List.set_cons_zero]
      refine wpAnyH_take (i := 15) (v := ?vz13) rfl (by kernel_rfl) (by kernel_rfl) (by kernel_rfl) (fun _ _ _ h => h) (Or.inl ⟨by rfl, ?yz13⟩) (⟨RB, RO⟩) ?rz13
      case yz13 =>
        intro w_ hS_
        go_simp
        try with_reducible rfl
      simp only [Act.put, List.getElem_toArray, List.getElem_cons_succ, List.getElem_cons_zero, List.setIfInBounds_toArray, List.set_cons_succ, List.set_cons_zero]
      refine wpAnyH_take (i := 16) (v := ?vz14) rfl (by kernel_rfl) (by kernel_rfl) (by kernel_rfl) (fun _ _ _ h => h) (Or.inl ⟨by rfl, ?yz14⟩) (⟨RB, RO⟩) ?rz14
      case yz14 =>
        intro w_ hS_
        go_simp
        try with_reducible rfl
      simp only [Act.put, List.getElem_toArray, List.getElem_cons_succ, List.getElem_cons_zero, List.setIfInBounds_toArray, List.set_cons_succ, List.set_cons_zero]
      refine wpAnyH_take (i := 17) (v := ?vz15) rfl (by kernel_rfl) (by kernel_rfl) (by kernel_rfl) (fun _ _ _ h => h) (Or.inl ⟨by rfl, ?yz15⟩) (⟨RB, RO⟩) ?rz15
      case yz15 =>
        intro w_ hS_
        go_simp
        try with_reducible rfl
      simp only [Act.put, List.getElem_toArray, List.getElem_cons_succ, List.getElem_cons_zero, List.setIfInBounds_toArray, List.set_cons_succ, List.set_cons_zero]
      refine wpAnyH_take (i := 18) (v := ?vz16) rfl (by kernel_rfl) (by kernel_rfl) (by kernel_rfl) (fun _ _ _ h => h) (Or.inl ⟨by rfl, ?yz16⟩) (⟨RB, RO⟩) ?rz16
      case yz16 =>
        intro w_ hS_
        go_simp
        try with_reducible rfl
      simp only [Act.put, List.getElem_toArray, List.getElem_cons_succ, List.getElem_cons_zero, List.setIfInBounds_toArray, List.set_cons_succ, List.set_cons_zero]
      refine wpAnyH_done (by kernel_rfl) ?_ _
      refine NoPanic.normal ?_
      have A1 := hide hU2
      have A2 := hide hw
      clear hU2 hw RB RO
      go_wp2_with (fail)
      go_ret
      exact ⟨_, rfl, by rw [← hfin.out, hL.out]; exact A1.out, A2.out⟩
    · refine wp_val_op (.slice (some ⟨w1.heap.size, 0, none⟩) 4 4) (w' := w1.alloc (.cells #[.int .u64 0, .slice (some ⟨w.heap.size, 0, none⟩) 32 32, .slice none 0 0, .int .u64 0, .slice (some ⟨w.heap.size, 32, none⟩) 32 32, .slice none 0 0, .int .u64 (fl : Int), .slice none 0 0, .slice none 0 0, .int .u64 0, .slice (some ⟨w.heap.size + 1, 0, none⟩) 32 32, .slice none 0 0] 62)) (by kernel_rfl) ?_
      have hPs : Bx (w1.alloc (.cells #[.int .u64 0, .slice (some ⟨w.heap.size, 0, none⟩) 32 32, .slice none 0 0, .int .u64 0, .slice (some ⟨w.heap.size, 32, none⟩) 32 32, .slice none 0 0, .int .u64 (fl : Int), .slice none 0 0, .slice none 0 0, .int .u64 0, .slice (some ⟨w.heap.size + 1, 0, none⟩) 32 32, .slice none 0 0] 62)) w1.heap.size #[.int .u64 0, .slice (some ⟨w.heap.size, 0, none⟩) 32 32, .slice none 0 0, .int .u64 0, .slice (some ⟨w.heap.size, 32, none⟩) 32 32, .slice none 0 0, .int .u64 (fl : Int), .slice none 0 0, .slice none 0 0, .int .u64 0, .slice (some ⟨w.heap.size + 1, 0, none⟩) 32 32, .slice none 0 0] := ⟨_, hp1_0 w1 _⟩
      have hb_ : Below w1.heap.size w1 (w1.alloc (.cells #[.int .u64 0, .slice (some ⟨w.heap.size, 0, none⟩) 32 32, .slice none 0 0, .int .u64 0, .slice (some ⟨w.heap.size, 32, none⟩) 32 32, .slice none 0 0, .int .u64 (fl : Int), .slice none 0 0, .slice none 0 0, .int .u64 0, .slice (some ⟨w.heap.size + 1, 0, none⟩) 32 32, .slice none 0 0] 62)) := (Below.refl _ _).alloc (Nat.le_refl _) _
      replace RB := keep hb_ RB
      replace RO := keep hb_ RO
      replace hw := Below.after hw hb_
      clear hb_
      refine hK_ _ _ (⟨RB, RO⟩) ?_
      simp only [Act.put, List.getElem_toArray, List.getElem_cons_succ, List.getElem_cons_zero, List.setIfInBounds_toArray, List.set_cons_succ, List.set_cons_zero]
      clear hK_
      generalize w1.alloc (.cells #[.int .u64 0, .slice (some ⟨w.heap.size, 0, none⟩) 32 32, .slice none 0 0, .int .u64 0, .slice (some ⟨w.heap.size, 32, none⟩) 32 32, .slice none 0 0, .int .u64 (fl : Int), .slice none 0 0, .slice none 0 0, .int .u64 0, .slice (some ⟨w.heap.size + 1, 0, none⟩) 32 32, .slice none 0 0] 62) = q4 at *
      generalize w1.heap.size = gp at *
      refine wpAnyH_take (i := 12) (v := .agg #[.int .u64 0, .slice none 0 0, .slice (some ⟨gp, 0, none⟩) 4 4]) rfl (by kernel_rfl) (by kernel_rfl) (by kernel_rfl) (fun _ _ _ h => h) (Or.inl ⟨by rfl, ?yz17⟩) (⟨RB, RO⟩) ?rz17
      case yz17 =>
        intro w_ hS_
        go_simp
        try with_reducible rfl
      simp only [Act.put, List.getElem_toArray, List.getElem_cons_succ, List.getElem_cons_zero, List.setIfInBounds_toArray, List.set_cons_succ, List.set_cons_zero]
      refine wpAnyH_one (k := 0) (fuel := 6) (by kernel_rfl) rfl (by kernel_rfl) (fun K_ hK_ => ?_)
      refine wp_call_ex (f := 39) (by kernel_rfl) (a_codec q4) (fun v_ q5 hX_ => ?_)
      obtain ⟨⟨q, rfl, hq1, hC⟩, hb_⟩ := hX_
      replace RB := keep hb_ RB
      replace RO := keep hb_ RO
      replace hPs := hPs.keep hb_
      replace hw := Below.after hw hb_
      clear hb_
      refine hK_ _ _ (⟨RB, RO⟩) ?_
      simp only [Act.put, List.getElem_toArray, List.getElem_cons_zero, List.setIfInBounds_toArray, List.set_cons_succ, List.set_cons_zero]
      clear hK_
      refine wpAnyH_one (k := 13) (fuel := 5) (by kernel_rfl) rfl (by kernel_rfl) (fun K_ hK_ => ?_)
      have cE := a_EncodeF bsl_flat 0 (by decide) none 0 0 (.slice (some ⟨gp, 0, none⟩) 4 4) (bxs (w.heap.size) (w.heap.size + 1) fl) [i, s, [], p] q5 hC (bsl_prt hfl hPs) (fun _ => bsl_bys li ls lp hfl RB RO)
      rw [bsl_ck _ _ _ hfl] at cE
      have cE2 := cE.mono (fun e w' h => (by obtain ⟨⟨u, e1, e2⟩, e3⟩ := h; exact ⟨_, e1, u, rfl, e2, e3⟩ : ∃ v, e = .returned v ∧ ∃ u, v = .tuple #[u, .nilIface] ∧ Own w' q5.heap.size u (eout (fdk bsl (bxs (w.heap.size) (w.heap.size + 1) fl) [i, s, [], p] 4)) ∧ Below q5.heap.size q5 w'))
      refine wp_call_ex (R := fun v w' => ∃ u, v = .tuple #[u, .nilIface] ∧ Own w' q5.heap.size u (eout (fdk bsl (bxs (w.heap.size) (w.heap.size + 1) fl) [i, s, [], p] 4)) ∧ Below q5.heap.size q5 w') (by kernel_rfl) cE2 (fun v_ q6 hX_ => ?_)
      obtain ⟨u, rfl, hU, hb_⟩ := hX_
      have hU2 := own_down hU hw.size
      clear cE cE2 hC hPs
      replace RB := keep hb_ RB
      replace RO := keep hb_ RO
      replace hw := Below.after hw hb_
      clear hb_ hU
      obtain ⟨L, hL⟩ : ∃ L, (eout (fdk bsl (bxs (w.heap.size) (w.heap.size + 1) fl) [i, s, [], p] 4)) = L := ⟨_, rfl⟩
      rw [hL] at hU2
      replace hL := hide hL
      obtain ⟨ua, uc, rfl⟩ := slen_own hU2
      refine hK_ _ _ (⟨RB, RO⟩) ?_
      simp only [Act.put, List.getElem_toArray, List.getElem_cons_succ, List.getElem_cons_zero, List.setIfInBounds_toArray, List.set_cons_succ, List.set_cons_zero]
      clear hK_
      refine wpAnyH_take (i := 14) (v := ?vz18) rfl (by kernel_rfl) (by kernel_rfl) (by kernel_rfl) (fun _ _ _ h => h) (Or.inl ⟨by rfl, ?yz18⟩) (⟨RB, RO⟩) ?rz18
      case yz18 =>
        intro w_ hS_
        go_simp
        try with_reducible rfl
      simp only [Act.put, List.getElem_toArray, List.getElem_cons_succ, List.getElem_cons_zero, List.setIfInBounds_toArray, List.set_cons_succ, List.set_cons_zero]
      refine wpAnyH_take (i := 15) (v := ?vz19) rfl (by kernel_rfl) (by kernel_rfl) (by kernel_rfl) (fun _ _ _ h => h) (Or.inl ⟨by rfl, ?yz19⟩) (⟨RB, RO⟩) ?rz19
      case yz19 =>
        intro w_ hS_
        go_simp
        try with_reducible rfl
      simp only [Act.put, List.getElem_toArray, List.getElem_cons_succ, List.getElem_cons_zero, List.setIfInBounds_toArray, List.set_cons_succ, List.set_cons_zero]
      refine wpAnyH_take (i := 16) (v := ?vz20) rfl (by kernel_rfl) (by kernel_rfl) (by kernel_rfl) (fun _ _ _ h => h) (Or.inl ⟨by rfl, ?yz20⟩) (⟨RB, RO⟩) ?rz20
      case yz20 =>
        intro w_ hS_
        go_simp
        try with_reducible rfl
      simp only [Act.put, List.getElem_toArray, List.getElem_cons_succ, List.getElem_cons_zero, List.setIfInBounds_toArray, List.set_cons_succ, List.set_cons_zero]
      refine wpAnyH_take (i := 17) (v := ?vz21) rfl (by kernel_rfl) (by kernel_rfl) (by kernel_rfl) (fun _ _ _ h => h) (Or.inl ⟨by rfl, ?yz21⟩) (⟨RB, RO⟩) ?rz21
      case yz21 =>
        intro w_ hS_
        go_simp
        try with_reducible rfl
      simp only [Act.put, List.getElem_toArray, List.getElem_cons_succ, List.getElem_cons_zero, List.setIfInBounds_toArray, List.set_cons_succ, List.set_cons_zero]
      refine wpAnyH_take (i := 18) (v := ?vz22) rfl (by kernel_rfl) (by kernel_rfl) (by kernel_rfl) (fun _ _ _ h => h) (Or.inl ⟨by rfl, ?yz22⟩) (⟨RB, RO⟩) ?rz22
      case yz22 =>
        intro w_ hS_
        go_simp
        try with_reducible rfl
      simp only [Act.put, List.getElem_toArray, List.getElem_cons_succ, List.getElem_cons_zero, List.setIfInBounds_toArray, List.set_cons_succ, List.set_cons_zero]
      refine wpAnyH_done (by kernel_rfl) ?_ _
      refine NoPanic.normal ?_
      have A1 := hide hU2
      have A2 := hide hw
      clear hU2 hw RB RO
      go_wp2_with (fail)
      go_ret
      exact ⟨_, rfl, by rw [← hfin.out, hL.out]; exact A1.out, A2.out⟩
end Go.Proofs.YtbaefbfejmpliaaGreatDoor
