import Derived.Test.YtbaefbfejmpliaaGreatDoorJrk
import Derived.OwnWalk
import Derived.Deep.Cut
import Derived.Deep.RegionHeld3
namespace Go.Proofs.YtbaefbfejmpliaaGreatDoor
set_option maxRecDepth 100000
open Go Go.RowKit Go.Sort
attribute [local go_sem] setCell_drewN alloc_drewN
theorem run_storeVar_cell {P : Program} (w : World) (g off : Nat) (ty : TypeId) (v : Value) (ht : w.there g off 1) (hi : (P.info? ty).map (·.size) = some 1) (h1 : v.oneCell' = true) : (storeVar ty ⟨g, off, none⟩ v).run P w = .ok () (w.setCells g off [v]) := by
  have := run_storeCells_cells (P := P) g off [v] 0 w (fun j hj => by simpa using (ht j (by simpa using hj)).1) (fun j hj => by simpa using (ht j (by simpa using hj)).2) (fun u hu => by simp at hu; subst hu; exact h1)
  have hc : v.cells = #[v] := by cases v <;> first | rfl | cases h1
  cases hq : P.info? ty with
  | none => simp [hq] at hi
  | some i =>
    have hs : i.size = 1 := by simpa [hq] using hi
    simp only [Nat.add_zero] at this
    simp [storeVar, sizeOf, typeInfo, hq, hc, hs, this]
theorem wpList_store_cell {P : Program} {ops : Array Oper} {rest : List Oper} {o : Oper} {a : Act} {w : World} {Q : Exit → Act → World → Prop} (hgd : o.guard = none) (ty : TypeId) (x y : Operand) (ho : o.op = .store ty x y)
    (g off : Nat) (v : Value) (hx : a.eval x = .pointer (some ⟨g, off, none⟩)) (hy : a.eval y = v) (t : TypeId) (old new : Array Value) (hg : w.heap[g]? = some (.cells old t (0, 0))) (hlt : off < old.size) (hnew : old.setIfInBounds off v = new)
    (hi : (P.info? ty).map (·.size) = some 1) (h1 : v.oneCell' = true)
    (h : wpList P ops Q rest (a.put o.dst undef) (w.setRow g new)) : wpList P ops Q (o :: rest) a w := by
  refine wpList_plain hgd fun _ hK => ?_
  unfold Oper.wp execOp
  simp only [ho, hx, hy, Instr.storeAt, Instr.sureAddr, Sem.run_bind, Sem.run_pure, Result.andThen_ok, run_storeVar_cell w g off ty v (there_row hg hlt) hi h1]
  refine hK _ _ ?_
  rw [setCells_eq [v] off w old hg]
  have e : ovw old off [v] = new := hnew
  rw [e]
  exact h
theorem infoU8_64 : (Tryz.prog.info? 59).map (·.size) = some 1 := by kernel_rfl
theorem builtZv : Tryz.prog.built 62 [] = some #[.int .u64 0, .slice none 0 0, .slice none 0 0] := by kernel_rfl
def bxr (a1 : Option Addr) (c1 : Nat) (a2 : Option Addr) (c2 : Nat) (fl : Nat) (a3 : Option Addr) (c3 : Nat) : List VR := [⟨0, a1, 32, c1, none, 0, 0⟩, ⟨0, a2, 32, c2, none, 0, 0⟩, ⟨fl, none, 0, 0, none, 0, 0⟩, ⟨0, a3, 32, c3, none, 0, 0⟩]
def bfp (i s p : List B) (fl : Nat) : List Fd := [⟨1, 2, 0, i⟩, ⟨2, 2, 0, s⟩, ⟨3, 0, fl, []⟩, ⟨4, 2, 0, p⟩]
theorem bxr_fdk (a1 : Option Addr) (c1 : Nat) (a2 : Option Addr) (c2 : Nat) (fl : Nat) (a3 : Option Addr) (c3 : Nat) (i s p : List B) : fdk bsl (bxr a1 c1 a2 c2 fl a3 c3) [i, s, [], p] bsl.length = bfp i s p fl := rfl
theorem bxr_prt {W : World} {gp fl c1 c2 c3 : Nat} {a1 a2 a3 : Option Addr} (hfl : fl < 2) (h : Bx W gp #[.int .u64 0, .slice a1 32 c1, .slice none 0 0, .int .u64 0, .slice a2 32 c2, .slice none 0 0, .int .u64 (fl : Int), .slice none 0 0, .slice none 0 0, .int .u64 0, .slice a3 32 c3, .slice none 0 0]) : Prt W (.slice (some ⟨gp, 0, none⟩) 4 4) (bxr a1 c1 a2 c2 fl a3 c3) := by
  have hlt := h.lt
  obtain ⟨T, h⟩ := h
  refine ⟨some ⟨gp, 0, none⟩, 4, rfl, by show 4 ≤ 4; decide, fun i hi => ?_, fun i hi => ⟨gp, 0, rfl, hlt, fun j v hv => ?_⟩⟩
  · have hi4 : i < 4 := hi
    rcases (by omega : i = 0 ∨ i = 1 ∨ i = 2 ∨ i = 3) with rfl | rfl | rfl | rfl
    · exact ⟨by show 0 < _; decide, by show 32 < _; decide⟩
    · exact ⟨by show 0 < _; decide, by show 32 < _; decide⟩
    · exact ⟨by show fl < _; omega, by show 0 < _; decide⟩
    · exact ⟨by show 0 < _; decide, by show 32 < _; decide⟩
  · have hi4 : i < 4 := hi
    rw [cell_of_row _ _ _ _ _ _ h]
    have hj : j < 3 := by have := (List.getElem?_eq_some_iff.1 hv).1; simpa [vrv, vrw] using this
    rcases (by omega : i = 0 ∨ i = 1 ∨ i = 2 ∨ i = 3) with rfl | rfl | rfl | rfl <;> rcases (by omega : j = 0 ∨ j = 1 ∨ j = 2) with rfl | rfl | rfl <;> exact hv
theorem bxr_ck (a1 : Option Addr) (c1 : Nat) (a2 : Option Addr) (c2 : Nat) (fl : Nat) (a3 : Option Addr) (c3 : Nat) (hfl : fl < 2) : chF bsl (bxr a1 c1 a2 c2 fl a3 c3) 1 = none := by
  rcases (by omega : fl = 0 ∨ fl = 1) with rfl | rfl <;> rfl
theorem bxr_bys {W : World} {fl c1 c2 c3 b1 b2 b3 : Nat} {a1 a2 a3 : Option Addr} {i s p : List B} (li : i.length = 32) (ls : s.length = 32) (lp : p.length = 32) (hfl : fl < 2) (OA : Own W b1 (.slice a1 32 c1) i) (OS : Own W b2 (.slice a2 32 c2) s) (OD : Own W b3 (.slice a3 32 c3) p) : ∀ k, k < bsl.length → BysB W (.slice (gx (bxr a1 c1 a2 c2 fl a3 c3) k).da (gx (bxr a1 c1 a2 c2 fl a3 c3) k).dl (gx (bxr a1 c1 a2 c2 fl a3 c3) k).dc) (gd1 [i, s, [], p] k) ∧ Fok (fdF (gs bsl k) (gx (bxr a1 c1 a2 c2 fl a3 c3) k) (gd1 [i, s, [], p] k)) := fun k hk => by
  have hk4 : k < 4 := hk
  rcases (by omega : k = 0 ∨ k = 1 ∨ k = 2 ∨ k = 3) with rfl | rfl | rfl | rfl
  · exact ⟨OA.bysB (by omega), by show 0 < _; decide, by show i.length ≤ _; rw [li]; decide, by show (-9223372036854775808 : Int) ≤ 1; decide, by show (1 : Int) ≤ _; decide⟩
  · exact ⟨OS.bysB (by omega), by show 0 < _; decide, by show s.length ≤ _; rw [ls]; decide, by show (-9223372036854775808 : Int) ≤ 2; decide, by show (2 : Int) ≤ _; decide⟩
  · exact ⟨bys_nil W, by show fl < _; omega, by show 0 ≤ _; omega, by show (-9223372036854775808 : Int) ≤ 3; decide, by show (3 : Int) ≤ _; decide⟩
  · exact ⟨OD.bysB (by omega), by show 0 < _; decide, by show p.length ≤ _; rw [lp]; decide, by show (-9223372036854775808 : Int) ≤ 4; decide, by show (4 : Int) ≤ _; decide⟩
set_option maxRecDepth 100000 in
set_option maxHeartbeats 16000000 in
theorem r_Pack14 (i s o : List B) (h : Bool) (li : i.length = 32) (ls : s.length = 32) (lo : o.length = 32) (w : World) : Calls Tryz.prog 22 #[.agg (brow (bl i) (bl s) (bl o) h)] w fun e w' => ∃ u, e = .returned u ∧ Own w' w.heap.size u (eout (bfs i s (onc h o) h)) ∧ Below w.heap.size w w' := by
  have RB := hp2_0 w (.cells (brow (bl i) (bl s) (bl o) h) 48) (.cells #[.int .u64 0, .slice none 0 0, .slice none 0 0] 62)
  have RV := hp2_1 w (.cells (brow (bl i) (bl s) (bl o) h) 48) (.cells #[.int .u64 0, .slice none 0 0, .slice none 0 0] 62)
  have hw : Below w.heap.size w ((w.alloc (.cells (brow (bl i) (bl s) (bl o) h) 48)).alloc (.cells #[.int .u64 0, .slice none 0 0, .slice none 0 0] 62)) := ((Below.refl _ _).alloc (Nat.le_refl _) _).alloc (by simp) _
  have hsz : ((w.alloc (.cells (brow (bl i) (bl s) (bl o) h) 48)).alloc (.cells #[.int .u64 0, .slice none 0 0, .slice none 0 0] 62)).heap.size = w.heap.size + 1 + 1 := by simp
  have hone : (#[Value.int .i64 0, .int .i64 0, .int .i64 0] : Array Value).all (·.oneCell') = true := by simp [Value.oneCell']
  have honeV : (#[Value.int .u64 0, .slice none 0 0, .slice none 0 0] : Array Value).all (·.oneCell') = true := by simp [Value.oneCell']
  go_enter Tryz.func22, Tryz.ntmps22
  go_upto_region 2 with (first | (refine wpList_box rfl 48 _ rfl _ rfl (box_brow _) ?_) | (refine wpList_build_want rfl 62 _ rfl [] rfl #[.int .u64 0, .slice none 0 0, .slice none 0 0] builtZv ?_) | (refine wpList_store_row rfl 62 _ _ rfl (w.heap.size + 1) #[.int .u64 0, .slice none 0 0, .slice none 0 0] rfl rfl 62 _ RV infoV rfl honeV ?_) | fail)
  simp only [Act.put]
  generalize (w.alloc (.cells (brow (bl i) (bl s) (bl o) h) 48)).alloc (.cells #[.int .u64 0, .slice none 0 0, .slice none 0 0] 62) = w0 at *
  have hs1 : (w0.setRow (w.heap.size + 1) #[.int .u64 0, .slice none 0 0, .slice none 0 0]).heap.size = w0.heap.size := by simp [World.setRow]
  replace RB := (setRow_other w0 (w.heap.size + 1) (w.heap.size) #[.int .u64 0, .slice none 0 0, .slice none 0 0] (by omega)).trans RB
  replace RV := setRow_heap w0 (w.heap.size + 1) _ (#[.int .u64 0, .slice none 0 0, .slice none 0 0]) _ _ RV
  replace hw := below_setRow hw (show w.heap.size ≤ w.heap.size + 1 by omega) #[.int .u64 0, .slice none 0 0, .slice none 0 0]
  rw [← hs1] at hsz
  generalize w0.setRow (w.heap.size + 1) #[.int .u64 0, .slice none 0 0, .slice none 0 0] = w2 at *
  have hba : Below w2.heap.size w2 (w2.alloc (.cells (irow .u8 (zr 32)) 23)) := (Below.refl _ _).alloc (Nat.le_refl _) _
  have RO := hp1_0 w2 (.cells (irow .u8 (zr 32)) 23)
  rw [hsz] at RO
  replace RB := keep hba RB
  replace RV := keep hba RV
  replace hw := Below.after hw hba
  clear hba hs1
  go_upto_region 3 with (first | (refine wpList_build_want rfl 23 _ rfl [] rfl (irow .u8 (zr 32)) builtZk ?_) | (refine wpList_alloc rfl 23 rfl (irow .u8 (zr 32)) zkey ?_; rw [hsz]) | (refine wpList_store_row rfl 23 _ _ rfl (w.heap.size + 1 + 1) (irow .u8 (zr 32)) rfl rfl 23 _ RO (infoKy _ (zr_len 32)) rfl (irow_one _ _) ?_) | fail)
  try simp only [Act.put, List.setIfInBounds_toArray, List.set_cons_succ, List.set_cons_zero]
  generalize w2.alloc (.cells (irow .u8 (zr 32)) 23) = w3 at *
  replace RB := (setRow_other w3 (w.heap.size + 1 + 1) (w.heap.size) (irow .u8 (zr 32)) (by omega)).trans RB
  replace RV := (setRow_other w3 (w.heap.size + 1 + 1) (w.heap.size + 1) (irow .u8 (zr 32)) (by omega)).trans RV
  replace RO := setRow_heap w3 (w.heap.size + 1 + 1) _ (irow .u8 (zr 32)) _ _ RO
  replace hw := below_setRow hw (show w.heap.size ≤ w.heap.size + 1 + 1 by omega) (irow .u8 (zr 32))
  generalize w3.setRow (w.heap.size + 1 + 1) (irow .u8 (zr 32)) = w4 at *
  have ch : w4.cell? ⟨w.heap.size, 96, none⟩ = some (.bool h) := by rw [cell_of_row _ _ _ _ _ _ RB]; exact bn_h _ _ _ _ (by rw [bl_len, li]) (by rw [bl_len, ls]) (by rw [bl_len, lo])
  clear hsz
  cases h with
  | true =>
    go_upto_region 5 with (first | (refine wpList_store_cell rfl 59 _ _ rfl (w.heap.size + 1) 0 (.int .u64 1) rfl rfl 62 #[.int .u64 0, .slice none 0 0, .slice none 0 0] #[.int .u64 1, .slice none 0 0, .slice none 0 0] RV (by decide) rfl infoU8_64 rfl ?_) | fail)
    simp only [Act.put]
    clear ch
    replace RB := (setRow_other w4 (w.heap.size + 1) (w.heap.size) #[.int .u64 1, .slice none 0 0, .slice none 0 0] (by omega)).trans RB
    replace RO := (setRow_other w4 (w.heap.size + 1) (w.heap.size + 1 + 1) #[.int .u64 1, .slice none 0 0, .slice none 0 0] (by omega)).trans RO
    replace RV := setRow_heap w4 (w.heap.size + 1) _ (#[.int .u64 1, .slice none 0 0, .slice none 0 0]) _ _ RV
    replace hw := below_setRow hw (show w.heap.size ≤ w.heap.size + 1 by omega) #[.int .u64 1, .slice none 0 0, .slice none 0 0]
    generalize w4.setRow (w.heap.size + 1) #[.int .u64 1, .slice none 0 0, .slice none 0 0] = w5 at *
    go_upto_region 6 with (first | (refine wpList_load_part rfl 23 _ rfl (w.heap.size) 64 rfl 48 (brow (bl i) (bl s) (bl o) true) (0, 0) (irow .u8 (bl o)) _ RB (bn_o _ _ _ _ (by rw [bl_len, li]) (by rw [bl_len, ls]) (by rw [bl_len, lo])) Tryz.underlying23 rfl (infoKy _ (by rw [bl_len, lo])) ?_) | (refine wpList_store_row rfl 23 _ _ rfl (w.heap.size + 1 + 1) (irow .u8 (bl o)) rfl rfl 23 _ RO (infoKy _ (by rw [bl_len, lo])) (by rw [irow_size, irow_size, zr_len, bl_len, lo]) (irow_one _ _) ?_) | fail)
    try simp only [Act.put, List.setIfInBounds_toArray, List.set_cons_succ, List.set_cons_zero]
    replace RB := (setRow_other w5 (w.heap.size + 1 + 1) (w.heap.size) (irow .u8 (bl o)) (by omega)).trans RB
    replace RV := (setRow_other w5 (w.heap.size + 1 + 1) (w.heap.size + 1) (irow .u8 (bl o)) (by omega)).trans RV
    replace RO := setRow_heap w5 (w.heap.size + 1 + 1) _ (irow .u8 (bl o)) _ _ RO
    replace hw := below_setRow hw (show w.heap.size ≤ w.heap.size + 1 + 1 by omega) (irow .u8 (bl o))
    generalize w5.setRow (w.heap.size + 1 + 1) (irow .u8 (bl o)) = w6 at *
    obtain ⟨p, hp⟩ : ∃ p, p = o := ⟨_, rfl⟩
    have lp : p.length = 32 := by rw [hp, lo]
    rw [← hp] at RO
    obtain ⟨fl, hfl0⟩ : ∃ fl : Nat, fl = 1 := ⟨_, rfl⟩
    have hfl : fl < 2 := by omega
    have hfin : Hid (eout (bfp i s p fl) = eout (bfs i s (onc true o) true)) := hide (by rw [hfl0, hp]; rfl)
    rw [show (Value.int .u64 1) = .int .u64 (fl : Int) by rw [hfl0]; rfl] at RV
    replace hp := hide hp
    replace hfl0 := hide hfl0
    have hbd : Below w6.heap.size w6 w6.drew := below_drN (Below.refl _ _) 1
    replace RB := keep hbd RB
    replace RV := keep hbd RV
    replace RO := keep hbd RO
    replace hw := Below.after hw hbd
    clear hbd
    refine wp_region_noPanic ?_
    refine wp_region_held (S := fun W : World => W.heap[w.heap.size]? = some (.cells (brow (bl i) (bl s) (bl o) true) 48 (0, 0)) ∧ W.heap[w.heap.size + 1]? = some (.cells #[.int .u64 (fl : Int), .slice none 0 0, .slice none 0 0] 62 (0, 0)) ∧ W.heap[w.heap.size + 1 + 1]? = some (.cells (irow .u8 (bl p)) 23 (0, 0))) (by kernel_rfl) ?_
    change wpAnyH _ _ _ _ _ _ _ _ (World.drew _)
    generalize w6.drew = w1 at *
    refine wpAnyH_take (i := 1) (v := ?v1) rfl (by kernel_rfl) (by kernel_rfl) (by kernel_rfl) (fun _ _ _ h => h) (Or.inl ⟨by rfl, ?y1⟩) (⟨RB, RV, RO⟩) ?r1
    case y1 =>
      intro w_ hS_
      go_simp
      try with_reducible rfl
    simp only [Act.put, List.getElem_toArray, List.getElem_cons_succ, List.getElem_cons_zero, List.setIfInBounds_toArray, List.set_cons_succ, List.set_cons_zero]
    refine wpAnyH_take (i := 2) (v := .agg (irow .u8 (bl i))) rfl (by kernel_rfl) (by kernel_rfl) (by kernel_rfl) (fun _ _ _ h => h) (Or.inl ⟨by rfl, ?y2⟩) (⟨RB, RV, RO⟩) ?r2
    case y2 =>
      intro w_ hS_
      simp only [List.getElem_toArray, List.getElem_cons_succ, List.getElem_cons_zero]
      exact run_load_part 23 _ (by rfl) (w.heap.size) 0 (by rfl) 48 (brow (bl i) (bl s) (bl o) true) (0, 0) (irow .u8 (bl i)) _ (hS_.1) (bn_i _ _ _ _ (by rw [bl_len, li])) Tryz.underlying23 rfl (infoKy _ (by rw [bl_len, li]))
    simp only [Act.put, List.getElem_toArray, List.getElem_cons_succ, List.getElem_cons_zero, List.setIfInBounds_toArray, List.set_cons_succ, List.set_cons_zero]
    refine wpAnyH_take (i := 4) (v := ?v3) rfl (by kernel_rfl) (by kernel_rfl) (by kernel_rfl) (fun _ _ _ h => h) (Or.inl ⟨by rfl, ?y3⟩) (⟨RB, RV, RO⟩) ?r3
    case y3 =>
      intro w_ hS_
      go_simp
      try with_reducible rfl
    simp only [Act.put, List.getElem_toArray, List.getElem_cons_succ, List.getElem_cons_zero, List.setIfInBounds_toArray, List.set_cons_succ, List.set_cons_zero]
    refine wpAnyH_take (i := 5) (v := .agg (irow .u8 (bl s))) rfl (by kernel_rfl) (by kernel_rfl) (by kernel_rfl) (fun _ _ _ h => h) (Or.inl ⟨by rfl, ?y4⟩) (⟨RB, RV, RO⟩) ?r4
    case y4 =>
      intro w_ hS_
      simp only [List.getElem_toArray, List.getElem_cons_succ, List.getElem_cons_zero]
      exact run_load_part 23 _ (by rfl) (w.heap.size) 32 (by rfl) 48 (brow (bl i) (bl s) (bl o) true) (0, 0) (irow .u8 (bl s)) _ (hS_.1) (bn_s _ _ _ _ (by rw [bl_len, li]) (by rw [bl_len, ls])) Tryz.underlying23 rfl (infoKy _ (by rw [bl_len, ls]))
    simp only [Act.put, List.getElem_toArray, List.getElem_cons_succ, List.getElem_cons_zero, List.setIfInBounds_toArray, List.set_cons_succ, List.set_cons_zero]
    refine wpAnyH_take (i := 7) (v := .agg #[.int .u64 (fl : Int), .slice none 0 0, .slice none 0 0]) rfl (by kernel_rfl) (by kernel_rfl) (by kernel_rfl) (fun _ _ _ h => h) (Or.inl ⟨by rfl, ?y5⟩) (⟨RB, RV, RO⟩) ?r5
    case y5 =>
      intro w_ hS_
      simp only [List.getElem_toArray, List.getElem_cons_succ, List.getElem_cons_zero]
      exact run_load_part 62 _ (by rfl) (w.heap.size + 1) 0 (by rfl) 62 #[.int .u64 (fl : Int), .slice none 0 0, .slice none 0 0] (0, 0) #[.int .u64 (fl : Int), .slice none 0 0, .slice none 0 0] _ (hS_.2.1) (all_rowB _) Tryz.underlying62 rfl infoV
    simp only [Act.put, List.getElem_toArray, List.getElem_cons_succ, List.getElem_cons_zero, List.setIfInBounds_toArray, List.set_cons_succ, List.set_cons_zero]
    refine wpAnyH_take (i := 8) (v := .agg (irow .u8 (bl p))) rfl (by kernel_rfl) (by kernel_rfl) (by kernel_rfl) (fun _ _ _ h => h) (Or.inl ⟨by rfl, ?y6⟩) (⟨RB, RV, RO⟩) ?r6
    case y6 =>
      intro w_ hS_
      simp only [List.getElem_toArray, List.getElem_cons_succ, List.getElem_cons_zero]
      exact run_load_part 23 _ (by rfl) (w.heap.size + 1 + 1) 0 (by rfl) 23 (irow .u8 (bl p)) (0, 0) (irow .u8 (bl p)) _ (hS_.2.2) (all_rowB _) Tryz.underlying23 rfl (infoKy _ (by rw [bl_len, lp]))
    simp only [Act.put, List.getElem_toArray, List.getElem_cons_succ, List.getElem_cons_zero, List.setIfInBounds_toArray, List.set_cons_succ, List.set_cons_zero]
    refine wpAnyH_two (j := 0) (k := 16) (fuel := 12) (by kernel_rfl) rfl rfl (by kernel_rfl) (by kernel_rfl) (fun K_ hK_ => ?_) (fun K_ hK_ => ?_)
    · refine wp_call_ex (f := 40) (by kernel_rfl) (r_shape14 w1) (fun v_ q1 hX_ => ?_)
      obtain ⟨⟨q, rfl, hq1, hC⟩, hb_⟩ := hX_
      replace RB := keep hb_ RB
      replace RV := keep hb_ RV
      replace RO := keep hb_ RO
      replace hw := Below.after hw hb_
      clear hb_ hq1
      refine hK_ _ _ (⟨RB, RV, RO⟩) ?_
      simp only [Act.put, List.getElem_toArray, List.getElem_cons_zero, List.setIfInBounds_toArray, List.set_cons_succ, List.set_cons_zero]
      clear hK_
      refine wpAnyH_two (j := 3) (k := 16) (fuel := 11) (by kernel_rfl) rfl rfl (by kernel_rfl) (by kernel_rfl) (fun K_ hK_ => ?_) (fun K_ hK_ => ?_)
      · refine wp_call_ex (f := 41) (by kernel_rfl) (r_bytes14 i li q1) (fun v_ q2 hX_ => ?_)
        obtain ⟨⟨a1, c1, rfl, OA⟩, hb_⟩ := hX_
        replace RB := keep hb_ RB
        replace RV := keep hb_ RV
        replace RO := keep hb_ RO
        replace hC := hC.keep hb_
        replace hw := Below.after hw hb_
        clear hb_
        refine hK_ _ _ (⟨RB, RV, RO⟩) ?_
        simp only [Act.put, List.getElem_toArray, List.getElem_cons_succ, List.getElem_cons_zero, List.setIfInBounds_toArray, List.set_cons_succ, List.set_cons_zero]
        clear hK_
        refine wpAnyH_two (j := 6) (k := 16) (fuel := 10) (by kernel_rfl) rfl rfl (by kernel_rfl) (by kernel_rfl) (fun K_ hK_ => ?_) (fun K_ hK_ => ?_)
        · refine wp_call_ex (f := 41) (by kernel_rfl) (r_bytes14 s ls q2) (fun v_ q3 hX_ => ?_)
          obtain ⟨⟨a2, c2, rfl, OS⟩, hb_⟩ := hX_
          replace RB := keep hb_ RB
          replace RV := keep hb_ RV
          replace RO := keep hb_ RO
          replace hC := hC.keep hb_
          replace OA := OA.keep hb_
          replace hw := Below.after hw hb_
          clear hb_
          refine hK_ _ _ (⟨RB, RV, RO⟩) ?_
          simp only [Act.put, List.getElem_toArray, List.getElem_cons_succ, List.getElem_cons_zero, List.setIfInBounds_toArray, List.set_cons_succ, List.set_cons_zero]
          clear hK_
          refine wpAnyH_two (j := 9) (k := 16) (fuel := 9) (by kernel_rfl) rfl rfl (by kernel_rfl) (by kernel_rfl) (fun K_ hK_ => ?_) (fun K_ hK_ => ?_)
          · refine wp_call_ex (f := 41) (by kernel_rfl) (r_bytes14 p lp q3) (fun v_ q4 hX_ => ?_)
            obtain ⟨⟨a3, c3, rfl, OD⟩, hb_⟩ := hX_
            replace RB := keep hb_ RB
            replace RV := keep hb_ RV
            replace RO := keep hb_ RO
            replace hC := hC.keep hb_
            replace OA := OA.keep hb_
            replace OS := OS.keep hb_
            replace hw := Below.after hw hb_
            clear hb_
            refine hK_ _ _ (⟨RB, RV, RO⟩) ?_
            simp only [Act.put, List.getElem_toArray, List.getElem_cons_succ, List.getElem_cons_zero, List.setIfInBounds_toArray, List.set_cons_succ, List.set_cons_zero]
            clear hK_
            refine wpAnyH_two (j := 10) (k := 16) (fuel := 8) (by kernel_rfl) rfl rfl (by kernel_rfl) (by kernel_rfl) (fun K_ hK_ => ?_) (fun K_ hK_ => ?_)
            · refine wp_val_op (.slice (some ⟨q4.heap.size, 0, none⟩) 4 4) (w' := q4.alloc (.cells #[.int .u64 0, .slice a1 32 c1, .slice none 0 0, .int .u64 0, .slice a2 32 c2, .slice none 0 0, .int .u64 (fl : Int), .slice none 0 0, .slice none 0 0, .int .u64 0, .slice a3 32 c3, .slice none 0 0] 62)) (by kernel_rfl) ?_
              have hPs : Bx (q4.alloc (.cells #[.int .u64 0, .slice a1 32 c1, .slice none 0 0, .int .u64 0, .slice a2 32 c2, .slice none 0 0, .int .u64 (fl : Int), .slice none 0 0, .slice none 0 0, .int .u64 0, .slice a3 32 c3, .slice none 0 0] 62)) q4.heap.size #[.int .u64 0, .slice a1 32 c1, .slice none 0 0, .int .u64 0, .slice a2 32 c2, .slice none 0 0, .int .u64 (fl : Int), .slice none 0 0, .slice none 0 0, .int .u64 0, .slice a3 32 c3, .slice none 0 0] := ⟨_, hp1_0 q4 _⟩
              have hb_ : Below q4.heap.size q4 (q4.alloc (.cells #[.int .u64 0, .slice a1 32 c1, .slice none 0 0, .int .u64 0, .slice a2 32 c2, .slice none 0 0, .int .u64 (fl : Int), .slice none 0 0, .slice none 0 0, .int .u64 0, .slice a3 32 c3, .slice none 0 0] 62)) := (Below.refl _ _).alloc (Nat.le_refl _) _
              replace RB := keep hb_ RB
              replace RV := keep hb_ RV
              replace RO := keep hb_ RO
              replace hC := hC.keep hb_
              replace OA := OA.keep hb_
              replace OS := OS.keep hb_
              replace OD := OD.keep hb_
              replace hw := Below.after hw hb_
              clear hb_
              refine hK_ _ _ (⟨RB, RV, RO⟩) ?_
              simp only [Act.put, List.getElem_toArray, List.getElem_cons_succ, List.getElem_cons_zero, List.setIfInBounds_toArray, List.set_cons_succ, List.set_cons_zero]
              clear hK_
              generalize q4.alloc (.cells #[.int .u64 0, .slice a1 32 c1, .slice none 0 0, .int .u64 0, .slice a2 32 c2, .slice none 0 0, .int .u64 (fl : Int), .slice none 0 0, .slice none 0 0, .int .u64 0, .slice a3 32 c3, .slice none 0 0] 62) = q5 at *
              generalize q4.heap.size = gp at *
              refine wpAnyH_take (i := 11) (v := .agg #[.int .u64 0, .slice none 0 0, .slice (some ⟨gp, 0, none⟩) 4 4]) rfl (by kernel_rfl) (by kernel_rfl) (by kernel_rfl) (fun _ _ _ h => h) (Or.inl ⟨by rfl, ?y7⟩) (⟨RB, RV, RO⟩) ?r7
              case y7 =>
                intro w_ hS_
                go_simp
                try with_reducible rfl
              simp only [Act.put, List.getElem_toArray, List.getElem_cons_succ, List.getElem_cons_zero, List.setIfInBounds_toArray, List.set_cons_succ, List.set_cons_zero]
              refine wpAnyH_two (j := 12) (k := 16) (fuel := 6) (by kernel_rfl) rfl rfl (by kernel_rfl) (by kernel_rfl) (fun K_ hK_ => ?_) (fun K_ hK_ => ?_)
              · have cE := r_EncodeF bsl_flat (by decide) none 0 (.slice (some ⟨gp, 0, none⟩) 4 4) (bxr a1 c1 a2 c2 fl a3 c3) [i, s, [], p] rfl (bxr_ck _ _ _ _ _ _ _ hfl) q5 hC (bxr_prt hfl hPs) (bxr_bys li ls lp hfl OA OS OD)
                rw [bxr_fdk] at cE
                have cE2 := cE.mono (fun e w' h => (by obtain ⟨u, e1, e2, e3⟩ := h; exact ⟨_, e1, u, rfl, e2, e3⟩ : ∃ v, e = .returned v ∧ ∃ u, v = .tuple #[u, .agg #[.int .i64 0, .int .i64 0, .int .i64 0]] ∧ Own w' q5.heap.size u (eout (bfp i s p fl)) ∧ Below q5.heap.size q5 w'))
                refine wp_call_ex (R := fun v w' => ∃ u, v = .tuple #[u, .agg #[.int .i64 0, .int .i64 0, .int .i64 0]] ∧ Own w' q5.heap.size u (eout (bfp i s p fl)) ∧ Below q5.heap.size q5 w') (by kernel_rfl) cE2 (fun v_ q6 hX_ => ?_)
                obtain ⟨u, rfl, hU, hb_⟩ := hX_
                have hU2 := own_down hU hw.size
                clear cE cE2 hC hPs OA OS OD
                replace RB := keep hb_ RB
                replace RV := keep hb_ RV
                replace RO := keep hb_ RO
                replace hw := Below.after hw hb_
                clear hb_ hU
                obtain ⟨L, hL⟩ : ∃ L, (eout (bfp i s p fl)) = L := ⟨_, rfl⟩
                rw [hL] at hU2
                replace hL := hide hL
                obtain ⟨ua, uc, rfl⟩ := slen_own hU2
                refine hK_ _ _ (⟨RB, RV, RO⟩) ?_
                simp only [Act.put, List.getElem_toArray, List.getElem_cons_succ, List.getElem_cons_zero, List.setIfInBounds_toArray, List.set_cons_succ, List.set_cons_zero]
                clear hK_
                refine wpAnyH_take (i := 13) (v := ?v8) rfl (by kernel_rfl) (by kernel_rfl) (by kernel_rfl) (fun _ _ _ h => h) (Or.inl ⟨by rfl, ?y8⟩) (⟨RB, RV, RO⟩) ?r8
                case y8 =>
                  intro w_ hS_
                  go_simp
                  try with_reducible rfl
                simp only [Act.put, List.getElem_toArray, List.getElem_cons_succ, List.getElem_cons_zero, List.setIfInBounds_toArray, List.set_cons_succ, List.set_cons_zero]
                refine wpAnyH_take (i := 14) (v := ?v9) rfl (by kernel_rfl) (by kernel_rfl) (by kernel_rfl) (fun _ _ _ h => h) (Or.inl ⟨by rfl, ?y9⟩) (⟨RB, RV, RO⟩) ?r9
                case y9 =>
                  intro w_ hS_
                  go_simp
                  try with_reducible rfl
                simp only [Act.put, List.getElem_toArray, List.getElem_cons_succ, List.getElem_cons_zero, List.setIfInBounds_toArray, List.set_cons_succ, List.set_cons_zero]
                refine wpAnyH_take (i := 15) (v := ?v10) rfl (by kernel_rfl) (by kernel_rfl) (by kernel_rfl) (fun _ _ _ h => h) (Or.inl ⟨by rfl, ?y10⟩) (⟨RB, RV, RO⟩) ?r10
                case y10 =>
                  intro w_ hS_
                  go_simp
                  try with_reducible rfl
                simp only [Act.put, List.getElem_toArray, List.getElem_cons_succ, List.getElem_cons_zero, List.setIfInBounds_toArray, List.set_cons_succ, List.set_cons_zero]
                refine wpAnyH_one (k := 16) (fuel := 2) (by kernel_rfl) rfl (by kernel_rfl) (fun K_ hK_ => ?_)
                have hne0 := fun k e => (own_lt hU2 k e).2
                refine wp_world_op (.pointer (some ⟨q6.heap.size, 0, none⟩)) (q6.alloc (.cells #[.int .i64 0, .int .i64 0, .int .i64 0] 40)) (by kernel_rfl) ?_
                have hb_ : Below q6.heap.size q6 (q6.alloc (.cells #[.int .i64 0, .int .i64 0, .int .i64 0] 40)) := (Below.refl _ _).alloc (Nat.le_refl _) _
                have sz_g9 : w.heap.size ≤ q6.heap.size := hw.size
                have lt_RB_g9 := lt_of_row RB
                have lt_RV_g9 := lt_of_row RV
                have lt_RO_g9 := lt_of_row RO
                have RF := hp1_0 q6 (.cells #[.int .i64 0, .int .i64 0, .int .i64 0] 40)
                replace RB := keep hb_ RB
                replace RV := keep hb_ RV
                replace RO := keep hb_ RO
                replace hU2 := hU2.keep hb_
                replace hw := Below.after hw hb_
                clear hb_
                refine hK_ _ _ (⟨RB, RV, RO⟩) ?_
                simp only [Act.put, List.getElem_toArray, List.getElem_cons_succ, List.getElem_cons_zero, List.setIfInBounds_toArray, List.set_cons_succ, List.set_cons_zero]
                clear hK_
                generalize q6.alloc (.cells #[.int .i64 0, .int .i64 0, .int .i64 0] 40) = q8 at *
                generalize q6.heap.size = g9 at *
                have hne : ∀ k, (Value.slice ua L.length uc).ownBlock = some k → k ≠ g9 := fun k e => by have := hne0 k e; omega
                refine wpAnyH_take (i := 17) (v := ?v11) rfl (by kernel_rfl) (by kernel_rfl) (by kernel_rfl) (fun _ _ _ h => h) (Or.inl ⟨by rfl, ?y11⟩) (⟨RB, RV, RO⟩) ?r11
                case y11 =>
                  intro w_ hS_
                  go_simp
                  try with_reducible rfl
                simp only [Act.put, List.getElem_toArray, List.getElem_cons_succ, List.getElem_cons_zero, List.setIfInBounds_toArray, List.set_cons_succ, List.set_cons_zero]
                refine wpAnyH_one (k := 18) (fuel := 0) (by kernel_rfl) rfl (by kernel_rfl) (fun K_ hK_ => ?_)
                refine wp_store_row 40 _ _ rfl (g9) #[.int .i64 0, .int .i64 0, .int .i64 0] rfl rfl 40 _ RF infoFt rfl hone ?_
                replace RB := (setRow_other q8 (g9) (w.heap.size) #[.int .i64 0, .int .i64 0, .int .i64 0] (by omega)).trans RB
                replace RV := (setRow_other q8 (g9) (w.heap.size + 1) #[.int .i64 0, .int .i64 0, .int .i64 0] (by omega)).trans RV
                replace RO := (setRow_other q8 (g9) (w.heap.size + 1 + 1) #[.int .i64 0, .int .i64 0, .int .i64 0] (by omega)).trans RO
                replace hU2 : Own (q8.setRow g9 #[.int .i64 0, .int .i64 0, .int .i64 0]) w.heap.size (.slice ua L.length uc) L := own_but hU2 fun q hq => setRow_other q8 (g9) q _ (by have := hne q hq; omega)
                replace hw := below_setRow hw (show w.heap.size ≤ g9 by omega) #[.int .i64 0, .int .i64 0, .int .i64 0]
                refine hK_ _ _ (⟨RB, RV, RO⟩) ?_
                simp only [Act.put, List.getElem_toArray, List.getElem_cons_succ, List.getElem_cons_zero]
                clear hK_
                generalize q8.setRow g9 #[.int .i64 0, .int .i64 0, .int .i64 0] = q10 at *
                refine wpAnyH_done (by kernel_rfl) ?_ _
                refine NoPanic.normal ?_
                have A1 := hide hU2
                have A2 := hide hw
                clear hU2 hw RB RV RO RF hne
                go_wp2_with (fail)
                go_ret
                exact ⟨_, rfl, by rw [← hfin.out, hL.out]; exact A1.out, A2.out⟩
              · refine wp_world_op (.pointer (some ⟨q5.heap.size, 0, none⟩)) (q5.alloc (.cells #[.int .i64 0, .int .i64 0, .int .i64 0] 40)) (by kernel_rfl) ?_
                have hb_ : Below q5.heap.size q5 (q5.alloc (.cells #[.int .i64 0, .int .i64 0, .int .i64 0] 40)) := (Below.refl _ _).alloc (Nat.le_refl _) _
                have sz_g13 : w.heap.size ≤ q5.heap.size := hw.size
                have lt_RB_g13 := lt_of_row RB
                have lt_RV_g13 := lt_of_row RV
                have lt_RO_g13 := lt_of_row RO
                have RF := hp1_0 q5 (.cells #[.int .i64 0, .int .i64 0, .int .i64 0] 40)
                replace RB := keep hb_ RB
                replace RV := keep hb_ RV
                replace RO := keep hb_ RO
                replace hC := hC.keep hb_
                replace OA := OA.keep hb_
                replace OS := OS.keep hb_
                replace OD := OD.keep hb_
                replace hPs := hPs.keep hb_
                replace hw := Below.after hw hb_
                clear hb_
                refine hK_ _ _ (⟨RB, RV, RO⟩) ?_
                simp only [Act.put, List.getElem_toArray, List.getElem_cons_succ, List.getElem_cons_zero, List.setIfInBounds_toArray, List.set_cons_succ, List.set_cons_zero]
                clear hK_
                generalize q5.alloc (.cells #[.int .i64 0, .int .i64 0, .int .i64 0] 40) = q12 at *
                generalize q5.heap.size = g13 at *
                refine wpAnyH_one (k := 12) (fuel := 5) (by kernel_rfl) rfl (by kernel_rfl) (fun K_ hK_ => ?_)
                have cE := r_EncodeF bsl_flat (by decide) none 0 (.slice (some ⟨gp, 0, none⟩) 4 4) (bxr a1 c1 a2 c2 fl a3 c3) [i, s, [], p] rfl (bxr_ck _ _ _ _ _ _ _ hfl) q12 hC (bxr_prt hfl hPs) (bxr_bys li ls lp hfl OA OS OD)
                rw [bxr_fdk] at cE
                have cE2 := cE.mono (fun e w' h => (by obtain ⟨u, e1, e2, e3⟩ := h; exact ⟨_, e1, u, rfl, e2, e3⟩ : ∃ v, e = .returned v ∧ ∃ u, v = .tuple #[u, .agg #[.int .i64 0, .int .i64 0, .int .i64 0]] ∧ Own w' q12.heap.size u (eout (bfp i s p fl)) ∧ Below q12.heap.size q12 w'))
                refine wp_call_ex (R := fun v w' => ∃ u, v = .tuple #[u, .agg #[.int .i64 0, .int .i64 0, .int .i64 0]] ∧ Own w' q12.heap.size u (eout (bfp i s p fl)) ∧ Below q12.heap.size q12 w') (by kernel_rfl) cE2 (fun v_ q14 hX_ => ?_)
                obtain ⟨u, rfl, hU, hb_⟩ := hX_
                have hU2 := own_down hU hw.size
                have hne : ∀ k, u.ownBlock = some k → k ≠ g13 := fun k e => by have := own_low hU k e; have := lt_of_row RF; omega
                clear cE cE2 hC hPs OA OS OD
                replace RB := keep hb_ RB
                replace RV := keep hb_ RV
                replace RO := keep hb_ RO
                replace RF := keep hb_ RF
                replace hw := Below.after hw hb_
                clear hb_ hU
                obtain ⟨L, hL⟩ : ∃ L, (eout (bfp i s p fl)) = L := ⟨_, rfl⟩
                rw [hL] at hU2
                replace hL := hide hL
                obtain ⟨ua, uc, rfl⟩ := slen_own hU2
                refine hK_ _ _ (⟨RB, RV, RO⟩) ?_
                simp only [Act.put, List.getElem_toArray, List.getElem_cons_succ, List.getElem_cons_zero, List.setIfInBounds_toArray, List.set_cons_succ, List.set_cons_zero]
                clear hK_
                refine wpAnyH_take (i := 13) (v := ?v12) rfl (by kernel_rfl) (by kernel_rfl) (by kernel_rfl) (fun _ _ _ h => h) (Or.inl ⟨by rfl, ?y12⟩) (⟨RB, RV, RO⟩) ?r12
                case y12 =>
                  intro w_ hS_
                  go_simp
                  try with_reducible rfl
                simp only [Act.put, List.getElem_toArray, List.getElem_cons_succ, List.getElem_cons_zero, List.setIfInBounds_toArray, List.set_cons_succ, List.set_cons_zero]
                refine wpAnyH_take (i := 14) (v := ?v13) rfl (by kernel_rfl) (by kernel_rfl) (by kernel_rfl) (fun _ _ _ h => h) (Or.inl ⟨by rfl, ?y13⟩) (⟨RB, RV, RO⟩) ?r13
                case y13 =>
                  intro w_ hS_
                  go_simp
                  try with_reducible rfl
                simp only [Act.put, List.getElem_toArray, List.getElem_cons_succ, List.getElem_cons_zero, List.setIfInBounds_toArray, List.set_cons_succ, List.set_cons_zero]
                refine wpAnyH_take (i := 15) (v := ?v14) rfl (by kernel_rfl) (by kernel_rfl) (by kernel_rfl) (fun _ _ _ h => h) (Or.inl ⟨by rfl, ?y14⟩) (⟨RB, RV, RO⟩) ?r14
                case y14 =>
                  intro w_ hS_
                  go_simp
                  try with_reducible rfl
                simp only [Act.put, List.getElem_toArray, List.getElem_cons_succ, List.getElem_cons_zero, List.setIfInBounds_toArray, List.set_cons_succ, List.set_cons_zero]
                refine wpAnyH_take (i := 17) (v := ?v15) rfl (by kernel_rfl) (by kernel_rfl) (by kernel_rfl) (fun _ _ _ h => h) (Or.inl ⟨by rfl, ?y15⟩) (⟨RB, RV, RO⟩) ?r15
                case y15 =>
                  intro w_ hS_
                  go_simp
                  try with_reducible rfl
                simp only [Act.put, List.getElem_toArray, List.getElem_cons_succ, List.getElem_cons_zero, List.setIfInBounds_toArray, List.set_cons_succ, List.set_cons_zero]
                refine wpAnyH_one (k := 18) (fuel := 0) (by kernel_rfl) rfl (by kernel_rfl) (fun K_ hK_ => ?_)
                refine wp_store_row 40 _ _ rfl (g13) #[.int .i64 0, .int .i64 0, .int .i64 0] rfl rfl 40 _ RF infoFt rfl hone ?_
                replace RB := (setRow_other q14 (g13) (w.heap.size) #[.int .i64 0, .int .i64 0, .int .i64 0] (by omega)).trans RB
                replace RV := (setRow_other q14 (g13) (w.heap.size + 1) #[.int .i64 0, .int .i64 0, .int .i64 0] (by omega)).trans RV
                replace RO := (setRow_other q14 (g13) (w.heap.size + 1 + 1) #[.int .i64 0, .int .i64 0, .int .i64 0] (by omega)).trans RO
                replace hU2 : Own (q14.setRow g13 #[.int .i64 0, .int .i64 0, .int .i64 0]) w.heap.size (.slice ua L.length uc) L := own_but hU2 fun q hq => setRow_other q14 (g13) q _ (by have := hne q hq; omega)
                replace hw := below_setRow hw (show w.heap.size ≤ g13 by omega) #[.int .i64 0, .int .i64 0, .int .i64 0]
                refine hK_ _ _ (⟨RB, RV, RO⟩) ?_
                simp only [Act.put, List.getElem_toArray, List.getElem_cons_succ, List.getElem_cons_zero]
                clear hK_
                generalize q14.setRow g13 #[.int .i64 0, .int .i64 0, .int .i64 0] = q15 at *
                refine wpAnyH_done (by kernel_rfl) ?_ _
                refine NoPanic.normal ?_
                have A1 := hide hU2
                have A2 := hide hw
                clear hU2 hw RB RV RO RF hne
                go_wp2_with (fail)
                go_ret
                exact ⟨_, rfl, by rw [← hfin.out, hL.out]; exact A1.out, A2.out⟩
            · refine wp_world_op (.pointer (some ⟨q4.heap.size, 0, none⟩)) (q4.alloc (.cells #[.int .i64 0, .int .i64 0, .int .i64 0] 40)) (by kernel_rfl) ?_
              have hb_ : Below q4.heap.size q4 (q4.alloc (.cells #[.int .i64 0, .int .i64 0, .int .i64 0] 40)) := (Below.refl _ _).alloc (Nat.le_refl _) _
              have sz_g18 : w.heap.size ≤ q4.heap.size := hw.size
              have lt_RB_g18 := lt_of_row RB
              have lt_RV_g18 := lt_of_row RV
              have lt_RO_g18 := lt_of_row RO
              have RF := hp1_0 q4 (.cells #[.int .i64 0, .int .i64 0, .int .i64 0] 40)
              replace RB := keep hb_ RB
              replace RV := keep hb_ RV
              replace RO := keep hb_ RO
              replace hC := hC.keep hb_
              replace OA := OA.keep hb_
              replace OS := OS.keep hb_
              replace OD := OD.keep hb_
              replace hw := Below.after hw hb_
              clear hb_
              refine hK_ _ _ (⟨RB, RV, RO⟩) ?_
              simp only [Act.put, List.getElem_toArray, List.getElem_cons_succ, List.getElem_cons_zero, List.setIfInBounds_toArray, List.set_cons_succ, List.set_cons_zero]
              clear hK_
              generalize q4.alloc (.cells #[.int .i64 0, .int .i64 0, .int .i64 0] 40) = q17 at *
              generalize q4.heap.size = g18 at *
              refine wpAnyH_one (k := 10) (fuel := 7) (by kernel_rfl) rfl (by kernel_rfl) (fun K_ hK_ => ?_)
              refine wp_val_op (.slice (some ⟨q17.heap.size, 0, none⟩) 4 4) (w' := q17.alloc (.cells #[.int .u64 0, .slice a1 32 c1, .slice none 0 0, .int .u64 0, .slice a2 32 c2, .slice none 0 0, .int .u64 (fl : Int), .slice none 0 0, .slice none 0 0, .int .u64 0, .slice a3 32 c3, .slice none 0 0] 62)) (by kernel_rfl) ?_
              have hPs : Bx (q17.alloc (.cells #[.int .u64 0, .slice a1 32 c1, .slice none 0 0, .int .u64 0, .slice a2 32 c2, .slice none 0 0, .int .u64 (fl : Int), .slice none 0 0, .slice none 0 0, .int .u64 0, .slice a3 32 c3, .slice none 0 0] 62)) q17.heap.size #[.int .u64 0, .slice a1 32 c1, .slice none 0 0, .int .u64 0, .slice a2 32 c2, .slice none 0 0, .int .u64 (fl : Int), .slice none 0 0, .slice none 0 0, .int .u64 0, .slice a3 32 c3, .slice none 0 0] := ⟨_, hp1_0 q17 _⟩
              have hb_ : Below q17.heap.size q17 (q17.alloc (.cells #[.int .u64 0, .slice a1 32 c1, .slice none 0 0, .int .u64 0, .slice a2 32 c2, .slice none 0 0, .int .u64 (fl : Int), .slice none 0 0, .slice none 0 0, .int .u64 0, .slice a3 32 c3, .slice none 0 0] 62)) := (Below.refl _ _).alloc (Nat.le_refl _) _
              replace RB := keep hb_ RB
              replace RV := keep hb_ RV
              replace RO := keep hb_ RO
              replace RF := keep hb_ RF
              replace hC := hC.keep hb_
              replace OA := OA.keep hb_
              replace OS := OS.keep hb_
              replace OD := OD.keep hb_
              replace hw := Below.after hw hb_
              clear hb_
              refine hK_ _ _ (⟨RB, RV, RO⟩) ?_
              simp only [Act.put, List.getElem_toArray, List.getElem_cons_succ, List.getElem_cons_zero, List.setIfInBounds_toArray, List.set_cons_succ, List.set_cons_zero]
              clear hK_
              generalize q17.alloc (.cells #[.int .u64 0, .slice a1 32 c1, .slice none 0 0, .int .u64 0, .slice a2 32 c2, .slice none 0 0, .int .u64 (fl : Int), .slice none 0 0, .slice none 0 0, .int .u64 0, .slice a3 32 c3, .slice none 0 0] 62) = q19 at *
              generalize q17.heap.size = gp at *
              refine wpAnyH_take (i := 11) (v := .agg #[.int .u64 0, .slice none 0 0, .slice (some ⟨gp, 0, none⟩) 4 4]) rfl (by kernel_rfl) (by kernel_rfl) (by kernel_rfl) (fun _ _ _ h => h) (Or.inl ⟨by rfl, ?y16⟩) (⟨RB, RV, RO⟩) ?r16
              case y16 =>
                intro w_ hS_
                go_simp
                try with_reducible rfl
              simp only [Act.put, List.getElem_toArray, List.getElem_cons_succ, List.getElem_cons_zero, List.setIfInBounds_toArray, List.set_cons_succ, List.set_cons_zero]
              refine wpAnyH_one (k := 12) (fuel := 5) (by kernel_rfl) rfl (by kernel_rfl) (fun K_ hK_ => ?_)
              have cE := r_EncodeF bsl_flat (by decide) none 0 (.slice (some ⟨gp, 0, none⟩) 4 4) (bxr a1 c1 a2 c2 fl a3 c3) [i, s, [], p] rfl (bxr_ck _ _ _ _ _ _ _ hfl) q19 hC (bxr_prt hfl hPs) (bxr_bys li ls lp hfl OA OS OD)
              rw [bxr_fdk] at cE
              have cE2 := cE.mono (fun e w' h => (by obtain ⟨u, e1, e2, e3⟩ := h; exact ⟨_, e1, u, rfl, e2, e3⟩ : ∃ v, e = .returned v ∧ ∃ u, v = .tuple #[u, .agg #[.int .i64 0, .int .i64 0, .int .i64 0]] ∧ Own w' q19.heap.size u (eout (bfp i s p fl)) ∧ Below q19.heap.size q19 w'))
              refine wp_call_ex (R := fun v w' => ∃ u, v = .tuple #[u, .agg #[.int .i64 0, .int .i64 0, .int .i64 0]] ∧ Own w' q19.heap.size u (eout (bfp i s p fl)) ∧ Below q19.heap.size q19 w') (by kernel_rfl) cE2 (fun v_ q20 hX_ => ?_)
              obtain ⟨u, rfl, hU, hb_⟩ := hX_
              have hU2 := own_down hU hw.size
              have hne : ∀ k, u.ownBlock = some k → k ≠ g18 := fun k e => by have := own_low hU k e; have := lt_of_row RF; omega
              clear cE cE2 hC hPs OA OS OD
              replace RB := keep hb_ RB
              replace RV := keep hb_ RV
              replace RO := keep hb_ RO
              replace RF := keep hb_ RF
              replace hw := Below.after hw hb_
              clear hb_ hU
              obtain ⟨L, hL⟩ : ∃ L, (eout (bfp i s p fl)) = L := ⟨_, rfl⟩
              rw [hL] at hU2
              replace hL := hide hL
              obtain ⟨ua, uc, rfl⟩ := slen_own hU2
              refine hK_ _ _ (⟨RB, RV, RO⟩) ?_
              simp only [Act.put, List.getElem_toArray, List.getElem_cons_succ, List.getElem_cons_zero, List.setIfInBounds_toArray, List.set_cons_succ, List.set_cons_zero]
              clear hK_
              refine wpAnyH_take (i := 13) (v := ?v17) rfl (by kernel_rfl) (by kernel_rfl) (by kernel_rfl) (fun _ _ _ h => h) (Or.inl ⟨by rfl, ?y17⟩) (⟨RB, RV, RO⟩) ?r17
              case y17 =>
                intro w_ hS_
                go_simp
                try with_reducible rfl
              simp only [Act.put, List.getElem_toArray, List.getElem_cons_succ, List.getElem_cons_zero, List.setIfInBounds_toArray, List.set_cons_succ, List.set_cons_zero]
              refine wpAnyH_take (i := 14) (v := ?v18) rfl (by kernel_rfl) (by kernel_rfl) (by kernel_rfl) (fun _ _ _ h => h) (Or.inl ⟨by rfl, ?y18⟩) (⟨RB, RV, RO⟩) ?r18
              case y18 =>
                intro w_ hS_
                go_simp
                try with_reducible rfl
              simp only [Act.put, List.getElem_toArray, List.getElem_cons_succ, List.getElem_cons_zero, List.setIfInBounds_toArray, List.set_cons_succ, List.set_cons_zero]
              refine wpAnyH_take (i := 15) (v := ?v19) rfl (by kernel_rfl) (by kernel_rfl) (by kernel_rfl) (fun _ _ _ h => h) (Or.inl ⟨by rfl, ?y19⟩) (⟨RB, RV, RO⟩) ?r19
              case y19 =>
                intro w_ hS_
                go_simp
                try with_reducible rfl
              simp only [Act.put, List.getElem_toArray, List.getElem_cons_succ, List.getElem_cons_zero, List.setIfInBounds_toArray, List.set_cons_succ, List.set_cons_zero]
              refine wpAnyH_take (i := 17) (v := ?v20) rfl (by kernel_rfl) (by kernel_rfl) (by kernel_rfl) (fun _ _ _ h => h) (Or.inl ⟨by rfl, ?y20⟩) (⟨RB, RV, RO⟩) ?r20
              case y20 =>
                intro w_ hS_
                go_simp
                try with_reducible rfl
              simp only [Act.put, List.getElem_toArray, List.getElem_cons_succ, List.getElem_cons_zero, List.setIfInBounds_toArray, List.set_cons_succ, List.set_cons_zero]
              refine wpAnyH_one (k := 18) (fuel := 0) (by kernel_rfl) rfl (by kernel_rfl) (fun K_ hK_ => ?_)
              refine wp_store_row 40 _ _ rfl (g18) #[.int .i64 0, .int .i64 0, .int .i64 0] rfl rfl 40 _ RF infoFt rfl hone ?_
              replace RB := (setRow_other q20 (g18) (w.heap.size) #[.int .i64 0, .int .i64 0, .int .i64 0] (by omega)).trans RB
              replace RV := (setRow_other q20 (g18) (w.heap.size + 1) #[.int .i64 0, .int .i64 0, .int .i64 0] (by omega)).trans RV
              replace RO := (setRow_other q20 (g18) (w.heap.size + 1 + 1) #[.int .i64 0, .int .i64 0, .int .i64 0] (by omega)).trans RO
              replace hU2 : Own (q20.setRow g18 #[.int .i64 0, .int .i64 0, .int .i64 0]) w.heap.size (.slice ua L.length uc) L := own_but hU2 fun q hq => setRow_other q20 (g18) q _ (by have := hne q hq; omega)
              replace hw := below_setRow hw (show w.heap.size ≤ g18 by omega) #[.int .i64 0, .int .i64 0, .int .i64 0]
              refine hK_ _ _ (⟨RB, RV, RO⟩) ?_
              simp only [Act.put, List.getElem_toArray, List.getElem_cons_succ, List.getElem_cons_zero]
              clear hK_
              generalize q20.setRow g18 #[.int .i64 0, .int .i64 0, .int .i64 0] = q21 at *
              refine wpAnyH_done (by kernel_rfl) ?_ _
              refine NoPanic.normal ?_
              have A1 := hide hU2
              have A2 := hide hw
              clear hU2 hw RB RV RO RF hne
              go_wp2_with (fail)
              go_ret
              exact ⟨_, rfl, by rw [← hfin.out, hL.out]; exact A1.out, A2.out⟩
          · refine wp_world_op (.pointer (some ⟨q3.heap.size, 0, none⟩)) (q3.alloc (.cells #[.int .i64 0, .int .i64 0, .int .i64 0] 40)) (by kernel_rfl) ?_
            have hb_ : Below q3.heap.size q3 (q3.alloc (.cells #[.int .i64 0, .int .i64 0, .int .i64 0] 40)) := (Below.refl _ _).alloc (Nat.le_refl _) _
            have sz_g24 : w.heap.size ≤ q3.heap.size := hw.size
            have lt_RB_g24 := lt_of_row RB
            have lt_RV_g24 := lt_of_row RV
            have lt_RO_g24 := lt_of_row RO
            have RF := hp1_0 q3 (.cells #[.int .i64 0, .int .i64 0, .int .i64 0] 40)
            replace RB := keep hb_ RB
            replace RV := keep hb_ RV
            replace RO := keep hb_ RO
            replace hC := hC.keep hb_
            replace OA := OA.keep hb_
            replace OS := OS.keep hb_
            replace hw := Below.after hw hb_
            clear hb_
            refine hK_ _ _ (⟨RB, RV, RO⟩) ?_
            simp only [Act.put, List.getElem_toArray, List.getElem_cons_succ, List.getElem_cons_zero, List.setIfInBounds_toArray, List.set_cons_succ, List.set_cons_zero]
            clear hK_
            generalize q3.alloc (.cells #[.int .i64 0, .int .i64 0, .int .i64 0] 40) = q23 at *
            generalize q3.heap.size = g24 at *
            refine wpAnyH_one (k := 9) (fuel := 8) (by kernel_rfl) rfl (by kernel_rfl) (fun K_ hK_ => ?_)
            refine wp_call_ex (f := 41) (by kernel_rfl) (r_bytes14 p lp q23) (fun v_ q25 hX_ => ?_)
            obtain ⟨⟨a3, c3, rfl, OD⟩, hb_⟩ := hX_
            replace RB := keep hb_ RB
            replace RV := keep hb_ RV
            replace RO := keep hb_ RO
            replace RF := keep hb_ RF
            replace hC := hC.keep hb_
            replace OA := OA.keep hb_
            replace OS := OS.keep hb_
            replace hw := Below.after hw hb_
            clear hb_
            refine hK_ _ _ (⟨RB, RV, RO⟩) ?_
            simp only [Act.put, List.getElem_toArray, List.getElem_cons_succ, List.getElem_cons_zero, List.setIfInBounds_toArray, List.set_cons_succ, List.set_cons_zero]
            clear hK_
            refine wpAnyH_one (k := 10) (fuel := 7) (by kernel_rfl) rfl (by kernel_rfl) (fun K_ hK_ => ?_)
            refine wp_val_op (.slice (some ⟨q25.heap.size, 0, none⟩) 4 4) (w' := q25.alloc (.cells #[.int .u64 0, .slice a1 32 c1, .slice none 0 0, .int .u64 0, .slice a2 32 c2, .slice none 0 0, .int .u64 (fl : Int), .slice none 0 0, .slice none 0 0, .int .u64 0, .slice a3 32 c3, .slice none 0 0] 62)) (by kernel_rfl) ?_
            have hPs : Bx (q25.alloc (.cells #[.int .u64 0, .slice a1 32 c1, .slice none 0 0, .int .u64 0, .slice a2 32 c2, .slice none 0 0, .int .u64 (fl : Int), .slice none 0 0, .slice none 0 0, .int .u64 0, .slice a3 32 c3, .slice none 0 0] 62)) q25.heap.size #[.int .u64 0, .slice a1 32 c1, .slice none 0 0, .int .u64 0, .slice a2 32 c2, .slice none 0 0, .int .u64 (fl : Int), .slice none 0 0, .slice none 0 0, .int .u64 0, .slice a3 32 c3, .slice none 0 0] := ⟨_, hp1_0 q25 _⟩
            have hb_ : Below q25.heap.size q25 (q25.alloc (.cells #[.int .u64 0, .slice a1 32 c1, .slice none 0 0, .int .u64 0, .slice a2 32 c2, .slice none 0 0, .int .u64 (fl : Int), .slice none 0 0, .slice none 0 0, .int .u64 0, .slice a3 32 c3, .slice none 0 0] 62)) := (Below.refl _ _).alloc (Nat.le_refl _) _
            replace RB := keep hb_ RB
            replace RV := keep hb_ RV
            replace RO := keep hb_ RO
            replace RF := keep hb_ RF
            replace hC := hC.keep hb_
            replace OA := OA.keep hb_
            replace OS := OS.keep hb_
            replace OD := OD.keep hb_
            replace hw := Below.after hw hb_
            clear hb_
            refine hK_ _ _ (⟨RB, RV, RO⟩) ?_
            simp only [Act.put, List.getElem_toArray, List.getElem_cons_succ, List.getElem_cons_zero, List.setIfInBounds_toArray, List.set_cons_succ, List.set_cons_zero]
            clear hK_
            generalize q25.alloc (.cells #[.int .u64 0, .slice a1 32 c1, .slice none 0 0, .int .u64 0, .slice a2 32 c2, .slice none 0 0, .int .u64 (fl : Int), .slice none 0 0, .slice none 0 0, .int .u64 0, .slice a3 32 c3, .slice none 0 0] 62) = q26 at *
            generalize q25.heap.size = gp at *
            refine wpAnyH_take (i := 11) (v := .agg #[.int .u64 0, .slice none 0 0, .slice (some ⟨gp, 0, none⟩) 4 4]) rfl (by kernel_rfl) (by kernel_rfl) (by kernel_rfl) (fun _ _ _ h => h) (Or.inl ⟨by rfl, ?y21⟩) (⟨RB, RV, RO⟩) ?r21
            case y21 =>
              intro w_ hS_
              go_simp
              try with_reducible rfl
            simp only [Act.put, List.getElem_toArray, List.getElem_cons_succ, List.getElem_cons_zero, List.setIfInBounds_toArray, List.set_cons_succ, List.set_cons_zero]
            refine wpAnyH_one (k := 12) (fuel := 5) (by kernel_rfl) rfl (by kernel_rfl) (fun K_ hK_ => ?_)
            have cE := r_EncodeF bsl_flat (by decide) none 0 (.slice (some ⟨gp, 0, none⟩) 4 4) (bxr a1 c1 a2 c2 fl a3 c3) [i, s, [], p] rfl (bxr_ck _ _ _ _ _ _ _ hfl) q26 hC (bxr_prt hfl hPs) (bxr_bys li ls lp hfl OA OS OD)
            rw [bxr_fdk] at cE
            have cE2 := cE.mono (fun e w' h => (by obtain ⟨u, e1, e2, e3⟩ := h; exact ⟨_, e1, u, rfl, e2, e3⟩ : ∃ v, e = .returned v ∧ ∃ u, v = .tuple #[u, .agg #[.int .i64 0, .int .i64 0, .int .i64 0]] ∧ Own w' q26.heap.size u (eout (bfp i s p fl)) ∧ Below q26.heap.size q26 w'))
            refine wp_call_ex (R := fun v w' => ∃ u, v = .tuple #[u, .agg #[.int .i64 0, .int .i64 0, .int .i64 0]] ∧ Own w' q26.heap.size u (eout (bfp i s p fl)) ∧ Below q26.heap.size q26 w') (by kernel_rfl) cE2 (fun v_ q27 hX_ => ?_)
            obtain ⟨u, rfl, hU, hb_⟩ := hX_
            have hU2 := own_down hU hw.size
            have hne : ∀ k, u.ownBlock = some k → k ≠ g24 := fun k e => by have := own_low hU k e; have := lt_of_row RF; omega
            clear cE cE2 hC hPs OA OS OD
            replace RB := keep hb_ RB
            replace RV := keep hb_ RV
            replace RO := keep hb_ RO
            replace RF := keep hb_ RF
            replace hw := Below.after hw hb_
            clear hb_ hU
            obtain ⟨L, hL⟩ : ∃ L, (eout (bfp i s p fl)) = L := ⟨_, rfl⟩
            rw [hL] at hU2
            replace hL := hide hL
            obtain ⟨ua, uc, rfl⟩ := slen_own hU2
            refine hK_ _ _ (⟨RB, RV, RO⟩) ?_
            simp only [Act.put, List.getElem_toArray, List.getElem_cons_succ, List.getElem_cons_zero, List.setIfInBounds_toArray, List.set_cons_succ, List.set_cons_zero]
            clear hK_
            refine wpAnyH_take (i := 13) (v := ?v22) rfl (by kernel_rfl) (by kernel_rfl) (by kernel_rfl) (fun _ _ _ h => h) (Or.inl ⟨by rfl, ?y22⟩) (⟨RB, RV, RO⟩) ?r22
            case y22 =>
              intro w_ hS_
              go_simp
              try with_reducible rfl
            simp only [Act.put, List.getElem_toArray, List.getElem_cons_succ, List.getElem_cons_zero, List.setIfInBounds_toArray, List.set_cons_succ, List.set_cons_zero]
            refine wpAnyH_take (i := 14) (v := ?v23) rfl (by kernel_rfl) (by kernel_rfl) (by kernel_rfl) (fun _ _ _ h => h) (Or.inl ⟨by rfl, ?y23⟩) (⟨RB, RV, RO⟩) ?r23
            case y23 =>
              intro w_ hS_
              go_simp
              try with_reducible rfl
            simp only [Act.put, List.getElem_toArray, List.getElem_cons_succ, List.getElem_cons_zero, List.setIfInBounds_toArray, List.set_cons_succ, List.set_cons_zero]
            refine wpAnyH_take (i := 15) (v := ?v24) rfl (by kernel_rfl) (by kernel_rfl) (by kernel_rfl) (fun _ _ _ h => h) (Or.inl ⟨by rfl, ?y24⟩) (⟨RB, RV, RO⟩) ?r24
            case y24 =>
              intro w_ hS_
              go_simp
              try with_reducible rfl
            simp only [Act.put, List.getElem_toArray, List.getElem_cons_succ, List.getElem_cons_zero, List.setIfInBounds_toArray, List.set_cons_succ, List.set_cons_zero]
            refine wpAnyH_take (i := 17) (v := ?v25) rfl (by kernel_rfl) (by kernel_rfl) (by kernel_rfl) (fun _ _ _ h => h) (Or.inl ⟨by rfl, ?y25⟩) (⟨RB, RV, RO⟩) ?r25
            case y25 =>
              intro w_ hS_
              go_simp
              try with_reducible rfl
            simp only [Act.put, List.getElem_toArray, List.getElem_cons_succ, List.getElem_cons_zero, List.setIfInBounds_toArray, List.set_cons_succ, List.set_cons_zero]
            refine wpAnyH_one (k := 18) (fuel := 0) (by kernel_rfl) rfl (by kernel_rfl) (fun K_ hK_ => ?_)
            refine wp_store_row 40 _ _ rfl (g24) #[.int .i64 0, .int .i64 0, .int .i64 0] rfl rfl 40 _ RF infoFt rfl hone ?_
            replace RB := (setRow_other q27 (g24) (w.heap.size) #[.int .i64 0, .int .i64 0, .int .i64 0] (by omega)).trans RB
            replace RV := (setRow_other q27 (g24) (w.heap.size + 1) #[.int .i64 0, .int .i64 0, .int .i64 0] (by omega)).trans RV
            replace RO := (setRow_other q27 (g24) (w.heap.size + 1 + 1) #[.int .i64 0, .int .i64 0, .int .i64 0] (by omega)).trans RO
            replace hU2 : Own (q27.setRow g24 #[.int .i64 0, .int .i64 0, .int .i64 0]) w.heap.size (.slice ua L.length uc) L := own_but hU2 fun q hq => setRow_other q27 (g24) q _ (by have := hne q hq; omega)
            replace hw := below_setRow hw (show w.heap.size ≤ g24 by omega) #[.int .i64 0, .int .i64 0, .int .i64 0]
            refine hK_ _ _ (⟨RB, RV, RO⟩) ?_
            simp only [Act.put, List.getElem_toArray, List.getElem_cons_succ, List.getElem_cons_zero]
            clear hK_
            generalize q27.setRow g24 #[.int .i64 0, .int .i64 0, .int .i64 0] = q28 at *
            refine wpAnyH_done (by kernel_rfl) ?_ _
            refine NoPanic.normal ?_
            have A1 := hide hU2
            have A2 := hide hw
            clear hU2 hw RB RV RO RF hne
            go_wp2_with (fail)
            go_ret
            exact ⟨_, rfl, by rw [← hfin.out, hL.out]; exact A1.out, A2.out⟩
        · refine wp_world_op (.pointer (some ⟨q2.heap.size, 0, none⟩)) (q2.alloc (.cells #[.int .i64 0, .int .i64 0, .int .i64 0] 40)) (by kernel_rfl) ?_
          have hb_ : Below q2.heap.size q2 (q2.alloc (.cells #[.int .i64 0, .int .i64 0, .int .i64 0] 40)) := (Below.refl _ _).alloc (Nat.le_refl _) _
          have sz_g31 : w.heap.size ≤ q2.heap.size := hw.size
          have lt_RB_g31 := lt_of_row RB
          have lt_RV_g31 := lt_of_row RV
          have lt_RO_g31 := lt_of_row RO
          have RF := hp1_0 q2 (.cells #[.int .i64 0, .int .i64 0, .int .i64 0] 40)
          replace RB := keep hb_ RB
          replace RV := keep hb_ RV
          replace RO := keep hb_ RO
          replace hC := hC.keep hb_
          replace OA := OA.keep hb_
          replace hw := Below.after hw hb_
          clear hb_
          refine hK_ _ _ (⟨RB, RV, RO⟩) ?_
          simp only [Act.put, List.getElem_toArray, List.getElem_cons_succ, List.getElem_cons_zero, List.setIfInBounds_toArray, List.set_cons_succ, List.set_cons_zero]
          clear hK_
          generalize q2.alloc (.cells #[.int .i64 0, .int .i64 0, .int .i64 0] 40) = q30 at *
          generalize q2.heap.size = g31 at *
          refine wpAnyH_one (k := 6) (fuel := 9) (by kernel_rfl) rfl (by kernel_rfl) (fun K_ hK_ => ?_)
          refine wp_call_ex (f := 41) (by kernel_rfl) (r_bytes14 s ls q30) (fun v_ q32 hX_ => ?_)
          obtain ⟨⟨a2, c2, rfl, OS⟩, hb_⟩ := hX_
          replace RB := keep hb_ RB
          replace RV := keep hb_ RV
          replace RO := keep hb_ RO
          replace RF := keep hb_ RF
          replace hC := hC.keep hb_
          replace OA := OA.keep hb_
          replace hw := Below.after hw hb_
          clear hb_
          refine hK_ _ _ (⟨RB, RV, RO⟩) ?_
          simp only [Act.put, List.getElem_toArray, List.getElem_cons_succ, List.getElem_cons_zero, List.setIfInBounds_toArray, List.set_cons_succ, List.set_cons_zero]
          clear hK_
          refine wpAnyH_one (k := 9) (fuel := 8) (by kernel_rfl) rfl (by kernel_rfl) (fun K_ hK_ => ?_)
          refine wp_call_ex (f := 41) (by kernel_rfl) (r_bytes14 p lp q32) (fun v_ q33 hX_ => ?_)
          obtain ⟨⟨a3, c3, rfl, OD⟩, hb_⟩ := hX_
          replace RB := keep hb_ RB
          replace RV := keep hb_ RV
          replace RO := keep hb_ RO
          replace RF := keep hb_ RF
          replace hC := hC.keep hb_
          replace OA := OA.keep hb_
          replace OS := OS.keep hb_
          replace hw := Below.after hw hb_
          clear hb_
          refine hK_ _ _ (⟨RB, RV, RO⟩) ?_
          simp only [Act.put, List.getElem_toArray, List.getElem_cons_succ, List.getElem_cons_zero, List.setIfInBounds_toArray, List.set_cons_succ, List.set_cons_zero]
          clear hK_
          refine wpAnyH_one (k := 10) (fuel := 7) (by kernel_rfl) rfl (by kernel_rfl) (fun K_ hK_ => ?_)
          refine wp_val_op (.slice (some ⟨q33.heap.size, 0, none⟩) 4 4) (w' := q33.alloc (.cells #[.int .u64 0, .slice a1 32 c1, .slice none 0 0, .int .u64 0, .slice a2 32 c2, .slice none 0 0, .int .u64 (fl : Int), .slice none 0 0, .slice none 0 0, .int .u64 0, .slice a3 32 c3, .slice none 0 0] 62)) (by kernel_rfl) ?_
          have hPs : Bx (q33.alloc (.cells #[.int .u64 0, .slice a1 32 c1, .slice none 0 0, .int .u64 0, .slice a2 32 c2, .slice none 0 0, .int .u64 (fl : Int), .slice none 0 0, .slice none 0 0, .int .u64 0, .slice a3 32 c3, .slice none 0 0] 62)) q33.heap.size #[.int .u64 0, .slice a1 32 c1, .slice none 0 0, .int .u64 0, .slice a2 32 c2, .slice none 0 0, .int .u64 (fl : Int), .slice none 0 0, .slice none 0 0, .int .u64 0, .slice a3 32 c3, .slice none 0 0] := ⟨_, hp1_0 q33 _⟩
          have hb_ : Below q33.heap.size q33 (q33.alloc (.cells #[.int .u64 0, .slice a1 32 c1, .slice none 0 0, .int .u64 0, .slice a2 32 c2, .slice none 0 0, .int .u64 (fl : Int), .slice none 0 0, .slice none 0 0, .int .u64 0, .slice a3 32 c3, .slice none 0 0] 62)) := (Below.refl _ _).alloc (Nat.le_refl _) _
          replace RB := keep hb_ RB
          replace RV := keep hb_ RV
          replace RO := keep hb_ RO
          replace RF := keep hb_ RF
          replace hC := hC.keep hb_
          replace OA := OA.keep hb_
          replace OS := OS.keep hb_
          replace OD := OD.keep hb_
          replace hw := Below.after hw hb_
          clear hb_
          refine hK_ _ _ (⟨RB, RV, RO⟩) ?_
          simp only [Act.put, List.getElem_toArray, List.getElem_cons_succ, List.getElem_cons_zero, List.setIfInBounds_toArray, List.set_cons_succ, List.set_cons_zero]
          clear hK_
          generalize q33.alloc (.cells #[.int .u64 0, .slice a1 32 c1, .slice none 0 0, .int .u64 0, .slice a2 32 c2, .slice none 0 0, .int .u64 (fl : Int), .slice none 0 0, .slice none 0 0, .int .u64 0, .slice a3 32 c3, .slice none 0 0] 62) = q34 at *
          generalize q33.heap.size = gp at *
          refine wpAnyH_take (i := 11) (v := .agg #[.int .u64 0, .slice none 0 0, .slice (some ⟨gp, 0, none⟩) 4 4]) rfl (by kernel_rfl) (by kernel_rfl) (by kernel_rfl) (fun _ _ _ h => h) (Or.inl ⟨by rfl, ?y26⟩) (⟨RB, RV, RO⟩) ?r26
          case y26 =>
            intro w_ hS_
            go_simp
            try with_reducible rfl
          simp only [Act.put, List.getElem_toArray, List.getElem_cons_succ, List.getElem_cons_zero, List.setIfInBounds_toArray, List.set_cons_succ, List.set_cons_zero]
          refine wpAnyH_one (k := 12) (fuel := 5) (by kernel_rfl) rfl (by kernel_rfl) (fun K_ hK_ => ?_)
          have cE := r_EncodeF bsl_flat (by decide) none 0 (.slice (some ⟨gp, 0, none⟩) 4 4) (bxr a1 c1 a2 c2 fl a3 c3) [i, s, [], p] rfl (bxr_ck _ _ _ _ _ _ _ hfl) q34 hC (bxr_prt hfl hPs) (bxr_bys li ls lp hfl OA OS OD)
          rw [bxr_fdk] at cE
          have cE2 := cE.mono (fun e w' h => (by obtain ⟨u, e1, e2, e3⟩ := h; exact ⟨_, e1, u, rfl, e2, e3⟩ : ∃ v, e = .returned v ∧ ∃ u, v = .tuple #[u, .agg #[.int .i64 0, .int .i64 0, .int .i64 0]] ∧ Own w' q34.heap.size u (eout (bfp i s p fl)) ∧ Below q34.heap.size q34 w'))
          refine wp_call_ex (R := fun v w' => ∃ u, v = .tuple #[u, .agg #[.int .i64 0, .int .i64 0, .int .i64 0]] ∧ Own w' q34.heap.size u (eout (bfp i s p fl)) ∧ Below q34.heap.size q34 w') (by kernel_rfl) cE2 (fun v_ q35 hX_ => ?_)
          obtain ⟨u, rfl, hU, hb_⟩ := hX_
          have hU2 := own_down hU hw.size
          have hne : ∀ k, u.ownBlock = some k → k ≠ g31 := fun k e => by have := own_low hU k e; have := lt_of_row RF; omega
          clear cE cE2 hC hPs OA OS OD
          replace RB := keep hb_ RB
          replace RV := keep hb_ RV
          replace RO := keep hb_ RO
          replace RF := keep hb_ RF
          replace hw := Below.after hw hb_
          clear hb_ hU
          obtain ⟨L, hL⟩ : ∃ L, (eout (bfp i s p fl)) = L := ⟨_, rfl⟩
          rw [hL] at hU2
          replace hL := hide hL
          obtain ⟨ua, uc, rfl⟩ := slen_own hU2
          refine hK_ _ _ (⟨RB, RV, RO⟩) ?_
          simp only [Act.put, List.getElem_toArray, List.getElem_cons_succ, List.getElem_cons_zero, List.setIfInBounds_toArray, List.set_cons_succ, List.set_cons_zero]
          clear hK_
          refine wpAnyH_take (i := 13) (v := ?v27) rfl (by kernel_rfl) (by kernel_rfl) (by kernel_rfl) (fun _ _ _ h => h) (Or.inl ⟨by rfl, ?y27⟩) (⟨RB, RV, RO⟩) ?r27
          case y27 =>
            intro w_ hS_
            go_simp
            try with_reducible rfl
          simp only [Act.put, List.getElem_toArray, List.getElem_cons_succ, List.getElem_cons_zero, List.setIfInBounds_toArray, List.set_cons_succ, List.set_cons_zero]
          refine wpAnyH_take (i := 14) (v := ?v28) rfl (by kernel_rfl) (by kernel_rfl) (by kernel_rfl) (fun _ _ _ h => h) (Or.inl ⟨by rfl, ?y28⟩) (⟨RB, RV, RO⟩) ?r28
          case y28 =>
            intro w_ hS_
            go_simp
            try with_reducible rfl
          simp only [Act.put, List.getElem_toArray, List.getElem_cons_succ, List.getElem_cons_zero, List.setIfInBounds_toArray, List.set_cons_succ, List.set_cons_zero]
          refine wpAnyH_take (i := 15) (v := ?v29) rfl (by kernel_rfl) (by kernel_rfl) (by kernel_rfl) (fun _ _ _ h => h) (Or.inl ⟨by rfl, ?y29⟩) (⟨RB, RV, RO⟩) ?r29
          case y29 =>
            intro w_ hS_
            go_simp
            try with_reducible rfl
          simp only [Act.put, List.getElem_toArray, List.getElem_cons_succ, List.getElem_cons_zero, List.setIfInBounds_toArray, List.set_cons_succ, List.set_cons_zero]
          refine wpAnyH_take (i := 17) (v := ?v30) rfl (by kernel_rfl) (by kernel_rfl) (by kernel_rfl) (fun _ _ _ h => h) (Or.inl ⟨by rfl, ?y30⟩) (⟨RB, RV, RO⟩) ?r30
          case y30 =>
            intro w_ hS_
            go_simp
            try with_reducible rfl
          simp only [Act.put, List.getElem_toArray, List.getElem_cons_succ, List.getElem_cons_zero, List.setIfInBounds_toArray, List.set_cons_succ, List.set_cons_zero]
          refine wpAnyH_one (k := 18) (fuel := 0) (by kernel_rfl) rfl (by kernel_rfl) (fun K_ hK_ => ?_)
          refine wp_store_row 40 _ _ rfl (g31) #[.int .i64 0, .int .i64 0, .int .i64 0] rfl rfl 40 _ RF infoFt rfl hone ?_
          replace RB := (setRow_other q35 (g31) (w.heap.size) #[.int .i64 0, .int .i64 0, .int .i64 0] (by omega)).trans RB
          replace RV := (setRow_other q35 (g31) (w.heap.size + 1) #[.int .i64 0, .int .i64 0, .int .i64 0] (by omega)).trans RV
          replace RO := (setRow_other q35 (g31) (w.heap.size + 1 + 1) #[.int .i64 0, .int .i64 0, .int .i64 0] (by omega)).trans RO
          replace hU2 : Own (q35.setRow g31 #[.int .i64 0, .int .i64 0, .int .i64 0]) w.heap.size (.slice ua L.length uc) L := own_but hU2 fun q hq => setRow_other q35 (g31) q _ (by have := hne q hq; omega)
          replace hw := below_setRow hw (show w.heap.size ≤ g31 by omega) #[.int .i64 0, .int .i64 0, .int .i64 0]
          refine hK_ _ _ (⟨RB, RV, RO⟩) ?_
          simp only [Act.put, List.getElem_toArray, List.getElem_cons_succ, List.getElem_cons_zero]
          clear hK_
          generalize q35.setRow g31 #[.int .i64 0, .int .i64 0, .int .i64 0] = q36 at *
          refine wpAnyH_done (by kernel_rfl) ?_ _
          refine NoPanic.normal ?_
          have A1 := hide hU2
          have A2 := hide hw
          clear hU2 hw RB RV RO RF hne
          go_wp2_with (fail)
          go_ret
          exact ⟨_, rfl, by rw [← hfin.out, hL.out]; exact A1.out, A2.out⟩
      · refine wp_world_op (.pointer (some ⟨q1.heap.size, 0, none⟩)) (q1.alloc (.cells #[.int .i64 0, .int .i64 0, .int .i64 0] 40)) (by kernel_rfl) ?_
        have hb_ : Below q1.heap.size q1 (q1.alloc (.cells #[.int .i64 0, .int .i64 0, .int .i64 0] 40)) := (Below.refl _ _).alloc (Nat.le_refl _) _
        have sz_g39 : w.heap.size ≤ q1.heap.size := hw.size
        have lt_RB_g39 := lt_of_row RB
        have lt_RV_g39 := lt_of_row RV
        have lt_RO_g39 := lt_of_row RO
        have RF := hp1_0 q1 (.cells #[.int .i64 0, .int .i64 0, .int .i64 0] 40)
        replace RB := keep hb_ RB
        replace RV := keep hb_ RV
        replace RO := keep hb_ RO
        replace hC := hC.keep hb_
        replace hw := Below.after hw hb_
        clear hb_
        refine hK_ _ _ (⟨RB, RV, RO⟩) ?_
        simp only [Act.put, List.getElem_toArray, List.getElem_cons_succ, List.getElem_cons_zero, List.setIfInBounds_toArray, List.set_cons_succ, List.set_cons_zero]
        clear hK_
        generalize q1.alloc (.cells #[.int .i64 0, .int .i64 0, .int .i64 0] 40) = q38 at *
        generalize q1.heap.size = g39 at *
        refine wpAnyH_one (k := 3) (fuel := 10) (by kernel_rfl) rfl (by kernel_rfl) (fun K_ hK_ => ?_)
        refine wp_call_ex (f := 41) (by kernel_rfl) (r_bytes14 i li q38) (fun v_ q40 hX_ => ?_)
        obtain ⟨⟨a1, c1, rfl, OA⟩, hb_⟩ := hX_
        replace RB := keep hb_ RB
        replace RV := keep hb_ RV
        replace RO := keep hb_ RO
        replace RF := keep hb_ RF
        replace hC := hC.keep hb_
        replace hw := Below.after hw hb_
        clear hb_
        refine hK_ _ _ (⟨RB, RV, RO⟩) ?_
        simp only [Act.put, List.getElem_toArray, List.getElem_cons_succ, List.getElem_cons_zero, List.setIfInBounds_toArray, List.set_cons_succ, List.set_cons_zero]
        clear hK_
        refine wpAnyH_one (k := 6) (fuel := 9) (by kernel_rfl) rfl (by kernel_rfl) (fun K_ hK_ => ?_)
        refine wp_call_ex (f := 41) (by kernel_rfl) (r_bytes14 s ls q40) (fun v_ q41 hX_ => ?_)
        obtain ⟨⟨a2, c2, rfl, OS⟩, hb_⟩ := hX_
        replace RB := keep hb_ RB
        replace RV := keep hb_ RV
        replace RO := keep hb_ RO
        replace RF := keep hb_ RF
        replace hC := hC.keep hb_
        replace OA := OA.keep hb_
        replace hw := Below.after hw hb_
        clear hb_
        refine hK_ _ _ (⟨RB, RV, RO⟩) ?_
        simp only [Act.put, List.getElem_toArray, List.getElem_cons_succ, List.getElem_cons_zero, List.setIfInBounds_toArray, List.set_cons_succ, List.set_cons_zero]
        clear hK_
        refine wpAnyH_one (k := 9) (fuel := 8) (by kernel_rfl) rfl (by kernel_rfl) (fun K_ hK_ => ?_)
        refine wp_call_ex (f := 41) (by kernel_rfl) (r_bytes14 p lp q41) (fun v_ q42 hX_ => ?_)
        obtain ⟨⟨a3, c3, rfl, OD⟩, hb_⟩ := hX_
        replace RB := keep hb_ RB
        replace RV := keep hb_ RV
        replace RO := keep hb_ RO
        replace RF := keep hb_ RF
        replace hC := hC.keep hb_
        replace OA := OA.keep hb_
        replace OS := OS.keep hb_
        replace hw := Below.after hw hb_
        clear hb_
        refine hK_ _ _ (⟨RB, RV, RO⟩) ?_
        simp only [Act.put, List.getElem_toArray, List.getElem_cons_succ, List.getElem_cons_zero, List.setIfInBounds_toArray, List.set_cons_succ, List.set_cons_zero]
        clear hK_
        refine wpAnyH_one (k := 10) (fuel := 7) (by kernel_rfl) rfl (by kernel_rfl) (fun K_ hK_ => ?_)
        refine wp_val_op (.slice (some ⟨q42.heap.size, 0, none⟩) 4 4) (w' := q42.alloc (.cells #[.int .u64 0, .slice a1 32 c1, .slice none 0 0, .int .u64 0, .slice a2 32 c2, .slice none 0 0, .int .u64 (fl : Int), .slice none 0 0, .slice none 0 0, .int .u64 0, .slice a3 32 c3, .slice none 0 0] 62)) (by kernel_rfl) ?_
        have hPs : Bx (q42.alloc (.cells #[.int .u64 0, .slice a1 32 c1, .slice none 0 0, .int .u64 0, .slice a2 32 c2, .slice none 0 0, .int .u64 (fl : Int), .slice none 0 0, .slice none 0 0, .int .u64 0, .slice a3 32 c3, .slice none 0 0] 62)) q42.heap.size #[.int .u64 0, .slice a1 32 c1, .slice none 0 0, .int .u64 0, .slice a2 32 c2, .slice none 0 0, .int .u64 (fl : Int), .slice none 0 0, .slice none 0 0, .int .u64 0, .slice a3 32 c3, .slice none 0 0] := ⟨_, hp1_0 q42 _⟩
        have hb_ : Below q42.heap.size q42 (q42.alloc (.cells #[.int .u64 0, .slice a1 32 c1, .slice none 0 0, .int .u64 0, .slice a2 32 c2, .slice none 0 0, .int .u64 (fl : Int), .slice none 0 0, .slice none 0 0, .int .u64 0, .slice a3 32 c3, .slice none 0 0] 62)) := (Below.refl _ _).alloc (Nat.le_refl _) _
        replace RB := keep hb_ RB
        replace RV := keep hb_ RV
        replace RO := keep hb_ RO
        replace RF := keep hb_ RF
        replace hC := hC.keep hb_
        replace OA := OA.keep hb_
        replace OS := OS.keep hb_
        replace OD := OD.keep hb_
        replace hw := Below.after hw hb_
        clear hb_
        refine hK_ _ _ (⟨RB, RV, RO⟩) ?_
        simp only [Act.put, List.getElem_toArray, List.getElem_cons_succ, List.getElem_cons_zero, List.setIfInBounds_toArray, List.set_cons_succ, List.set_cons_zero]
        clear hK_
        generalize q42.alloc (.cells #[.int .u64 0, .slice a1 32 c1, .slice none 0 0, .int .u64 0, .slice a2 32 c2, .slice none 0 0, .int .u64 (fl : Int), .slice none 0 0, .slice none 0 0, .int .u64 0, .slice a3 32 c3, .slice none 0 0] 62) = q43 at *
        generalize q42.heap.size = gp at *
        refine wpAnyH_take (i := 11) (v := .agg #[.int .u64 0, .slice none 0 0, .slice (some ⟨gp, 0, none⟩) 4 4]) rfl (by kernel_rfl) (by kernel_rfl) (by kernel_rfl) (fun _ _ _ h => h) (Or.inl ⟨by rfl, ?y31⟩) (⟨RB, RV, RO⟩) ?r31
        case y31 =>
          intro w_ hS_
          go_simp
          try with_reducible rfl
        simp only [Act.put, List.getElem_toArray, List.getElem_cons_succ, List.getElem_cons_zero, List.setIfInBounds_toArray, List.set_cons_succ, List.set_cons_zero]
        refine wpAnyH_one (k := 12) (fuel := 5) (by kernel_rfl) rfl (by kernel_rfl) (fun K_ hK_ => ?_)
        have cE := r_EncodeF bsl_flat (by decide) none 0 (.slice (some ⟨gp, 0, none⟩) 4 4) (bxr a1 c1 a2 c2 fl a3 c3) [i, s, [], p] rfl (bxr_ck _ _ _ _ _ _ _ hfl) q43 hC (bxr_prt hfl hPs) (bxr_bys li ls lp hfl OA OS OD)
        rw [bxr_fdk] at cE
        have cE2 := cE.mono (fun e w' h => (by obtain ⟨u, e1, e2, e3⟩ := h; exact ⟨_, e1, u, rfl, e2, e3⟩ : ∃ v, e = .returned v ∧ ∃ u, v = .tuple #[u, .agg #[.int .i64 0, .int .i64 0, .int .i64 0]] ∧ Own w' q43.heap.size u (eout (bfp i s p fl)) ∧ Below q43.heap.size q43 w'))
        refine wp_call_ex (R := fun v w' => ∃ u, v = .tuple #[u, .agg #[.int .i64 0, .int .i64 0, .int .i64 0]] ∧ Own w' q43.heap.size u (eout (bfp i s p fl)) ∧ Below q43.heap.size q43 w') (by kernel_rfl) cE2 (fun v_ q44 hX_ => ?_)
        obtain ⟨u, rfl, hU, hb_⟩ := hX_
        have hU2 := own_down hU hw.size
        have hne : ∀ k, u.ownBlock = some k → k ≠ g39 := fun k e => by have := own_low hU k e; have := lt_of_row RF; omega
        clear cE cE2 hC hPs OA OS OD
        replace RB := keep hb_ RB
        replace RV := keep hb_ RV
        replace RO := keep hb_ RO
        replace RF := keep hb_ RF
        replace hw := Below.after hw hb_
        clear hb_ hU
        obtain ⟨L, hL⟩ : ∃ L, (eout (bfp i s p fl)) = L := ⟨_, rfl⟩
        rw [hL] at hU2
        replace hL := hide hL
        obtain ⟨ua, uc, rfl⟩ := slen_own hU2
        refine hK_ _ _ (⟨RB, RV, RO⟩) ?_
        simp only [Act.put, List.getElem_toArray, List.getElem_cons_succ, List.getElem_cons_zero, List.setIfInBounds_toArray, List.set_cons_succ, List.set_cons_zero]
        clear hK_
        refine wpAnyH_take (i := 13) (v := ?v32) rfl (by kernel_rfl) (by kernel_rfl) (by kernel_rfl) (fun _ _ _ h => h) (Or.inl ⟨by rfl, ?y32⟩) (⟨RB, RV, RO⟩) ?r32
        case y32 =>
          intro w_ hS_
          go_simp
          try with_reducible rfl
        simp only [Act.put, List.getElem_toArray, List.getElem_cons_succ, List.getElem_cons_zero, List.setIfInBounds_toArray, List.set_cons_succ, List.set_cons_zero]
        refine wpAnyH_take (i := 14) (v := ?v33) rfl (by kernel_rfl) (by kernel_rfl) (by kernel_rfl) (fun _ _ _ h => h) (Or.inl ⟨by rfl, ?y33⟩) (⟨RB, RV, RO⟩) ?r33
        case y33 =>
          intro w_ hS_
          go_simp
          try with_reducible rfl
        simp only [Act.put, List.getElem_toArray, List.getElem_cons_succ, List.getElem_cons_zero, List.setIfInBounds_toArray, List.set_cons_succ, List.set_cons_zero]
        refine wpAnyH_take (i := 15) (v := ?v34) rfl (by kernel_rfl) (by kernel_rfl) (by kernel_rfl) (fun _ _ _ h => h) (Or.inl ⟨by rfl, ?y34⟩) (⟨RB, RV, RO⟩) ?r34
        case y34 =>
          intro w_ hS_
          go_simp
          try with_reducible rfl
        simp only [Act.put, List.getElem_toArray, List.getElem_cons_succ, List.getElem_cons_zero, List.setIfInBounds_toArray, List.set_cons_succ, List.set_cons_zero]
        refine wpAnyH_take (i := 17) (v := ?v35) rfl (by kernel_rfl) (by kernel_rfl) (by kernel_rfl) (fun _ _ _ h => h) (Or.inl ⟨by rfl, ?y35⟩) (⟨RB, RV, RO⟩) ?r35
        case y35 =>
          intro w_ hS_
          go_simp
          try with_reducible rfl
        simp only [Act.put, List.getElem_toArray, List.getElem_cons_succ, List.getElem_cons_zero, List.setIfInBounds_toArray, List.set_cons_succ, List.set_cons_zero]
        refine wpAnyH_one (k := 18) (fuel := 0) (by kernel_rfl) rfl (by kernel_rfl) (fun K_ hK_ => ?_)
        refine wp_store_row 40 _ _ rfl (g39) #[.int .i64 0, .int .i64 0, .int .i64 0] rfl rfl 40 _ RF infoFt rfl hone ?_
        replace RB := (setRow_other q44 (g39) (w.heap.size) #[.int .i64 0, .int .i64 0, .int .i64 0] (by omega)).trans RB
        replace RV := (setRow_other q44 (g39) (w.heap.size + 1) #[.int .i64 0, .int .i64 0, .int .i64 0] (by omega)).trans RV
        replace RO := (setRow_other q44 (g39) (w.heap.size + 1 + 1) #[.int .i64 0, .int .i64 0, .int .i64 0] (by omega)).trans RO
        replace hU2 : Own (q44.setRow g39 #[.int .i64 0, .int .i64 0, .int .i64 0]) w.heap.size (.slice ua L.length uc) L := own_but hU2 fun q hq => setRow_other q44 (g39) q _ (by have := hne q hq; omega)
        replace hw := below_setRow hw (show w.heap.size ≤ g39 by omega) #[.int .i64 0, .int .i64 0, .int .i64 0]
        refine hK_ _ _ (⟨RB, RV, RO⟩) ?_
        simp only [Act.put, List.getElem_toArray, List.getElem_cons_succ, List.getElem_cons_zero]
        clear hK_
        generalize q44.setRow g39 #[.int .i64 0, .int .i64 0, .int .i64 0] = q45 at *
        refine wpAnyH_done (by kernel_rfl) ?_ _
        refine NoPanic.normal ?_
        have A1 := hide hU2
        have A2 := hide hw
        clear hU2 hw RB RV RO RF hne
        go_wp2_with (fail)
        go_ret
        exact ⟨_, rfl, by rw [← hfin.out, hL.out]; exact A1.out, A2.out⟩
    · refine wp_world_op (.pointer (some ⟨w1.heap.size, 0, none⟩)) (w1.alloc (.cells #[.int .i64 0, .int .i64 0, .int .i64 0] 40)) (by kernel_rfl) ?_
      have hb_ : Below w1.heap.size w1 (w1.alloc (.cells #[.int .i64 0, .int .i64 0, .int .i64 0] 40)) := (Below.refl _ _).alloc (Nat.le_refl _) _
      have sz_g48 : w.heap.size ≤ w1.heap.size := hw.size
      have lt_RB_g48 := lt_of_row RB
      have lt_RV_g48 := lt_of_row RV
      have lt_RO_g48 := lt_of_row RO
      have RF := hp1_0 w1 (.cells #[.int .i64 0, .int .i64 0, .int .i64 0] 40)
      replace RB := keep hb_ RB
      replace RV := keep hb_ RV
      replace RO := keep hb_ RO
      replace hw := Below.after hw hb_
      clear hb_
      refine hK_ _ _ (⟨RB, RV, RO⟩) ?_
      simp only [Act.put, List.getElem_toArray, List.getElem_cons_succ, List.getElem_cons_zero, List.setIfInBounds_toArray, List.set_cons_succ, List.set_cons_zero]
      clear hK_
      generalize w1.alloc (.cells #[.int .i64 0, .int .i64 0, .int .i64 0] 40) = q47 at *
      generalize w1.heap.size = g48 at *
      refine wpAnyH_one (k := 0) (fuel := 11) (by kernel_rfl) rfl (by kernel_rfl) (fun K_ hK_ => ?_)
      refine wp_call_ex (f := 40) (by kernel_rfl) (r_shape14 q47) (fun v_ q49 hX_ => ?_)
      obtain ⟨⟨q, rfl, hq1, hC⟩, hb_⟩ := hX_
      replace RB := keep hb_ RB
      replace RV := keep hb_ RV
      replace RO := keep hb_ RO
      replace RF := keep hb_ RF
      replace hw := Below.after hw hb_
      clear hb_ hq1
      refine hK_ _ _ (⟨RB, RV, RO⟩) ?_
      simp only [Act.put, List.getElem_toArray, List.getElem_cons_zero, List.setIfInBounds_toArray, List.set_cons_succ, List.set_cons_zero]
      clear hK_
      refine wpAnyH_one (k := 3) (fuel := 10) (by kernel_rfl) rfl (by kernel_rfl) (fun K_ hK_ => ?_)
      refine wp_call_ex (f := 41) (by kernel_rfl) (r_bytes14 i li q49) (fun v_ q50 hX_ => ?_)
      obtain ⟨⟨a1, c1, rfl, OA⟩, hb_⟩ := hX_
      replace RB := keep hb_ RB
      replace RV := keep hb_ RV
      replace RO := keep hb_ RO
      replace RF := keep hb_ RF
      replace hC := hC.keep hb_
      replace hw := Below.after hw hb_
      clear hb_
      refine hK_ _ _ (⟨RB, RV, RO⟩) ?_
      simp only [Act.put, List.getElem_toArray, List.getElem_cons_succ, List.getElem_cons_zero, List.setIfInBounds_toArray, List.set_cons_succ, List.set_cons_zero]
      clear hK_
      refine wpAnyH_one (k := 6) (fuel := 9) (by kernel_rfl) rfl (by kernel_rfl) (fun K_ hK_ => ?_)
      refine wp_call_ex (f := 41) (by kernel_rfl) (r_bytes14 s ls q50) (fun v_ q51 hX_ => ?_)
      obtain ⟨⟨a2, c2, rfl, OS⟩, hb_⟩ := hX_
      replace RB := keep hb_ RB
      replace RV := keep hb_ RV
      replace RO := keep hb_ RO
      replace RF := keep hb_ RF
      replace hC := hC.keep hb_
      replace OA := OA.keep hb_
      replace hw := Below.after hw hb_
      clear hb_
      refine hK_ _ _ (⟨RB, RV, RO⟩) ?_
      simp only [Act.put, List.getElem_toArray, List.getElem_cons_succ, List.getElem_cons_zero, List.setIfInBounds_toArray, List.set_cons_succ, List.set_cons_zero]
      clear hK_
      refine wpAnyH_one (k := 9) (fuel := 8) (by kernel_rfl) rfl (by kernel_rfl) (fun K_ hK_ => ?_)
      refine wp_call_ex (f := 41) (by kernel_rfl) (r_bytes14 p lp q51) (fun v_ q52 hX_ => ?_)
      obtain ⟨⟨a3, c3, rfl, OD⟩, hb_⟩ := hX_
      replace RB := keep hb_ RB
      replace RV := keep hb_ RV
      replace RO := keep hb_ RO
      replace RF := keep hb_ RF
      replace hC := hC.keep hb_
      replace OA := OA.keep hb_
      replace OS := OS.keep hb_
      replace hw := Below.after hw hb_
      clear hb_
      refine hK_ _ _ (⟨RB, RV, RO⟩) ?_
      simp only [Act.put, List.getElem_toArray, List.getElem_cons_succ, List.getElem_cons_zero, List.setIfInBounds_toArray, List.set_cons_succ, List.set_cons_zero]
      clear hK_
      refine wpAnyH_one (k := 10) (fuel := 7) (by kernel_rfl) rfl (by kernel_rfl) (fun K_ hK_ => ?_)
      refine wp_val_op (.slice (some ⟨q52.heap.size, 0, none⟩) 4 4) (w' := q52.alloc (.cells #[.int .u64 0, .slice a1 32 c1, .slice none 0 0, .int .u64 0, .slice a2 32 c2, .slice none 0 0, .int .u64 (fl : Int), .slice none 0 0, .slice none 0 0, .int .u64 0, .slice a3 32 c3, .slice none 0 0] 62)) (by kernel_rfl) ?_
      have hPs : Bx (q52.alloc (.cells #[.int .u64 0, .slice a1 32 c1, .slice none 0 0, .int .u64 0, .slice a2 32 c2, .slice none 0 0, .int .u64 (fl : Int), .slice none 0 0, .slice none 0 0, .int .u64 0, .slice a3 32 c3, .slice none 0 0] 62)) q52.heap.size #[.int .u64 0, .slice a1 32 c1, .slice none 0 0, .int .u64 0, .slice a2 32 c2, .slice none 0 0, .int .u64 (fl : Int), .slice none 0 0, .slice none 0 0, .int .u64 0, .slice a3 32 c3, .slice none 0 0] := ⟨_, hp1_0 q52 _⟩
      have hb_ : Below q52.heap.size q52 (q52.alloc (.cells #[.int .u64 0, .slice a1 32 c1, .slice none 0 0, .int .u64 0, .slice a2 32 c2, .slice none 0 0, .int .u64 (fl : Int), .slice none 0 0, .slice none 0 0, .int .u64 0, .slice a3 32 c3, .slice none 0 0] 62)) := (Below.refl _ _).alloc (Nat.le_refl _) _
      replace RB := keep hb_ RB
      replace RV := keep hb_ RV
      replace RO := keep hb_ RO
      replace RF := keep hb_ RF
      replace hC := hC.keep hb_
      replace OA := OA.keep hb_
      replace OS := OS.keep hb_
      replace OD := OD.keep hb_
      replace hw := Below.after hw hb_
      clear hb_
      refine hK_ _ _ (⟨RB, RV, RO⟩) ?_
      simp only [Act.put, List.getElem_toArray, List.getElem_cons_succ, List.getElem_cons_zero, List.setIfInBounds_toArray, List.set_cons_succ, List.set_cons_zero]
      clear hK_
      generalize q52.alloc (.cells #[.int .u64 0, .slice a1 32 c1, .slice none 0 0, .int .u64 0, .slice a2 32 c2, .slice none 0 0, .int .u64 (fl : Int), .slice none 0 0, .slice none 0 0, .int .u64 0, .slice a3 32 c3, .slice none 0 0] 62) = q53 at *
      generalize q52.heap.size = gp at *
      refine wpAnyH_take (i := 11) (v := .agg #[.int .u64 0, .slice none 0 0, .slice (some ⟨gp, 0, none⟩) 4 4]) rfl (by kernel_rfl) (by kernel_rfl) (by kernel_rfl) (fun _ _ _ h => h) (Or.inl ⟨by rfl, ?y36⟩) (⟨RB, RV, RO⟩) ?r36
      case y36 =>
        intro w_ hS_
        go_simp
        try with_reducible rfl
      simp only [Act.put, List.getElem_toArray, List.getElem_cons_succ, List.getElem_cons_zero, List.setIfInBounds_toArray, List.set_cons_succ, List.set_cons_zero]
      refine wpAnyH_one (k := 12) (fuel := 5) (by kernel_rfl) rfl (by kernel_rfl) (fun K_ hK_ => ?_)
      have cE := r_EncodeF bsl_flat (by decide) none 0 (.slice (some ⟨gp, 0, none⟩) 4 4) (bxr a1 c1 a2 c2 fl a3 c3) [i, s, [], p] rfl (bxr_ck _ _ _ _ _ _ _ hfl) q53 hC (bxr_prt hfl hPs) (bxr_bys li ls lp hfl OA OS OD)
      rw [bxr_fdk] at cE
      have cE2 := cE.mono (fun e w' h => (by obtain ⟨u, e1, e2, e3⟩ := h; exact ⟨_, e1, u, rfl, e2, e3⟩ : ∃ v, e = .returned v ∧ ∃ u, v = .tuple #[u, .agg #[.int .i64 0, .int .i64 0, .int .i64 0]] ∧ Own w' q53.heap.size u (eout (bfp i s p fl)) ∧ Below q53.heap.size q53 w'))
      refine wp_call_ex (R := fun v w' => ∃ u, v = .tuple #[u, .agg #[.int .i64 0, .int .i64 0, .int .i64 0]] ∧ Own w' q53.heap.size u (eout (bfp i s p fl)) ∧ Below q53.heap.size q53 w') (by kernel_rfl) cE2 (fun v_ q54 hX_ => ?_)
      obtain ⟨u, rfl, hU, hb_⟩ := hX_
      have hU2 := own_down hU hw.size
      have hne : ∀ k, u.ownBlock = some k → k ≠ g48 := fun k e => by have := own_low hU k e; have := lt_of_row RF; omega
      clear cE cE2 hC hPs OA OS OD
      replace RB := keep hb_ RB
      replace RV := keep hb_ RV
      replace RO := keep hb_ RO
      replace RF := keep hb_ RF
      replace hw := Below.after hw hb_
      clear hb_ hU
      obtain ⟨L, hL⟩ : ∃ L, (eout (bfp i s p fl)) = L := ⟨_, rfl⟩
      rw [hL] at hU2
      replace hL := hide hL
      obtain ⟨ua, uc, rfl⟩ := slen_own hU2
      refine hK_ _ _ (⟨RB, RV, RO⟩) ?_
      simp only [Act.put, List.getElem_toArray, List.getElem_cons_succ, List.getElem_cons_zero, List.setIfInBounds_toArray, List.set_cons_succ, List.set_cons_zero]
      clear hK_
      refine wpAnyH_take (i := 13) (v := ?v37) rfl (by kernel_rfl) (by kernel_rfl) (by kernel_rfl) (fun _ _ _ h => h) (Or.inl ⟨by rfl, ?y37⟩) (⟨RB, RV, RO⟩) ?r37
      case y37 =>
        intro w_ hS_
        go_simp
        try with_reducible rfl
      simp only [Act.put, List.getElem_toArray, List.getElem_cons_succ, List.getElem_cons_zero, List.setIfInBounds_toArray, List.set_cons_succ, List.set_cons_zero]
      refine wpAnyH_take (i := 14) (v := ?v38) rfl (by kernel_rfl) (by kernel_rfl) (by kernel_rfl) (fun _ _ _ h => h) (Or.inl ⟨by rfl, ?y38⟩) (⟨RB, RV, RO⟩) ?r38
      case y38 =>
        intro w_ hS_
        go_simp
        try with_reducible rfl
      simp only [Act.put, List.getElem_toArray, List.getElem_cons_succ, List.getElem_cons_zero, List.setIfInBounds_toArray, List.set_cons_succ, List.set_cons_zero]
      refine wpAnyH_take (i := 15) (v := ?v39) rfl (by kernel_rfl) (by kernel_rfl) (by kernel_rfl) (fun _ _ _ h => h) (Or.inl ⟨by rfl, ?y39⟩) (⟨RB, RV, RO⟩) ?r39
      case y39 =>
        intro w_ hS_
        go_simp
        try with_reducible rfl
      simp only [Act.put, List.getElem_toArray, List.getElem_cons_succ, List.getElem_cons_zero, List.setIfInBounds_toArray, List.set_cons_succ, List.set_cons_zero]
      refine wpAnyH_take (i := 17) (v := ?v40) rfl (by kernel_rfl) (by kernel_rfl) (by kernel_rfl) (fun _ _ _ h => h) (Or.inl ⟨by rfl, ?y40⟩) (⟨RB, RV, RO⟩) ?r40
      case y40 =>
        intro w_ hS_
        go_simp
        try with_reducible rfl
      simp only [Act.put, List.getElem_toArray, List.getElem_cons_succ, List.getElem_cons_zero, List.setIfInBounds_toArray, List.set_cons_succ, List.set_cons_zero]
      refine wpAnyH_one (k := 18) (fuel := 0) (by kernel_rfl) rfl (by kernel_rfl) (fun K_ hK_ => ?_)
      refine wp_store_row 40 _ _ rfl (g48) #[.int .i64 0, .int .i64 0, .int .i64 0] rfl rfl 40 _ RF infoFt rfl hone ?_
      replace RB := (setRow_other q54 (g48) (w.heap.size) #[.int .i64 0, .int .i64 0, .int .i64 0] (by omega)).trans RB
      replace RV := (setRow_other q54 (g48) (w.heap.size + 1) #[.int .i64 0, .int .i64 0, .int .i64 0] (by omega)).trans RV
      replace RO := (setRow_other q54 (g48) (w.heap.size + 1 + 1) #[.int .i64 0, .int .i64 0, .int .i64 0] (by omega)).trans RO
      replace hU2 : Own (q54.setRow g48 #[.int .i64 0, .int .i64 0, .int .i64 0]) w.heap.size (.slice ua L.length uc) L := own_but hU2 fun q hq => setRow_other q54 (g48) q _ (by have := hne q hq; omega)
      replace hw := below_setRow hw (show w.heap.size ≤ g48 by omega) #[.int .i64 0, .int .i64 0, .int .i64 0]
      refine hK_ _ _ (⟨RB, RV, RO⟩) ?_
      simp only [Act.put, List.getElem_toArray, List.getElem_cons_succ, List.getElem_cons_zero]
      clear hK_
      generalize q54.setRow g48 #[.int .i64 0, .int .i64 0, .int .i64 0] = q55 at *
      refine wpAnyH_done (by kernel_rfl) ?_ _
      refine NoPanic.normal ?_
      have A1 := hide hU2
      have A2 := hide hw
      clear hU2 hw RB RV RO RF hne
      go_wp2_with (fail)
      go_ret
      exact ⟨_, rfl, by rw [← hfin.out, hL.out]; exact A1.out, A2.out⟩
  | false =>
    go_upto_region 6 with (fail)
    clear ch
    rw [z32_zr] at RO
    obtain ⟨p, hp⟩ : ∃ p, p = z32 := ⟨_, rfl⟩
    have lp : p.length = 32 := by rw [hp]; rfl
    rw [← hp] at RO
    obtain ⟨fl, hfl0⟩ : ∃ fl : Nat, fl = 0 := ⟨_, rfl⟩
    have hfl : fl < 2 := by omega
    have hfin : Hid (eout (bfp i s p fl) = eout (bfs i s (onc false o) false)) := hide (by rw [hfl0, hp]; rfl)
    rw [show (#[Value.int .u64 0, .slice none 0 0, .slice none 0 0] : Array Value) = #[.int .u64 (fl : Int), .slice none 0 0, .slice none 0 0] by rw [hfl0]; rfl] at RV
    replace hp := hide hp
    replace hfl0 := hide hfl0
    have hbd : Below w4.heap.size w4 w4.drew := below_drN (Below.refl _ _) 1
    replace RB := keep hbd RB
    replace RV := keep hbd RV
    replace RO := keep hbd RO
    replace hw := Below.after hw hbd
    clear hbd
    refine wp_region_noPanic ?_
    refine wp_region_held (S := fun W : World => W.heap[w.heap.size]? = some (.cells (brow (bl i) (bl s) (bl o) false) 48 (0, 0)) ∧ W.heap[w.heap.size + 1]? = some (.cells #[.int .u64 (fl : Int), .slice none 0 0, .slice none 0 0] 62 (0, 0)) ∧ W.heap[w.heap.size + 1 + 1]? = some (.cells (irow .u8 (bl p)) 23 (0, 0))) (by kernel_rfl) ?_
    change wpAnyH _ _ _ _ _ _ _ _ (World.drew _)
    generalize w4.drew = w1 at *
    refine wpAnyH_take (i := 1) (v := ?v41) rfl (by kernel_rfl) (by kernel_rfl) (by kernel_rfl) (fun _ _ _ h => h) (Or.inl ⟨by rfl, ?y41⟩) (⟨RB, RV, RO⟩) ?r41
    case y41 =>
      intro w_ hS_
      go_simp
      try with_reducible rfl
    simp only [Act.put, List.getElem_toArray, List.getElem_cons_succ, List.getElem_cons_zero, List.setIfInBounds_toArray, List.set_cons_succ, List.set_cons_zero]
    refine wpAnyH_take (i := 2) (v := .agg (irow .u8 (bl i))) rfl (by kernel_rfl) (by kernel_rfl) (by kernel_rfl) (fun _ _ _ h => h) (Or.inl ⟨by rfl, ?y42⟩) (⟨RB, RV, RO⟩) ?r42
    case y42 =>
      intro w_ hS_
      simp only [List.getElem_toArray, List.getElem_cons_succ, List.getElem_cons_zero]
      exact run_load_part 23 _ (by rfl) (w.heap.size) 0 (by rfl) 48 (brow (bl i) (bl s) (bl o) false) (0, 0) (irow .u8 (bl i)) _ (hS_.1) (bn_i _ _ _ _ (by rw [bl_len, li])) Tryz.underlying23 rfl (infoKy _ (by rw [bl_len, li]))
    simp only [Act.put, List.getElem_toArray, List.getElem_cons_succ, List.getElem_cons_zero, List.setIfInBounds_toArray, List.set_cons_succ, List.set_cons_zero]
    refine wpAnyH_take (i := 4) (v := ?v43) rfl (by kernel_rfl) (by kernel_rfl) (by kernel_rfl) (fun _ _ _ h => h) (Or.inl ⟨by rfl, ?y43⟩) (⟨RB, RV, RO⟩) ?r43
    case y43 =>
      intro w_ hS_
      go_simp
      try with_reducible rfl
    simp only [Act.put, List.getElem_toArray, List.getElem_cons_succ, List.getElem_cons_zero, List.setIfInBounds_toArray, List.set_cons_succ, List.set_cons_zero]
    refine wpAnyH_take (i := 5) (v := .agg (irow .u8 (bl s))) rfl (by kernel_rfl) (by kernel_rfl) (by kernel_rfl) (fun _ _ _ h => h) (Or.inl ⟨by rfl, ?y44⟩) (⟨RB, RV, RO⟩) ?r44
    case y44 =>
      intro w_ hS_
      simp only [List.getElem_toArray, List.getElem_cons_succ, List.getElem_cons_zero]
      exact run_load_part 23 _ (by rfl) (w.heap.size) 32 (by rfl) 48 (brow (bl i) (bl s) (bl o) false) (0, 0) (irow .u8 (bl s)) _ (hS_.1) (bn_s _ _ _ _ (by rw [bl_len, li]) (by rw [bl_len, ls])) Tryz.underlying23 rfl (infoKy _ (by rw [bl_len, ls]))
    simp only [Act.put, List.getElem_toArray, List.getElem_cons_succ, List.getElem_cons_zero, List.setIfInBounds_toArray, List.set_cons_succ, List.set_cons_zero]
    refine wpAnyH_take (i := 7) (v := .agg #[.int .u64 (fl : Int), .slice none 0 0, .slice none 0 0]) rfl (by kernel_rfl) (by kernel_rfl) (by kernel_rfl) (fun _ _ _ h => h) (Or.inl ⟨by rfl, ?y45⟩) (⟨RB, RV, RO⟩) ?r45
    case y45 =>
      intro w_ hS_
      simp only [List.getElem_toArray, List.getElem_cons_succ, List.getElem_cons_zero]
      exact run_load_part 62 _ (by rfl) (w.heap.size + 1) 0 (by rfl) 62 #[.int .u64 (fl : Int), .slice none 0 0, .slice none 0 0] (0, 0) #[.int .u64 (fl : Int), .slice none 0 0, .slice none 0 0] _ (hS_.2.1) (all_rowB _) Tryz.underlying62 rfl infoV
    simp only [Act.put, List.getElem_toArray, List.getElem_cons_succ, List.getElem_cons_zero, List.setIfInBounds_toArray, List.set_cons_succ, List.set_cons_zero]
    refine wpAnyH_take (i := 8) (v := .agg (irow .u8 (bl p))) rfl (by kernel_rfl) (by kernel_rfl) (by kernel_rfl) (fun _ _ _ h => h) (Or.inl ⟨by rfl, ?y46⟩) (⟨RB, RV, RO⟩) ?r46
    case y46 =>
      intro w_ hS_
      simp only [List.getElem_toArray, List.getElem_cons_succ, List.getElem_cons_zero]
      exact run_load_part 23 _ (by rfl) (w.heap.size + 1 + 1) 0 (by rfl) 23 (irow .u8 (bl p)) (0, 0) (irow .u8 (bl p)) _ (hS_.2.2) (all_rowB _) Tryz.underlying23 rfl (infoKy _ (by rw [bl_len, lp]))
    simp only [Act.put, List.getElem_toArray, List.getElem_cons_succ, List.getElem_cons_zero, List.setIfInBounds_toArray, List.set_cons_succ, List.set_cons_zero]
    refine wpAnyH_two (j := 0) (k := 16) (fuel := 12) (by kernel_rfl) rfl rfl (by kernel_rfl) (by kernel_rfl) (fun K_ hK_ => ?_) (fun K_ hK_ => ?_)
    · refine wp_call_ex (f := 40) (by kernel_rfl) (r_shape14 w1) (fun v_ q56 hX_ => ?_)
      obtain ⟨⟨q, rfl, hq1, hC⟩, hb_⟩ := hX_
      replace RB := keep hb_ RB
      replace RV := keep hb_ RV
      replace RO := keep hb_ RO
      replace hw := Below.after hw hb_
      clear hb_ hq1
      refine hK_ _ _ (⟨RB, RV, RO⟩) ?_
      simp only [Act.put, List.getElem_toArray, List.getElem_cons_zero, List.setIfInBounds_toArray, List.set_cons_succ, List.set_cons_zero]
      clear hK_
      refine wpAnyH_two (j := 3) (k := 16) (fuel := 11) (by kernel_rfl) rfl rfl (by kernel_rfl) (by kernel_rfl) (fun K_ hK_ => ?_) (fun K_ hK_ => ?_)
      · refine wp_call_ex (f := 41) (by kernel_rfl) (r_bytes14 i li q56) (fun v_ q57 hX_ => ?_)
        obtain ⟨⟨a1, c1, rfl, OA⟩, hb_⟩ := hX_
        replace RB := keep hb_ RB
        replace RV := keep hb_ RV
        replace RO := keep hb_ RO
        replace hC := hC.keep hb_
        replace hw := Below.after hw hb_
        clear hb_
        refine hK_ _ _ (⟨RB, RV, RO⟩) ?_
        simp only [Act.put, List.getElem_toArray, List.getElem_cons_succ, List.getElem_cons_zero, List.setIfInBounds_toArray, List.set_cons_succ, List.set_cons_zero]
        clear hK_
        refine wpAnyH_two (j := 6) (k := 16) (fuel := 10) (by kernel_rfl) rfl rfl (by kernel_rfl) (by kernel_rfl) (fun K_ hK_ => ?_) (fun K_ hK_ => ?_)
        · refine wp_call_ex (f := 41) (by kernel_rfl) (r_bytes14 s ls q57) (fun v_ q58 hX_ => ?_)
          obtain ⟨⟨a2, c2, rfl, OS⟩, hb_⟩ := hX_
          replace RB := keep hb_ RB
          replace RV := keep hb_ RV
          replace RO := keep hb_ RO
          replace hC := hC.keep hb_
          replace OA := OA.keep hb_
          replace hw := Below.after hw hb_
          clear hb_
          refine hK_ _ _ (⟨RB, RV, RO⟩) ?_
          simp only [Act.put, List.getElem_toArray, List.getElem_cons_succ, List.getElem_cons_zero, List.setIfInBounds_toArray, List.set_cons_succ, List.set_cons_zero]
          clear hK_
          refine wpAnyH_two (j := 9) (k := 16) (fuel := 9) (by kernel_rfl) rfl rfl (by kernel_rfl) (by kernel_rfl) (fun K_ hK_ => ?_) (fun K_ hK_ => ?_)
          · refine wp_call_ex (f := 41) (by kernel_rfl) (r_bytes14 p lp q58) (fun v_ q59 hX_ => ?_)
            obtain ⟨⟨a3, c3, rfl, OD⟩, hb_⟩ := hX_
            replace RB := keep hb_ RB
            replace RV := keep hb_ RV
            replace RO := keep hb_ RO
            replace hC := hC.keep hb_
            replace OA := OA.keep hb_
            replace OS := OS.keep hb_
            replace hw := Below.after hw hb_
            clear hb_
            refine hK_ _ _ (⟨RB, RV, RO⟩) ?_
            simp only [Act.put, List.getElem_toArray, List.getElem_cons_succ, List.getElem_cons_zero, List.setIfInBounds_toArray, List.set_cons_succ, List.set_cons_zero]
            clear hK_
            refine wpAnyH_two (j := 10) (k := 16) (fuel := 8) (by kernel_rfl) rfl rfl (by kernel_rfl) (by kernel_rfl) (fun K_ hK_ => ?_) (fun K_ hK_ => ?_)
            · refine wp_val_op (.slice (some ⟨q59.heap.size, 0, none⟩) 4 4) (w' := q59.alloc (.cells #[.int .u64 0, .slice a1 32 c1, .slice none 0 0, .int .u64 0, .slice a2 32 c2, .slice none 0 0, .int .u64 (fl : Int), .slice none 0 0, .slice none 0 0, .int .u64 0, .slice a3 32 c3, .slice none 0 0] 62)) (by kernel_rfl) ?_
              have hPs : Bx (q59.alloc (.cells #[.int .u64 0, .slice a1 32 c1, .slice none 0 0, .int .u64 0, .slice a2 32 c2, .slice none 0 0, .int .u64 (fl : Int), .slice none 0 0, .slice none 0 0, .int .u64 0, .slice a3 32 c3, .slice none 0 0] 62)) q59.heap.size #[.int .u64 0, .slice a1 32 c1, .slice none 0 0, .int .u64 0, .slice a2 32 c2, .slice none 0 0, .int .u64 (fl : Int), .slice none 0 0, .slice none 0 0, .int .u64 0, .slice a3 32 c3, .slice none 0 0] := ⟨_, hp1_0 q59 _⟩
              have hb_ : Below q59.heap.size q59 (q59.alloc (.cells #[.int .u64 0, .slice a1 32 c1, .slice none 0 0, .int .u64 0, .slice a2 32 c2, .slice none 0 0, .int .u64 (fl : Int), .slice none 0 0, .slice none 0 0, .int .u64 0, .slice a3 32 c3, .slice none 0 0] 62)) := (Below.refl _ _).alloc (Nat.le_refl _) _
              replace RB := keep hb_ RB
              replace RV := keep hb_ RV
              replace RO := keep hb_ RO
              replace hC := hC.keep hb_
              replace OA := OA.keep hb_
              replace OS := OS.keep hb_
              replace OD := OD.keep hb_
              replace hw := Below.after hw hb_
              clear hb_
              refine hK_ _ _ (⟨RB, RV, RO⟩) ?_
              simp only [Act.put, List.getElem_toArray, List.getElem_cons_succ, List.getElem_cons_zero, List.setIfInBounds_toArray, List.set_cons_succ, List.set_cons_zero]
              clear hK_
              generalize q59.alloc (.cells #[.int .u64 0, .slice a1 32 c1, .slice none 0 0, .int .u64 0, .slice a2 32 c2, .slice none 0 0, .int .u64 (fl : Int), .slice none 0 0, .slice none 0 0, .int .u64 0, .slice a3 32 c3, .slice none 0 0] 62) = q60 at *
              generalize q59.heap.size = gp at *
              refine wpAnyH_take (i := 11) (v := .agg #[.int .u64 0, .slice none 0 0, .slice (some ⟨gp, 0, none⟩) 4 4]) rfl (by kernel_rfl) (by kernel_rfl) (by kernel_rfl) (fun _ _ _ h => h) (Or.inl ⟨by rfl, ?y47⟩) (⟨RB, RV, RO⟩) ?r47
              case y47 =>
                intro w_ hS_
                go_simp
                try with_reducible rfl
              simp only [Act.put, List.getElem_toArray, List.getElem_cons_succ, List.getElem_cons_zero, List.setIfInBounds_toArray, List.set_cons_succ, List.set_cons_zero]
              refine wpAnyH_two (j := 12) (k := 16) (fuel := 6) (by kernel_rfl) rfl rfl (by kernel_rfl) (by kernel_rfl) (fun K_ hK_ => ?_) (fun K_ hK_ => ?_)
              · have cE := r_EncodeF bsl_flat (by decide) none 0 (.slice (some ⟨gp, 0, none⟩) 4 4) (bxr a1 c1 a2 c2 fl a3 c3) [i, s, [], p] rfl (bxr_ck _ _ _ _ _ _ _ hfl) q60 hC (bxr_prt hfl hPs) (bxr_bys li ls lp hfl OA OS OD)
                rw [bxr_fdk] at cE
                have cE2 := cE.mono (fun e w' h => (by obtain ⟨u, e1, e2, e3⟩ := h; exact ⟨_, e1, u, rfl, e2, e3⟩ : ∃ v, e = .returned v ∧ ∃ u, v = .tuple #[u, .agg #[.int .i64 0, .int .i64 0, .int .i64 0]] ∧ Own w' q60.heap.size u (eout (bfp i s p fl)) ∧ Below q60.heap.size q60 w'))
                refine wp_call_ex (R := fun v w' => ∃ u, v = .tuple #[u, .agg #[.int .i64 0, .int .i64 0, .int .i64 0]] ∧ Own w' q60.heap.size u (eout (bfp i s p fl)) ∧ Below q60.heap.size q60 w') (by kernel_rfl) cE2 (fun v_ q61 hX_ => ?_)
                obtain ⟨u, rfl, hU, hb_⟩ := hX_
                have hU2 := own_down hU hw.size
                clear cE cE2 hC hPs OA OS OD
                replace RB := keep hb_ RB
                replace RV := keep hb_ RV
                replace RO := keep hb_ RO
                replace hw := Below.after hw hb_
                clear hb_ hU
                obtain ⟨L, hL⟩ : ∃ L, (eout (bfp i s p fl)) = L := ⟨_, rfl⟩
                rw [hL] at hU2
                replace hL := hide hL
                obtain ⟨ua, uc, rfl⟩ := slen_own hU2
                refine hK_ _ _ (⟨RB, RV, RO⟩) ?_
                simp only [Act.put, List.getElem_toArray, List.getElem_cons_succ, List.getElem_cons_zero, List.setIfInBounds_toArray, List.set_cons_succ, List.set_cons_zero]
                clear hK_
                refine wpAnyH_take (i := 13) (v := ?v48) rfl (by kernel_rfl) (by kernel_rfl) (by kernel_rfl) (fun _ _ _ h => h) (Or.inl ⟨by rfl, ?y48⟩) (⟨RB, RV, RO⟩) ?r48
                case y48 =>
                  intro w_ hS_
                  go_simp
                  try with_reducible rfl
                simp only [Act.put, List.getElem_toArray, List.getElem_cons_succ, List.getElem_cons_zero, List.setIfInBounds_toArray, List.set_cons_succ, List.set_cons_zero]
                refine wpAnyH_take (i := 14) (v := ?v49) rfl (by kernel_rfl) (by kernel_rfl) (by kernel_rfl) (fun _ _ _ h => h) (Or.inl ⟨by rfl, ?y49⟩) (⟨RB, RV, RO⟩) ?r49
                case y49 =>
                  intro w_ hS_
                  go_simp
                  try with_reducible rfl
                simp only [Act.put, List.getElem_toArray, List.getElem_cons_succ, List.getElem_cons_zero, List.setIfInBounds_toArray, List.set_cons_succ, List.set_cons_zero]
                refine wpAnyH_take (i := 15) (v := ?v50) rfl (by kernel_rfl) (by kernel_rfl) (by kernel_rfl) (fun _ _ _ h => h) (Or.inl ⟨by rfl, ?y50⟩) (⟨RB, RV, RO⟩) ?r50
                case y50 =>
                  intro w_ hS_
                  go_simp
                  try with_reducible rfl
                simp only [Act.put, List.getElem_toArray, List.getElem_cons_succ, List.getElem_cons_zero, List.setIfInBounds_toArray, List.set_cons_succ, List.set_cons_zero]
                refine wpAnyH_one (k := 16) (fuel := 2) (by kernel_rfl) rfl (by kernel_rfl) (fun K_ hK_ => ?_)
                have hne0 := fun k e => (own_lt hU2 k e).2
                refine wp_world_op (.pointer (some ⟨q61.heap.size, 0, none⟩)) (q61.alloc (.cells #[.int .i64 0, .int .i64 0, .int .i64 0] 40)) (by kernel_rfl) ?_
                have hb_ : Below q61.heap.size q61 (q61.alloc (.cells #[.int .i64 0, .int .i64 0, .int .i64 0] 40)) := (Below.refl _ _).alloc (Nat.le_refl _) _
                have sz_g64 : w.heap.size ≤ q61.heap.size := hw.size
                have lt_RB_g64 := lt_of_row RB
                have lt_RV_g64 := lt_of_row RV
                have lt_RO_g64 := lt_of_row RO
                have RF := hp1_0 q61 (.cells #[.int .i64 0, .int .i64 0, .int .i64 0] 40)
                replace RB := keep hb_ RB
                replace RV := keep hb_ RV
                replace RO := keep hb_ RO
                replace hU2 := hU2.keep hb_
                replace hw := Below.after hw hb_
                clear hb_
                refine hK_ _ _ (⟨RB, RV, RO⟩) ?_
                simp only [Act.put, List.getElem_toArray, List.getElem_cons_succ, List.getElem_cons_zero, List.setIfInBounds_toArray, List.set_cons_succ, List.set_cons_zero]
                clear hK_
                generalize q61.alloc (.cells #[.int .i64 0, .int .i64 0, .int .i64 0] 40) = q63 at *
                generalize q61.heap.size = g64 at *
                have hne : ∀ k, (Value.slice ua L.length uc).ownBlock = some k → k ≠ g64 := fun k e => by have := hne0 k e; omega
                refine wpAnyH_take (i := 17) (v := ?v51) rfl (by kernel_rfl) (by kernel_rfl) (by kernel_rfl) (fun _ _ _ h => h) (Or.inl ⟨by rfl, ?y51⟩) (⟨RB, RV, RO⟩) ?r51
                case y51 =>
                  intro w_ hS_
                  go_simp
                  try with_reducible rfl
                simp only [Act.put, List.getElem_toArray, List.getElem_cons_succ, List.getElem_cons_zero, List.setIfInBounds_toArray, List.set_cons_succ, List.set_cons_zero]
                refine wpAnyH_one (k := 18) (fuel := 0) (by kernel_rfl) rfl (by kernel_rfl) (fun K_ hK_ => ?_)
                refine wp_store_row 40 _ _ rfl (g64) #[.int .i64 0, .int .i64 0, .int .i64 0] rfl rfl 40 _ RF infoFt rfl hone ?_
                replace RB := (setRow_other q63 (g64) (w.heap.size) #[.int .i64 0, .int .i64 0, .int .i64 0] (by omega)).trans RB
                replace RV := (setRow_other q63 (g64) (w.heap.size + 1) #[.int .i64 0, .int .i64 0, .int .i64 0] (by omega)).trans RV
                replace RO := (setRow_other q63 (g64) (w.heap.size + 1 + 1) #[.int .i64 0, .int .i64 0, .int .i64 0] (by omega)).trans RO
                replace hU2 : Own (q63.setRow g64 #[.int .i64 0, .int .i64 0, .int .i64 0]) w.heap.size (.slice ua L.length uc) L := own_but hU2 fun q hq => setRow_other q63 (g64) q _ (by have := hne q hq; omega)
                replace hw := below_setRow hw (show w.heap.size ≤ g64 by omega) #[.int .i64 0, .int .i64 0, .int .i64 0]
                refine hK_ _ _ (⟨RB, RV, RO⟩) ?_
                simp only [Act.put, List.getElem_toArray, List.getElem_cons_succ, List.getElem_cons_zero]
                clear hK_
                generalize q63.setRow g64 #[.int .i64 0, .int .i64 0, .int .i64 0] = q65 at *
                refine wpAnyH_done (by kernel_rfl) ?_ _
                refine NoPanic.normal ?_
                have A1 := hide hU2
                have A2 := hide hw
                clear hU2 hw RB RV RO RF hne
                go_wp2_with (fail)
                go_ret
                exact ⟨_, rfl, by rw [← hfin.out, hL.out]; exact A1.out, A2.out⟩
              · refine wp_world_op (.pointer (some ⟨q60.heap.size, 0, none⟩)) (q60.alloc (.cells #[.int .i64 0, .int .i64 0, .int .i64 0] 40)) (by kernel_rfl) ?_
                have hb_ : Below q60.heap.size q60 (q60.alloc (.cells #[.int .i64 0, .int .i64 0, .int .i64 0] 40)) := (Below.refl _ _).alloc (Nat.le_refl _) _
                have sz_g68 : w.heap.size ≤ q60.heap.size := hw.size
                have lt_RB_g68 := lt_of_row RB
                have lt_RV_g68 := lt_of_row RV
                have lt_RO_g68 := lt_of_row RO
                have RF := hp1_0 q60 (.cells #[.int .i64 0, .int .i64 0, .int .i64 0] 40)
                replace RB := keep hb_ RB
                replace RV := keep hb_ RV
                replace RO := keep hb_ RO
                replace hC := hC.keep hb_
                replace OA := OA.keep hb_
                replace OS := OS.keep hb_
                replace OD := OD.keep hb_
                replace hPs := hPs.keep hb_
                replace hw := Below.after hw hb_
                clear hb_
                refine hK_ _ _ (⟨RB, RV, RO⟩) ?_
                simp only [Act.put, List.getElem_toArray, List.getElem_cons_succ, List.getElem_cons_zero, List.setIfInBounds_toArray, List.set_cons_succ, List.set_cons_zero]
                clear hK_
                generalize q60.alloc (.cells #[.int .i64 0, .int .i64 0, .int .i64 0] 40) = q67 at *
                generalize q60.heap.size = g68 at *
                refine wpAnyH_one (k := 12) (fuel := 5) (by kernel_rfl) rfl (by kernel_rfl) (fun K_ hK_ => ?_)
                have cE := r_EncodeF bsl_flat (by decide) none 0 (.slice (some ⟨gp, 0, none⟩) 4 4) (bxr a1 c1 a2 c2 fl a3 c3) [i, s, [], p] rfl (bxr_ck _ _ _ _ _ _ _ hfl) q67 hC (bxr_prt hfl hPs) (bxr_bys li ls lp hfl OA OS OD)
                rw [bxr_fdk] at cE
                have cE2 := cE.mono (fun e w' h => (by obtain ⟨u, e1, e2, e3⟩ := h; exact ⟨_, e1, u, rfl, e2, e3⟩ : ∃ v, e = .returned v ∧ ∃ u, v = .tuple #[u, .agg #[.int .i64 0, .int .i64 0, .int .i64 0]] ∧ Own w' q67.heap.size u (eout (bfp i s p fl)) ∧ Below q67.heap.size q67 w'))
                refine wp_call_ex (R := fun v w' => ∃ u, v = .tuple #[u, .agg #[.int .i64 0, .int .i64 0, .int .i64 0]] ∧ Own w' q67.heap.size u (eout (bfp i s p fl)) ∧ Below q67.heap.size q67 w') (by kernel_rfl) cE2 (fun v_ q69 hX_ => ?_)
                obtain ⟨u, rfl, hU, hb_⟩ := hX_
                have hU2 := own_down hU hw.size
                have hne : ∀ k, u.ownBlock = some k → k ≠ g68 := fun k e => by have := own_low hU k e; have := lt_of_row RF; omega
                clear cE cE2 hC hPs OA OS OD
                replace RB := keep hb_ RB
                replace RV := keep hb_ RV
                replace RO := keep hb_ RO
                replace RF := keep hb_ RF
                replace hw := Below.after hw hb_
                clear hb_ hU
                obtain ⟨L, hL⟩ : ∃ L, (eout (bfp i s p fl)) = L := ⟨_, rfl⟩
                rw [hL] at hU2
                replace hL := hide hL
                obtain ⟨ua, uc, rfl⟩ := slen_own hU2
                refine hK_ _ _ (⟨RB, RV, RO⟩) ?_
                simp only [Act.put, List.getElem_toArray, List.getElem_cons_succ, List.getElem_cons_zero, List.setIfInBounds_toArray, List.set_cons_succ, List.set_cons_zero]
                clear hK_
                refine wpAnyH_take (i := 13) (v := ?v52) rfl (by kernel_rfl) (by kernel_rfl) (by kernel_rfl) (fun _ _ _ h => h) (Or.inl ⟨by rfl, ?y52⟩) (⟨RB, RV, RO⟩) ?r52
                case y52 =>
                  intro w_ hS_
                  go_simp
                  try with_reducible rfl
                simp only [Act.put, List.getElem_toArray, List.getElem_cons_succ, List.getElem_cons_zero, List.setIfInBounds_toArray, List.set_cons_succ, List.set_cons_zero]
                refine wpAnyH_take (i := 14) (v := ?v53) rfl (by kernel_rfl) (by kernel_rfl) (by kernel_rfl) (fun _ _ _ h => h) (Or.inl ⟨by rfl, ?y53⟩) (⟨RB, RV, RO⟩) ?r53
                case y53 =>
                  intro w_ hS_
                  go_simp
                  try with_reducible rfl
                simp only [Act.put, List.getElem_toArray, List.getElem_cons_succ, List.getElem_cons_zero, List.setIfInBounds_toArray, List.set_cons_succ, List.set_cons_zero]
                refine wpAnyH_take (i := 15) (v := ?v54) rfl (by kernel_rfl) (by kernel_rfl) (by kernel_rfl) (fun _ _ _ h => h) (Or.inl ⟨by rfl, ?y54⟩) (⟨RB, RV, RO⟩) ?r54
                case y54 =>
                  intro w_ hS_
                  go_simp
                  try with_reducible rfl
                simp only [Act.put, List.getElem_toArray, List.getElem_cons_succ, List.getElem_cons_zero, List.setIfInBounds_toArray, List.set_cons_succ, List.set_cons_zero]
                refine wpAnyH_take (i := 17) (v := ?v55) rfl (by kernel_rfl) (by kernel_rfl) (by kernel_rfl) (fun _ _ _ h => h) (Or.inl ⟨by rfl, ?y55⟩) (⟨RB, RV, RO⟩) ?r55
                case y55 =>
                  intro w_ hS_
                  go_simp
                  try with_reducible rfl
                simp only [Act.put, List.getElem_toArray, List.getElem_cons_succ, List.getElem_cons_zero, List.setIfInBounds_toArray, List.set_cons_succ, List.set_cons_zero]
                refine wpAnyH_one (k := 18) (fuel := 0) (by kernel_rfl) rfl (by kernel_rfl) (fun K_ hK_ => ?_)
                refine wp_store_row 40 _ _ rfl (g68) #[.int .i64 0, .int .i64 0, .int .i64 0] rfl rfl 40 _ RF infoFt rfl hone ?_
                replace RB := (setRow_other q69 (g68) (w.heap.size) #[.int .i64 0, .int .i64 0, .int .i64 0] (by omega)).trans RB
                replace RV := (setRow_other q69 (g68) (w.heap.size + 1) #[.int .i64 0, .int .i64 0, .int .i64 0] (by omega)).trans RV
                replace RO := (setRow_other q69 (g68) (w.heap.size + 1 + 1) #[.int .i64 0, .int .i64 0, .int .i64 0] (by omega)).trans RO
                replace hU2 : Own (q69.setRow g68 #[.int .i64 0, .int .i64 0, .int .i64 0]) w.heap.size (.slice ua L.length uc) L := own_but hU2 fun q hq => setRow_other q69 (g68) q _ (by have := hne q hq; omega)
                replace hw := below_setRow hw (show w.heap.size ≤ g68 by omega) #[.int .i64 0, .int .i64 0, .int .i64 0]
                refine hK_ _ _ (⟨RB, RV, RO⟩) ?_
                simp only [Act.put, List.getElem_toArray, List.getElem_cons_succ, List.getElem_cons_zero]
                clear hK_
                generalize q69.setRow g68 #[.int .i64 0, .int .i64 0, .int .i64 0] = q70 at *
                refine wpAnyH_done (by kernel_rfl) ?_ _
                refine NoPanic.normal ?_
                have A1 := hide hU2
                have A2 := hide hw
                clear hU2 hw RB RV RO RF hne
                go_wp2_with (fail)
                go_ret
                exact ⟨_, rfl, by rw [← hfin.out, hL.out]; exact A1.out, A2.out⟩
            · refine wp_world_op (.pointer (some ⟨q59.heap.size, 0, none⟩)) (q59.alloc (.cells #[.int .i64 0, .int .i64 0, .int .i64 0] 40)) (by kernel_rfl) ?_
              have hb_ : Below q59.heap.size q59 (q59.alloc (.cells #[.int .i64 0, .int .i64 0, .int .i64 0] 40)) := (Below.refl _ _).alloc (Nat.le_refl _) _
              have sz_g73 : w.heap.size ≤ q59.heap.size := hw.size
              have lt_RB_g73 := lt_of_row RB
              have lt_RV_g73 := lt_of_row RV
              have lt_RO_g73 := lt_of_row RO
              have RF := hp1_0 q59 (.cells #[.int .i64 0, .int .i64 0, .int .i64 0] 40)
              replace RB := keep hb_ RB
              replace RV := keep hb_ RV
              replace RO := keep hb_ RO
              replace hC := hC.keep hb_
              replace OA := OA.keep hb_
              replace OS := OS.keep hb_
              replace OD := OD.keep hb_
              replace hw := Below.after hw hb_
              clear hb_
              refine hK_ _ _ (⟨RB, RV, RO⟩) ?_
              simp only [Act.put, List.getElem_toArray, List.getElem_cons_succ, List.getElem_cons_zero, List.setIfInBounds_toArray, List.set_cons_succ, List.set_cons_zero]
              clear hK_
              generalize q59.alloc (.cells #[.int .i64 0, .int .i64 0, .int .i64 0] 40) = q72 at *
              generalize q59.heap.size = g73 at *
              refine wpAnyH_one (k := 10) (fuel := 7) (by kernel_rfl) rfl (by kernel_rfl) (fun K_ hK_ => ?_)
              refine wp_val_op (.slice (some ⟨q72.heap.size, 0, none⟩) 4 4) (w' := q72.alloc (.cells #[.int .u64 0, .slice a1 32 c1, .slice none 0 0, .int .u64 0, .slice a2 32 c2, .slice none 0 0, .int .u64 (fl : Int), .slice none 0 0, .slice none 0 0, .int .u64 0, .slice a3 32 c3, .slice none 0 0] 62)) (by kernel_rfl) ?_
              have hPs : Bx (q72.alloc (.cells #[.int .u64 0, .slice a1 32 c1, .slice none 0 0, .int .u64 0, .slice a2 32 c2, .slice none 0 0, .int .u64 (fl : Int), .slice none 0 0, .slice none 0 0, .int .u64 0, .slice a3 32 c3, .slice none 0 0] 62)) q72.heap.size #[.int .u64 0, .slice a1 32 c1, .slice none 0 0, .int .u64 0, .slice a2 32 c2, .slice none 0 0, .int .u64 (fl : Int), .slice none 0 0, .slice none 0 0, .int .u64 0, .slice a3 32 c3, .slice none 0 0] := ⟨_, hp1_0 q72 _⟩
              have hb_ : Below q72.heap.size q72 (q72.alloc (.cells #[.int .u64 0, .slice a1 32 c1, .slice none 0 0, .int .u64 0, .slice a2 32 c2, .slice none 0 0, .int .u64 (fl : Int), .slice none 0 0, .slice none 0 0, .int .u64 0, .slice a3 32 c3, .slice none 0 0] 62)) := (Below.refl _ _).alloc (Nat.le_refl _) _
              replace RB := keep hb_ RB
              replace RV := keep hb_ RV
              replace RO := keep hb_ RO
              replace RF := keep hb_ RF
              replace hC := hC.keep hb_
              replace OA := OA.keep hb_
              replace OS := OS.keep hb_
              replace OD := OD.keep hb_
              replace hw := Below.after hw hb_
              clear hb_
              refine hK_ _ _ (⟨RB, RV, RO⟩) ?_
              simp only [Act.put, List.getElem_toArray, List.getElem_cons_succ, List.getElem_cons_zero, List.setIfInBounds_toArray, List.set_cons_succ, List.set_cons_zero]
              clear hK_
              generalize q72.alloc (.cells #[.int .u64 0, .slice a1 32 c1, .slice none 0 0, .int .u64 0, .slice a2 32 c2, .slice none 0 0, .int .u64 (fl : Int), .slice none 0 0, .slice none 0 0, .int .u64 0, .slice a3 32 c3, .slice none 0 0] 62) = q74 at *
              generalize q72.heap.size = gp at *
              refine wpAnyH_take (i := 11) (v := .agg #[.int .u64 0, .slice none 0 0, .slice (some ⟨gp, 0, none⟩) 4 4]) rfl (by kernel_rfl) (by kernel_rfl) (by kernel_rfl) (fun _ _ _ h => h) (Or.inl ⟨by rfl, ?y56⟩) (⟨RB, RV, RO⟩) ?r56
              case y56 =>
                intro w_ hS_
                go_simp
                try with_reducible rfl
              simp only [Act.put, List.getElem_toArray, List.getElem_cons_succ, List.getElem_cons_zero, List.setIfInBounds_toArray, List.set_cons_succ, List.set_cons_zero]
              refine wpAnyH_one (k := 12) (fuel := 5) (by kernel_rfl) rfl (by kernel_rfl) (fun K_ hK_ => ?_)
              have cE := r_EncodeF bsl_flat (by decide) none 0 (.slice (some ⟨gp, 0, none⟩) 4 4) (bxr a1 c1 a2 c2 fl a3 c3) [i, s, [], p] rfl (bxr_ck _ _ _ _ _ _ _ hfl) q74 hC (bxr_prt hfl hPs) (bxr_bys li ls lp hfl OA OS OD)
              rw [bxr_fdk] at cE
              have cE2 := cE.mono (fun e w' h => (by obtain ⟨u, e1, e2, e3⟩ := h; exact ⟨_, e1, u, rfl, e2, e3⟩ : ∃ v, e = .returned v ∧ ∃ u, v = .tuple #[u, .agg #[.int .i64 0, .int .i64 0, .int .i64 0]] ∧ Own w' q74.heap.size u (eout (bfp i s p fl)) ∧ Below q74.heap.size q74 w'))
              refine wp_call_ex (R := fun v w' => ∃ u, v = .tuple #[u, .agg #[.int .i64 0, .int .i64 0, .int .i64 0]] ∧ Own w' q74.heap.size u (eout (bfp i s p fl)) ∧ Below q74.heap.size q74 w') (by kernel_rfl) cE2 (fun v_ q75 hX_ => ?_)
              obtain ⟨u, rfl, hU, hb_⟩ := hX_
              have hU2 := own_down hU hw.size
              have hne : ∀ k, u.ownBlock = some k → k ≠ g73 := fun k e => by have := own_low hU k e; have := lt_of_row RF; omega
              clear cE cE2 hC hPs OA OS OD
              replace RB := keep hb_ RB
              replace RV := keep hb_ RV
              replace RO := keep hb_ RO
              replace RF := keep hb_ RF
              replace hw := Below.after hw hb_
              clear hb_ hU
              obtain ⟨L, hL⟩ : ∃ L, (eout (bfp i s p fl)) = L := ⟨_, rfl⟩
              rw [hL] at hU2
              replace hL := hide hL
              obtain ⟨ua, uc, rfl⟩ := slen_own hU2
              refine hK_ _ _ (⟨RB, RV, RO⟩) ?_
              simp only [Act.put, List.getElem_toArray, List.getElem_cons_succ, List.getElem_cons_zero, List.setIfInBounds_toArray, List.set_cons_succ, List.set_cons_zero]
              clear hK_
              refine wpAnyH_take (i := 13) (v := ?v57) rfl (by kernel_rfl) (by kernel_rfl) (by kernel_rfl) (fun _ _ _ h => h) (Or.inl ⟨by rfl, ?y57⟩) (⟨RB, RV, RO⟩) ?r57
              case y57 =>
                intro w_ hS_
                go_simp
                try with_reducible rfl
              simp only [Act.put, List.getElem_toArray, List.getElem_cons_succ, List.getElem_cons_zero, List.setIfInBounds_toArray, List.set_cons_succ, List.set_cons_zero]
              refine wpAnyH_take (i := 14) (v := ?v58) rfl (by kernel_rfl) (by kernel_rfl) (by kernel_rfl) (fun _ _ _ h => h) (Or.inl ⟨by rfl, ?y58⟩) (⟨RB, RV, RO⟩) ?r58
              case y58 =>
                intro w_ hS_
                go_simp
                try with_reducible rfl
              simp only [Act.put, List.getElem_toArray, List.getElem_cons_succ, List.getElem_cons_zero, List.setIfInBounds_toArray, List.set_cons_succ, List.set_cons_zero]
              refine wpAnyH_take (i := 15) (v := ?v59) rfl (by kernel_rfl) (by kernel_rfl) (by kernel_rfl) (fun _ _ _ h => h) (Or.inl ⟨by rfl, ?y59⟩) (⟨RB, RV, RO⟩) ?r59
              case y59 =>
                intro w_ hS_
                go_simp
                try with_reducible rfl
              simp only [Act.put, List.getElem_toArray, List.getElem_cons_succ, List.getElem_cons_zero, List.setIfInBounds_toArray, List.set_cons_succ, List.set_cons_zero]
              refine wpAnyH_take (i := 17) (v := ?v60) rfl (by kernel_rfl) (by kernel_rfl) (by kernel_rfl) (fun _ _ _ h => h) (Or.inl ⟨by rfl, ?y60⟩) (⟨RB, RV, RO⟩) ?r60
              case y60 =>
                intro w_ hS_
                go_simp
                try with_reducible rfl
              simp only [Act.put, List.getElem_toArray, List.getElem_cons_succ, List.getElem_cons_zero, List.setIfInBounds_toArray, List.set_cons_succ, List.set_cons_zero]
              refine wpAnyH_one (k := 18) (fuel := 0) (by kernel_rfl) rfl (by kernel_rfl) (fun K_ hK_ => ?_)
              refine wp_store_row 40 _ _ rfl (g73) #[.int .i64 0, .int .i64 0, .int .i64 0] rfl rfl 40 _ RF infoFt rfl hone ?_
              replace RB := (setRow_other q75 (g73) (w.heap.size) #[.int .i64 0, .int .i64 0, .int .i64 0] (by omega)).trans RB
              replace RV := (setRow_other q75 (g73) (w.heap.size + 1) #[.int .i64 0, .int .i64 0, .int .i64 0] (by omega)).trans RV
              replace RO := (setRow_other q75 (g73) (w.heap.size + 1 + 1) #[.int .i64 0, .int .i64 0, .int .i64 0] (by omega)).trans RO
              replace hU2 : Own (q75.setRow g73 #[.int .i64 0, .int .i64 0, .int .i64 0]) w.heap.size (.slice ua L.length uc) L := own_but hU2 fun q hq => setRow_other q75 (g73) q _ (by have := hne q hq; omega)
              replace hw := below_setRow hw (show w.heap.size ≤ g73 by omega) #[.int .i64 0, .int .i64 0, .int .i64 0]
              refine hK_ _ _ (⟨RB, RV, RO⟩) ?_
              simp only [Act.put, List.getElem_toArray, List.getElem_cons_succ, List.getElem_cons_zero]
              clear hK_
              generalize q75.setRow g73 #[.int .i64 0, .int .i64 0, .int .i64 0] = q76 at *
              refine wpAnyH_done (by kernel_rfl) ?_ _
              refine NoPanic.normal ?_
              have A1 := hide hU2
              have A2 := hide hw
              clear hU2 hw RB RV RO RF hne
              go_wp2_with (fail)
              go_ret
              exact ⟨_, rfl, by rw [← hfin.out, hL.out]; exact A1.out, A2.out⟩
          · refine wp_world_op (.pointer (some ⟨q58.heap.size, 0, none⟩)) (q58.alloc (.cells #[.int .i64 0, .int .i64 0, .int .i64 0] 40)) (by kernel_rfl) ?_
            have hb_ : Below q58.heap.size q58 (q58.alloc (.cells #[.int .i64 0, .int .i64 0, .int .i64 0] 40)) := (Below.refl _ _).alloc (Nat.le_refl _) _
            have sz_g79 : w.heap.size ≤ q58.heap.size := hw.size
            have lt_RB_g79 := lt_of_row RB
            have lt_RV_g79 := lt_of_row RV
            have lt_RO_g79 := lt_of_row RO
            have RF := hp1_0 q58 (.cells #[.int .i64 0, .int .i64 0, .int .i64 0] 40)
            replace RB := keep hb_ RB
            replace RV := keep hb_ RV
            replace RO := keep hb_ RO
            replace hC := hC.keep hb_
            replace OA := OA.keep hb_
            replace OS := OS.keep hb_
            replace hw := Below.after hw hb_
            clear hb_
            refine hK_ _ _ (⟨RB, RV, RO⟩) ?_
            simp only [Act.put, List.getElem_toArray, List.getElem_cons_succ, List.getElem_cons_zero, List.setIfInBounds_toArray, List.set_cons_succ, List.set_cons_zero]
            clear hK_
            generalize q58.alloc (.cells #[.int .i64 0, .int .i64 0, .int .i64 0] 40) = q78 at *
            generalize q58.heap.size = g79 at *
            refine wpAnyH_one (k := 9) (fuel := 8) (by kernel_rfl) rfl (by kernel_rfl) (fun K_ hK_ => ?_)
            refine wp_call_ex (f := 41) (by kernel_rfl) (r_bytes14 p lp q78) (fun v_ q80 hX_ => ?_)
            obtain ⟨⟨a3, c3, rfl, OD⟩, hb_⟩ := hX_
            replace RB := keep hb_ RB
            replace RV := keep hb_ RV
            replace RO := keep hb_ RO
            replace RF := keep hb_ RF
            replace hC := hC.keep hb_
            replace OA := OA.keep hb_
            replace OS := OS.keep hb_
            replace hw := Below.after hw hb_
            clear hb_
            refine hK_ _ _ (⟨RB, RV, RO⟩) ?_
            simp only [Act.put, List.getElem_toArray, List.getElem_cons_succ, List.getElem_cons_zero, List.setIfInBounds_toArray, List.set_cons_succ, List.set_cons_zero]
            clear hK_
            refine wpAnyH_one (k := 10) (fuel := 7) (by kernel_rfl) rfl (by kernel_rfl) (fun K_ hK_ => ?_)
            refine wp_val_op (.slice (some ⟨q80.heap.size, 0, none⟩) 4 4) (w' := q80.alloc (.cells #[.int .u64 0, .slice a1 32 c1, .slice none 0 0, .int .u64 0, .slice a2 32 c2, .slice none 0 0, .int .u64 (fl : Int), .slice none 0 0, .slice none 0 0, .int .u64 0, .slice a3 32 c3, .slice none 0 0] 62)) (by kernel_rfl) ?_
            have hPs : Bx (q80.alloc (.cells #[.int .u64 0, .slice a1 32 c1, .slice none 0 0, .int .u64 0, .slice a2 32 c2, .slice none 0 0, .int .u64 (fl : Int), .slice none 0 0, .slice none 0 0, .int .u64 0, .slice a3 32 c3, .slice none 0 0] 62)) q80.heap.size #[.int .u64 0, .slice a1 32 c1, .slice none 0 0, .int .u64 0, .slice a2 32 c2, .slice none 0 0, .int .u64 (fl : Int), .slice none 0 0, .slice none 0 0, .int .u64 0, .slice a3 32 c3, .slice none 0 0] := ⟨_, hp1_0 q80 _⟩
            have hb_ : Below q80.heap.size q80 (q80.alloc (.cells #[.int .u64 0, .slice a1 32 c1, .slice none 0 0, .int .u64 0, .slice a2 32 c2, .slice none 0 0, .int .u64 (fl : Int), .slice none 0 0, .slice none 0 0, .int .u64 0, .slice a3 32 c3, .slice none 0 0] 62)) := (Below.refl _ _).alloc (Nat.le_refl _) _
            replace RB := keep hb_ RB
            replace RV := keep hb_ RV
            replace RO := keep hb_ RO
            replace RF := keep hb_ RF
            replace hC := hC.keep hb_
            replace OA := OA.keep hb_
            replace OS := OS.keep hb_
            replace OD := OD.keep hb_
            replace hw := Below.after hw hb_
            clear hb_
            refine hK_ _ _ (⟨RB, RV, RO⟩) ?_
            simp only [Act.put, List.getElem_toArray, List.getElem_cons_succ, List.getElem_cons_zero, List.setIfInBounds_toArray, List.set_cons_succ, List.set_cons_zero]
            clear hK_
            generalize q80.alloc (.cells #[.int .u64 0, .slice a1 32 c1, .slice none 0 0, .int .u64 0, .slice a2 32 c2, .slice none 0 0, .int .u64 (fl : Int), .slice none 0 0, .slice none 0 0, .int .u64 0, .slice a3 32 c3, .slice none 0 0] 62) = q81 at *
            generalize q80.heap.size = gp at *
            refine wpAnyH_take (i := 11) (v := .agg #[.int .u64 0, .slice none 0 0, .slice (some ⟨gp, 0, none⟩) 4 4]) rfl (by kernel_rfl) (by kernel_rfl) (by kernel_rfl) (fun _ _ _ h => h) (Or.inl ⟨by rfl, ?y61⟩) (⟨RB, RV, RO⟩) ?r61
            case y61 =>
              intro w_ hS_
              go_simp
              try with_reducible rfl
            simp only [Act.put, List.getElem_toArray, List.getElem_cons_succ, List.getElem_cons_zero, List.setIfInBounds_toArray, List.set_cons_succ, List.set_cons_zero]
            refine wpAnyH_one (k := 12) (fuel := 5) (by kernel_rfl) rfl (by kernel_rfl) (fun K_ hK_ => ?_)
            have cE := r_EncodeF bsl_flat (by decide) none 0 (.slice (some ⟨gp, 0, none⟩) 4 4) (bxr a1 c1 a2 c2 fl a3 c3) [i, s, [], p] rfl (bxr_ck _ _ _ _ _ _ _ hfl) q81 hC (bxr_prt hfl hPs) (bxr_bys li ls lp hfl OA OS OD)
            rw [bxr_fdk] at cE
            have cE2 := cE.mono (fun e w' h => (by obtain ⟨u, e1, e2, e3⟩ := h; exact ⟨_, e1, u, rfl, e2, e3⟩ : ∃ v, e = .returned v ∧ ∃ u, v = .tuple #[u, .agg #[.int .i64 0, .int .i64 0, .int .i64 0]] ∧ Own w' q81.heap.size u (eout (bfp i s p fl)) ∧ Below q81.heap.size q81 w'))
            refine wp_call_ex (R := fun v w' => ∃ u, v = .tuple #[u, .agg #[.int .i64 0, .int .i64 0, .int .i64 0]] ∧ Own w' q81.heap.size u (eout (bfp i s p fl)) ∧ Below q81.heap.size q81 w') (by kernel_rfl) cE2 (fun v_ q82 hX_ => ?_)
            obtain ⟨u, rfl, hU, hb_⟩ := hX_
            have hU2 := own_down hU hw.size
            have hne : ∀ k, u.ownBlock = some k → k ≠ g79 := fun k e => by have := own_low hU k e; have := lt_of_row RF; omega
            clear cE cE2 hC hPs OA OS OD
            replace RB := keep hb_ RB
            replace RV := keep hb_ RV
            replace RO := keep hb_ RO
            replace RF := keep hb_ RF
            replace hw := Below.after hw hb_
            clear hb_ hU
            obtain ⟨L, hL⟩ : ∃ L, (eout (bfp i s p fl)) = L := ⟨_, rfl⟩
            rw [hL] at hU2
            replace hL := hide hL
            obtain ⟨ua, uc, rfl⟩ := slen_own hU2
            refine hK_ _ _ (⟨RB, RV, RO⟩) ?_
            simp only [Act.put, List.getElem_toArray, List.getElem_cons_succ, List.getElem_cons_zero, List.setIfInBounds_toArray, List.set_cons_succ, List.set_cons_zero]
            clear hK_
            refine wpAnyH_take (i := 13) (v := ?v62) rfl (by kernel_rfl) (by kernel_rfl) (by kernel_rfl) (fun _ _ _ h => h) (Or.inl ⟨by rfl, ?y62⟩) (⟨RB, RV, RO⟩) ?r62
            case y62 =>
              intro w_ hS_
              go_simp
              try with_reducible rfl
            simp only [Act.put, List.getElem_toArray, List.getElem_cons_succ, List.getElem_cons_zero, List.setIfInBounds_toArray, List.set_cons_succ, List.set_cons_zero]
            refine wpAnyH_take (i := 14) (v := ?v63) rfl (by kernel_rfl) (by kernel_rfl) (by kernel_rfl) (fun _ _ _ h => h) (Or.inl ⟨by rfl, ?y63⟩) (⟨RB, RV, RO⟩) ?r63
            case y63 =>
              intro w_ hS_
              go_simp
              try with_reducible rfl
            simp only [Act.put, List.getElem_toArray, List.getElem_cons_succ, List.getElem_cons_zero, List.setIfInBounds_toArray, List.set_cons_succ, List.set_cons_zero]
            refine wpAnyH_take (i := 15) (v := ?v64) rfl (by kernel_rfl) (by kernel_rfl) (by kernel_rfl) (fun _ _ _ h => h) (Or.inl ⟨by rfl, ?y64⟩) (⟨RB, RV, RO⟩) ?r64
            case y64 =>
              intro w_ hS_
              go_simp
              try with_reducible rfl
            simp only [Act.put, List.getElem_toArray, List.getElem_cons_succ, List.getElem_cons_zero, List.setIfInBounds_toArray, List.set_cons_succ, List.set_cons_zero]
            refine wpAnyH_take (i := 17) (v := ?v65) rfl (by kernel_rfl) (by kernel_rfl) (by kernel_rfl) (fun _ _ _ h => h) (Or.inl ⟨by rfl, ?y65⟩) (⟨RB, RV, RO⟩) ?r65
            case y65 =>
              intro w_ hS_
              go_simp
              try with_reducible rfl
            simp only [Act.put, List.getElem_toArray, List.getElem_cons_succ, List.getElem_cons_zero, List.setIfInBounds_toArray, List.set_cons_succ, List.set_cons_zero]
            refine wpAnyH_one (k := 18) (fuel := 0) (by kernel_rfl) rfl (by kernel_rfl) (fun K_ hK_ => ?_)
            refine wp_store_row 40 _ _ rfl (g79) #[.int .i64 0, .int .i64 0, .int .i64 0] rfl rfl 40 _ RF infoFt rfl hone ?_
            replace RB := (setRow_other q82 (g79) (w.heap.size) #[.int .i64 0, .int .i64 0, .int .i64 0] (by omega)).trans RB
            replace RV := (setRow_other q82 (g79) (w.heap.size + 1) #[.int .i64 0, .int .i64 0, .int .i64 0] (by omega)).trans RV
            replace RO := (setRow_other q82 (g79) (w.heap.size + 1 + 1) #[.int .i64 0, .int .i64 0, .int .i64 0] (by omega)).trans RO
            replace hU2 : Own (q82.setRow g79 #[.int .i64 0, .int .i64 0, .int .i64 0]) w.heap.size (.slice ua L.length uc) L := own_but hU2 fun q hq => setRow_other q82 (g79) q _ (by have := hne q hq; omega)
            replace hw := below_setRow hw (show w.heap.size ≤ g79 by omega) #[.int .i64 0, .int .i64 0, .int .i64 0]
            refine hK_ _ _ (⟨RB, RV, RO⟩) ?_
            simp only [Act.put, List.getElem_toArray, List.getElem_cons_succ, List.getElem_cons_zero]
            clear hK_
            generalize q82.setRow g79 #[.int .i64 0, .int .i64 0, .int .i64 0] = q83 at *
            refine wpAnyH_done (by kernel_rfl) ?_ _
            refine NoPanic.normal ?_
            have A1 := hide hU2
            have A2 := hide hw
            clear hU2 hw RB RV RO RF hne
            go_wp2_with (fail)
            go_ret
            exact ⟨_, rfl, by rw [← hfin.out, hL.out]; exact A1.out, A2.out⟩
        · refine wp_world_op (.pointer (some ⟨q57.heap.size, 0, none⟩)) (q57.alloc (.cells #[.int .i64 0, .int .i64 0, .int .i64 0] 40)) (by kernel_rfl) ?_
          have hb_ : Below q57.heap.size q57 (q57.alloc (.cells #[.int .i64 0, .int .i64 0, .int .i64 0] 40)) := (Below.refl _ _).alloc (Nat.le_refl _) _
          have sz_g86 : w.heap.size ≤ q57.heap.size := hw.size
          have lt_RB_g86 := lt_of_row RB
          have lt_RV_g86 := lt_of_row RV
          have lt_RO_g86 := lt_of_row RO
          have RF := hp1_0 q57 (.cells #[.int .i64 0, .int .i64 0, .int .i64 0] 40)
          replace RB := keep hb_ RB
          replace RV := keep hb_ RV
          replace RO := keep hb_ RO
          replace hC := hC.keep hb_
          replace OA := OA.keep hb_
          replace hw := Below.after hw hb_
          clear hb_
          refine hK_ _ _ (⟨RB, RV, RO⟩) ?_
          simp only [Act.put, List.getElem_toArray, List.getElem_cons_succ, List.getElem_cons_zero, List.setIfInBounds_toArray, List.set_cons_succ, List.set_cons_zero]
          clear hK_
          generalize q57.alloc (.cells #[.int .i64 0, .int .i64 0, .int .i64 0] 40) = q85 at *
          generalize q57.heap.size = g86 at *
          refine wpAnyH_one (k := 6) (fuel := 9) (by kernel_rfl) rfl (by kernel_rfl) (fun K_ hK_ => ?_)
          refine wp_call_ex (f := 41) (by kernel_rfl) (r_bytes14 s ls q85) (fun v_ q87 hX_ => ?_)
          obtain ⟨⟨a2, c2, rfl, OS⟩, hb_⟩ := hX_
          replace RB := keep hb_ RB
          replace RV := keep hb_ RV
          replace RO := keep hb_ RO
          replace RF := keep hb_ RF
          replace hC := hC.keep hb_
          replace OA := OA.keep hb_
          replace hw := Below.after hw hb_
          clear hb_
          refine hK_ _ _ (⟨RB, RV, RO⟩) ?_
          simp only [Act.put, List.getElem_toArray, List.getElem_cons_succ, List.getElem_cons_zero, List.setIfInBounds_toArray, List.set_cons_succ, List.set_cons_zero]
          clear hK_
          refine wpAnyH_one (k := 9) (fuel := 8) (by kernel_rfl) rfl (by kernel_rfl) (fun K_ hK_ => ?_)
          refine wp_call_ex (f := 41) (by kernel_rfl) (r_bytes14 p lp q87) (fun v_ q88 hX_ => ?_)
          obtain ⟨⟨a3, c3, rfl, OD⟩, hb_⟩ := hX_
          replace RB := keep hb_ RB
          replace RV := keep hb_ RV
          replace RO := keep hb_ RO
          replace RF := keep hb_ RF
          replace hC := hC.keep hb_
          replace OA := OA.keep hb_
          replace OS := OS.keep hb_
          replace hw := Below.after hw hb_
          clear hb_
          refine hK_ _ _ (⟨RB, RV, RO⟩) ?_
          simp only [Act.put, List.getElem_toArray, List.getElem_cons_succ, List.getElem_cons_zero, List.setIfInBounds_toArray, List.set_cons_succ, List.set_cons_zero]
          clear hK_
          refine wpAnyH_one (k := 10) (fuel := 7) (by kernel_rfl) rfl (by kernel_rfl) (fun K_ hK_ => ?_)
          refine wp_val_op (.slice (some ⟨q88.heap.size, 0, none⟩) 4 4) (w' := q88.alloc (.cells #[.int .u64 0, .slice a1 32 c1, .slice none 0 0, .int .u64 0, .slice a2 32 c2, .slice none 0 0, .int .u64 (fl : Int), .slice none 0 0, .slice none 0 0, .int .u64 0, .slice a3 32 c3, .slice none 0 0] 62)) (by kernel_rfl) ?_
          have hPs : Bx (q88.alloc (.cells #[.int .u64 0, .slice a1 32 c1, .slice none 0 0, .int .u64 0, .slice a2 32 c2, .slice none 0 0, .int .u64 (fl : Int), .slice none 0 0, .slice none 0 0, .int .u64 0, .slice a3 32 c3, .slice none 0 0] 62)) q88.heap.size #[.int .u64 0, .slice a1 32 c1, .slice none 0 0, .int .u64 0, .slice a2 32 c2, .slice none 0 0, .int .u64 (fl : Int), .slice none 0 0, .slice none 0 0, .int .u64 0, .slice a3 32 c3, .slice none 0 0] := ⟨_, hp1_0 q88 _⟩
          have hb_ : Below q88.heap.size q88 (q88.alloc (.cells #[.int .u64 0, .slice a1 32 c1, .slice none 0 0, .int .u64 0, .slice a2 32 c2, .slice none 0 0, .int .u64 (fl : Int), .slice none 0 0, .slice none 0 0, .int .u64 0, .slice a3 32 c3, .slice none 0 0] 62)) := (Below.refl _ _).alloc (Nat.le_refl _) _
          replace RB := keep hb_ RB
          replace RV := keep hb_ RV
          replace RO := keep hb_ RO
          replace RF := keep hb_ RF
          replace hC := hC.keep hb_
          replace OA := OA.keep hb_
          replace OS := OS.keep hb_
          replace OD := OD.keep hb_
          replace hw := Below.after hw hb_
          clear hb_
          refine hK_ _ _ (⟨RB, RV, RO⟩) ?_
          simp only [Act.put, List.getElem_toArray, List.getElem_cons_succ, List.getElem_cons_zero, List.setIfInBounds_toArray, List.set_cons_succ, List.set_cons_zero]
          clear hK_
          generalize q88.alloc (.cells #[.int .u64 0, .slice a1 32 c1, .slice none 0 0, .int .u64 0, .slice a2 32 c2, .slice none 0 0, .int .u64 (fl : Int), .slice none 0 0, .slice none 0 0, .int .u64 0, .slice a3 32 c3, .slice none 0 0] 62) = q89 at *
          generalize q88.heap.size = gp at *
          refine wpAnyH_take (i := 11) (v := .agg #[.int .u64 0, .slice none 0 0, .slice (some ⟨gp, 0, none⟩) 4 4]) rfl (by kernel_rfl) (by kernel_rfl) (by kernel_rfl) (fun _ _ _ h => h) (Or.inl ⟨by rfl, ?y66⟩) (⟨RB, RV, RO⟩) ?r66
          case y66 =>
            intro w_ hS_
            go_simp
            try with_reducible rfl
          simp only [Act.put, List.getElem_toArray, List.getElem_cons_succ, List.getElem_cons_zero, List.setIfInBounds_toArray, List.set_cons_succ, List.set_cons_zero]
          refine wpAnyH_one (k := 12) (fuel := 5) (by kernel_rfl) rfl (by kernel_rfl) (fun K_ hK_ => ?_)
          have cE := r_EncodeF bsl_flat (by decide) none 0 (.slice (some ⟨gp, 0, none⟩) 4 4) (bxr a1 c1 a2 c2 fl a3 c3) [i, s, [], p] rfl (bxr_ck _ _ _ _ _ _ _ hfl) q89 hC (bxr_prt hfl hPs) (bxr_bys li ls lp hfl OA OS OD)
          rw [bxr_fdk] at cE
          have cE2 := cE.mono (fun e w' h => (by obtain ⟨u, e1, e2, e3⟩ := h; exact ⟨_, e1, u, rfl, e2, e3⟩ : ∃ v, e = .returned v ∧ ∃ u, v = .tuple #[u, .agg #[.int .i64 0, .int .i64 0, .int .i64 0]] ∧ Own w' q89.heap.size u (eout (bfp i s p fl)) ∧ Below q89.heap.size q89 w'))
          refine wp_call_ex (R := fun v w' => ∃ u, v = .tuple #[u, .agg #[.int .i64 0, .int .i64 0, .int .i64 0]] ∧ Own w' q89.heap.size u (eout (bfp i s p fl)) ∧ Below q89.heap.size q89 w') (by kernel_rfl) cE2 (fun v_ q90 hX_ => ?_)
          obtain ⟨u, rfl, hU, hb_⟩ := hX_
          have hU2 := own_down hU hw.size
          have hne : ∀ k, u.ownBlock = some k → k ≠ g86 := fun k e => by have := own_low hU k e; have := lt_of_row RF; omega
          clear cE cE2 hC hPs OA OS OD
          replace RB := keep hb_ RB
          replace RV := keep hb_ RV
          replace RO := keep hb_ RO
          replace RF := keep hb_ RF
          replace hw := Below.after hw hb_
          clear hb_ hU
          obtain ⟨L, hL⟩ : ∃ L, (eout (bfp i s p fl)) = L := ⟨_, rfl⟩
          rw [hL] at hU2
          replace hL := hide hL
          obtain ⟨ua, uc, rfl⟩ := slen_own hU2
          refine hK_ _ _ (⟨RB, RV, RO⟩) ?_
          simp only [Act.put, List.getElem_toArray, List.getElem_cons_succ, List.getElem_cons_zero, List.setIfInBounds_toArray, List.set_cons_succ, List.set_cons_zero]
          clear hK_
          refine wpAnyH_take (i := 13) (v := ?v67) rfl (by kernel_rfl) (by kernel_rfl) (by kernel_rfl) (fun _ _ _ h => h) (Or.inl ⟨by rfl, ?y67⟩) (⟨RB, RV, RO⟩) ?r67
          case y67 =>
            intro w_ hS_
            go_simp
            try with_reducible rfl
          simp only [Act.put, List.getElem_toArray, List.getElem_cons_succ, List.getElem_cons_zero, List.setIfInBounds_toArray, List.set_cons_succ, List.set_cons_zero]
          refine wpAnyH_take (i := 14) (v := ?v68) rfl (by kernel_rfl) (by kernel_rfl) (by kernel_rfl) (fun _ _ _ h => h) (Or.inl ⟨by rfl, ?y68⟩) (⟨RB, RV, RO⟩) ?r68
          case y68 =>
            intro w_ hS_
            go_simp
            try with_reducible rfl
          simp only [Act.put, List.getElem_toArray, List.getElem_cons_succ, List.getElem_cons_zero, List.setIfInBounds_toArray, List.set_cons_succ, List.set_cons_zero]
          refine wpAnyH_take (i := 15) (v := ?v69) rfl (by kernel_rfl) (by kernel_rfl) (by kernel_rfl) (fun _ _ _ h => h) (Or.inl ⟨by rfl, ?y69⟩) (⟨RB, RV, RO⟩) ?r69
          case y69 =>
            intro w_ hS_
            go_simp
            try with_reducible rfl
          simp only [Act.put, List.getElem_toArray, List.getElem_cons_succ, List.getElem_cons_zero, List.setIfInBounds_toArray, List.set_cons_succ, List.set_cons_zero]
          refine wpAnyH_take (i := 17) (v := ?v70) rfl (by kernel_rfl) (by kernel_rfl) (by kernel_rfl) (fun _ _ _ h => h) (Or.inl ⟨by rfl, ?y70⟩) (⟨RB, RV, RO⟩) ?r70
          case y70 =>
            intro w_ hS_
            go_simp
            try with_reducible rfl
          simp only [Act.put, List.getElem_toArray, List.getElem_cons_succ, List.getElem_cons_zero, List.setIfInBounds_toArray, List.set_cons_succ, List.set_cons_zero]
          refine wpAnyH_one (k := 18) (fuel := 0) (by kernel_rfl) rfl (by kernel_rfl) (fun K_ hK_ => ?_)
          refine wp_store_row 40 _ _ rfl (g86) #[.int .i64 0, .int .i64 0, .int .i64 0] rfl rfl 40 _ RF infoFt rfl hone ?_
          replace RB := (setRow_other q90 (g86) (w.heap.size) #[.int .i64 0, .int .i64 0, .int .i64 0] (by omega)).trans RB
          replace RV := (setRow_other q90 (g86) (w.heap.size + 1) #[.int .i64 0, .int .i64 0, .int .i64 0] (by omega)).trans RV
          replace RO := (setRow_other q90 (g86) (w.heap.size + 1 + 1) #[.int .i64 0, .int .i64 0, .int .i64 0] (by omega)).trans RO
          replace hU2 : Own (q90.setRow g86 #[.int .i64 0, .int .i64 0, .int .i64 0]) w.heap.size (.slice ua L.length uc) L := own_but hU2 fun q hq => setRow_other q90 (g86) q _ (by have := hne q hq; omega)
          replace hw := below_setRow hw (show w.heap.size ≤ g86 by omega) #[.int .i64 0, .int .i64 0, .int .i64 0]
          refine hK_ _ _ (⟨RB, RV, RO⟩) ?_
          simp only [Act.put, List.getElem_toArray, List.getElem_cons_succ, List.getElem_cons_zero]
          clear hK_
          generalize q90.setRow g86 #[.int .i64 0, .int .i64 0, .int .i64 0] = q91 at *
          refine wpAnyH_done (by kernel_rfl) ?_ _
          refine NoPanic.normal ?_
          have A1 := hide hU2
          have A2 := hide hw
          clear hU2 hw RB RV RO RF hne
          go_wp2_with (fail)
          go_ret
          exact ⟨_, rfl, by rw [← hfin.out, hL.out]; exact A1.out, A2.out⟩
      · refine wp_world_op (.pointer (some ⟨q56.heap.size, 0, none⟩)) (q56.alloc (.cells #[.int .i64 0, .int .i64 0, .int .i64 0] 40)) (by kernel_rfl) ?_
        have hb_ : Below q56.heap.size q56 (q56.alloc (.cells #[.int .i64 0, .int .i64 0, .int .i64 0] 40)) := (Below.refl _ _).alloc (Nat.le_refl _) _
        have sz_g94 : w.heap.size ≤ q56.heap.size := hw.size
        have lt_RB_g94 := lt_of_row RB
        have lt_RV_g94 := lt_of_row RV
        have lt_RO_g94 := lt_of_row RO
        have RF := hp1_0 q56 (.cells #[.int .i64 0, .int .i64 0, .int .i64 0] 40)
        replace RB := keep hb_ RB
        replace RV := keep hb_ RV
        replace RO := keep hb_ RO
        replace hC := hC.keep hb_
        replace hw := Below.after hw hb_
        clear hb_
        refine hK_ _ _ (⟨RB, RV, RO⟩) ?_
        simp only [Act.put, List.getElem_toArray, List.getElem_cons_succ, List.getElem_cons_zero, List.setIfInBounds_toArray, List.set_cons_succ, List.set_cons_zero]
        clear hK_
        generalize q56.alloc (.cells #[.int .i64 0, .int .i64 0, .int .i64 0] 40) = q93 at *
        generalize q56.heap.size = g94 at *
        refine wpAnyH_one (k := 3) (fuel := 10) (by kernel_rfl) rfl (by kernel_rfl) (fun K_ hK_ => ?_)
        refine wp_call_ex (f := 41) (by kernel_rfl) (r_bytes14 i li q93) (fun v_ q95 hX_ => ?_)
        obtain ⟨⟨a1, c1, rfl, OA⟩, hb_⟩ := hX_
        replace RB := keep hb_ RB
        replace RV := keep hb_ RV
        replace RO := keep hb_ RO
        replace RF := keep hb_ RF
        replace hC := hC.keep hb_
        replace hw := Below.after hw hb_
        clear hb_
        refine hK_ _ _ (⟨RB, RV, RO⟩) ?_
        simp only [Act.put, List.getElem_toArray, List.getElem_cons_succ, List.getElem_cons_zero, List.setIfInBounds_toArray, List.set_cons_succ, List.set_cons_zero]
        clear hK_
        refine wpAnyH_one (k := 6) (fuel := 9) (by kernel_rfl) rfl (by kernel_rfl) (fun K_ hK_ => ?_)
        refine wp_call_ex (f := 41) (by kernel_rfl) (r_bytes14 s ls q95) (fun v_ q96 hX_ => ?_)
        obtain ⟨⟨a2, c2, rfl, OS⟩, hb_⟩ := hX_
        replace RB := keep hb_ RB
        replace RV := keep hb_ RV
        replace RO := keep hb_ RO
        replace RF := keep hb_ RF
        replace hC := hC.keep hb_
        replace OA := OA.keep hb_
        replace hw := Below.after hw hb_
        clear hb_
        refine hK_ _ _ (⟨RB, RV, RO⟩) ?_
        simp only [Act.put, List.getElem_toArray, List.getElem_cons_succ, List.getElem_cons_zero, List.setIfInBounds_toArray, List.set_cons_succ, List.set_cons_zero]
        clear hK_
        refine wpAnyH_one (k := 9) (fuel := 8) (by kernel_rfl) rfl (by kernel_rfl) (fun K_ hK_ => ?_)
        refine wp_call_ex (f := 41) (by kernel_rfl) (r_bytes14 p lp q96) (fun v_ q97 hX_ => ?_)
        obtain ⟨⟨a3, c3, rfl, OD⟩, hb_⟩ := hX_
        replace RB := keep hb_ RB
        replace RV := keep hb_ RV
        replace RO := keep hb_ RO
        replace RF := keep hb_ RF
        replace hC := hC.keep hb_
        replace OA := OA.keep hb_
        replace OS := OS.keep hb_
        replace hw := Below.after hw hb_
        clear hb_
        refine hK_ _ _ (⟨RB, RV, RO⟩) ?_
        simp only [Act.put, List.getElem_toArray, List.getElem_cons_succ, List.getElem_cons_zero, List.setIfInBounds_toArray, List.set_cons_succ, List.set_cons_zero]
        clear hK_
        refine wpAnyH_one (k := 10) (fuel := 7) (by kernel_rfl) rfl (by kernel_rfl) (fun K_ hK_ => ?_)
        refine wp_val_op (.slice (some ⟨q97.heap.size, 0, none⟩) 4 4) (w' := q97.alloc (.cells #[.int .u64 0, .slice a1 32 c1, .slice none 0 0, .int .u64 0, .slice a2 32 c2, .slice none 0 0, .int .u64 (fl : Int), .slice none 0 0, .slice none 0 0, .int .u64 0, .slice a3 32 c3, .slice none 0 0] 62)) (by kernel_rfl) ?_
        have hPs : Bx (q97.alloc (.cells #[.int .u64 0, .slice a1 32 c1, .slice none 0 0, .int .u64 0, .slice a2 32 c2, .slice none 0 0, .int .u64 (fl : Int), .slice none 0 0, .slice none 0 0, .int .u64 0, .slice a3 32 c3, .slice none 0 0] 62)) q97.heap.size #[.int .u64 0, .slice a1 32 c1, .slice none 0 0, .int .u64 0, .slice a2 32 c2, .slice none 0 0, .int .u64 (fl : Int), .slice none 0 0, .slice none 0 0, .int .u64 0, .slice a3 32 c3, .slice none 0 0] := ⟨_, hp1_0 q97 _⟩
        have hb_ : Below q97.heap.size q97 (q97.alloc (.cells #[.int .u64 0, .slice a1 32 c1, .slice none 0 0, .int .u64 0, .slice a2 32 c2, .slice none 0 0, .int .u64 (fl : Int), .slice none 0 0, .slice none 0 0, .int .u64 0, .slice a3 32 c3, .slice none 0 0] 62)) := (Below.refl _ _).alloc (Nat.le_refl _) _
        replace RB := keep hb_ RB
        replace RV := keep hb_ RV
        replace RO := keep hb_ RO
        replace RF := keep hb_ RF
        replace hC := hC.keep hb_
        replace OA := OA.keep hb_
        replace OS := OS.keep hb_
        replace OD := OD.keep hb_
        replace hw := Below.after hw hb_
        clear hb_
        refine hK_ _ _ (⟨RB, RV, RO⟩) ?_
        simp only [Act.put, List.getElem_toArray, List.getElem_cons_succ, List.getElem_cons_zero, List.setIfInBounds_toArray, List.set_cons_succ, List.set_cons_zero]
        clear hK_
        generalize q97.alloc (.cells #[.int .u64 0, .slice a1 32 c1, .slice none 0 0, .int .u64 0, .slice a2 32 c2, .slice none 0 0, .int .u64 (fl : Int), .slice none 0 0, .slice none 0 0, .int .u64 0, .slice a3 32 c3, .slice none 0 0] 62) = q98 at *
        generalize q97.heap.size = gp at *
        refine wpAnyH_take (i := 11) (v := .agg #[.int .u64 0, .slice none 0 0, .slice (some ⟨gp, 0, none⟩) 4 4]) rfl (by kernel_rfl) (by kernel_rfl) (by kernel_rfl) (fun _ _ _ h => h) (Or.inl ⟨by rfl, ?y71⟩) (⟨RB, RV, RO⟩) ?r71
        case y71 =>
          intro w_ hS_
          go_simp
          try with_reducible rfl
        simp only [Act.put, List.getElem_toArray, List.getElem_cons_succ, List.getElem_cons_zero, List.setIfInBounds_toArray, List.set_cons_succ, List.set_cons_zero]
        refine wpAnyH_one (k := 12) (fuel := 5) (by kernel_rfl) rfl (by kernel_rfl) (fun K_ hK_ => ?_)
        have cE := r_EncodeF bsl_flat (by decide) none 0 (.slice (some ⟨gp, 0, none⟩) 4 4) (bxr a1 c1 a2 c2 fl a3 c3) [i, s, [], p] rfl (bxr_ck _ _ _ _ _ _ _ hfl) q98 hC (bxr_prt hfl hPs) (bxr_bys li ls lp hfl OA OS OD)
        rw [bxr_fdk] at cE
        have cE2 := cE.mono (fun e w' h => (by obtain ⟨u, e1, e2, e3⟩ := h; exact ⟨_, e1, u, rfl, e2, e3⟩ : ∃ v, e = .returned v ∧ ∃ u, v = .tuple #[u, .agg #[.int .i64 0, .int .i64 0, .int .i64 0]] ∧ Own w' q98.heap.size u (eout (bfp i s p fl)) ∧ Below q98.heap.size q98 w'))
        refine wp_call_ex (R := fun v w' => ∃ u, v = .tuple #[u, .agg #[.int .i64 0, .int .i64 0, .int .i64 0]] ∧ Own w' q98.heap.size u (eout (bfp i s p fl)) ∧ Below q98.heap.size q98 w') (by kernel_rfl) cE2 (fun v_ q99 hX_ => ?_)
        obtain ⟨u, rfl, hU, hb_⟩ := hX_
        have hU2 := own_down hU hw.size
        have hne : ∀ k, u.ownBlock = some k → k ≠ g94 := fun k e => by have := own_low hU k e; have := lt_of_row RF; omega
        clear cE cE2 hC hPs OA OS OD
        replace RB := keep hb_ RB
        replace RV := keep hb_ RV
        replace RO := keep hb_ RO
        replace RF := keep hb_ RF
        replace hw := Below.after hw hb_
        clear hb_ hU
        obtain ⟨L, hL⟩ : ∃ L, (eout (bfp i s p fl)) = L := ⟨_, rfl⟩
        rw [hL] at hU2
        replace hL := hide hL
        obtain ⟨ua, uc, rfl⟩ := slen_own hU2
        refine hK_ _ _ (⟨RB, RV, RO⟩) ?_
        simp only [Act.put, List.getElem_toArray, List.getElem_cons_succ, List.getElem_cons_zero, List.setIfInBounds_toArray, List.set_cons_succ, List.set_cons_zero]
        clear hK_
        refine wpAnyH_take (i := 13) (v := ?v72) rfl (by kernel_rfl) (by kernel_rfl) (by kernel_rfl) (fun _ _ _ h => h) (Or.inl ⟨by rfl, ?y72⟩) (⟨RB, RV, RO⟩) ?r72
        case y72 =>
          intro w_ hS_
          go_simp
          try with_reducible rfl
        simp only [Act.put, List.getElem_toArray, List.getElem_cons_succ, List.getElem_cons_zero, List.setIfInBounds_toArray, List.set_cons_succ, List.set_cons_zero]
        refine wpAnyH_take (i := 14) (v := ?v73) rfl (by kernel_rfl) (by kernel_rfl) (by kernel_rfl) (fun _ _ _ h => h) (Or.inl ⟨by rfl, ?y73⟩) (⟨RB, RV, RO⟩) ?r73
        case y73 =>
          intro w_ hS_
          go_simp
          try with_reducible rfl
        simp only [Act.put, List.getElem_toArray, List.getElem_cons_succ, List.getElem_cons_zero, List.setIfInBounds_toArray, List.set_cons_succ, List.set_cons_zero]
        refine wpAnyH_take (i := 15) (v := ?v74) rfl (by kernel_rfl) (by kernel_rfl) (by kernel_rfl) (fun _ _ _ h => h) (Or.inl ⟨by rfl, ?y74⟩) (⟨RB, RV, RO⟩) ?r74
        case y74 =>
          intro w_ hS_
          go_simp
          try with_reducible rfl
        simp only [Act.put, List.getElem_toArray, List.getElem_cons_succ, List.getElem_cons_zero, List.setIfInBounds_toArray, List.set_cons_succ, List.set_cons_zero]
        refine wpAnyH_take (i := 17) (v := ?v75) rfl (by kernel_rfl) (by kernel_rfl) (by kernel_rfl) (fun _ _ _ h => h) (Or.inl ⟨by rfl, ?y75⟩) (⟨RB, RV, RO⟩) ?r75
        case y75 =>
          intro w_ hS_
          go_simp
          try with_reducible rfl
        simp only [Act.put, List.getElem_toArray, List.getElem_cons_succ, List.getElem_cons_zero, List.setIfInBounds_toArray, List.set_cons_succ, List.set_cons_zero]
        refine wpAnyH_one (k := 18) (fuel := 0) (by kernel_rfl) rfl (by kernel_rfl) (fun K_ hK_ => ?_)
        refine wp_store_row 40 _ _ rfl (g94) #[.int .i64 0, .int .i64 0, .int .i64 0] rfl rfl 40 _ RF infoFt rfl hone ?_
        replace RB := (setRow_other q99 (g94) (w.heap.size) #[.int .i64 0, .int .i64 0, .int .i64 0] (by omega)).trans RB
        replace RV := (setRow_other q99 (g94) (w.heap.size + 1) #[.int .i64 0, .int .i64 0, .int .i64 0] (by omega)).trans RV
        replace RO := (setRow_other q99 (g94) (w.heap.size + 1 + 1) #[.int .i64 0, .int .i64 0, .int .i64 0] (by omega)).trans RO
        replace hU2 : Own (q99.setRow g94 #[.int .i64 0, .int .i64 0, .int .i64 0]) w.heap.size (.slice ua L.length uc) L := own_but hU2 fun q hq => setRow_other q99 (g94) q _ (by have := hne q hq; omega)
        replace hw := below_setRow hw (show w.heap.size ≤ g94 by omega) #[.int .i64 0, .int .i64 0, .int .i64 0]
        refine hK_ _ _ (⟨RB, RV, RO⟩) ?_
        simp only [Act.put, List.getElem_toArray, List.getElem_cons_succ, List.getElem_cons_zero]
        clear hK_
        generalize q99.setRow g94 #[.int .i64 0, .int .i64 0, .int .i64 0] = q100 at *
        refine wpAnyH_done (by kernel_rfl) ?_ _
        refine NoPanic.normal ?_
        have A1 := hide hU2
        have A2 := hide hw
        clear hU2 hw RB RV RO RF hne
        go_wp2_with (fail)
        go_ret
        exact ⟨_, rfl, by rw [← hfin.out, hL.out]; exact A1.out, A2.out⟩
    · refine wp_world_op (.pointer (some ⟨w1.heap.size, 0, none⟩)) (w1.alloc (.cells #[.int .i64 0, .int .i64 0, .int .i64 0] 40)) (by kernel_rfl) ?_
      have hb_ : Below w1.heap.size w1 (w1.alloc (.cells #[.int .i64 0, .int .i64 0, .int .i64 0] 40)) := (Below.refl _ _).alloc (Nat.le_refl _) _
      have sz_g103 : w.heap.size ≤ w1.heap.size := hw.size
      have lt_RB_g103 := lt_of_row RB
      have lt_RV_g103 := lt_of_row RV
      have lt_RO_g103 := lt_of_row RO
      have RF := hp1_0 w1 (.cells #[.int .i64 0, .int .i64 0, .int .i64 0] 40)
      replace RB := keep hb_ RB
      replace RV := keep hb_ RV
      replace RO := keep hb_ RO
      replace hw := Below.after hw hb_
      clear hb_
      refine hK_ _ _ (⟨RB, RV, RO⟩) ?_
      simp only [Act.put, List.getElem_toArray, List.getElem_cons_succ, List.getElem_cons_zero, List.setIfInBounds_toArray, List.set_cons_succ, List.set_cons_zero]
      clear hK_
      generalize w1.alloc (.cells #[.int .i64 0, .int .i64 0, .int .i64 0] 40) = q102 at *
      generalize w1.heap.size = g103 at *
      refine wpAnyH_one (k := 0) (fuel := 11) (by kernel_rfl) rfl (by kernel_rfl) (fun K_ hK_ => ?_)
      refine wp_call_ex (f := 40) (by kernel_rfl) (r_shape14 q102) (fun v_ q104 hX_ => ?_)
      obtain ⟨⟨q, rfl, hq1, hC⟩, hb_⟩ := hX_
      replace RB := keep hb_ RB
      replace RV := keep hb_ RV
      replace RO := keep hb_ RO
      replace RF := keep hb_ RF
      replace hw := Below.after hw hb_
      clear hb_ hq1
      refine hK_ _ _ (⟨RB, RV, RO⟩) ?_
      simp only [Act.put, List.getElem_toArray, List.getElem_cons_zero, List.setIfInBounds_toArray, List.set_cons_succ, List.set_cons_zero]
      clear hK_
      refine wpAnyH_one (k := 3) (fuel := 10) (by kernel_rfl) rfl (by kernel_rfl) (fun K_ hK_ => ?_)
      refine wp_call_ex (f := 41) (by kernel_rfl) (r_bytes14 i li q104) (fun v_ q105 hX_ => ?_)
      obtain ⟨⟨a1, c1, rfl, OA⟩, hb_⟩ := hX_
      replace RB := keep hb_ RB
      replace RV := keep hb_ RV
      replace RO := keep hb_ RO
      replace RF := keep hb_ RF
      replace hC := hC.keep hb_
      replace hw := Below.after hw hb_
      clear hb_
      refine hK_ _ _ (⟨RB, RV, RO⟩) ?_
      simp only [Act.put, List.getElem_toArray, List.getElem_cons_succ, List.getElem_cons_zero, List.setIfInBounds_toArray, List.set_cons_succ, List.set_cons_zero]
      clear hK_
      refine wpAnyH_one (k := 6) (fuel := 9) (by kernel_rfl) rfl (by kernel_rfl) (fun K_ hK_ => ?_)
      refine wp_call_ex (f := 41) (by kernel_rfl) (r_bytes14 s ls q105) (fun v_ q106 hX_ => ?_)
      obtain ⟨⟨a2, c2, rfl, OS⟩, hb_⟩ := hX_
      replace RB := keep hb_ RB
      replace RV := keep hb_ RV
      replace RO := keep hb_ RO
      replace RF := keep hb_ RF
      replace hC := hC.keep hb_
      replace OA := OA.keep hb_
      replace hw := Below.after hw hb_
      clear hb_
      refine hK_ _ _ (⟨RB, RV, RO⟩) ?_
      simp only [Act.put, List.getElem_toArray, List.getElem_cons_succ, List.getElem_cons_zero, List.setIfInBounds_toArray, List.set_cons_succ, List.set_cons_zero]
      clear hK_
      refine wpAnyH_one (k := 9) (fuel := 8) (by kernel_rfl) rfl (by kernel_rfl) (fun K_ hK_ => ?_)
      refine wp_call_ex (f := 41) (by kernel_rfl) (r_bytes14 p lp q106) (fun v_ q107 hX_ => ?_)
      obtain ⟨⟨a3, c3, rfl, OD⟩, hb_⟩ := hX_
      replace RB := keep hb_ RB
      replace RV := keep hb_ RV
      replace RO := keep hb_ RO
      replace RF := keep hb_ RF
      replace hC := hC.keep hb_
      replace OA := OA.keep hb_
      replace OS := OS.keep hb_
      replace hw := Below.after hw hb_
      clear hb_
      refine hK_ _ _ (⟨RB, RV, RO⟩) ?_
      simp only [Act.put, List.getElem_toArray, List.getElem_cons_succ, List.getElem_cons_zero, List.setIfInBounds_toArray, List.set_cons_succ, List.set_cons_zero]
      clear hK_
      refine wpAnyH_one (k := 10) (fuel := 7) (by kernel_rfl) rfl (by kernel_rfl) (fun K_ hK_ => ?_)
      refine wp_val_op (.slice (some ⟨q107.heap.size, 0, none⟩) 4 4) (w' := q107.alloc (.cells #[.int .u64 0, .slice a1 32 c1, .slice none 0 0, .int .u64 0, .slice a2 32 c2, .slice none 0 0, .int .u64 (fl : Int), .slice none 0 0, .slice none 0 0, .int .u64 0, .slice a3 32 c3, .slice none 0 0] 62)) (by kernel_rfl) ?_
      have hPs : Bx (q107.alloc (.cells #[.int .u64 0, .slice a1 32 c1, .slice none 0 0, .int .u64 0, .slice a2 32 c2, .slice none 0 0, .int .u64 (fl : Int), .slice none 0 0, .slice none 0 0, .int .u64 0, .slice a3 32 c3, .slice none 0 0] 62)) q107.heap.size #[.int .u64 0, .slice a1 32 c1, .slice none 0 0, .int .u64 0, .slice a2 32 c2, .slice none 0 0, .int .u64 (fl : Int), .slice none 0 0, .slice none 0 0, .int .u64 0, .slice a3 32 c3, .slice none 0 0] := ⟨_, hp1_0 q107 _⟩
      have hb_ : Below q107.heap.size q107 (q107.alloc (.cells #[.int .u64 0, .slice a1 32 c1, .slice none 0 0, .int .u64 0, .slice a2 32 c2, .slice none 0 0, .int .u64 (fl : Int), .slice none 0 0, .slice none 0 0, .int .u64 0, .slice a3 32 c3, .slice none 0 0] 62)) := (Below.refl _ _).alloc (Nat.le_refl _) _
      replace RB := keep hb_ RB
      replace RV := keep hb_ RV
      replace RO := keep hb_ RO
      replace RF := keep hb_ RF
      replace hC := hC.keep hb_
      replace OA := OA.keep hb_
      replace OS := OS.keep hb_
      replace OD := OD.keep hb_
      replace hw := Below.after hw hb_
      clear hb_
      refine hK_ _ _ (⟨RB, RV, RO⟩) ?_
      simp only [Act.put, List.getElem_toArray, List.getElem_cons_succ, List.getElem_cons_zero, List.setIfInBounds_toArray, List.set_cons_succ, List.set_cons_zero]
      clear hK_
      generalize q107.alloc (.cells #[.int .u64 0, .slice a1 32 c1, .slice none 0 0, .int .u64 0, .slice a2 32 c2, .slice none 0 0, .int .u64 (fl : Int), .slice none 0 0, .slice none 0 0, .int .u64 0, .slice a3 32 c3, .slice none 0 0] 62) = q108 at *
      generalize q107.heap.size = gp at *
      refine wpAnyH_take (i := 11) (v := .agg #[.int .u64 0, .slice none 0 0, .slice (some ⟨gp, 0, none⟩) 4 4]) rfl (by kernel_rfl) (by kernel_rfl) (by kernel_rfl) (fun _ _ _ h => h) (Or.inl ⟨by rfl, ?y76⟩) (⟨RB, RV, RO⟩) ?r76
      case y76 =>
        intro w_ hS_
        go_simp
        try with_reducible rfl
      simp only [Act.put, List.getElem_toArray, List.getElem_cons_succ, List.getElem_cons_zero, List.setIfInBounds_toArray, List.set_cons_succ, List.set_cons_zero]
      refine wpAnyH_one (k := 12) (fuel := 5) (by kernel_rfl) rfl (by kernel_rfl) (fun K_ hK_ => ?_)
      have cE := r_EncodeF bsl_flat (by decide) none 0 (.slice (some ⟨gp, 0, none⟩) 4 4) (bxr a1 c1 a2 c2 fl a3 c3) [i, s, [], p] rfl (bxr_ck _ _ _ _ _ _ _ hfl) q108 hC (bxr_prt hfl hPs) (bxr_bys li ls lp hfl OA OS OD)
      rw [bxr_fdk] at cE
      have cE2 := cE.mono (fun e w' h => (by obtain ⟨u, e1, e2, e3⟩ := h; exact ⟨_, e1, u, rfl, e2, e3⟩ : ∃ v, e = .returned v ∧ ∃ u, v = .tuple #[u, .agg #[.int .i64 0, .int .i64 0, .int .i64 0]] ∧ Own w' q108.heap.size u (eout (bfp i s p fl)) ∧ Below q108.heap.size q108 w'))
      refine wp_call_ex (R := fun v w' => ∃ u, v = .tuple #[u, .agg #[.int .i64 0, .int .i64 0, .int .i64 0]] ∧ Own w' q108.heap.size u (eout (bfp i s p fl)) ∧ Below q108.heap.size q108 w') (by kernel_rfl) cE2 (fun v_ q109 hX_ => ?_)
      obtain ⟨u, rfl, hU, hb_⟩ := hX_
      have hU2 := own_down hU hw.size
      have hne : ∀ k, u.ownBlock = some k → k ≠ g103 := fun k e => by have := own_low hU k e; have := lt_of_row RF; omega
      clear cE cE2 hC hPs OA OS OD
      replace RB := keep hb_ RB
      replace RV := keep hb_ RV
      replace RO := keep hb_ RO
      replace RF := keep hb_ RF
      replace hw := Below.after hw hb_
      clear hb_ hU
      obtain ⟨L, hL⟩ : ∃ L, (eout (bfp i s p fl)) = L := ⟨_, rfl⟩
      rw [hL] at hU2
      replace hL := hide hL
      obtain ⟨ua, uc, rfl⟩ := slen_own hU2
      refine hK_ _ _ (⟨RB, RV, RO⟩) ?_
      simp only [Act.put, List.getElem_toArray, List.getElem_cons_succ, List.getElem_cons_zero, List.setIfInBounds_toArray, List.set_cons_succ, List.set_cons_zero]
      clear hK_
      refine wpAnyH_take (i := 13) (v := ?v77) rfl (by kernel_rfl) (by kernel_rfl) (by kernel_rfl) (fun _ _ _ h => h) (Or.inl ⟨by rfl, ?y77⟩) (⟨RB, RV, RO⟩) ?r77
      case y77 =>
        intro w_ hS_
        go_simp
        try with_reducible rfl
      simp only [Act.put, List.getElem_toArray, List.getElem_cons_succ, List.getElem_cons_zero, List.setIfInBounds_toArray, List.set_cons_succ, List.set_cons_zero]
      refine wpAnyH_take (i := 14) (v := ?v78) rfl (by kernel_rfl) (by kernel_rfl) (by kernel_rfl) (fun _ _ _ h => h) (Or.inl ⟨by rfl, ?y78⟩) (⟨RB, RV, RO⟩) ?r78
      case y78 =>
        intro w_ hS_
        go_simp
        try with_reducible rfl
      simp only [Act.put, List.getElem_toArray, List.getElem_cons_succ, List.getElem_cons_zero, List.setIfInBounds_toArray, List.set_cons_succ, List.set_cons_zero]
      refine wpAnyH_take (i := 15) (v := ?v79) rfl (by kernel_rfl) (by kernel_rfl) (by kernel_rfl) (fun _ _ _ h => h) (Or.inl ⟨by rfl, ?y79⟩) (⟨RB, RV, RO⟩) ?r79
      case y79 =>
        intro w_ hS_
        go_simp
        try with_reducible rfl
      simp only [Act.put, List.getElem_toArray, List.getElem_cons_succ, List.getElem_cons_zero, List.setIfInBounds_toArray, List.set_cons_succ, List.set_cons_zero]
      refine wpAnyH_take (i := 17) (v := ?v80) rfl (by kernel_rfl) (by kernel_rfl) (by kernel_rfl) (fun _ _ _ h => h) (Or.inl ⟨by rfl, ?y80⟩) (⟨RB, RV, RO⟩) ?r80
      case y80 =>
        intro w_ hS_
        go_simp
        try with_reducible rfl
      simp only [Act.put, List.getElem_toArray, List.getElem_cons_succ, List.getElem_cons_zero, List.setIfInBounds_toArray, List.set_cons_succ, List.set_cons_zero]
      refine wpAnyH_one (k := 18) (fuel := 0) (by kernel_rfl) rfl (by kernel_rfl) (fun K_ hK_ => ?_)
      refine wp_store_row 40 _ _ rfl (g103) #[.int .i64 0, .int .i64 0, .int .i64 0] rfl rfl 40 _ RF infoFt rfl hone ?_
      replace RB := (setRow_other q109 (g103) (w.heap.size) #[.int .i64 0, .int .i64 0, .int .i64 0] (by omega)).trans RB
      replace RV := (setRow_other q109 (g103) (w.heap.size + 1) #[.int .i64 0, .int .i64 0, .int .i64 0] (by omega)).trans RV
      replace RO := (setRow_other q109 (g103) (w.heap.size + 1 + 1) #[.int .i64 0, .int .i64 0, .int .i64 0] (by omega)).trans RO
      replace hU2 : Own (q109.setRow g103 #[.int .i64 0, .int .i64 0, .int .i64 0]) w.heap.size (.slice ua L.length uc) L := own_but hU2 fun q hq => setRow_other q109 (g103) q _ (by have := hne q hq; omega)
      replace hw := below_setRow hw (show w.heap.size ≤ g103 by omega) #[.int .i64 0, .int .i64 0, .int .i64 0]
      refine hK_ _ _ (⟨RB, RV, RO⟩) ?_
      simp only [Act.put, List.getElem_toArray, List.getElem_cons_succ, List.getElem_cons_zero]
      clear hK_
      generalize q109.setRow g103 #[.int .i64 0, .int .i64 0, .int .i64 0] = q110 at *
      refine wpAnyH_done (by kernel_rfl) ?_ _
      refine NoPanic.normal ?_
      have A1 := hide hU2
      have A2 := hide hw
      clear hU2 hw RB RV RO RF hne
      go_wp2_with (fail)
      go_ret
      exact ⟨_, rfl, by rw [← hfin.out, hL.out]; exact A1.out, A2.out⟩
end Go.Proofs.YtbaefbfejmpliaaGreatDoor
