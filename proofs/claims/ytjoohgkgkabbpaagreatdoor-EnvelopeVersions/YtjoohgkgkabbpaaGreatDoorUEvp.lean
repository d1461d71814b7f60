import Derived.Test.YtjoohgkgkabbpaaGreatDoorUQd0
import Derived.Test.YtjoohgkgkabbpaaGreatDoorUJrx
import Derived.OwnWalk
import Derived.Deep.Cut
import Derived.Deep.RegionHeld3
namespace Go.Proofs.YtjoohgkgkabbpaaGreatDoor
set_option maxRecDepth 100000
open Go Go.RowKit Go.Sort
attribute [local go_sem] setCell_drewN alloc_drewN
theorem slice_n16 (g o : Nat) (W : World) : (Instr.sliceAt 49 (.pointer (some ⟨g, o, none⟩)) none none none).run Tryz.prog W = .ok (.slice (some ⟨g, o, none⟩) 16 16) W := by kernel_rfl
def evl (ver : Int) (nonce : List B) (hv bv : Value) : Array Value := #[.int .i64 ver] ++ irow .u8 (bl nonce) ++ #[hv, bv]
theorem evl_size (ver : Int) (nonce : List B) (hn : nonce.length = 16) (hv bv : Value) : (evl ver nonce hv bv).size = 19 := by
 simp [evl, irow, bl, hn]
theorem evl_info (ver : Int) (nonce : List B) (hn : nonce.length = 16) (hv bv : Value) : (Tryz.prog.info? 51).map (·.size) = some (evl ver nonce hv bv).size := by
 rw [evl_size ver nonce hn]
 kernel_rfl
theorem evl_0 (ver : Int) (nonce : List B) (hv bv : Value) : (evl ver nonce hv bv)[0]? = some (.int .i64 ver) := by
 unfold evl
 rw [Array.append_assoc, Array.getElem?_append_left (by simp)]
 rfl
theorem evl_h (ver : Int) (nonce : List B) (hn : nonce.length = 16) (hv bv : Value) : (evl ver nonce hv bv)[17]? = some hv := by
 have e : (#[Value.int .i64 ver] ++ irow .u8 (bl nonce)).size = 17 := by simp [irow, bl, hn]
 unfold evl
 rw [Array.getElem?_append_right (by omega), e]
 rfl
theorem evl_b (ver : Int) (nonce : List B) (hn : nonce.length = 16) (hv bv : Value) : (evl ver nonce hv bv)[18]? = some bv := by
 have e : (#[Value.int .i64 ver] ++ irow .u8 (bl nonce)).size = 17 := by simp [irow, bl, hn]
 unfold evl
 rw [Array.getElem?_append_right (by omega), e]
 rfl
theorem evl_n (ver : Int) (nonce : List B) (hn : nonce.length = 16) (hv bv : Value) : (evl ver nonce hv bv).extract 1 (1 + (irow .u8 (bl nonce)).size) = irow .u8 (bl nonce) := by
 apply Array.ext'
 have e : (irow .u8 (bl nonce)).size = 16 := by simp [irow, bl, hn]
 rw [e]
 simp [evl, Array.toList_extract, List.extract_eq_take_drop, e]
 exact List.take_of_length_le (by simp [irow, bl, hn])
theorem evl_one (ver : Int) (nonce : List B) (ha : Option Addr) (hl hc : Nat) (ba : Option Addr) (bn bc : Nat) : (evl ver nonce (.slice ha hl hc) (.slice ba bn bc)).all (·.oneCell') = true := by
 unfold evl
 rw [Array.all_append, Array.all_append, irow_one]
 simp [Value.oneCell']
theorem bEv (cs : Array Value) (W : World) : (Instr.box 51 (.agg cs)).run Tryz.prog W = .ok (.pointer (some ⟨W.heap.size, 0, none⟩)) (W.alloc (.cells cs 51)) := by kernel_rfl
theorem nonce_bys {W : World} {g : Nat} {ver : Int} {nonce : List B} {hv bv : Value} (hn : nonce.length = 16) (hg : W.heap[g]? = some (.cells (evl ver nonce hv bv) 51 (0, 0))) : BysB W (.slice (some ⟨g, 1, none⟩) 16 16) nonce := by
 have he := evl_n ver nonce hn hv bv
 refine ⟨⟨some ⟨g, 1, none⟩, 16, ?_, ?_, fun j hj => ?_, bl_bnd _⟩, ?_, fun a l c e1 e2 => ?_⟩
 ·rw [bl_len, hn]
 ·rw [bl_len, hn]; decide
 ·refine ⟨g, 1, rfl, lt_of_row hg, ?_⟩
  rw [cell_of_row _ _ _ _ _ _ hg]
  have e := congrArg (fun c : Array Value => c[j]?) he
  simp only [irow_size] at e
  rw [Array.getElem?_extract] at e
  have hk : (irow .u8 (bl nonce))[j]? = some (.int .u8 ((bl nonce).getD j 0)) := by simp [irow, List.getD_eq_getElem?_getD, List.getElem?_eq_getElem hj]
  rw [hk] at e
  split at e
  ·exact e
  ·cases e
 ·rw [hn]; decide
 ·cases e1; cases e2
def efs (v : Nat) (nonce hd bd : List B) : List Fd := [⟨1, 0, v, []⟩, ⟨2, 2, 0, nonce⟩, ⟨3, 2, 0, hd⟩, ⟨4, 2, 0, bd⟩]
def exs (v g : Nat) (ha : Option Addr) (hl hc : Nat) (ba : Option Addr) (bn bc : Nat) : List VR := [⟨v, none, 0, 0, none, 0, 0⟩, ⟨0, some ⟨g, 1, none⟩, 16, 16, none, 0, 0⟩, ⟨0, ha, hl, hc, none, 0, 0⟩, ⟨0, ba, bn, bc, none, 0, 0⟩]
theorem exs_fdk (v g : Nat) (ha : Option Addr) (hl hc : Nat) (ba : Option Addr) (bn bc : Nat) (nonce hd bd : List B) : fdk (esl v) (exs v g ha hl hc ba bn bc) [[], nonce, hd, bd] (esl v).length = efs v nonce hd bd := rfl
theorem exs_prt {W : World} {g gp v : Nat} {ha : Option Addr} {hl hc : Nat} {ba : Option Addr} {bn bc : Nat} (hv : v < 18446744073709551616) (h1 : hl < 9223372036854775808) (h2 : bn < 9223372036854775808) (h : Bx W gp #[.int .u64 (v : Int), .slice none 0 0, .slice none 0 0, .int .u64 0, .slice (some ⟨g, 1, none⟩) 16 16, .slice none 0 0, .int .u64 0, .slice ha hl hc, .slice none 0 0, .int .u64 0, .slice ba bn bc, .slice none 0 0]) : Prt W (.slice (some ⟨gp, 0, none⟩) 4 4) (exs v g ha hl hc ba bn bc) := by
 have hlt := h.lt
 obtain ⟨T, h⟩ := h
 refine ⟨some ⟨gp, 0, none⟩, 4, rfl, by show 4 ≤ 4; decide, fun i hi => ?_, fun i hi => ⟨gp, 0, rfl, hlt, fun j v hv => ?_⟩⟩
 ·have hi4 : i < 4 := hi
  rcases (by omega : i = 0 ∨ i = 1 ∨ i = 2 ∨ i = 3) with rfl | rfl | rfl | rfl
  ·exact ⟨hv, by show 0 < _; decide⟩
  ·exact ⟨by show 0 < _; decide, by show 16 < _; decide⟩
  ·exact ⟨by show 0 < _; decide, h1⟩
  ·exact ⟨by show 0 < _; decide, h2⟩
 ·have hi4 : i < 4 := hi
  rw [cell_of_row _ _ _ _ _ _ h]
  have hj : j < 3 := by have := (List.getElem?_eq_some_iff.1 hv).1; simpa [vrv, vrw] using this
  rcases (by omega : i = 0 ∨ i = 1 ∨ i = 2 ∨ i = 3) with rfl | rfl | rfl | rfl <;> rcases (by omega : j = 0 ∨ j = 1 ∨ j = 2) with rfl | rfl | rfl <;> exact hv
def ek10 (v hl bn : Nat) : Option Flt3 := if hl ≠ 60 then some ⟨1, 3, 83⟩ else if bn < 80 ∨ mo v < bn then some ⟨1, 4, 83⟩ else none
def pk10 (v hl bn : Nat) : Option Flt3 := if hl ≠ 60 then some ⟨1, 3, 102⟩ else if bn < 80 ∨ mo v < bn then some ⟨1, 4, 102⟩ else if bkd (dg v) (bn - 16) = bn - 16 then none else some ⟨1, 4, 102⟩
theorem esl_ck (v g : Nat) (ha : Option Addr) (hl hc : Nat) (ba : Option Addr) (bn bc : Nat) : ckF (esl v) 0 0 (exs v g ha hl hc ba bn bc) 1 = ek10 v hl bn := by
 have e1 : wth ((v : Nat) : Int) (v : Int) (v : Int) = 0 := by unfold wth; rw [if_neg (by omega)]
 have e2 : wth (16 : Int) 16 16 = 0 := rfl
 have e3 : wth (60 : Int) 60 60 = 0 := rfl
 unfold ckF esl exs ek10
 rw [if_neg (by simp), if_neg (by simp)]
 simp only [chF, pckT, pck, pbad, ftE, Slt.kind, Slt.no, Slt.least, Slt.most]
 by_cases h1 : hl = 60
 ·subst h1
  by_cases h2 : bn < 80 ∨ mo v < bn
  ·have e4 : wth (bn : Int) 80 (mo v : Int) = 83 := by unfold wth; rw [if_pos (by omega)]
   simp [e1, e2, e3, e4, h2]
  ·have e4 : wth (bn : Int) 80 (mo v : Int) = 0 := by unfold wth; rw [if_neg (by omega)]
   simp [e1, e2, e3, e4, h2]
 ·have e3 : wth (hl : Int) 60 60 = 83 := by unfold wth; rw [if_pos (by omega)]
  simp [e1, e2, e3, h1]
theorem exs_bys {W : World} {g v : Nat} {nonce hd bd : List B} {ver : Int} {hv bv : Value} {ha : Option Addr} {hl hc : Nat} {ba : Option Addr} {bn bc : Nat} (hv2 : v < 18446744073709551616) (hn : nonce.length = 16) (hg : W.heap[g]? = some (.cells (evl ver nonce hv bv) 51 (0, 0))) (hH : BysB W (.slice ha hl hc) hd) (hB : BysB W (.slice ba bn bc) bd) (b1 : hd.length ≤ 140737488351232) (b2 : bd.length ≤ 140737488351232) : ∀ k, k < (esl v).length → BysB W (.slice (gx (exs v g ha hl hc ba bn bc) k).da (gx (exs v g ha hl hc ba bn bc) k).dl (gx (exs v g ha hl hc ba bn bc) k).dc) (gd1 [[], nonce, hd, bd] k) ∧ Fok (fdF (gs (esl v) k) (gx (exs v g ha hl hc ba bn bc) k) (gd1 [[], nonce, hd, bd] k)) := fun k hk => by
 have hk4 : k < 4 := hk
 rcases (by omega : k = 0 ∨ k = 1 ∨ k = 2 ∨ k = 3) with rfl | rfl | rfl | rfl
 ·exact ⟨bys_nil W, hv2, by show 0 ≤ _; omega, by show (-9223372036854775808 : Int) ≤ 1; decide, by show (1 : Int) ≤ _; decide⟩
 ·exact ⟨nonce_bys hn hg, by show 0 < _; decide, by show nonce.length ≤ _; rw [hn]; decide, by show (-9223372036854775808 : Int) ≤ 2; decide, by show (2 : Int) ≤ _; decide⟩
 ·exact ⟨hH, by show 0 < _; decide, by show hd.length ≤ _; omega, by show (-9223372036854775808 : Int) ≤ 3; decide, by show (3 : Int) ≤ _; decide⟩
 ·exact ⟨hB, by show 0 < _; decide, by show bd.length ≤ _; omega, by show (-9223372036854775808 : Int) ≤ 4; decide, by show (4 : Int) ≤ _; decide⟩
set_option maxRecDepth 100000 in
set_option maxHeartbeats 8000000 in
theorem a_valueOf (ver : Int) (v : Nat) (hv : IntKind.wrap .u64 ver = (v : Int)) (nonce : List B) (hn : nonce.length = 16) (ha : Option Addr) (hl hc : Nat) (ba : Option Addr) (bn bc : Nat) (w : World) : Calls Tryz.prog 43 #[.agg (evl ver nonce (.slice ha hl hc) (.slice ba bn bc))] w fun e w' => ∃ g gp, e = .returned (.agg #[.int .u64 0, .slice none 0 0, .slice (some ⟨gp, 0, none⟩) 4 4]) ∧ w.heap.size ≤ g ∧ w.heap.size ≤ gp ∧ w'.heap[g]? = some (.cells (evl ver nonce (.slice ha hl hc) (.slice ba bn bc)) 51 (0, 0)) ∧ w'.heap[gp]? = some (.cells #[.int .u64 (v : Int), .slice none 0 0, .slice none 0 0, .int .u64 0, .slice (some ⟨g, 1, none⟩) 16 16, .slice none 0 0, .int .u64 0, .slice ha hl hc, .slice none 0 0, .int .u64 0, .slice ba bn bc, .slice none 0 0] 78 (0, 0)) ∧ Below w.heap.size w w' := by
 have R0 := hp2_0 w (.cells (evl ver nonce (.slice ha hl hc) (.slice ba bn bc)) 51) (.cells #[.int .u64 0, .slice none 0 0, .slice none 0 0] 78)
 have R1 := hp2_1 w (.cells (evl ver nonce (.slice ha hl hc) (.slice ba bn bc)) 51) (.cells #[.int .u64 0, .slice none 0 0, .slice none 0 0] 78)
 have hw : Below w.heap.size w ((w.alloc (.cells (evl ver nonce (.slice ha hl hc) (.slice ba bn bc)) 51)).alloc (.cells #[.int .u64 0, .slice none 0 0, .slice none 0 0] 78)) := ((Below.refl _ _).alloc (Nat.le_refl _) _).alloc (by simp) _
 have sk := slice_n16 w.heap.size 1
 go_enter Tryz.func43, Tryz.ntmps43
 go_upto_region 1 with (first | (refine wpList_box rfl 51 _ rfl _ rfl (bEv _) ?_) | fail)
 try simp only [size_alloc1, Act.put, List.setIfInBounds_toArray, List.set_cons_succ, List.set_cons_zero]
 generalize ((w.alloc (.cells (evl ver nonce (.slice ha hl hc) (.slice ba bn bc)) 51)).alloc (.cells #[.int .u64 0, .slice none 0 0, .slice none 0 0] 78)) = w1 at *
 have hbd : Below w1.heap.size w1 w1.drew := below_drN (Below.refl _ _) 1
 replace R0 := keep hbd R0
 replace R1 := keep hbd R1
 replace hw := Below.after hw hbd
 have HS : (fun W : World => W.heap[w.heap.size]? = some (.cells (evl ver nonce (.slice ha hl hc) (.slice ba bn bc)) 51 (0, 0))) w1.drew := R0
 clear hbd R0
 refine wp_region_noPanic ?_
 refine wp_region_held (S := fun W : World => W.heap[w.heap.size]? = some (.cells (evl ver nonce (.slice ha hl hc) (.slice ba bn bc)) 51 (0, 0))) (by kernel_rfl) ?_
 change wpAnyH _ _ _ _ _ _ _ _ (World.drew _)
 generalize w1.drew = w2 at *
 refine wpAnyH_take (i := 0) (v := ?v33) rfl (by kernel_rfl) (by kernel_rfl) (by kernel_rfl) (fun _ _ _ h => h) (Or.inl ⟨by rfl, ?y33⟩) HS ?r33
 case y33 =>
  intro w_ hS_
  go_simp
  try with_reducible rfl
 simp only [Act.put, List.getElem_toArray, List.getElem_cons_zero, List.setIfInBounds_toArray, List.set_cons_succ, List.set_cons_zero]
 refine wpAnyH_take (i := 1) (v := .int .i64 ver) rfl (by kernel_rfl) (by kernel_rfl) (by kernel_rfl) (fun _ _ _ h => h) (Or.inl ⟨by rfl, ?y34⟩) HS ?r34
 case y34 =>
  intro w_ hS_
  have c_ : w_.cell? ⟨w.heap.size, 0, none⟩ = some (.int .i64 ver) := by rw [cell_of_row _ _ _ _ _ _ hS_]; exact evl_0 _ _ _ _
  go_simp
  try with_reducible rfl
 simp only [Act.put, List.getElem_toArray, List.getElem_cons_succ, List.getElem_cons_zero, List.setIfInBounds_toArray, List.set_cons_succ, List.set_cons_zero]
 refine wpAnyH_take (i := 2) (v := .int .u64 (v : Int)) rfl (by kernel_rfl) (by kernel_rfl) (by kernel_rfl) (fun _ _ _ h => h) (Or.inl ⟨by rfl, ?y35⟩) HS ?r35
 case y35 =>
  intro w_ hS_
  simp only [List.getElem_toArray, List.getElem_cons_succ, List.getElem_cons_zero]
  go_simp
  try (rw [hv]; rfl)
 simp only [Act.put, List.getElem_toArray, List.getElem_cons_succ, List.getElem_cons_zero, List.setIfInBounds_toArray, List.set_cons_succ, List.set_cons_zero]
 refine wpAnyH_take (i := 3) (v := .agg #[.int .u64 (v : Int), .slice none 0 0, .slice none 0 0]) rfl (by kernel_rfl) (by kernel_rfl) (by kernel_rfl) (fun _ _ _ h => h) (Or.inl ⟨by rfl, ?y36⟩) HS ?r36
 case y36 =>
  intro w_ hS_
  go_simp
  try with_reducible rfl
 simp only [Act.put, List.getElem_toArray, List.getElem_cons_succ, List.getElem_cons_zero, List.setIfInBounds_toArray, List.set_cons_succ, List.set_cons_zero]
 refine wpAnyH_take (i := 4) (v := ?v37) rfl (by kernel_rfl) (by kernel_rfl) (by kernel_rfl) (fun _ _ _ h => h) (Or.inl ⟨by rfl, ?y37⟩) HS ?r37
 case y37 =>
  intro w_ hS_
  go_simp
  try with_reducible rfl
 simp only [Act.put, List.getElem_toArray, List.getElem_cons_succ, List.getElem_cons_zero, List.setIfInBounds_toArray, List.set_cons_succ, List.set_cons_zero]
 refine wpAnyH_take (i := 5) (v := .slice (some ⟨w.heap.size, 1, none⟩) 16 16) rfl (by kernel_rfl) (by kernel_rfl) (by kernel_rfl) (fun _ _ _ h => h) (Or.inl ⟨by rfl, ?y38⟩) HS ?r38
 case y38 =>
  intro w_ hS_
  go_simp
  try with_reducible rfl
 simp only [Act.put, List.getElem_toArray, List.getElem_cons_succ, List.getElem_cons_zero, List.setIfInBounds_toArray, List.set_cons_succ, List.set_cons_zero]
 refine wpAnyH_take (i := 6) (v := .agg #[.int .u64 0, .slice (some ⟨w.heap.size, 1, none⟩) 16 16, .slice none 0 0]) rfl (by kernel_rfl) (by kernel_rfl) (by kernel_rfl) (fun _ _ _ h => h) (Or.inl ⟨by rfl, ?y39⟩) HS ?r39
 case y39 =>
  intro w_ hS_
  go_simp
  try with_reducible rfl
 simp only [Act.put, List.getElem_toArray, List.getElem_cons_succ, List.getElem_cons_zero, List.setIfInBounds_toArray, List.set_cons_succ, List.set_cons_zero]
 refine wpAnyH_take (i := 7) (v := ?v40) rfl (by kernel_rfl) (by kernel_rfl) (by kernel_rfl) (fun _ _ _ h => h) (Or.inl ⟨by rfl, ?y40⟩) HS ?r40
 case y40 =>
  intro w_ hS_
  go_simp
  try with_reducible rfl
 simp only [Act.put, List.getElem_toArray, List.getElem_cons_succ, List.getElem_cons_zero, List.setIfInBounds_toArray, List.set_cons_succ, List.set_cons_zero]
 refine wpAnyH_take (i := 8) (v := .slice ha hl hc) rfl (by kernel_rfl) (by kernel_rfl) (by kernel_rfl) (fun _ _ _ h => h) (Or.inl ⟨by rfl, ?y41⟩) HS ?r41
 case y41 =>
  intro w_ hS_
  have c_ : w_.cell? ⟨w.heap.size, 17, none⟩ = some (.slice ha hl hc) := by rw [cell_of_row _ _ _ _ _ _ hS_]; exact evl_h _ _ hn _ _
  go_simp
  try with_reducible rfl
 simp only [Act.put, List.getElem_toArray, List.getElem_cons_succ, List.getElem_cons_zero, List.setIfInBounds_toArray, List.set_cons_succ, List.set_cons_zero]
 refine wpAnyH_take (i := 9) (v := .agg #[.int .u64 0, .slice ha hl hc, .slice none 0 0]) rfl (by kernel_rfl) (by kernel_rfl) (by kernel_rfl) (fun _ _ _ h => h) (Or.inl ⟨by rfl, ?y42⟩) HS ?r42
 case y42 =>
  intro w_ hS_
  go_simp
  try with_reducible rfl
 simp only [Act.put, List.getElem_toArray, List.getElem_cons_succ, List.getElem_cons_zero, List.setIfInBounds_toArray, List.set_cons_succ, List.set_cons_zero]
 refine wpAnyH_take (i := 10) (v := ?v43) rfl (by kernel_rfl) (by kernel_rfl) (by kernel_rfl) (fun _ _ _ h => h) (Or.inl ⟨by rfl, ?y43⟩) HS ?r43
 case y43 =>
  intro w_ hS_
  go_simp
  try with_reducible rfl
 simp only [Act.put, List.getElem_toArray, List.getElem_cons_succ, List.getElem_cons_zero, List.setIfInBounds_toArray, List.set_cons_succ, List.set_cons_zero]
 refine wpAnyH_take (i := 11) (v := .slice ba bn bc) rfl (by kernel_rfl) (by kernel_rfl) (by kernel_rfl) (fun _ _ _ h => h) (Or.inl ⟨by rfl, ?y44⟩) HS ?r44
 case y44 =>
  intro w_ hS_
  have c_ : w_.cell? ⟨w.heap.size, 18, none⟩ = some (.slice ba bn bc) := by rw [cell_of_row _ _ _ _ _ _ hS_]; exact evl_b _ _ hn _ _
  go_simp
  try with_reducible rfl
 simp only [Act.put, List.getElem_toArray, List.getElem_cons_succ, List.getElem_cons_zero, List.setIfInBounds_toArray, List.set_cons_succ, List.set_cons_zero]
 refine wpAnyH_take (i := 12) (v := .agg #[.int .u64 0, .slice ba bn bc, .slice none 0 0]) rfl (by kernel_rfl) (by kernel_rfl) (by kernel_rfl) (fun _ _ _ h => h) (Or.inl ⟨by rfl, ?y45⟩) HS ?r45
 case y45 =>
  intro w_ hS_
  go_simp
  try with_reducible rfl
 simp only [Act.put, List.getElem_toArray, List.getElem_cons_succ, List.getElem_cons_zero, List.setIfInBounds_toArray, List.set_cons_succ, List.set_cons_zero]
 refine wpAnyH_one (k := 13) (fuel := 2) (by kernel_rfl) rfl (by kernel_rfl) (fun K_ hK => ?_)
 refine wp_val_op (.slice (some ⟨w2.heap.size, 0, none⟩) 4 4) (w' := w2.alloc (.cells #[.int .u64 (v : Int), .slice none 0 0, .slice none 0 0, .int .u64 0, .slice (some ⟨w.heap.size, 1, none⟩) 16 16, .slice none 0 0, .int .u64 0, .slice ha hl hc, .slice none 0 0, .int .u64 0, .slice ba bn bc, .slice none 0 0] 78)) (by kernel_rfl) ?_
 have RP := hp1_0 w2 (.cells #[.int .u64 (v : Int), .slice none 0 0, .slice none 0 0, .int .u64 0, .slice (some ⟨w.heap.size, 1, none⟩) 16 16, .slice none 0 0, .int .u64 0, .slice ha hl hc, .slice none 0 0, .int .u64 0, .slice ba bn bc, .slice none 0 0] 78)
 have hb_ : Below w2.heap.size w2 (w2.alloc (.cells #[.int .u64 (v : Int), .slice none 0 0, .slice none 0 0, .int .u64 0, .slice (some ⟨w.heap.size, 1, none⟩) 16 16, .slice none 0 0, .int .u64 0, .slice ha hl hc, .slice none 0 0, .int .u64 0, .slice ba bn bc, .slice none 0 0] 78)) := (Below.refl _ _).alloc (Nat.le_refl _) _
 have szq := hw.size
 have l1_ := lt_of_row R1
 replace HS := keep hb_ HS
 replace R1 := keep hb_ R1
 replace hw := Below.after hw hb_
 clear hb_
 refine hK _ _ HS ?_
 simp only [Act.put, List.getElem_toArray, List.getElem_cons_succ, List.getElem_cons_zero, List.setIfInBounds_toArray, List.set_cons_succ, List.set_cons_zero]
 clear hK
 generalize w2.alloc (.cells #[.int .u64 (v : Int), .slice none 0 0, .slice none 0 0, .int .u64 0, .slice (some ⟨w.heap.size, 1, none⟩) 16 16, .slice none 0 0, .int .u64 0, .slice ha hl hc, .slice none 0 0, .int .u64 0, .slice ba bn bc, .slice none 0 0] 78) = w3 at *
 generalize w2.heap.size = gp at *
 refine wpAnyH_take (i := 14) (v := .agg #[.int .u64 0, .slice none 0 0, .slice (some ⟨gp, 0, none⟩) 4 4]) rfl (by kernel_rfl) (by kernel_rfl) (by kernel_rfl) (fun _ _ _ h => h) (Or.inl ⟨by rfl, ?y46⟩) HS ?r46
 case y46 =>
  intro w_ hS_
  go_simp
  try with_reducible rfl
 simp only [Act.put, List.getElem_toArray, List.getElem_cons_succ, List.getElem_cons_zero, List.setIfInBounds_toArray, List.set_cons_succ, List.set_cons_zero]
 refine wpAnyH_one (k := 15) (fuel := 0) (by kernel_rfl) rfl (by kernel_rfl) (fun K_ hK => ?_)
 refine wp_store_row 78 _ _ rfl (w.heap.size + 1) #[.int .u64 0, .slice none 0 0, .slice (some ⟨gp, 0, none⟩) 4 4] rfl rfl 78 _ R1 infoV rfl (by simp [Value.oneCell']) ?_
 replace HS := (setRow_other w3 (w.heap.size + 1) (w.heap.size) #[.int .u64 0, .slice none 0 0, .slice (some ⟨gp, 0, none⟩) 4 4] (by omega)).trans HS
 replace RP := (setRow_other w3 (w.heap.size + 1) gp #[.int .u64 0, .slice none 0 0, .slice (some ⟨gp, 0, none⟩) 4 4] (by omega)).trans RP
 replace R1 := setRow_heap w3 (w.heap.size + 1) _ #[.int .u64 0, .slice none 0 0, .slice (some ⟨gp, 0, none⟩) 4 4] _ _ R1
 replace hw := below_setRow hw (show w.heap.size ≤ w.heap.size + 1 by omega) #[.int .u64 0, .slice none 0 0, .slice (some ⟨gp, 0, none⟩) 4 4]
 refine hK _ _ HS ?_
 simp only [Act.put]
 clear hK
 generalize w3.setRow (w.heap.size + 1) #[.int .u64 0, .slice none 0 0, .slice (some ⟨gp, 0, none⟩) 4 4] = w4 at *
 refine wpAnyH_done (by kernel_rfl) ?_ _
 refine NoPanic.normal ?_
 go_wp2_with (fail)
 exact bodyPost_ret (v := .agg #[.int .u64 0, .slice none 0 0, .slice (some ⟨gp, 0, none⟩) 4 4]) (results_cell_row Tryz.results43 _ _ (w.heap.size + 1) _ _ _ _ rfl R1 Tryz.underlying78 rfl infoV) rfl ⟨w.heap.size, gp, rfl, Nat.le_refl _, szq, HS, RP, hw⟩
theorem dec_eq (a b : Nat) : decide ((a : Int) = (b : Int)) = decide (a = b) := by
 by_cases h : a = b
 ·subst h; simp
 ·rw [decide_eq_false h, decide_eq_false (by omega)]
set_option maxRecDepth 100000 in
set_option maxHeartbeats 8000000 in
theorem a_fits1 (k : Nat) (hk : k ≤ 1152921504606846000) (ba : Option Addr) (bc : Nat) (w : World) : Calls Tryz.prog 44 #[.agg #[.int .u64 1, .func (.func 71) #[] #[]], .slice ba (k + 16) bc] w fun e w' => e = .returned (.bool (decide (k = bkd (dg 1) k))) ∧ Below w.heap.size w w' := by
 have g4 := a_powers k (by omega)
 rw [← dec_eq, show bkd (dg 1) k = bkd 1 k from rfl]
 generalize bkd 1 k = b at *
 have q : (((k + 16 : Nat) : Int) - 16) = (k : Int) := by omega
 have hbl : ∀ o, Below w.heap.size w (w.alloc o) := fun o => (Below.refl _ _).alloc (Nat.le_refl _) _
 go_enter Tryz.func44, Tryz.ntmps44
 go_wp2_with (fail)
 refine (g4.at _).mono ?_
 rintro e_ w1 ⟨rfl, hb⟩
 replace hb := (hbl _).trans (hb.mono (by simp))
 go_wp2
 go_ret
 exact ⟨by first | rfl | (congr 2; exact decide_eq_decide.2 Iff.rfl), hb⟩
set_option maxRecDepth 100000 in
set_option maxHeartbeats 8000000 in
theorem a_fits2 (k : Nat) (hk : k ≤ 1152921504606846000) (ba : Option Addr) (bc : Nat) (w : World) : Calls Tryz.prog 44 #[.agg #[.int .u64 2, .func (.func 72) #[] #[]], .slice ba (k + 16) bc] w fun e w' => e = .returned (.bool (decide (k = bkd (dg 2) k))) ∧ Below w.heap.size w w' := by
 have g4 := a_eighths k (by omega)
 rw [← dec_eq, show bkd (dg 2) k = bkd 4 k from rfl]
 generalize bkd 4 k = b at *
 have q : (((k + 16 : Nat) : Int) - 16) = (k : Int) := by omega
 have hbl : ∀ o, Below w.heap.size w (w.alloc o) := fun o => (Below.refl _ _).alloc (Nat.le_refl _) _
 go_enter Tryz.func44, Tryz.ntmps44
 go_wp2_with (fail)
 refine (g4.at _).mono ?_
 rintro e_ w1 ⟨rfl, hb⟩
 replace hb := (hbl _).trans (hb.mono (by simp))
 go_wp2
 go_ret
 exact ⟨by first | rfl | (congr 2; exact decide_eq_decide.2 Iff.rfl), hb⟩
theorem enc_ret {b : Nat} {f : Option Flt3} {bs : List B} {e : Ending} {w' : World} {Pq : Prop} (h : Enc b f bs e w' ∧ Pq) : ∃ v, e = .returned v ∧ Enc b f bs (.returned v) w' ∧ Pq := by
 obtain ⟨h, hb⟩ := h
 have h' := h
 unfold Enc at h
 cases f with
 | none => obtain ⟨u, rfl, _⟩ := h; exact ⟨_, rfl, h', hb⟩
 | some x => obtain ⟨g, rfl, _⟩ := h; exact ⟨_, rfl, h', hb⟩
theorem enc_two {b : Nat} {f : Option Flt3} {bs : List B} {v : Value} {w' : World} (h : Enc b f bs (.returned v) w') : ∃ va vb, v = .tuple #[va, vb] := by
 unfold Enc at h
 cases f with
 | none => obtain ⟨u, e, _⟩ := h; injection e with e; exact ⟨_, _, e⟩
 | some x => obtain ⟨g, e, _⟩ := h; injection e with e; exact ⟨_, _, e⟩
theorem enc_none {b : Nat} {bs : List B} {va vb : Value} {w' : World} (h : Enc b none bs (.returned (.tuple #[va, vb])) w') : vb = .nilIface ∧ Own w' b va bs := by
 obtain ⟨u, e, hO⟩ := h
 injection e with e
 injection e with e
 simp at e
 obtain ⟨rfl, rfl⟩ := e
 exact ⟨rfl, hO⟩
theorem enc_some {b : Nat} {x : Flt3} {bs : List B} {va vb : Value} {w' : World} (h : Enc b (some x) bs (.returned (.tuple #[va, vb])) w') : ∃ g, va = .slice none 0 0 ∧ vb = .iface 87 (.pointer (some ⟨g, 0, none⟩)) ∧ b ≤ g ∧ w'.heap[g]? = some (.cells (frw x) 35 (0, 0)) := by
 obtain ⟨g, e, h1, h2⟩ := h
 injection e with e
 injection e with e
 simp at e
 obtain ⟨rfl, rfl⟩ := e
 exact ⟨g, rfl, rfl, h1, h2⟩
set_option maxRecDepth 100000 in
set_option maxHeartbeats 8000000 in
theorem a_PackE1 (nonce : List B) (hn : nonce.length = 16) (ha : Option Addr) (hl hc : Nat) (ba : Option Addr) (bn bc : Nat) (hd bd : List B) (w : World) (hE : Ety w) (hH : BysB w (.slice ha hl hc) hd) (hB : BysB w (.slice ba bn bc) bd) (lh : hd.length = hl) (lb : bd.length = bn) (b1 : hd.length ≤ 140737488351232) (b2 : bd.length ≤ 140737488351232) : Calls Tryz.prog 18 #[.agg (evl 1 nonce (.slice ha hl hc) (.slice ba bn bc))] w fun e w' => Enc w.heap.size (pk10 1 hl bn) (eout (efs 1 nonce hd bd)) e w' ∧ Below w.heap.size w w' := by
 have R0 := hp1_0 w (.cells (evl 1 nonce (.slice ha hl hc) (.slice ba bn bc)) 51)
 have hw : Below w.heap.size w (w.alloc (.cells (evl 1 nonce (.slice ha hl hc) (.slice ba bn bc)) 51)) := (Below.refl _ _).alloc (Nat.le_refl _) _
 replace hH := hH.keep hw
 replace hB := hB.keep hw
 replace hE := hE.keep hw rfl
 have cR : Gives 40 #[.int .u64 1] (.tuple #[.agg #[.int .u64 1, .func (.func 71) #[] #[]], .bool true]) := fun W => a_rulesOf 1 (by decide) W
 replace cR := hide cR
 have c0 : (w.alloc (.cells (evl 1 nonce (.slice ha hl hc) (.slice ba bn bc)) 51)).cell? ⟨w.heap.size, 0, none⟩ = some (.int .i64 1) := by rw [cell_of_row _ _ _ _ _ _ R0]; exact evl_0 _ _ _ _
 go_enter Tryz.func18, Tryz.ntmps18
 go_wp2_with (first | (refine wpList_box rfl 51 _ rfl _ rfl (bEv _) ?_) | fail)
 refine (cR.out _).mono ?_
 rintro e_ w1 ⟨rfl, hb_⟩
 generalize w.alloc (.cells (evl 1 nonce (.slice ha hl hc) (.slice ba bn bc)) 51) = w0 at *
 have lw := lt_of_row R0
 replace R0 := keep hb_ R0
 replace hH := hH.keep hb_
 replace hB := hB.keep hb_
 replace hE := hE.keep hb_ rfl
 replace hw := Below.after hw hb_
 have sz1 := hb_.size
 clear hb_ cR c0
 have z_ := hp1_0 w1 (.cells #[.int .u64 0, .nilFunc] 94)
 have oF := oneFx 1 71
 go_wp2_with (first | (refine wpList_store_row rfl 94 _ _ rfl w1.heap.size #[.int .u64 1, .func (.func 71) #[] #[]] rfl rfl 94 _ z_ infoR rfl oF ?_; refine wpList_stay ?_) | fail)
 unfold WpStay
 try simp only [Act.put, List.setIfInBounds_toArray, List.set_cons_succ, List.set_cons_zero]
 have RU := setRow_heap (w1.alloc (.cells #[.int .u64 0, .nilFunc] 94)) w1.heap.size _ #[.int .u64 1, .func (.func 71) #[] #[]] _ _ z_
 have hb_ : Below w1.heap.size w1 ((w1.alloc (.cells #[.int .u64 0, .nilFunc] 94)).setRow w1.heap.size #[.int .u64 1, .func (.func 71) #[] #[]]) := below_setRow ((Below.refl _ _).alloc (Nat.le_refl _) _) (Nat.le_refl _) _
 clear z_
 replace R0 := keep hb_ R0
 replace hH := hH.keep hb_
 replace hB := hB.keep hb_
 replace hE := hE.keep hb_ rfl
 replace hw := Below.after hw hb_
 have sz2 := hb_.size
 clear hb_
 generalize (w1.alloc (.cells #[.int .u64 0, .nilFunc] 94)).setRow w1.heap.size #[.int .u64 1, .func (.func 71) #[] #[]] = x4 at *
 generalize w1.heap.size = gU at *
 go_upto_region 4 with (fail)
 have hb_ : Below x4.heap.size x4 x4.drew := below_drN (Below.refl _ _) 1
 replace R0 := keep hb_ R0
 replace RU := keep hb_ RU
 replace hH := hH.keep hb_
 replace hB := hB.keep hb_
 replace hE := hE.keep hb_ rfl
 replace hw := Below.after hw hb_
 have HS : (fun W : World => W.heap[w.heap.size]? = some (.cells (evl 1 nonce (.slice ha hl hc) (.slice ba bn bc)) 51 (0, 0)) ∧ W.heap[gU]? = some (.cells #[.int .u64 1, .func (.func 71) #[] #[]] 94 (0, 0))) x4.drew := ⟨R0, RU⟩
 have sz_d := hb_.size
 clear hb_ R0 RU oF
 refine wp_region_noPanic ?_
 refine wp_region_held (S := fun W : World => W.heap[w.heap.size]? = some (.cells (evl 1 nonce (.slice ha hl hc) (.slice ba bn bc)) 51 (0, 0)) ∧ W.heap[gU]? = some (.cells #[.int .u64 1, .func (.func 71) #[] #[]] 94 (0, 0))) (by kernel_rfl) ?_
 change wpAnyH _ _ _ _ _ _ _ _ (World.drew _)
 generalize x4.drew = y0 at *
 refine wpAnyH_take (i := 0) (v := .agg #[.int .u64 1, .func (.func 71) #[] #[]]) rfl (by kernel_rfl) (by kernel_rfl) (by kernel_rfl) (fun _ _ _ h => h) (Or.inl ⟨by rfl, ?y47⟩) HS ?r47
 case y47 =>
  intro w_ hS_
  simp only [List.getElem_toArray, List.getElem_cons_zero]
  exact run_load_part 94 _ (by rfl) (gU) 0 (by rfl) 94 #[.int .u64 1, .func (.func 71) #[] #[]] (0, 0) #[.int .u64 1, .func (.func 71) #[] #[]] _ (hS_.2) (all_rowB _) Tryz.underlying94 rfl infoR
 simp only [Act.put, List.getElem_toArray, List.getElem_cons_zero, List.setIfInBounds_toArray, List.set_cons_succ, List.set_cons_zero]
 refine wpAnyH_take (i := 2) (v := .agg (evl 1 nonce (.slice ha hl hc) (.slice ba bn bc))) rfl (by kernel_rfl) (by kernel_rfl) (by kernel_rfl) (fun _ _ _ h => h) (Or.inl ⟨by rfl, ?y48⟩) HS ?r48
 case y48 =>
  intro w_ hS_
  simp only [List.getElem_toArray, List.getElem_cons_succ, List.getElem_cons_zero]
  exact run_load_part 51 _ (by rfl) (w.heap.size) 0 (by rfl) 51 (evl 1 nonce (.slice ha hl hc) (.slice ba bn bc)) (0, 0) (evl 1 nonce (.slice ha hl hc) (.slice ba bn bc)) _ (hS_.1) (all_rowB _) Tryz.underlying51 rfl (evl_info _ _ hn _ _)
 simp only [Act.put, List.getElem_toArray, List.getElem_cons_succ, List.getElem_cons_zero, List.setIfInBounds_toArray, List.set_cons_succ, List.set_cons_zero]
 refine wpAnyH_one (k := 1) (fuel := 7) (by kernel_rfl) rfl (by kernel_rfl) (fun K_ hK => ?_)
 refine wp_call_ex (f := 41) (R := fun v w' => ∃ q, v = .pointer (some ⟨q, 0, none⟩) ∧ y0.heap.size ≤ q ∧ Cdc w' q (esl 1) ∧ Below y0.heap.size y0 w') (by kernel_rfl) ((a_codecE1 y0).mono (fun e w' h => (by obtain ⟨⟨q, e1, e2, e3⟩, e4⟩ := h; exact ⟨_, e1, q, rfl, e2, e3, e4⟩ : ∃ v, e = .returned v ∧ ∃ q, v = .pointer (some ⟨q, 0, none⟩) ∧ y0.heap.size ≤ q ∧ Cdc w' q (esl 1) ∧ Below y0.heap.size y0 w'))) (fun v_ y1 hX_ => ?_)
 obtain ⟨q, rfl, hq1, hC, hb_⟩ := hX_
 have HS' : (fun W : World => W.heap[w.heap.size]? = some (.cells (evl 1 nonce (.slice ha hl hc) (.slice ba bn bc)) 51 (0, 0)) ∧ W.heap[gU]? = some (.cells #[.int .u64 1, .func (.func 71) #[] #[]] 94 (0, 0))) y1 := ⟨keep hb_ HS.1, keep hb_ HS.2⟩
 replace HS := HS'
 clear HS'
 replace hH := hH.keep hb_
 replace hB := hB.keep hb_
 replace hE := hE.keep hb_ rfl
 have sz_y1 := hb_.size
 replace hw := Below.after hw hb_
 clear hb_
 refine hK _ _ HS ?_
 simp only [Act.put, List.getElem_toArray, List.getElem_cons_succ, List.getElem_cons_zero, List.setIfInBounds_toArray, List.set_cons_succ, List.set_cons_zero]
 clear hK
 refine wpAnyH_one (k := 3) (fuel := 6) (by kernel_rfl) rfl (by kernel_rfl) (fun K_ hK => ?_)
 refine wp_call_ex (f := 43) (R := fun v w' => ∃ g gp, v = .agg #[.int .u64 0, .slice none 0 0, .slice (some ⟨gp, 0, none⟩) 4 4] ∧ y1.heap.size ≤ g ∧ y1.heap.size ≤ gp ∧ w'.heap[g]? = some (.cells (evl 1 nonce (.slice ha hl hc) (.slice ba bn bc)) 51 (0, 0)) ∧ w'.heap[gp]? = some (.cells #[.int .u64 ((1 : Nat) : Int), .slice none 0 0, .slice none 0 0, .int .u64 0, .slice (some ⟨g, 1, none⟩) 16 16, .slice none 0 0, .int .u64 0, .slice ha hl hc, .slice none 0 0, .int .u64 0, .slice ba bn bc, .slice none 0 0] 78 (0, 0)) ∧ Below y1.heap.size y1 w') (by kernel_rfl) ((a_valueOf 1 1 rfl nonce hn ha hl hc ba bn bc y1).mono (fun e w' h => (by obtain ⟨g, gp, e1, e2⟩ := h; exact ⟨_, e1, g, gp, rfl, e2⟩ : ∃ v, e = .returned v ∧ ∃ g gp, v = .agg #[.int .u64 0, .slice none 0 0, .slice (some ⟨gp, 0, none⟩) 4 4] ∧ y1.heap.size ≤ g ∧ y1.heap.size ≤ gp ∧ w'.heap[g]? = some (.cells (evl 1 nonce (.slice ha hl hc) (.slice ba bn bc)) 51 (0, 0)) ∧ w'.heap[gp]? = some (.cells #[.int .u64 ((1 : Nat) : Int), .slice none 0 0, .slice none 0 0, .int .u64 0, .slice (some ⟨g, 1, none⟩) 16 16, .slice none 0 0, .int .u64 0, .slice ha hl hc, .slice none 0 0, .int .u64 0, .slice ba bn bc, .slice none 0 0] 78 (0, 0)) ∧ Below y1.heap.size y1 w'))) (fun v_ y2 hX_ => ?_)
 obtain ⟨g, gp, rfl, hg1, hg2, RG, RP, hb_⟩ := hX_
 replace hC := hC.keep hb_
 have HS' : (fun W : World => W.heap[w.heap.size]? = some (.cells (evl 1 nonce (.slice ha hl hc) (.slice ba bn bc)) 51 (0, 0)) ∧ W.heap[gU]? = some (.cells #[.int .u64 1, .func (.func 71) #[] #[]] 94 (0, 0))) y2 := ⟨keep hb_ HS.1, keep hb_ HS.2⟩
 replace HS := HS'
 clear HS'
 replace hH := hH.keep hb_
 replace hB := hB.keep hb_
 replace hE := hE.keep hb_ rfl
 have sz_y2 := hb_.size
 replace hw := Below.after hw hb_
 clear hb_
 refine hK _ _ HS ?_
 simp only [Act.put, List.getElem_toArray, List.getElem_cons_succ, List.getElem_cons_zero, List.setIfInBounds_toArray, List.set_cons_succ, List.set_cons_zero]
 clear hK
 refine wpAnyH_one (k := 4) (fuel := 5) (by kernel_rfl) rfl (by kernel_rfl) (fun K_ hK => ?_)
 have cE := a_EncodeF esl1_flat 0 (by decide) none 0 0 (.slice (some ⟨gp, 0, none⟩) 4 4) (exs 1 g ha hl hc ba bn bc) [[], nonce, hd, bd] y2 hC (exs_prt (by decide) (by have := hH.2.1; omega) (by have := hB.2.1; omega) ⟨_, RP⟩) (fun _ => exs_bys (by decide) hn RG hH hB b1 b2)
 rw [esl_ck, exs_fdk] at cE
 refine wp_call_ex (R := fun v w' => Enc y2.heap.size (ek10 1 hl bn) (eout (efs 1 nonce hd bd)) (.returned v) w' ∧ Below y2.heap.size y2 w') (by kernel_rfl) (cE.mono (fun e w' h => enc_ret h)) (fun v_ y3 hX_ => ?_)
 obtain ⟨hEn, hb_⟩ := hX_
 have HS' : (fun W : World => W.heap[w.heap.size]? = some (.cells (evl 1 nonce (.slice ha hl hc) (.slice ba bn bc)) 51 (0, 0)) ∧ W.heap[gU]? = some (.cells #[.int .u64 1, .func (.func 71) #[] #[]] 94 (0, 0))) y3 := ⟨keep hb_ HS.1, keep hb_ HS.2⟩
 replace HS := HS'
 clear HS'
 replace hH := hH.keep hb_
 replace hB := hB.keep hb_
 replace hE := hE.keep hb_ rfl
 have sz_y3 := hb_.size
 replace hw := Below.after hw hb_
 clear hb_ cE hC RG RP
 obtain ⟨va, vb, rfl⟩ : ∃ va vb, v_ = .tuple #[va, vb] := enc_two hEn
 refine hK _ _ HS ?_
 simp only [Act.put, List.getElem_toArray, List.getElem_cons_succ, List.getElem_cons_zero, List.setIfInBounds_toArray, List.set_cons_succ, List.set_cons_zero]
 clear hK
 refine wpAnyH_take (i := 5) (v := ?v49) rfl (by kernel_rfl) (by kernel_rfl) (by kernel_rfl) (fun _ _ _ h => h) (Or.inl ⟨by rfl, ?y49⟩) HS ?r49
 case y49 =>
  intro w_ hS_
  go_simp
  try with_reducible rfl
 simp only [Act.put, List.getElem_toArray, List.getElem_cons_succ, List.getElem_cons_zero, List.setIfInBounds_toArray, List.set_cons_succ, List.set_cons_zero]
 refine wpAnyH_take (i := 6) (v := ?v50) rfl (by kernel_rfl) (by kernel_rfl) (by kernel_rfl) (fun _ _ _ h => h) (Or.inl ⟨by rfl, ?y50⟩) HS ?r50
 case y50 =>
  intro w_ hS_
  go_simp
  try with_reducible rfl
 simp only [Act.put, List.getElem_toArray, List.getElem_cons_succ, List.getElem_cons_zero, List.setIfInBounds_toArray, List.set_cons_succ, List.set_cons_zero]
 refine wpAnyH_take (i := 7) (v := ?v51) rfl (by kernel_rfl) (by kernel_rfl) (by kernel_rfl) (fun _ _ _ h => h) (Or.inl ⟨by rfl, ?y51⟩) HS ?r51
 case y51 =>
  intro w_ hS_
  go_simp
  try with_reducible rfl
 simp only [Act.put, List.getElem_toArray, List.getElem_cons_succ, List.getElem_cons_zero, List.setIfInBounds_toArray, List.set_cons_succ, List.set_cons_zero]
 refine wpAnyH_take (i := 8) (v := ?v52) rfl (by kernel_rfl) (by kernel_rfl) (by kernel_rfl) (fun _ _ _ h => h) (Or.inl ⟨by rfl, ?y52⟩) HS ?r52
 case y52 =>
  intro w_ hS_
  go_simp
  try with_reducible rfl
 simp only [Act.put, List.getElem_toArray, List.getElem_cons_succ, List.getElem_cons_zero, List.setIfInBounds_toArray, List.set_cons_succ, List.set_cons_zero]
 refine wpAnyH_take (i := 9) (v := ?v53) rfl (by kernel_rfl) (by kernel_rfl) (by kernel_rfl) (fun _ _ _ h => h) (Or.inl ⟨by rfl, ?y53⟩) HS ?r53
 case y53 =>
  intro w_ hS_
  go_simp
  try with_reducible rfl
 simp only [Act.put, List.getElem_toArray, List.getElem_cons_succ, List.getElem_cons_zero, List.setIfInBounds_toArray, List.set_cons_succ, List.set_cons_zero]
 refine wpAnyH_done (by kernel_rfl) ?_ _
 refine NoPanic.normal ?_
 have RU := HS.2
 have R0 := HS.1
 clear HS
 have lU := lt_of_row RU
 have hw0 := hw.size
 have rP := hp1_0 y3 (.cells #[.pointer none] 87)
 have hbP : Below y3.heap.size y3 (y3.alloc (.cells #[.pointer none] 87)) := (Below.refl _ _).alloc (Nat.le_refl _) _
 by_cases h1 : hl = 60
 ·by_cases h2 : bn < 80 ∨ mo 1 < bn
  ·have hfin : Hid (pk10 1 hl bn = some ⟨1, 4, 102⟩) := hide (by unfold pk10; rw [if_neg (by omega), if_pos h2])
   rw [show ek10 1 hl bn = some ⟨1, 4, 83⟩ by unfold ek10; rw [if_neg (by omega), if_pos h2]] at hEn
   clear h1 h2
   obtain ⟨gF, rfl, rfl, hgF, RF⟩ := enc_some hEn
   clear hEn hH hB
   have lF := lt_of_row RF
   have cA := as_fault gF y3.heap.size (y3.alloc (.cells #[.pointer none] 87)) (hE.keep hbP rfl) rP
   replace RF := keep hbP RF
   replace hw := Below.after hw hbP
   clear hE R0 RU
   replace cA := hide cA
   go_wp2_with (fail)
   refine cA.out.mono ?_
   rintro e_ z0 ⟨rfl, RK, hbu⟩
   replace RF := hbu.row RF (by omega)
   replace hw := But.after hw (by omega) hbu
   clear cA hbu rP hbP
   generalize y3.heap.size = gK at *
   go_upto_region 7 with (fail)
   have hbd : Below z0.heap.size z0 z0.drew := below_drN (Below.refl _ _) 1
   replace RF := keep hbd RF
   replace RK := keep hbd RK
   replace hw := Below.after hw hbd
   have HS : (fun W : World => W.heap[gK]? = some (.cells #[.pointer (some ⟨gF, 0, none⟩)] 87 (0, 0)) ∧ W.heap[gF]? = some (.cells (frw ⟨1, 4, 83⟩) 35 (0, 0))) z0.drew := ⟨RK, RF⟩
   clear hbd RF RK
   refine wp_region_noPanic ?_
   refine wp_region_held (S := fun W : World => W.heap[gK]? = some (.cells #[.pointer (some ⟨gF, 0, none⟩)] 87 (0, 0)) ∧ W.heap[gF]? = some (.cells (frw ⟨1, 4, 83⟩) 35 (0, 0))) (by kernel_rfl) ?_
   change wpAnyH _ _ _ _ _ _ _ _ (World.drew _)
   generalize z0.drew = z1 at *
   refine wpAnyH_take (i := 0) (v := .pointer (some ⟨gF, 0, none⟩)) rfl (by kernel_rfl) (by kernel_rfl) (by kernel_rfl) (fun _ _ _ h => h) (Or.inl ⟨by rfl, ?y54⟩) HS ?r54
   case y54 =>
    intro w_ hS_
    have c_ : w_.cell? ⟨gK, 0, none⟩ = some (.pointer (some ⟨gF, 0, none⟩)) := by rw [cell_of_row _ _ _ _ _ _ hS_.1]; rfl
    go_simp
    try with_reducible rfl
   simp only [Act.put, List.getElem_toArray, List.getElem_cons_zero, List.setIfInBounds_toArray, List.set_cons_succ, List.set_cons_zero]
   refine wpAnyH_take (i := 1) (v := ?v55) rfl (by kernel_rfl) (by kernel_rfl) (by kernel_rfl) (fun _ _ _ h => h) (Or.inl ⟨by rfl, ?y55⟩) HS ?r55
   case y55 =>
    intro w_ hS_
    go_simp
    try with_reducible rfl
   simp only [Act.put, List.getElem_toArray, List.getElem_cons_succ, List.getElem_cons_zero, List.setIfInBounds_toArray, List.set_cons_succ, List.set_cons_zero]
   refine wpAnyH_take (i := 2) (v := ?v56) rfl (by kernel_rfl) (by kernel_rfl) (by kernel_rfl) (fun _ _ _ h => h) (Or.inl ⟨by rfl, ?y56⟩) HS ?r56
   case y56 =>
    intro w_ hS_
    go_simp
    try with_reducible rfl
   simp only [Act.put, List.getElem_toArray, List.getElem_cons_succ, List.getElem_cons_zero, List.setIfInBounds_toArray, List.set_cons_succ, List.set_cons_zero]
   refine wpAnyH_take (i := 3) (v := .int .i64 1) rfl (by kernel_rfl) (by kernel_rfl) (by kernel_rfl) (fun _ _ _ h => h) (Or.inl ⟨by rfl, ?y57⟩) HS ?r57
   case y57 =>
    intro w_ hS_
    have c_ : w_.cell? ⟨gF, 0, none⟩ = some (.int .i64 1) := by rw [cell_of_row _ _ _ _ _ _ hS_.2]; rfl
    go_simp
    try with_reducible rfl
   simp only [Act.put, List.getElem_toArray, List.getElem_cons_succ, List.getElem_cons_zero, List.setIfInBounds_toArray, List.set_cons_succ, List.set_cons_zero]
   refine wpAnyH_take (i := 4) (v := .pointer (some ⟨gF, 0, none⟩)) rfl (by kernel_rfl) (by kernel_rfl) (by kernel_rfl) (fun _ _ _ h => h) (Or.inl ⟨by rfl, ?y58⟩) HS ?r58
   case y58 =>
    intro w_ hS_
    have c_ : w_.cell? ⟨gK, 0, none⟩ = some (.pointer (some ⟨gF, 0, none⟩)) := by rw [cell_of_row _ _ _ _ _ _ hS_.1]; rfl
    go_simp
    try with_reducible rfl
   simp only [Act.put, List.getElem_toArray, List.getElem_cons_succ, List.getElem_cons_zero, List.setIfInBounds_toArray, List.set_cons_succ, List.set_cons_zero]
   refine wpAnyH_take (i := 5) (v := ?v59) rfl (by kernel_rfl) (by kernel_rfl) (by kernel_rfl) (fun _ _ _ h => h) (Or.inl ⟨by rfl, ?y59⟩) HS ?r59
   case y59 =>
    intro w_ hS_
    go_simp
    try with_reducible rfl
   simp only [Act.put, List.getElem_toArray, List.getElem_cons_succ, List.getElem_cons_zero, List.setIfInBounds_toArray, List.set_cons_succ, List.set_cons_zero]
   refine wpAnyH_take (i := 6) (v := ?v60) rfl (by kernel_rfl) (by kernel_rfl) (by kernel_rfl) (fun _ _ _ h => h) (Or.inl ⟨by rfl, ?y60⟩) HS ?r60
   case y60 =>
    intro w_ hS_
    go_simp
    try with_reducible rfl
   simp only [Act.put, List.getElem_toArray, List.getElem_cons_succ, List.getElem_cons_zero, List.setIfInBounds_toArray, List.set_cons_succ, List.set_cons_zero]
   refine wpAnyH_take (i := 7) (v := .int .i64 4) rfl (by kernel_rfl) (by kernel_rfl) (by kernel_rfl) (fun _ _ _ h => h) (Or.inl ⟨by rfl, ?y61⟩) HS ?r61
   case y61 =>
    intro w_ hS_
    have c_ : w_.cell? ⟨gF, 1, none⟩ = some (.int .i64 4) := by rw [cell_of_row _ _ _ _ _ _ hS_.2]; rfl
    go_simp
    try with_reducible rfl
   simp only [Act.put, List.getElem_toArray, List.getElem_cons_succ, List.getElem_cons_zero, List.setIfInBounds_toArray, List.set_cons_succ, List.set_cons_zero]
   refine wpAnyH_take (i := 8) (v := .agg #[.int .i64 1, .int .i64 4, .int .i64 102]) rfl (by kernel_rfl) (by kernel_rfl) (by kernel_rfl) (fun _ _ _ h => h) (Or.inl ⟨by rfl, ?y62⟩) HS ?r62
   case y62 =>
    intro w_ hS_
    go_simp
    try with_reducible rfl
   simp only [Act.put, List.getElem_toArray, List.getElem_cons_succ, List.getElem_cons_zero, List.setIfInBounds_toArray, List.set_cons_succ, List.set_cons_zero]
   refine wpAnyH_take (i := 11) (v := ?v63) rfl (by kernel_rfl) (by kernel_rfl) (by kernel_rfl) (fun _ _ _ h => h) (Or.inl ⟨by rfl, ?y63⟩) HS ?r63
   case y63 =>
    intro w_ hS_
    go_simp
    try with_reducible rfl
   simp only [Act.put, List.getElem_toArray, List.getElem_cons_succ, List.getElem_cons_zero, List.setIfInBounds_toArray, List.set_cons_succ, List.set_cons_zero]
   refine wpAnyH_one (k := 9) (fuel := 2) (by kernel_rfl) rfl (by kernel_rfl) (fun K_ hK => ?_)
   refine wp_val_op (.pointer (some ⟨z1.heap.size, 0, none⟩)) (w' := z1.alloc (.cells #[.int .i64 1, .int .i64 4, .int .i64 102] 35)) (by kernel_rfl) ?_
   have RX := hp1_0 z1 (.cells #[.int .i64 1, .int .i64 4, .int .i64 102] 35)
   have hb_ : Below z1.heap.size z1 (z1.alloc (.cells #[.int .i64 1, .int .i64 4, .int .i64 102] 35)) := (Below.refl _ _).alloc (Nat.le_refl _) _
   have szx := hw.size
   have HS' : (fun W : World => W.heap[gK]? = some (.cells #[.pointer (some ⟨gF, 0, none⟩)] 87 (0, 0)) ∧ W.heap[gF]? = some (.cells (frw ⟨1, 4, 83⟩) 35 (0, 0))) (z1.alloc (.cells #[.int .i64 1, .int .i64 4, .int .i64 102] 35)) := ⟨keep hb_ HS.1, keep hb_ HS.2⟩
   replace hw := Below.after hw hb_
   clear hb_ HS
   have HS := HS'
   clear HS'
   refine hK _ _ HS ?_
   simp only [Act.put, List.getElem_toArray, List.getElem_cons_succ, List.getElem_cons_zero, List.setIfInBounds_toArray, List.set_cons_succ, List.set_cons_zero]
   clear hK
   generalize z1.alloc (.cells #[.int .i64 1, .int .i64 4, .int .i64 102] 35) = z2 at *
   generalize z1.heap.size = gX at *
   refine wpAnyH_take (i := 10) (v := .iface 87 (.pointer (some ⟨gX, 0, none⟩))) rfl (by kernel_rfl) (by kernel_rfl) (by kernel_rfl) (fun _ _ _ h => h) (Or.inl ⟨by rfl, ?y64⟩) HS ?r64
   case y64 =>
    intro w_ hS_
    go_simp
    try with_reducible rfl
   simp only [Act.put, List.getElem_toArray, List.getElem_cons_succ, List.getElem_cons_zero, List.setIfInBounds_toArray, List.set_cons_succ, List.set_cons_zero]
   refine wpAnyH_take (i := 12) (v := ?v65) rfl (by kernel_rfl) (by kernel_rfl) (by kernel_rfl) (fun _ _ _ h => h) (Or.inl ⟨by rfl, ?y65⟩) HS ?r65
   case y65 =>
    intro w_ hS_
    go_simp
    try with_reducible rfl
   simp only [Act.put, List.getElem_toArray, List.getElem_cons_succ, List.getElem_cons_zero, List.setIfInBounds_toArray, List.set_cons_succ, List.set_cons_zero]
   refine wpAnyH_done (by kernel_rfl) ?_ _
   refine NoPanic.normal ?_
   clear HS
   replace hw := hide hw
   replace RX := hide RX
   go_wp2_with (fail)
   go_ret2
   rw [hfin.out]
   exact ⟨⟨_, rfl, szx, RX.out⟩, hw.out⟩
  ·rw [show ek10 1 hl bn = none by unfold ek10; rw [if_neg (by omega), if_neg h2]] at hEn
   obtain ⟨k, rfl⟩ : ∃ k, bn = k + 16 := ⟨bn - 16, by omega⟩
   have hkb : k ≤ 1152921504606846000 := by have := (show mo 1 = 2097168 from rfl); omega
   have hfin : Hid (pk10 1 hl (k + 16) = if bkd (dg 1) k = k then none else some ⟨1, 4, 102⟩) := hide (by unfold pk10; rw [if_neg (by omega), if_neg h2, Nat.add_sub_cancel])
   have hO := enc_none hEn
   obtain ⟨rfl, hO⟩ := hO
   clear h1 h2 hEn
   obtain ⟨ua, uc, rfl⟩ := slen_own hO
   obtain ⟨L, hL⟩ : ∃ L, eout (efs 1 nonce hd bd) = L := ⟨_, rfl⟩
   rw [hL] at hO
   replace hL := hide hL
   have lO : Hid (y2.heap.size ≤ y3.heap.size) := hide sz_y3
   replace R0 := keep hbP R0
   replace RU := keep hbP RU
   replace hO := hO.keep hbP
   replace hw := Below.after hw hbP
   have c18 : (y3.alloc (.cells #[.pointer none] 87)).cell? ⟨w.heap.size, 18, none⟩ = some (.slice ba (k + 16) bc) := by rw [cell_of_row _ _ _ _ _ _ R0]; exact evl_b _ _ hn _ _
   go_wp2_with (fail)
   refine (as_nil _ _).mono ?_
   rintro e_ w_ ⟨rfl, rfl⟩
   clear rP hbP
   generalize y3.alloc (.cells #[.pointer none] 87) = y4 at *
   replace hO := hide hO
   replace hw := hide hw
   go_wp2_with (first | (refine wpList_load_want rfl 94 _ rfl gU rfl 94 _ (0, 0) _ RU Tryz.underlying94 rfl infoR ?_) | fail)
   refine (a_fits1 k hkb ba bc y4).mono ?_
   rintro e_ y5 ⟨rfl, hb_⟩
   replace hO := hide (hO.out.keep hb_)
   replace hw := hide (Below.after hw.out hb_)
   clear hb_ c18 RU R0
   by_cases hk : k = bkd (dg 1) k
   ·rw [decide_eq_true hk]
    rw [if_pos hk.symm] at hfin
    replace hk := hide hk
    go_wp2_with (fail)
    go_ret2
    rw [hfin.out]
    exact ⟨⟨_, rfl, by rw [hL.out]; exact own_down hO.out (by omega)⟩, hw.out⟩
   ·rw [decide_eq_false hk]
    rw [if_neg (fun h => hk h.symm)] at hfin
    replace hk := hide hk
    have rF := hp1_0 y5 (.cells (frw ⟨1, 4, 102⟩) 35)
    have hb_ : Below y5.heap.size y5 (y5.alloc (.cells (frw ⟨1, 4, 102⟩) 35)) := (Below.refl _ _).alloc (Nat.le_refl _) _
    have szf := hw.out.size
    replace hw := hide (Below.after hw.out hb_)
    replace rF := hide rF
    clear hb_
    unfold frw at *
    go_wp2_with (fail)
    go_ret2
    rw [hfin.out]
    exact ⟨⟨_, rfl, szf, rF.out⟩, hw.out⟩
 ·have hfin : Hid (pk10 1 hl bn = some ⟨1, 3, 102⟩) := hide (by unfold pk10; rw [if_pos h1])
  rw [show ek10 1 hl bn = some ⟨1, 3, 83⟩ by unfold ek10; rw [if_pos h1]] at hEn
  clear h1
  obtain ⟨gF, rfl, rfl, hgF, RF⟩ := enc_some hEn
  clear hEn hH hB
  have lF := lt_of_row RF
  have cA := as_fault gF y3.heap.size (y3.alloc (.cells #[.pointer none] 87)) (hE.keep hbP rfl) rP
  replace RF := keep hbP RF
  replace hw := Below.after hw hbP
  clear hE R0 RU
  replace cA := hide cA
  go_wp2_with (fail)
  refine cA.out.mono ?_
  rintro e_ z0 ⟨rfl, RK, hbu⟩
  replace RF := hbu.row RF (by omega)
  replace hw := But.after hw (by omega) hbu
  clear cA hbu rP hbP
  generalize y3.heap.size = gK at *
  go_upto_region 7 with (fail)
  have hbd : Below z0.heap.size z0 z0.drew := below_drN (Below.refl _ _) 1
  replace RF := keep hbd RF
  replace RK := keep hbd RK
  replace hw := Below.after hw hbd
  have HS : (fun W : World => W.heap[gK]? = some (.cells #[.pointer (some ⟨gF, 0, none⟩)] 87 (0, 0)) ∧ W.heap[gF]? = some (.cells (frw ⟨1, 3, 83⟩) 35 (0, 0))) z0.drew := ⟨RK, RF⟩
  clear hbd RF RK
  refine wp_region_noPanic ?_
  refine wp_region_held (S := fun W : World => W.heap[gK]? = some (.cells #[.pointer (some ⟨gF, 0, none⟩)] 87 (0, 0)) ∧ W.heap[gF]? = some (.cells (frw ⟨1, 3, 83⟩) 35 (0, 0))) (by kernel_rfl) ?_
  change wpAnyH _ _ _ _ _ _ _ _ (World.drew _)
  generalize z0.drew = z1 at *
  refine wpAnyH_take (i := 0) (v := .pointer (some ⟨gF, 0, none⟩)) rfl (by kernel_rfl) (by kernel_rfl) (by kernel_rfl) (fun _ _ _ h => h) (Or.inl ⟨by rfl, ?yz66⟩) HS ?rz66
  case yz66 =>
   intro w_ hS_
   have c_ : w_.cell? ⟨gK, 0, none⟩ = some (.pointer (some ⟨gF, 0, none⟩)) := by rw [cell_of_row _ _ _ _ _ _ hS_.1]; rfl
   go_simp
   try with_reducible rfl
  simp only [Act.put, List.getElem_toArray, List.getElem_cons_zero, List.setIfInBounds_toArray, List.set_cons_succ, List.set_cons_zero]
  refine wpAnyH_take (i := 1) (v := ?vz67) rfl (by kernel_rfl) (by kernel_rfl) (by kernel_rfl) (fun _ _ _ h => h) (Or.inl ⟨by rfl, ?yz67⟩) HS ?rz67
  case yz67 =>
   intro w_ hS_
   go_simp
   try with_reducible rfl
  simp only [Act.put, List.getElem_toArray, List.getElem_cons_succ, List.getElem_cons_zero, List.setIfInBounds_toArray, List.set_cons_succ, List.set_cons_zero]
  refine wpAnyH_take (i := 2) (v := ?vz68) rfl (by kernel_rfl) (by kernel_rfl) (by kernel_rfl) (fun _ _ _ h => h) (Or.inl ⟨by rfl, ?yz68⟩) HS ?rz68
  case yz68 =>
   intro w_ hS_
   go_simp
   try with_reducible rfl
  simp only [Act.put, List.getElem_toArray, List.getElem_cons_succ, List.getElem_cons_zero, List.setIfInBounds_toArray, List.set_cons_succ, List.set_cons_zero]
  refine wpAnyH_take (i := 3) (v := .int .i64 1) rfl (by kernel_rfl) (by kernel_rfl) (by kernel_rfl) (fun _ _ _ h => h) (Or.inl ⟨by rfl, ?yz69⟩) HS ?rz69
  case yz69 =>
   intro w_ hS_
   have c_ : w_.cell? ⟨gF, 0, none⟩ = some (.int .i64 1) := by rw [cell_of_row _ _ _ _ _ _ hS_.2]; rfl
   go_simp
   try with_reducible rfl
  simp only [Act.put, List.getElem_toArray, List.getElem_cons_succ, List.getElem_cons_zero, List.setIfInBounds_toArray, List.set_cons_succ, List.set_cons_zero]
  refine wpAnyH_take (i := 4) (v := .pointer (some ⟨gF, 0, none⟩)) rfl (by kernel_rfl) (by kernel_rfl) (by kernel_rfl) (fun _ _ _ h => h) (Or.inl ⟨by rfl, ?yz70⟩) HS ?rz70
  case yz70 =>
   intro w_ hS_
   have c_ : w_.cell? ⟨gK, 0, none⟩ = some (.pointer (some ⟨gF, 0, none⟩)) := by rw [cell_of_row _ _ _ _ _ _ hS_.1]; rfl
   go_simp
   try with_reducible rfl
  simp only [Act.put, List.getElem_toArray, List.getElem_cons_succ, List.getElem_cons_zero, List.setIfInBounds_toArray, List.set_cons_succ, List.set_cons_zero]
  refine wpAnyH_take (i := 5) (v := ?vz71) rfl (by kernel_rfl) (by kernel_rfl) (by kernel_rfl) (fun _ _ _ h => h) (Or.inl ⟨by rfl, ?yz71⟩) HS ?rz71
  case yz71 =>
   intro w_ hS_
   go_simp
   try with_reducible rfl
  simp only [Act.put, List.getElem_toArray, List.getElem_cons_succ, List.getElem_cons_zero, List.setIfInBounds_toArray, List.set_cons_succ, List.set_cons_zero]
  refine wpAnyH_take (i := 6) (v := ?vz72) rfl (by kernel_rfl) (by kernel_rfl) (by kernel_rfl) (fun _ _ _ h => h) (Or.inl ⟨by rfl, ?yz72⟩) HS ?rz72
  case yz72 =>
   intro w_ hS_
   go_simp
   try with_reducible rfl
  simp only [Act.put, List.getElem_toArray, List.getElem_cons_succ, List.getElem_cons_zero, List.setIfInBounds_toArray, List.set_cons_succ, List.set_cons_zero]
  refine wpAnyH_take (i := 7) (v := .int .i64 3) rfl (by kernel_rfl) (by kernel_rfl) (by kernel_rfl) (fun _ _ _ h => h) (Or.inl ⟨by rfl, ?yz73⟩) HS ?rz73
  case yz73 =>
   intro w_ hS_
   have c_ : w_.cell? ⟨gF, 1, none⟩ = some (.int .i64 3) := by rw [cell_of_row _ _ _ _ _ _ hS_.2]; rfl
   go_simp
   try with_reducible rfl
  simp only [Act.put, List.getElem_toArray, List.getElem_cons_succ, List.getElem_cons_zero, List.setIfInBounds_toArray, List.set_cons_succ, List.set_cons_zero]
  refine wpAnyH_take (i := 8) (v := .agg #[.int .i64 1, .int .i64 3, .int .i64 102]) rfl (by kernel_rfl) (by kernel_rfl) (by kernel_rfl) (fun _ _ _ h => h) (Or.inl ⟨by rfl, ?yz74⟩) HS ?rz74
  case yz74 =>
   intro w_ hS_
   go_simp
   try with_reducible rfl
  simp only [Act.put, List.getElem_toArray, List.getElem_cons_succ, List.getElem_cons_zero, List.setIfInBounds_toArray, List.set_cons_succ, List.set_cons_zero]
  refine wpAnyH_take (i := 11) (v := ?vz75) rfl (by kernel_rfl) (by kernel_rfl) (by kernel_rfl) (fun _ _ _ h => h) (Or.inl ⟨by rfl, ?yz75⟩) HS ?rz75
  case yz75 =>
   intro w_ hS_
   go_simp
   try with_reducible rfl
  simp only [Act.put, List.getElem_toArray, List.getElem_cons_succ, List.getElem_cons_zero, List.setIfInBounds_toArray, List.set_cons_succ, List.set_cons_zero]
  refine wpAnyH_one (k := 9) (fuel := 2) (by kernel_rfl) rfl (by kernel_rfl) (fun K_ hK => ?_)
  refine wp_val_op (.pointer (some ⟨z1.heap.size, 0, none⟩)) (w' := z1.alloc (.cells #[.int .i64 1, .int .i64 3, .int .i64 102] 35)) (by kernel_rfl) ?_
  have RX := hp1_0 z1 (.cells #[.int .i64 1, .int .i64 3, .int .i64 102] 35)
  have hb_ : Below z1.heap.size z1 (z1.alloc (.cells #[.int .i64 1, .int .i64 3, .int .i64 102] 35)) := (Below.refl _ _).alloc (Nat.le_refl _) _
  have szx := hw.size
  have HS' : (fun W : World => W.heap[gK]? = some (.cells #[.pointer (some ⟨gF, 0, none⟩)] 87 (0, 0)) ∧ W.heap[gF]? = some (.cells (frw ⟨1, 3, 83⟩) 35 (0, 0))) (z1.alloc (.cells #[.int .i64 1, .int .i64 3, .int .i64 102] 35)) := ⟨keep hb_ HS.1, keep hb_ HS.2⟩
  replace hw := Below.after hw hb_
  clear hb_ HS
  have HS := HS'
  clear HS'
  refine hK _ _ HS ?_
  simp only [Act.put, List.getElem_toArray, List.getElem_cons_succ, List.getElem_cons_zero, List.setIfInBounds_toArray, List.set_cons_succ, List.set_cons_zero]
  clear hK
  generalize z1.alloc (.cells #[.int .i64 1, .int .i64 3, .int .i64 102] 35) = z2 at *
  generalize z1.heap.size = gX at *
  refine wpAnyH_take (i := 10) (v := .iface 87 (.pointer (some ⟨gX, 0, none⟩))) rfl (by kernel_rfl) (by kernel_rfl) (by kernel_rfl) (fun _ _ _ h => h) (Or.inl ⟨by rfl, ?yz76⟩) HS ?rz76
  case yz76 =>
   intro w_ hS_
   go_simp
   try with_reducible rfl
  simp only [Act.put, List.getElem_toArray, List.getElem_cons_succ, List.getElem_cons_zero, List.setIfInBounds_toArray, List.set_cons_succ, List.set_cons_zero]
  refine wpAnyH_take (i := 12) (v := ?vz77) rfl (by kernel_rfl) (by kernel_rfl) (by kernel_rfl) (fun _ _ _ h => h) (Or.inl ⟨by rfl, ?yz77⟩) HS ?rz77
  case yz77 =>
   intro w_ hS_
   go_simp
   try with_reducible rfl
  simp only [Act.put, List.getElem_toArray, List.getElem_cons_succ, List.getElem_cons_zero, List.setIfInBounds_toArray, List.set_cons_succ, List.set_cons_zero]
  refine wpAnyH_done (by kernel_rfl) ?_ _
  refine NoPanic.normal ?_
  clear HS
  replace hw := hide hw
  replace RX := hide RX
  go_wp2_with (fail)
  go_ret2
  rw [hfin.out]
  exact ⟨⟨_, rfl, szx, RX.out⟩, hw.out⟩
set_option maxRecDepth 100000 in
set_option maxHeartbeats 8000000 in
theorem a_PackE2 (nonce : List B) (hn : nonce.length = 16) (ha : Option Addr) (hl hc : Nat) (ba : Option Addr) (bn bc : Nat) (hd bd : List B) (w : World) (hE : Ety w) (hH : BysB w (.slice ha hl hc) hd) (hB : BysB w (.slice ba bn bc) bd) (lh : hd.length = hl) (lb : bd.length = bn) (b1 : hd.length ≤ 140737488351232) (b2 : bd.length ≤ 140737488351232) : Calls Tryz.prog 18 #[.agg (evl 2 nonce (.slice ha hl hc) (.slice ba bn bc))] w fun e w' => Enc w.heap.size (pk10 2 hl bn) (eout (efs 2 nonce hd bd)) e w' ∧ Below w.heap.size w w' := by
 have R0 := hp1_0 w (.cells (evl 2 nonce (.slice ha hl hc) (.slice ba bn bc)) 51)
 have hw : Below w.heap.size w (w.alloc (.cells (evl 2 nonce (.slice ha hl hc) (.slice ba bn bc)) 51)) := (Below.refl _ _).alloc (Nat.le_refl _) _
 replace hH := hH.keep hw
 replace hB := hB.keep hw
 replace hE := hE.keep hw rfl
 have cR : Gives 40 #[.int .u64 2] (.tuple #[.agg #[.int .u64 2, .func (.func 72) #[] #[]], .bool true]) := fun W => a_rulesOf 2 (by decide) W
 replace cR := hide cR
 have c0 : (w.alloc (.cells (evl 2 nonce (.slice ha hl hc) (.slice ba bn bc)) 51)).cell? ⟨w.heap.size, 0, none⟩ = some (.int .i64 2) := by rw [cell_of_row _ _ _ _ _ _ R0]; exact evl_0 _ _ _ _
 go_enter Tryz.func18, Tryz.ntmps18
 go_wp2_with (first | (refine wpList_box rfl 51 _ rfl _ rfl (bEv _) ?_) | fail)
 refine (cR.out _).mono ?_
 rintro e_ w1 ⟨rfl, hb_⟩
 generalize w.alloc (.cells (evl 2 nonce (.slice ha hl hc) (.slice ba bn bc)) 51) = w0 at *
 have lw := lt_of_row R0
 replace R0 := keep hb_ R0
 replace hH := hH.keep hb_
 replace hB := hB.keep hb_
 replace hE := hE.keep hb_ rfl
 replace hw := Below.after hw hb_
 have sz1 := hb_.size
 clear hb_ cR c0
 have z_ := hp1_0 w1 (.cells #[.int .u64 0, .nilFunc] 94)
 have oF := oneFx 2 72
 go_wp2_with (first | (refine wpList_store_row rfl 94 _ _ rfl w1.heap.size #[.int .u64 2, .func (.func 72) #[] #[]] rfl rfl 94 _ z_ infoR rfl oF ?_; refine wpList_stay ?_) | fail)
 unfold WpStay
 try simp only [Act.put, List.setIfInBounds_toArray, List.set_cons_succ, List.set_cons_zero]
 have RU := setRow_heap (w1.alloc (.cells #[.int .u64 0, .nilFunc] 94)) w1.heap.size _ #[.int .u64 2, .func (.func 72) #[] #[]] _ _ z_
 have hb_ : Below w1.heap.size w1 ((w1.alloc (.cells #[.int .u64 0, .nilFunc] 94)).setRow w1.heap.size #[.int .u64 2, .func (.func 72) #[] #[]]) := below_setRow ((Below.refl _ _).alloc (Nat.le_refl _) _) (Nat.le_refl _) _
 clear z_
 replace R0 := keep hb_ R0
 replace hH := hH.keep hb_
 replace hB := hB.keep hb_
 replace hE := hE.keep hb_ rfl
 replace hw := Below.after hw hb_
 have sz2 := hb_.size
 clear hb_
 generalize (w1.alloc (.cells #[.int .u64 0, .nilFunc] 94)).setRow w1.heap.size #[.int .u64 2, .func (.func 72) #[] #[]] = x4 at *
 generalize w1.heap.size = gU at *
 go_upto_region 4 with (fail)
 have hb_ : Below x4.heap.size x4 x4.drew := below_drN (Below.refl _ _) 1
 replace R0 := keep hb_ R0
 replace RU := keep hb_ RU
 replace hH := hH.keep hb_
 replace hB := hB.keep hb_
 replace hE := hE.keep hb_ rfl
 replace hw := Below.after hw hb_
 have HS : (fun W : World => W.heap[w.heap.size]? = some (.cells (evl 2 nonce (.slice ha hl hc) (.slice ba bn bc)) 51 (0, 0)) ∧ W.heap[gU]? = some (.cells #[.int .u64 2, .func (.func 72) #[] #[]] 94 (0, 0))) x4.drew := ⟨R0, RU⟩
 have sz_d := hb_.size
 clear hb_ R0 RU oF
 refine wp_region_noPanic ?_
 refine wp_region_held (S := fun W : World => W.heap[w.heap.size]? = some (.cells (evl 2 nonce (.slice ha hl hc) (.slice ba bn bc)) 51 (0, 0)) ∧ W.heap[gU]? = some (.cells #[.int .u64 2, .func (.func 72) #[] #[]] 94 (0, 0))) (by kernel_rfl) ?_
 change wpAnyH _ _ _ _ _ _ _ _ (World.drew _)
 generalize x4.drew = y0 at *
 refine wpAnyH_take (i := 0) (v := .agg #[.int .u64 2, .func (.func 72) #[] #[]]) rfl (by kernel_rfl) (by kernel_rfl) (by kernel_rfl) (fun _ _ _ h => h) (Or.inl ⟨by rfl, ?y78⟩) HS ?r78
 case y78 =>
  intro w_ hS_
  simp only [List.getElem_toArray, List.getElem_cons_zero]
  exact run_load_part 94 _ (by rfl) (gU) 0 (by rfl) 94 #[.int .u64 2, .func (.func 72) #[] #[]] (0, 0) #[.int .u64 2, .func (.func 72) #[] #[]] _ (hS_.2) (all_rowB _) Tryz.underlying94 rfl infoR
 simp only [Act.put, List.getElem_toArray, List.getElem_cons_zero, List.setIfInBounds_toArray, List.set_cons_succ, List.set_cons_zero]
 refine wpAnyH_take (i := 2) (v := .agg (evl 2 nonce (.slice ha hl hc) (.slice ba bn bc))) rfl (by kernel_rfl) (by kernel_rfl) (by kernel_rfl) (fun _ _ _ h => h) (Or.inl ⟨by rfl, ?y79⟩) HS ?r79
 case y79 =>
  intro w_ hS_
  simp only [List.getElem_toArray, List.getElem_cons_succ, List.getElem_cons_zero]
  exact run_load_part 51 _ (by rfl) (w.heap.size) 0 (by rfl) 51 (evl 2 nonce (.slice ha hl hc) (.slice ba bn bc)) (0, 0) (evl 2 nonce (.slice ha hl hc) (.slice ba bn bc)) _ (hS_.1) (all_rowB _) Tryz.underlying51 rfl (evl_info _ _ hn _ _)
 simp only [Act.put, List.getElem_toArray, List.getElem_cons_succ, List.getElem_cons_zero, List.setIfInBounds_toArray, List.set_cons_succ, List.set_cons_zero]
 refine wpAnyH_one (k := 1) (fuel := 7) (by kernel_rfl) rfl (by kernel_rfl) (fun K_ hK => ?_)
 refine wp_call_ex (f := 41) (R := fun v w' => ∃ q, v = .pointer (some ⟨q, 0, none⟩) ∧ y0.heap.size ≤ q ∧ Cdc w' q (esl 2) ∧ Below y0.heap.size y0 w') (by kernel_rfl) ((a_codecE2 y0).mono (fun e w' h => (by obtain ⟨⟨q, e1, e2, e3⟩, e4⟩ := h; exact ⟨_, e1, q, rfl, e2, e3, e4⟩ : ∃ v, e = .returned v ∧ ∃ q, v = .pointer (some ⟨q, 0, none⟩) ∧ y0.heap.size ≤ q ∧ Cdc w' q (esl 2) ∧ Below y0.heap.size y0 w'))) (fun v_ y1 hX_ => ?_)
 obtain ⟨q, rfl, hq1, hC, hb_⟩ := hX_
 have HS' : (fun W : World => W.heap[w.heap.size]? = some (.cells (evl 2 nonce (.slice ha hl hc) (.slice ba bn bc)) 51 (0, 0)) ∧ W.heap[gU]? = some (.cells #[.int .u64 2, .func (.func 72) #[] #[]] 94 (0, 0))) y1 := ⟨keep hb_ HS.1, keep hb_ HS.2⟩
 replace HS := HS'
 clear HS'
 replace hH := hH.keep hb_
 replace hB := hB.keep hb_
 replace hE := hE.keep hb_ rfl
 have sz_y1 := hb_.size
 replace hw := Below.after hw hb_
 clear hb_
 refine hK _ _ HS ?_
 simp only [Act.put, List.getElem_toArray, List.getElem_cons_succ, List.getElem_cons_zero, List.setIfInBounds_toArray, List.set_cons_succ, List.set_cons_zero]
 clear hK
 refine wpAnyH_one (k := 3) (fuel := 6) (by kernel_rfl) rfl (by kernel_rfl) (fun K_ hK => ?_)
 refine wp_call_ex (f := 43) (R := fun v w' => ∃ g gp, v = .agg #[.int .u64 0, .slice none 0 0, .slice (some ⟨gp, 0, none⟩) 4 4] ∧ y1.heap.size ≤ g ∧ y1.heap.size ≤ gp ∧ w'.heap[g]? = some (.cells (evl 2 nonce (.slice ha hl hc) (.slice ba bn bc)) 51 (0, 0)) ∧ w'.heap[gp]? = some (.cells #[.int .u64 ((2 : Nat) : Int), .slice none 0 0, .slice none 0 0, .int .u64 0, .slice (some ⟨g, 1, none⟩) 16 16, .slice none 0 0, .int .u64 0, .slice ha hl hc, .slice none 0 0, .int .u64 0, .slice ba bn bc, .slice none 0 0] 78 (0, 0)) ∧ Below y1.heap.size y1 w') (by kernel_rfl) ((a_valueOf 2 2 rfl nonce hn ha hl hc ba bn bc y1).mono (fun e w' h => (by obtain ⟨g, gp, e1, e2⟩ := h; exact ⟨_, e1, g, gp, rfl, e2⟩ : ∃ v, e = .returned v ∧ ∃ g gp, v = .agg #[.int .u64 0, .slice none 0 0, .slice (some ⟨gp, 0, none⟩) 4 4] ∧ y1.heap.size ≤ g ∧ y1.heap.size ≤ gp ∧ w'.heap[g]? = some (.cells (evl 2 nonce (.slice ha hl hc) (.slice ba bn bc)) 51 (0, 0)) ∧ w'.heap[gp]? = some (.cells #[.int .u64 ((2 : Nat) : Int), .slice none 0 0, .slice none 0 0, .int .u64 0, .slice (some ⟨g, 1, none⟩) 16 16, .slice none 0 0, .int .u64 0, .slice ha hl hc, .slice none 0 0, .int .u64 0, .slice ba bn bc, .slice none 0 0] 78 (0, 0)) ∧ Below y1.heap.size y1 w'))) (fun v_ y2 hX_ => ?_)
 obtain ⟨g, gp, rfl, hg1, hg2, RG, RP, hb_⟩ := hX_
 replace hC := hC.keep hb_
 have HS' : (fun W : World => W.heap[w.heap.size]? = some (.cells (evl 2 nonce (.slice ha hl hc) (.slice ba bn bc)) 51 (0, 0)) ∧ W.heap[gU]? = some (.cells #[.int .u64 2, .func (.func 72) #[] #[]] 94 (0, 0))) y2 := ⟨keep hb_ HS.1, keep hb_ HS.2⟩
 replace HS := HS'
 clear HS'
 replace hH := hH.keep hb_
 replace hB := hB.keep hb_
 replace hE := hE.keep hb_ rfl
 have sz_y2 := hb_.size
 replace hw := Below.after hw hb_
 clear hb_
 refine hK _ _ HS ?_
 simp only [Act.put, List.getElem_toArray, List.getElem_cons_succ, List.getElem_cons_zero, List.setIfInBounds_toArray, List.set_cons_succ, List.set_cons_zero]
 clear hK
 refine wpAnyH_one (k := 4) (fuel := 5) (by kernel_rfl) rfl (by kernel_rfl) (fun K_ hK => ?_)
 have cE := a_EncodeF esl2_flat 0 (by decide) none 0 0 (.slice (some ⟨gp, 0, none⟩) 4 4) (exs 2 g ha hl hc ba bn bc) [[], nonce, hd, bd] y2 hC (exs_prt (by decide) (by have := hH.2.1; omega) (by have := hB.2.1; omega) ⟨_, RP⟩) (fun _ => exs_bys (by decide) hn RG hH hB b1 b2)
 rw [esl_ck, exs_fdk] at cE
 refine wp_call_ex (R := fun v w' => Enc y2.heap.size (ek10 2 hl bn) (eout (efs 2 nonce hd bd)) (.returned v) w' ∧ Below y2.heap.size y2 w') (by kernel_rfl) (cE.mono (fun e w' h => enc_ret h)) (fun v_ y3 hX_ => ?_)
 obtain ⟨hEn, hb_⟩ := hX_
 have HS' : (fun W : World => W.heap[w.heap.size]? = some (.cells (evl 2 nonce (.slice ha hl hc) (.slice ba bn bc)) 51 (0, 0)) ∧ W.heap[gU]? = some (.cells #[.int .u64 2, .func (.func 72) #[] #[]] 94 (0, 0))) y3 := ⟨keep hb_ HS.1, keep hb_ HS.2⟩
 replace HS := HS'
 clear HS'
 replace hH := hH.keep hb_
 replace hB := hB.keep hb_
 replace hE := hE.keep hb_ rfl
 have sz_y3 := hb_.size
 replace hw := Below.after hw hb_
 clear hb_ cE hC RG RP
 obtain ⟨va, vb, rfl⟩ : ∃ va vb, v_ = .tuple #[va, vb] := enc_two hEn
 refine hK _ _ HS ?_
 simp only [Act.put, List.getElem_toArray, List.getElem_cons_succ, List.getElem_cons_zero, List.setIfInBounds_toArray, List.set_cons_succ, List.set_cons_zero]
 clear hK
 refine wpAnyH_take (i := 5) (v := ?v80) rfl (by kernel_rfl) (by kernel_rfl) (by kernel_rfl) (fun _ _ _ h => h) (Or.inl ⟨by rfl, ?y80⟩) HS ?r80
 case y80 =>
  intro w_ hS_
  go_simp
  try with_reducible rfl
 simp only [Act.put, List.getElem_toArray, List.getElem_cons_succ, List.getElem_cons_zero, List.setIfInBounds_toArray, List.set_cons_succ, List.set_cons_zero]
 refine wpAnyH_take (i := 6) (v := ?v81) rfl (by kernel_rfl) (by kernel_rfl) (by kernel_rfl) (fun _ _ _ h => h) (Or.inl ⟨by rfl, ?y81⟩) HS ?r81
 case y81 =>
  intro w_ hS_
  go_simp
  try with_reducible rfl
 simp only [Act.put, List.getElem_toArray, List.getElem_cons_succ, List.getElem_cons_zero, List.setIfInBounds_toArray, List.set_cons_succ, List.set_cons_zero]
 refine wpAnyH_take (i := 7) (v := ?v82) rfl (by kernel_rfl) (by kernel_rfl) (by kernel_rfl) (fun _ _ _ h => h) (Or.inl ⟨by rfl, ?y82⟩) HS ?r82
 case y82 =>
  intro w_ hS_
  go_simp
  try with_reducible rfl
 simp only [Act.put, List.getElem_toArray, List.getElem_cons_succ, List.getElem_cons_zero, List.setIfInBounds_toArray, List.set_cons_succ, List.set_cons_zero]
 refine wpAnyH_take (i := 8) (v := ?v83) rfl (by kernel_rfl) (by kernel_rfl) (by kernel_rfl) (fun _ _ _ h => h) (Or.inl ⟨by rfl, ?y83⟩) HS ?r83
 case y83 =>
  intro w_ hS_
  go_simp
  try with_reducible rfl
 simp only [Act.put, List.getElem_toArray, List.getElem_cons_succ, List.getElem_cons_zero, List.setIfInBounds_toArray, List.set_cons_succ, List.set_cons_zero]
 refine wpAnyH_take (i := 9) (v := ?v84) rfl (by kernel_rfl) (by kernel_rfl) (by kernel_rfl) (fun _ _ _ h => h) (Or.inl ⟨by rfl, ?y84⟩) HS ?r84
 case y84 =>
  intro w_ hS_
  go_simp
  try with_reducible rfl
 simp only [Act.put, List.getElem_toArray, List.getElem_cons_succ, List.getElem_cons_zero, List.setIfInBounds_toArray, List.set_cons_succ, List.set_cons_zero]
 refine wpAnyH_done (by kernel_rfl) ?_ _
 refine NoPanic.normal ?_
 have RU := HS.2
 have R0 := HS.1
 clear HS
 have lU := lt_of_row RU
 have hw0 := hw.size
 have rP := hp1_0 y3 (.cells #[.pointer none] 87)
 have hbP : Below y3.heap.size y3 (y3.alloc (.cells #[.pointer none] 87)) := (Below.refl _ _).alloc (Nat.le_refl _) _
 by_cases h1 : hl = 60
 ·by_cases h2 : bn < 80 ∨ mo 2 < bn
  ·have hfin : Hid (pk10 2 hl bn = some ⟨1, 4, 102⟩) := hide (by unfold pk10; rw [if_neg (by omega), if_pos h2])
   rw [show ek10 2 hl bn = some ⟨1, 4, 83⟩ by unfold ek10; rw [if_neg (by omega), if_pos h2]] at hEn
   clear h1 h2
   obtain ⟨gF, rfl, rfl, hgF, RF⟩ := enc_some hEn
   clear hEn hH hB
   have lF := lt_of_row RF
   have cA := as_fault gF y3.heap.size (y3.alloc (.cells #[.pointer none] 87)) (hE.keep hbP rfl) rP
   replace RF := keep hbP RF
   replace hw := Below.after hw hbP
   clear hE R0 RU
   replace cA := hide cA
   go_wp2_with (fail)
   refine cA.out.mono ?_
   rintro e_ z0 ⟨rfl, RK, hbu⟩
   replace RF := hbu.row RF (by omega)
   replace hw := But.after hw (by omega) hbu
   clear cA hbu rP hbP
   generalize y3.heap.size = gK at *
   go_upto_region 7 with (fail)
   have hbd : Below z0.heap.size z0 z0.drew := below_drN (Below.refl _ _) 1
   replace RF := keep hbd RF
   replace RK := keep hbd RK
   replace hw := Below.after hw hbd
   have HS : (fun W : World => W.heap[gK]? = some (.cells #[.pointer (some ⟨gF, 0, none⟩)] 87 (0, 0)) ∧ W.heap[gF]? = some (.cells (frw ⟨1, 4, 83⟩) 35 (0, 0))) z0.drew := ⟨RK, RF⟩
   clear hbd RF RK
   refine wp_region_noPanic ?_
   refine wp_region_held (S := fun W : World => W.heap[gK]? = some (.cells #[.pointer (some ⟨gF, 0, none⟩)] 87 (0, 0)) ∧ W.heap[gF]? = some (.cells (frw ⟨1, 4, 83⟩) 35 (0, 0))) (by kernel_rfl) ?_
   change wpAnyH _ _ _ _ _ _ _ _ (World.drew _)
   generalize z0.drew = z1 at *
   refine wpAnyH_take (i := 0) (v := .pointer (some ⟨gF, 0, none⟩)) rfl (by kernel_rfl) (by kernel_rfl) (by kernel_rfl) (fun _ _ _ h => h) (Or.inl ⟨by rfl, ?y85⟩) HS ?r85
   case y85 =>
    intro w_ hS_
    have c_ : w_.cell? ⟨gK, 0, none⟩ = some (.pointer (some ⟨gF, 0, none⟩)) := by rw [cell_of_row _ _ _ _ _ _ hS_.1]; rfl
    go_simp
    try with_reducible rfl
   simp only [Act.put, List.getElem_toArray, List.getElem_cons_zero, List.setIfInBounds_toArray, List.set_cons_succ, List.set_cons_zero]
   refine wpAnyH_take (i := 1) (v := ?v86) rfl (by kernel_rfl) (by kernel_rfl) (by kernel_rfl) (fun _ _ _ h => h) (Or.inl ⟨by rfl, ?y86⟩) HS ?r86
   case y86 =>
    intro w_ hS_
    go_simp
    try with_reducible rfl
   simp only [Act.put, List.getElem_toArray, List.getElem_cons_succ, List.getElem_cons_zero, List.setIfInBounds_toArray, List.set_cons_succ, List.set_cons_zero]
   refine wpAnyH_take (i := 2) (v := ?v87) rfl (by kernel_rfl) (by kernel_rfl) (by kernel_rfl) (fun _ _ _ h => h) (Or.inl ⟨by rfl, ?y87⟩) HS ?r87
   case y87 =>
    intro w_ hS_
    go_simp
    try with_reducible rfl
   simp only [Act.put, List.getElem_toArray, List.getElem_cons_succ, List.getElem_cons_zero, List.setIfInBounds_toArray, List.set_cons_succ, List.set_cons_zero]
   refine wpAnyH_take (i := 3) (v := .int .i64 1) rfl (by kernel_rfl) (by kernel_rfl) (by kernel_rfl) (fun _ _ _ h => h) (Or.inl ⟨by rfl, ?y88⟩) HS ?r88
   case y88 =>
    intro w_ hS_
    have c_ : w_.cell? ⟨gF, 0, none⟩ = some (.int .i64 1) := by rw [cell_of_row _ _ _ _ _ _ hS_.2]; rfl
    go_simp
    try with_reducible rfl
   simp only [Act.put, List.getElem_toArray, List.getElem_cons_succ, List.getElem_cons_zero, List.setIfInBounds_toArray, List.set_cons_succ, List.set_cons_zero]
   refine wpAnyH_take (i := 4) (v := .pointer (some ⟨gF, 0, none⟩)) rfl (by kernel_rfl) (by kernel_rfl) (by kernel_rfl) (fun _ _ _ h => h) (Or.inl ⟨by rfl, ?y89⟩) HS ?r89
   case y89 =>
    intro w_ hS_
    have c_ : w_.cell? ⟨gK, 0, none⟩ = some (.pointer (some ⟨gF, 0, none⟩)) := by rw [cell_of_row _ _ _ _ _ _ hS_.1]; rfl
    go_simp
    try with_reducible rfl
   simp only [Act.put, List.getElem_toArray, List.getElem_cons_succ, List.getElem_cons_zero, List.setIfInBounds_toArray, List.set_cons_succ, List.set_cons_zero]
   refine wpAnyH_take (i := 5) (v := ?v90) rfl (by kernel_rfl) (by kernel_rfl) (by kernel_rfl) (fun _ _ _ h => h) (Or.inl ⟨by rfl, ?y90⟩) HS ?r90
   case y90 =>
    intro w_ hS_
    go_simp
    try with_reducible rfl
   simp only [Act.put, List.getElem_toArray, List.getElem_cons_succ, List.getElem_cons_zero, List.setIfInBounds_toArray, List.set_cons_succ, List.set_cons_zero]
   refine wpAnyH_take (i := 6) (v := ?v91) rfl (by kernel_rfl) (by kernel_rfl) (by kernel_rfl) (fun _ _ _ h => h) (Or.inl ⟨by rfl, ?y91⟩) HS ?r91
   case y91 =>
    intro w_ hS_
    go_simp
    try with_reducible rfl
   simp only [Act.put, List.getElem_toArray, List.getElem_cons_succ, List.getElem_cons_zero, List.setIfInBounds_toArray, List.set_cons_succ, List.set_cons_zero]
   refine wpAnyH_take (i := 7) (v := .int .i64 4) rfl (by kernel_rfl) (by kernel_rfl) (by kernel_rfl) (fun _ _ _ h => h) (Or.inl ⟨by rfl, ?y92⟩) HS ?r92
   case y92 =>
    intro w_ hS_
    have c_ : w_.cell? ⟨gF, 1, none⟩ = some (.int .i64 4) := by rw [cell_of_row _ _ _ _ _ _ hS_.2]; rfl
    go_simp
    try with_reducible rfl
   simp only [Act.put, List.getElem_toArray, List.getElem_cons_succ, List.getElem_cons_zero, List.setIfInBounds_toArray, List.set_cons_succ, List.set_cons_zero]
   refine wpAnyH_take (i := 8) (v := .agg #[.int .i64 1, .int .i64 4, .int .i64 102]) rfl (by kernel_rfl) (by kernel_rfl) (by kernel_rfl) (fun _ _ _ h => h) (Or.inl ⟨by rfl, ?y93⟩) HS ?r93
   case y93 =>
    intro w_ hS_
    go_simp
    try with_reducible rfl
   simp only [Act.put, List.getElem_toArray, List.getElem_cons_succ, List.getElem_cons_zero, List.setIfInBounds_toArray, List.set_cons_succ, List.set_cons_zero]
   refine wpAnyH_take (i := 11) (v := ?v94) rfl (by kernel_rfl) (by kernel_rfl) (by kernel_rfl) (fun _ _ _ h => h) (Or.inl ⟨by rfl, ?y94⟩) HS ?r94
   case y94 =>
    intro w_ hS_
    go_simp
    try with_reducible rfl
   simp only [Act.put, List.getElem_toArray, List.getElem_cons_succ, List.getElem_cons_zero, List.setIfInBounds_toArray, List.set_cons_succ, List.set_cons_zero]
   refine wpAnyH_one (k := 9) (fuel := 2) (by kernel_rfl) rfl (by kernel_rfl) (fun K_ hK => ?_)
   refine wp_val_op (.pointer (some ⟨z1.heap.size, 0, none⟩)) (w' := z1.alloc (.cells #[.int .i64 1, .int .i64 4, .int .i64 102] 35)) (by kernel_rfl) ?_
   have RX := hp1_0 z1 (.cells #[.int .i64 1, .int .i64 4, .int .i64 102] 35)
   have hb_ : Below z1.heap.size z1 (z1.alloc (.cells #[.int .i64 1, .int .i64 4, .int .i64 102] 35)) := (Below.refl _ _).alloc (Nat.le_refl _) _
   have szx := hw.size
   have HS' : (fun W : World => W.heap[gK]? = some (.cells #[.pointer (some ⟨gF, 0, none⟩)] 87 (0, 0)) ∧ W.heap[gF]? = some (.cells (frw ⟨1, 4, 83⟩) 35 (0, 0))) (z1.alloc (.cells #[.int .i64 1, .int .i64 4, .int .i64 102] 35)) := ⟨keep hb_ HS.1, keep hb_ HS.2⟩
   replace hw := Below.after hw hb_
   clear hb_ HS
   have HS := HS'
   clear HS'
   refine hK _ _ HS ?_
   simp only [Act.put, List.getElem_toArray, List.getElem_cons_succ, List.getElem_cons_zero, List.setIfInBounds_toArray, List.set_cons_succ, List.set_cons_zero]
   clear hK
   generalize z1.alloc (.cells #[.int .i64 1, .int .i64 4, .int .i64 102] 35) = z2 at *
   generalize z1.heap.size = gX at *
   refine wpAnyH_take (i := 10) (v := .iface 87 (.pointer (some ⟨gX, 0, none⟩))) rfl (by kernel_rfl) (by kernel_rfl) (by kernel_rfl) (fun _ _ _ h => h) (Or.inl ⟨by rfl, ?y95⟩) HS ?r95
   case y95 =>
    intro w_ hS_
    go_simp
    try with_reducible rfl
   simp only [Act.put, List.getElem_toArray, List.getElem_cons_succ, List.getElem_cons_zero, List.setIfInBounds_toArray, List.set_cons_succ, List.set_cons_zero]
   refine wpAnyH_take (i := 12) (v := ?v96) rfl (by kernel_rfl) (by kernel_rfl) (by kernel_rfl) (fun _ _ _ h => h) (Or.inl ⟨by rfl, ?y96⟩) HS ?r96
   case y96 =>
    intro w_ hS_
    go_simp
    try with_reducible rfl
   simp only [Act.put, List.getElem_toArray, List.getElem_cons_succ, List.getElem_cons_zero, List.setIfInBounds_toArray, List.set_cons_succ, List.set_cons_zero]
   refine wpAnyH_done (by kernel_rfl) ?_ _
   refine NoPanic.normal ?_
   clear HS
   replace hw := hide hw
   replace RX := hide RX
   go_wp2_with (fail)
   go_ret2
   rw [hfin.out]
   exact ⟨⟨_, rfl, szx, RX.out⟩, hw.out⟩
  ·rw [show ek10 2 hl bn = none by unfold ek10; rw [if_neg (by omega), if_neg h2]] at hEn
   obtain ⟨k, rfl⟩ : ∃ k, bn = k + 16 := ⟨bn - 16, by omega⟩
   have hkb : k ≤ 1152921504606846000 := by have := (show mo 2 = 1179664 from rfl); omega
   have hfin : Hid (pk10 2 hl (k + 16) = if bkd (dg 2) k = k then none else some ⟨1, 4, 102⟩) := hide (by unfold pk10; rw [if_neg (by omega), if_neg h2, Nat.add_sub_cancel])
   have hO := enc_none hEn
   obtain ⟨rfl, hO⟩ := hO
   clear h1 h2 hEn
   obtain ⟨ua, uc, rfl⟩ := slen_own hO
   obtain ⟨L, hL⟩ : ∃ L, eout (efs 2 nonce hd bd) = L := ⟨_, rfl⟩
   rw [hL] at hO
   replace hL := hide hL
   have lO : Hid (y2.heap.size ≤ y3.heap.size) := hide sz_y3
   replace R0 := keep hbP R0
   replace RU := keep hbP RU
   replace hO := hO.keep hbP
   replace hw := Below.after hw hbP
   have c18 : (y3.alloc (.cells #[.pointer none] 87)).cell? ⟨w.heap.size, 18, none⟩ = some (.slice ba (k + 16) bc) := by rw [cell_of_row _ _ _ _ _ _ R0]; exact evl_b _ _ hn _ _
   go_wp2_with (fail)
   refine (as_nil _ _).mono ?_
   rintro e_ w_ ⟨rfl, rfl⟩
   clear rP hbP
   generalize y3.alloc (.cells #[.pointer none] 87) = y4 at *
   replace hO := hide hO
   replace hw := hide hw
   go_wp2_with (first | (refine wpList_load_want rfl 94 _ rfl gU rfl 94 _ (0, 0) _ RU Tryz.underlying94 rfl infoR ?_) | fail)
   refine (a_fits2 k hkb ba bc y4).mono ?_
   rintro e_ y5 ⟨rfl, hb_⟩
   replace hO := hide (hO.out.keep hb_)
   replace hw := hide (Below.after hw.out hb_)
   clear hb_ c18 RU R0
   by_cases hk : k = bkd (dg 2) k
   ·rw [decide_eq_true hk]
    rw [if_pos hk.symm] at hfin
    replace hk := hide hk
    go_wp2_with (fail)
    go_ret2
    rw [hfin.out]
    exact ⟨⟨_, rfl, by rw [hL.out]; exact own_down hO.out (by omega)⟩, hw.out⟩
   ·rw [decide_eq_false hk]
    rw [if_neg (fun h => hk h.symm)] at hfin
    replace hk := hide hk
    have rF := hp1_0 y5 (.cells (frw ⟨1, 4, 102⟩) 35)
    have hb_ : Below y5.heap.size y5 (y5.alloc (.cells (frw ⟨1, 4, 102⟩) 35)) := (Below.refl _ _).alloc (Nat.le_refl _) _
    have szf := hw.out.size
    replace hw := hide (Below.after hw.out hb_)
    replace rF := hide rF
    clear hb_
    unfold frw at *
    go_wp2_with (fail)
    go_ret2
    rw [hfin.out]
    exact ⟨⟨_, rfl, szf, rF.out⟩, hw.out⟩
 ·have hfin : Hid (pk10 2 hl bn = some ⟨1, 3, 102⟩) := hide (by unfold pk10; rw [if_pos h1])
  rw [show ek10 2 hl bn = some ⟨1, 3, 83⟩ by unfold ek10; rw [if_pos h1]] at hEn
  clear h1
  obtain ⟨gF, rfl, rfl, hgF, RF⟩ := enc_some hEn
  clear hEn hH hB
  have lF := lt_of_row RF
  have cA := as_fault gF y3.heap.size (y3.alloc (.cells #[.pointer none] 87)) (hE.keep hbP rfl) rP
  replace RF := keep hbP RF
  replace hw := Below.after hw hbP
  clear hE R0 RU
  replace cA := hide cA
  go_wp2_with (fail)
  refine cA.out.mono ?_
  rintro e_ z0 ⟨rfl, RK, hbu⟩
  replace RF := hbu.row RF (by omega)
  replace hw := But.after hw (by omega) hbu
  clear cA hbu rP hbP
  generalize y3.heap.size = gK at *
  go_upto_region 7 with (fail)
  have hbd : Below z0.heap.size z0 z0.drew := below_drN (Below.refl _ _) 1
  replace RF := keep hbd RF
  replace RK := keep hbd RK
  replace hw := Below.after hw hbd
  have HS : (fun W : World => W.heap[gK]? = some (.cells #[.pointer (some ⟨gF, 0, none⟩)] 87 (0, 0)) ∧ W.heap[gF]? = some (.cells (frw ⟨1, 3, 83⟩) 35 (0, 0))) z0.drew := ⟨RK, RF⟩
  clear hbd RF RK
  refine wp_region_noPanic ?_
  refine wp_region_held (S := fun W : World => W.heap[gK]? = some (.cells #[.pointer (some ⟨gF, 0, none⟩)] 87 (0, 0)) ∧ W.heap[gF]? = some (.cells (frw ⟨1, 3, 83⟩) 35 (0, 0))) (by kernel_rfl) ?_
  change wpAnyH _ _ _ _ _ _ _ _ (World.drew _)
  generalize z0.drew = z1 at *
  refine wpAnyH_take (i := 0) (v := .pointer (some ⟨gF, 0, none⟩)) rfl (by kernel_rfl) (by kernel_rfl) (by kernel_rfl) (fun _ _ _ h => h) (Or.inl ⟨by rfl, ?yz97⟩) HS ?rz97
  case yz97 =>
   intro w_ hS_
   have c_ : w_.cell? ⟨gK, 0, none⟩ = some (.pointer (some ⟨gF, 0, none⟩)) := by rw [cell_of_row _ _ _ _ _ _ hS_.1]; rfl
   go_simp
   try with_reducible rfl
  simp only [Act.put, List.getElem_toArray, List.getElem_cons_zero, List.setIfInBounds_toArray, List.set_cons_succ, List.set_cons_zero]
  refine wpAnyH_take (i := 1) (v := ?vz98) rfl (by kernel_rfl) (by kernel_rfl) (by kernel_rfl) (fun _ _ _ h => h) (Or.inl ⟨by rfl, ?yz98⟩) HS ?rz98
  case yz98 =>
   intro w_ hS_
   go_simp
   try with_reducible rfl
  simp only [Act.put, List.getElem_toArray, List.getElem_cons_succ, List.getElem_cons_zero, List.setIfInBounds_toArray, List.set_cons_succ, List.set_cons_zero]
  refine wpAnyH_take (i := 2) (v := ?vz99) rfl (by kernel_rfl) (by kernel_rfl) (by kernel_rfl) (fun _ _ _ h => h) (Or.inl ⟨by rfl, ?yz99⟩) HS ?rz99
  case yz99 =>
   intro w_ hS_
   go_simp
   try with_reducible rfl
  simp only [Act.put, List.getElem_toArray, List.getElem_cons_succ, List.getElem_cons_zero, List.setIfInBounds_toArray, List.set_cons_succ, List.set_cons_zero]
  refine wpAnyH_take (i := 3) (v := .int .i64 1) rfl (by kernel_rfl) (by kernel_rfl) (by kernel_rfl) (fun _ _ _ h => h) (Or.inl ⟨by rfl, ?yz100⟩) HS ?rz100
  case yz100 =>
   intro w_ hS_
   have c_ : w_.cell? ⟨gF, 0, none⟩ = some (.int .i64 1) := by rw [cell_of_row _ _ _ _ _ _ hS_.2]; rfl
   go_simp
   try with_reducible rfl
  simp only [Act.put, List.getElem_toArray, List.getElem_cons_succ, List.getElem_cons_zero, List.setIfInBounds_toArray, List.set_cons_succ, List.set_cons_zero]
  refine wpAnyH_take (i := 4) (v := .pointer (some ⟨gF, 0, none⟩)) rfl (by kernel_rfl) (by kernel_rfl) (by kernel_rfl) (fun _ _ _ h => h) (Or.inl ⟨by rfl, ?yz101⟩) HS ?rz101
  case yz101 =>
   intro w_ hS_
   have c_ : w_.cell? ⟨gK, 0, none⟩ = some (.pointer (some ⟨gF, 0, none⟩)) := by rw [cell_of_row _ _ _ _ _ _ hS_.1]; rfl
   go_simp
   try with_reducible rfl
  simp only [Act.put, List.getElem_toArray, List.getElem_cons_succ, List.getElem_cons_zero, List.setIfInBounds_toArray, List.set_cons_succ, List.set_cons_zero]
  refine wpAnyH_take (i := 5) (v := ?vz102) rfl (by kernel_rfl) (by kernel_rfl) (by kernel_rfl) (fun _ _ _ h => h) (Or.inl ⟨by rfl, ?yz102⟩) HS ?rz102
  case yz102 =>
   intro w_ hS_
   go_simp
   try with_reducible rfl
  simp only [Act.put, List.getElem_toArray, List.getElem_cons_succ, List.getElem_cons_zero, List.setIfInBounds_toArray, List.set_cons_succ, List.set_cons_zero]
  refine wpAnyH_take (i := 6) (v := ?vz103) rfl (by kernel_rfl) (by kernel_rfl) (by kernel_rfl) (fun _ _ _ h => h) (Or.inl ⟨by rfl, ?yz103⟩) HS ?rz103
  case yz103 =>
   intro w_ hS_
   go_simp
   try with_reducible rfl
  simp only [Act.put, List.getElem_toArray, List.getElem_cons_succ, List.getElem_cons_zero, List.setIfInBounds_toArray, List.set_cons_succ, List.set_cons_zero]
  refine wpAnyH_take (i := 7) (v := .int .i64 3) rfl (by kernel_rfl) (by kernel_rfl) (by kernel_rfl) (fun _ _ _ h => h) (Or.inl ⟨by rfl, ?yz104⟩) HS ?rz104
  case yz104 =>
   intro w_ hS_
   have c_ : w_.cell? ⟨gF, 1, none⟩ = some (.int .i64 3) := by rw [cell_of_row _ _ _ _ _ _ hS_.2]; rfl
   go_simp
   try with_reducible rfl
  simp only [Act.put, List.getElem_toArray, List.getElem_cons_succ, List.getElem_cons_zero, List.setIfInBounds_toArray, List.set_cons_succ, List.set_cons_zero]
  refine wpAnyH_take (i := 8) (v := .agg #[.int .i64 1, .int .i64 3, .int .i64 102]) rfl (by kernel_rfl) (by kernel_rfl) (by kernel_rfl) (fun _ _ _ h => h) (Or.inl ⟨by rfl, ?yz105⟩) HS ?rz105
  case yz105 =>
   intro w_ hS_
   go_simp
   try with_reducible rfl
  simp only [Act.put, List.getElem_toArray, List.getElem_cons_succ, List.getElem_cons_zero, List.setIfInBounds_toArray, List.set_cons_succ, List.set_cons_zero]
  refine wpAnyH_take (i := 11) (v := ?vz106) rfl (by kernel_rfl) (by kernel_rfl) (by kernel_rfl) (fun _ _ _ h => h) (Or.inl ⟨by rfl, ?yz106⟩) HS ?rz106
  case yz106 =>
   intro w_ hS_
   go_simp
   try with_reducible rfl
  simp only [Act.put, List.getElem_toArray, List.getElem_cons_succ, List.getElem_cons_zero, List.setIfInBounds_toArray, List.set_cons_succ, List.set_cons_zero]
  refine wpAnyH_one (k := 9) (fuel := 2) (by kernel_rfl) rfl (by kernel_rfl) (fun K_ hK => ?_)
  refine wp_val_op (.pointer (some ⟨z1.heap.size, 0, none⟩)) (w' := z1.alloc (.cells #[.int .i64 1, .int .i64 3, .int .i64 102] 35)) (by kernel_rfl) ?_
  have RX := hp1_0 z1 (.cells #[.int .i64 1, .int .i64 3, .int .i64 102] 35)
  have hb_ : Below z1.heap.size z1 (z1.alloc (.cells #[.int .i64 1, .int .i64 3, .int .i64 102] 35)) := (Below.refl _ _).alloc (Nat.le_refl _) _
  have szx := hw.size
  have HS' : (fun W : World => W.heap[gK]? = some (.cells #[.pointer (some ⟨gF, 0, none⟩)] 87 (0, 0)) ∧ W.heap[gF]? = some (.cells (frw ⟨1, 3, 83⟩) 35 (0, 0))) (z1.alloc (.cells #[.int .i64 1, .int .i64 3, .int .i64 102] 35)) := ⟨keep hb_ HS.1, keep hb_ HS.2⟩
  replace hw := Below.after hw hb_
  clear hb_ HS
  have HS := HS'
  clear HS'
  refine hK _ _ HS ?_
  simp only [Act.put, List.getElem_toArray, List.getElem_cons_succ, List.getElem_cons_zero, List.setIfInBounds_toArray, List.set_cons_succ, List.set_cons_zero]
  clear hK
  generalize z1.alloc (.cells #[.int .i64 1, .int .i64 3, .int .i64 102] 35) = z2 at *
  generalize z1.heap.size = gX at *
  refine wpAnyH_take (i := 10) (v := .iface 87 (.pointer (some ⟨gX, 0, none⟩))) rfl (by kernel_rfl) (by kernel_rfl) (by kernel_rfl) (fun _ _ _ h => h) (Or.inl ⟨by rfl, ?yz107⟩) HS ?rz107
  case yz107 =>
   intro w_ hS_
   go_simp
   try with_reducible rfl
  simp only [Act.put, List.getElem_toArray, List.getElem_cons_succ, List.getElem_cons_zero, List.setIfInBounds_toArray, List.set_cons_succ, List.set_cons_zero]
  refine wpAnyH_take (i := 12) (v := ?vz108) rfl (by kernel_rfl) (by kernel_rfl) (by kernel_rfl) (fun _ _ _ h => h) (Or.inl ⟨by rfl, ?yz108⟩) HS ?rz108
  case yz108 =>
   intro w_ hS_
   go_simp
   try with_reducible rfl
  simp only [Act.put, List.getElem_toArray, List.getElem_cons_succ, List.getElem_cons_zero, List.setIfInBounds_toArray, List.set_cons_succ, List.set_cons_zero]
  refine wpAnyH_done (by kernel_rfl) ?_ _
  refine NoPanic.normal ?_
  clear HS
  replace hw := hide hw
  replace RX := hide RX
  go_wp2_with (fail)
  go_ret2
  rw [hfin.out]
  exact ⟨⟨_, rfl, szx, RX.out⟩, hw.out⟩
set_option maxRecDepth 100000 in
set_option maxHeartbeats 8000000 in
theorem a_PackE0 (ver : Int) (v : Nat) (hv : IntKind.wrap .u64 ver = (v : Int)) (hv2 : v < 18446744073709551616) (hk : known10 v = false) (nonce : List B) (ha : Option Addr) (hl hc : Nat) (ba : Option Addr) (bn bc : Nat) (w : World) : Calls Tryz.prog 18 #[.agg (evl ver nonce (.slice ha hl hc) (.slice ba bn bc))] w fun e w' => Enc w.heap.size (some ⟨1, 1, 100⟩) [] e w' ∧ Below w.heap.size w w' := by
 have R0 := hp1_0 w (.cells (evl ver nonce (.slice ha hl hc) (.slice ba bn bc)) 51)
 have hw : Below w.heap.size w (w.alloc (.cells (evl ver nonce (.slice ha hl hc) (.slice ba bn bc)) 51)) := (Below.refl _ _).alloc (Nat.le_refl _) _
 have bk : bkf v = .nilFunc := by
  unfold known10 at hk
  unfold bkf
  simp at hk
  rw [if_neg hk.1, if_neg hk.2]
 have cR : Gives 40 #[.int .u64 (v : Int)] (.tuple #[.agg #[.int .u64 (v : Int), .nilFunc], .bool false]) := fun W => by
  have := a_rulesOf v hv2 W
  rw [bk, hk] at this
  exact this
 replace cR := hide cR
 clear bk hk hv2
 have c0 : (w.alloc (.cells (evl ver nonce (.slice ha hl hc) (.slice ba bn bc)) 51)).cell? ⟨w.heap.size, 0, none⟩ = some (.int .i64 ver) := by rw [cell_of_row _ _ _ _ _ _ R0]; exact evl_0 _ _ _ _
 go_enter Tryz.func18, Tryz.ntmps18
 go_wp2_with (first | (refine wpList_box rfl 51 _ rfl _ rfl (bEv _) ?_) | fail)
 refine (cR.out _).mono ?_
 rintro e_ w1 ⟨rfl, hb_⟩
 replace hw := Below.after hw hb_
 clear hb_ cR c0 R0
 have z_ := hp1_0 w1 (.cells #[.int .u64 0, .nilFunc] 94)
 have oN : (#[Value.int IntKind.u64 (v : Int), Value.nilFunc] : Array Value).all (·.oneCell') = true := by simp [Value.oneCell']
 go_wp2_with (first | (refine wpList_store_row rfl 94 _ _ rfl w1.heap.size #[.int .u64 (v : Int), .nilFunc] rfl rfl 94 _ z_ infoR rfl oN ?_; refine wpList_stay ?_) | fail)
 unfold WpStay
 try simp only [Act.put, List.setIfInBounds_toArray, List.set_cons_succ, List.set_cons_zero]
 have hb_ : Below w1.heap.size w1 ((w1.alloc (.cells #[.int .u64 0, .nilFunc] 94)).setRow w1.heap.size #[.int .u64 (v : Int), .nilFunc]) := below_setRow ((Below.refl _ _).alloc (Nat.le_refl _) _) (Nat.le_refl _) _
 replace hw := Below.after hw hb_
 clear z_ hb_ oN
 generalize (w1.alloc (.cells #[.int .u64 0, .nilFunc] 94)).setRow w1.heap.size #[.int .u64 (v : Int), .nilFunc] = w2 at *
 have rF := hp1_0 w2 (.cells (frw ⟨1, 1, 100⟩) 35)
 have hb_ : Below w2.heap.size w2 (w2.alloc (.cells (frw ⟨1, 1, 100⟩) 35)) := (Below.refl _ _).alloc (Nat.le_refl _) _
 have szw := hw.size
 replace hw := hide (Below.after hw hb_)
 replace rF := hide rF
 clear hb_
 unfold frw at *
 go_wp2_with (fail)
 go_ret2
 exact ⟨⟨_, rfl, szw, rF.out⟩, hw.out⟩
def pkO (v hl bn : Nat) : Option Flt3 := if known10 v then pk10 v hl bn else some ⟨1, 1, 100⟩
theorem known_ver (ver : Int) (v : Nat) (hv : IntKind.wrap .u64 ver = (v : Int)) (h1 : -9223372036854775808 ≤ ver) (h2 : ver ≤ 9223372036854775807) (hk : known10 v = true) : ver = (v : Int) ∧ (v = 1 ∨ v = 2) := by
 have e : ver % 18446744073709551616 = (v : Int) := hv
 unfold known10 at hk
 simp at hk
 omega
theorem a_PackE (ver : Int) (v : Nat) (hv : IntKind.wrap .u64 ver = (v : Int)) (h1 : -9223372036854775808 ≤ ver) (h2 : ver ≤ 9223372036854775807) (nonce : List B) (hn : nonce.length = 16) (ha : Option Addr) (hl hc : Nat) (ba : Option Addr) (bn bc : Nat) (hd bd : List B) (w : World) (hE : Ety w) (hH : BysB w (.slice ha hl hc) hd) (hB : BysB w (.slice ba bn bc) bd) (lh : hd.length = hl) (lb : bd.length = bn) (b1 : hd.length ≤ 140737488351232) (b2 : bd.length ≤ 140737488351232) : Calls Tryz.prog 18 #[.agg (evl ver nonce (.slice ha hl hc) (.slice ba bn bc))] w fun e w' => Enc w.heap.size (pkO v hl bn) (eout (efs v nonce hd bd)) e w' ∧ Below w.heap.size w w' := by
 have hv2 : v < 18446744073709551616 := by
  have : IntKind.wrap .u64 ver < 18446744073709551616 := by show ver % 18446744073709551616 < _; omega
  omega
 unfold pkO
 cases hk : known10 v with
 | true =>
  obtain ⟨h3, h4⟩ := known_ver ver v hv h1 h2 hk
  subst h3
  rw [if_pos rfl]
  rcases h4 with rfl | rfl
  ·exact a_PackE1 nonce hn ha hl hc ba bn bc hd bd w hE hH hB lh lb b1 b2
  ·exact a_PackE2 nonce hn ha hl hc ba bn bc hd bd w hE hH hB lh lb b1 b2
 | false =>
  rw [if_neg (by simp)]
  exact a_PackE0 ver v hv hv2 hk nonce ha hl hc ba bn bc w
end Go.Proofs.YtjoohgkgkabbpaaGreatDoor

