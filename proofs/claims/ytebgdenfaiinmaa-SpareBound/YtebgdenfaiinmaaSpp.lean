import Derived.Test.YtebgdenfaiinmaaProg
import Derived.WalkKit
import Derived.WalkSpells
import Derived.WalkLawsBesides
import Derived.Lib.QuietBelow
import Derived.BigQuiet
import Derived.OrdersHeld
import Derived.Deep.RegionHeld3
import Derived.OwnWalk
import Derived.Test.YtebgdenfaiinmaaKit
import Derived.Test.YtebgdenfaiinmaaSpo
namespace Go.Proofs.Ytebgdenfaiinmaa
open Go Go.RowKit Go.Sort Go.ChangeMaps Go.MapKept
attribute [local go_sem] setCell_drewN alloc_drewN

/-- What is left when a label's spare is taken. -/
def tk (l : List Sr) (x : Lb) : List Sr := match plc x (l.map Sr.lb) with | some i => l.take i ++ l.drop (i + 1) | none => l
set_option maxRecDepth 100000 in
set_option maxHeartbeats 4000000 in
theorem a_Take_no (base g b : Nat) (v : Value) (most : Int) (l : List Sr) (h : List Int) (hh : h.length = 32) (n : Int) (hfs : (fnd l (h, n)).isSome = false) (w : World) (hS : Sto w base g b v most l) : Calls Try.prog 20 #[.pointer (some ⟨g, 0, none⟩), .agg (irow .u8 h), .int .u32 n] w fun e w' => e = .returned (.tuple #[.agg (irow .u8 (fky l (h, n))), .bool false]) ∧ Below w.heap.size w w' := by
  have fl := fky_len hS.ok (h, n)
  have R0 := hp2_0 w (.cells (irow .u8 h) 40) (.cells (irow .u8 (zr 32)) 40)
  have R1 := hp2_1 w (.cells (irow .u8 h) 40) (.cells (irow .u8 (zr 32)) 40)
  have hw : Below w.heap.size w ((w.alloc (.cells (irow .u8 h) 40)).alloc (.cells (irow .u8 (zr 32)) 40)) := (((Below.refl _ _).alloc (Nat.le_refl _) _).alloc (by simp) _)
  go_enter Try.func20, Try.ntmps20
  go_wp2_with (first | (refine wpList_box rfl 40 _ rfl _ rfl (bKy _) ?_) | (refine wpList_alloc rfl 40 rfl (irow .u8 (zr 32)) zkey ?_) | (refine wpList_load_want rfl 40 _ rfl (w.heap.size) rfl 40 (irow .u8 h) (0, 0) _ R0 Try.underlying40 rfl (infok8 _ hh) ?_) | fail)
  try simp only [size_alloc1, Act.put, List.setIfInBounds_toArray, List.set_cons_succ, List.set_cons_zero]
  replace hS := hS.keep hw
  generalize ((w.alloc (.cells (irow .u8 h) 40)).alloc (.cells (irow .u8 (zr 32)) 40)) = w0 at *
  refine (a_Find base g b v most l h hh n w0 hS).mono ?_
  rintro e_ w1 ⟨rfl, hb⟩
  replace R0 := keep hb R0
  replace R1 := keep hb R1
  replace hS := hS.keep hb
  replace hw := Below.after hw hb
  clear hb
  rw [hfs]
  have z_ := hp1_0 w1 (.cells (irow .u8 (zr 32)) 40)
  go_wp2_with (first | (refine wpList_alloc rfl 40 rfl (irow .u8 (zr 32)) zkey ?_) | (refine wpList_store_row rfl 40 _ _ rfl (w1.heap.size) (irow .u8 (fky l (h, n))) rfl rfl 40 _ z_ (infok8 _ fl) (fit32 _ _ (zr_len 32) fl) (irow_one _ _) ?_; refine wpList_stay ?_) | fail)
  unfold WpStay
  try simp only [Act.put, List.setIfInBounds_toArray, List.set_cons_succ, List.set_cons_zero]
  have R8 := setRow_heap (w1.alloc (.cells (irow .u8 (zr 32)) 40)) w1.heap.size _ (irow .u8 (fky l (h, n))) _ _ z_
  have hb_ : Below w1.heap.size w1 ((w1.alloc (.cells (irow .u8 (zr 32)) 40)).setRow w1.heap.size (irow .u8 (fky l (h, n)))) := below_setRow ((Below.refl _ _).alloc (Nat.le_refl _) _) (Nat.le_refl _) _
  have sz_g8 := hb_.size
  have lt_R0_g8 := lt_of_row R0
  have lt_R1_g8 := lt_of_row R1
  replace R0 := keep hb_ R0
  replace R1 := keep hb_ R1
  replace hS := hS.keep hb_
  replace hw := Below.after hw hb_
  clear hb_ z_
  generalize ((w1.alloc (.cells (irow .u8 (zr 32)) 40)).setRow w1.heap.size (irow .u8 (fky l (h, n)))) = w2 at *
  generalize w1.heap.size = g8 at *
  go_wp2_with (first | (refine wpList_load_want rfl 40 _ rfl (g8) rfl 40 (irow .u8 (fky l (h, n))) (0, 0) _ R8 Try.underlying40 rfl (infok8 _ fl) ?_) | (refine wpList_store_row rfl 40 _ _ rfl (w.heap.size + 1) (irow .u8 (fky l (h, n))) rfl rfl 40 _ R1 (infok8 _ fl) (fit32 _ _ (zr_len 32) fl) (irow_one _ _) ?_) | fail)
  exact bodyPost_ret (v := .tuple #[.agg (irow .u8 (fky l (h, n))), .bool false]) (results_cell_slot Try.results20 _ _ (w.heap.size + 1) _ _ _ _ rfl (setRow_heap w2 (w.heap.size + 1) _ (irow .u8 (fky l (h, n))) _ _ R1) Try.underlying40 rfl (infok8 _ fl)) rfl ⟨rfl, below_setRow hw (Nat.le_succ _) (irow .u8 (fky l (h, n)))⟩
set_option maxRecDepth 100000 in
set_option maxHeartbeats 4000000 in
theorem a_Take_go (base g b : Nat) (v : Value) (most : Int) (l : List Sr) (h : List Int) (hh : h.length = 32) (n : Int) (i : Nat) (hi : plc (h, n) (l.map Sr.lb) = some i) (hfs : (fnd l (h, n)).isSome = true) (w : World) (hS : Sto w base g b v most l) : Calls Try.prog 20 #[.pointer (some ⟨g, 0, none⟩), .agg (irow .u8 h), .int .u32 n] w fun e w' => ∃ v', e = .returned (.tuple #[.agg (irow .u8 (fky l (h, n))), .bool true]) ∧ Sto w' base g b v' most (l.take i ++ l.drop (i + 1)) ∧ Fr (own3 g b v) w w' ∧ v'.ownBlock = v.ownBlock := by
  have fl := fky_len hS.ok (h, n)
  have hil : i < l.length := by have := (plc_lt _ _ _ hi).1; rwa [List.length_map] at this
  have hln : l.length ≤ 2000 := by have := hS.len; have := hS.most0; omega
  have cI : ∀ W, Sto W base g b v most l → Calls Try.prog 49 #[v, .agg (chc h n)] W fun e w' => e = .returned (.int .i64 (i : Int)) ∧ Below W.heap.size W w' := fun W hW => by
    have := a_Index base v l hW.ok hln (h, n) hh W hW.own
    have e : plI l (h, n) = i := by unfold plI; rw [hi]
    rw [e] at this
    exact this
  have hlow := hS.low
  obtain ⟨ao, cl, cap, rfl⟩ : ∃ ao n c, v = .slice ao n c := by obtain ⟨a_, c_, h_⟩ := slen_own hS.own; exact ⟨a_, _, c_, h_⟩
  have R0 := hp2_0 w (.cells (irow .u8 h) 40) (.cells (irow .u8 (zr 32)) 40)
  have R1 := hp2_1 w (.cells (irow .u8 h) 40) (.cells (irow .u8 (zr 32)) 40)
  have hw : Below w.heap.size w ((w.alloc (.cells (irow .u8 h) 40)).alloc (.cells (irow .u8 (zr 32)) 40)) := (((Below.refl _ _).alloc (Nat.le_refl _) _).alloc (by simp) _)
  go_enter Try.func20, Try.ntmps20
  go_wp2_with (first | (refine wpList_box rfl 40 _ rfl _ rfl (bKy _) ?_) | (refine wpList_alloc rfl 40 rfl (irow .u8 (zr 32)) zkey ?_) | (refine wpList_load_want rfl 40 _ rfl (w.heap.size) rfl 40 (irow .u8 h) (0, 0) _ R0 Try.underlying40 rfl (infok8 _ hh) ?_) | fail)
  try simp only [size_alloc1, Act.put, List.setIfInBounds_toArray, List.set_cons_succ, List.set_cons_zero]
  replace hS := hS.keep hw
  generalize ((w.alloc (.cells (irow .u8 h) 40)).alloc (.cells (irow .u8 (zr 32)) 40)) = w0 at *
  refine (a_Find base g b (.slice ao cl cap) most l h hh n w0 hS).mono ?_
  rintro e_ w1 ⟨rfl, hb⟩
  replace R0 := keep hb R0
  replace R1 := keep hb R1
  replace hS := hS.keep hb
  replace hw := Below.after hw hb
  clear hb
  rw [hfs]
  have z_ := hp1_0 w1 (.cells (irow .u8 (zr 32)) 40)
  go_wp2_with (first | (refine wpList_alloc rfl 40 rfl (irow .u8 (zr 32)) zkey ?_) | (refine wpList_store_row rfl 40 _ _ rfl (w1.heap.size) (irow .u8 (fky l (h, n))) rfl rfl 40 _ z_ (infok8 _ fl) (fit32 _ _ (zr_len 32) fl) (irow_one _ _) ?_; refine wpList_stay ?_) | fail)
  unfold WpStay
  try simp only [Act.put, List.setIfInBounds_toArray, List.set_cons_succ, List.set_cons_zero]
  have R8 := setRow_heap (w1.alloc (.cells (irow .u8 (zr 32)) 40)) w1.heap.size _ (irow .u8 (fky l (h, n))) _ _ z_
  have hb_ : Below w1.heap.size w1 ((w1.alloc (.cells (irow .u8 (zr 32)) 40)).setRow w1.heap.size (irow .u8 (fky l (h, n)))) := below_setRow ((Below.refl _ _).alloc (Nat.le_refl _) _) (Nat.le_refl _) _
  have sz_g8 := hb_.size
  have lt_R0_g8 := lt_of_row R0
  have lt_R1_g8 := lt_of_row R1
  replace R0 := keep hb_ R0
  replace R1 := keep hb_ R1
  replace hS := hS.keep hb_
  replace hw := Below.after hw hb_
  clear hb_ z_
  generalize ((w1.alloc (.cells (irow .u8 (zr 32)) 40)).setRow w1.heap.size (irow .u8 (fky l (h, n)))) = w2 at *
  generalize w1.heap.size = g8 at *
  go_wp2_with (fail)
  have hbd : Below w2.heap.size w2 w2.drew := below_drN (Below.refl _ _) 1
  replace R0 := keep hbd R0
  replace R1 := keep hbd R1
  replace R8 := keep hbd R8
  replace hS := hS.keep hbd
  replace hw := Below.after hw hbd
  clear hbd
  refine wp_region_noPanic ?_
  refine wp_region_held (S := fun W => Sto W base g b (.slice ao cl cap) most l ∧ W.heap[w.heap.size]? = some (.cells (irow .u8 h) 40 (0, 0))) (by kernel_rfl) ?_
  change wpAnyH _ _ _ _ _ _ _ _ (World.drew _)
  generalize w2.drew = w4 at *
  refine wpAnyH_take (i := 0) (v := ?v1) rfl (by kernel_rfl) (by kernel_rfl) (by kernel_rfl) (fun _ _ _ h => h) (Or.inl ⟨by rfl, ?y1⟩) ⟨hS, R0⟩ ?r1
  case y1 =>
    intro w_ hS_
    go_simp
    try with_reducible rfl
  simp only [Act.put, List.getElem_toArray, List.getElem_cons_zero, List.setIfInBounds_toArray, List.set_cons_succ, List.set_cons_zero]
  refine wpAnyH_take (i := 1) (v := ?v2) rfl (by kernel_rfl) (by kernel_rfl) (by kernel_rfl) (fun _ _ _ h => h) (Or.inl ⟨by rfl, ?y2⟩) ⟨hS, R0⟩ ?r2
  case y2 =>
    intro w_ hS_
    go_simp
    try with_reducible rfl
  simp only [Act.put, List.getElem_toArray, List.getElem_cons_succ, List.getElem_cons_zero, List.setIfInBounds_toArray, List.set_cons_succ, List.set_cons_zero]
  refine wpAnyH_take (i := 2) (v := ?v3) rfl (by kernel_rfl) (by kernel_rfl) (by kernel_rfl) (fun _ _ _ h => h) (Or.inl ⟨by rfl, ?y3⟩) ⟨hS, R0⟩ ?r3
  case y3 =>
    intro w_ hS_
    go_simp
    try with_reducible rfl
  simp only [Act.put, List.getElem_toArray, List.getElem_cons_succ, List.getElem_cons_zero, List.setIfInBounds_toArray, List.set_cons_succ, List.set_cons_zero]
  refine wpAnyH_take (i := 3) (v := (.slice ao cl cap)) rfl (by kernel_rfl) (by kernel_rfl) (by kernel_rfl) (fun _ _ _ h => h) (Or.inl ⟨by rfl, ?y4⟩) ⟨hS, R0⟩ ?r4
  case y4 =>
    intro w_ hS_
    have c_ := hS_.1.c1
    go_simp
    try with_reducible rfl
  simp only [Act.put, List.getElem_toArray, List.getElem_cons_succ, List.getElem_cons_zero, List.setIfInBounds_toArray, List.set_cons_succ, List.set_cons_zero]
  refine wpAnyH_take (i := 4) (v := .agg (irow .u8 h)) rfl (by kernel_rfl) (by kernel_rfl) (by kernel_rfl) (fun _ _ _ h => h) (Or.inl ⟨by rfl, ?y5⟩) ⟨hS, R0⟩ ?r5
  case y5 =>
    intro w_ hS_
    simp only [List.getElem_toArray, List.getElem_cons_succ, List.getElem_cons_zero]
    exact run_load_part 40 _ (by rfl) (w.heap.size) 0 (by rfl) 40 (irow .u8 h) (0, 0) (irow .u8 h) _ (hS_.2) (all_row _) Try.underlying40 rfl (infok8 _ hh)
  simp only [Act.put, List.getElem_toArray, List.getElem_cons_succ, List.getElem_cons_zero, List.setIfInBounds_toArray, List.set_cons_succ, List.set_cons_zero]
  refine wpAnyH_take (i := 5) (v := ?v6) rfl (by kernel_rfl) (by kernel_rfl) (by kernel_rfl) (fun _ _ _ h => h) (Or.inl ⟨by rfl, ?y6⟩) ⟨hS, R0⟩ ?r6
  case y6 =>
    intro w_ hS_
    go_simp
    try with_reducible rfl
  simp only [Act.put, List.getElem_toArray, List.getElem_cons_succ, List.getElem_cons_zero, List.setIfInBounds_toArray, List.set_cons_succ, List.set_cons_zero]
  refine wpAnyH_take (i := 6) (v := .agg (chc h n)) rfl (by kernel_rfl) (by kernel_rfl) (by kernel_rfl) (fun _ _ _ h => h) (Or.inl ⟨by rfl, ?y7⟩) ⟨hS, R0⟩ ?r7
  case y7 =>
    intro w_ hS_
    simp only [List.getElem_toArray, List.getElem_cons_succ, List.getElem_cons_zero]
    exact run_build_op 86 _ (by rfl) [(0, .agg (irow .u8 h)), (1, .int .u32 n)] (by rfl) _ (builtL h hh n)
  simp only [Act.put, List.getElem_toArray, List.getElem_cons_succ, List.getElem_cons_zero, List.setIfInBounds_toArray, List.set_cons_succ, List.set_cons_zero]
  refine wpAnyH_one (k := 7) (fuel := 1) (by kernel_rfl) rfl (by kernel_rfl) (fun K_ hK => ?_)
  refine wp_call_ex (f := 49) (R := fun v_ w_ => v_ = .int .i64 (i : Int) ∧ Below w4.heap.size w4 w_) (by kernel_rfl) ((cI w4 hS).mono (fun e_ w_ h_ => ⟨_, h_.1, rfl, h_.2⟩)) (fun v_ w5 hX_ => ?_)
  obtain ⟨rfl, hb_⟩ := hX_
  replace R0 := keep hb_ R0
  replace R1 := keep hb_ R1
  replace R8 := keep hb_ R8
  replace hS := hS.keep hb_
  replace hw := Below.after hw hb_
  clear hb_
  refine hK _ _ ⟨hS, R0⟩ ?_
  simp only [Act.put, List.getElem_toArray, List.getElem_cons_succ, List.getElem_cons_zero, List.setIfInBounds_toArray, List.set_cons_succ, List.set_cons_zero]
  clear hK
  refine wpAnyH_take (i := 8) (v := ?v8) rfl (by kernel_rfl) (by kernel_rfl) (by kernel_rfl) (fun _ _ _ h => h) (Or.inl ⟨by rfl, ?y8⟩) ⟨hS, R0⟩ ?r8
  case y8 =>
    intro w_ hS_
    go_simp
    try with_reducible rfl
  simp only [Act.put, List.getElem_toArray, List.getElem_cons_succ, List.getElem_cons_zero, List.setIfInBounds_toArray, List.set_cons_succ, List.set_cons_zero]
  refine wpAnyH_done (by kernel_rfl) ?_ _
  refine NoPanic.normal ?_
  have hii : (i : Int) + 1 ≤ 9223372036854775807 := by omega
  have cD := a_drop base g b _ most l i (i + 1) (by omega) (by omega) w5 hS
  rw [show ((i + 1 : Nat) : Int) = (i : Int) + 1 from rfl] at cD
  go_wp2_with (fail)
  refine cD.mono ?_
  rintro e_ w6 ⟨v', rfl, hS2, hf, hv'⟩
  clear cD
  have lt0 := lt_of_row R0
  have nR1 : ¬ own3 g b (.slice ao cl cap) (w.heap.size + 1) := fun e => by have := (hlow _ e).2; omega
  have nR8 : ¬ own3 g b (.slice ao cl cap) g8 := fun e => by have := (hlow _ e).2; omega
  replace R1 := hf.row R1 nR1
  replace R8 := hf.row R8 nR8
  have hfw : Fr (own3 g b (.slice ao cl cap)) w w6 := (Fr.of hw).trans hf
  clear hf hw hS
  go_wp2_with (first | (refine wpList_load_want rfl 40 _ rfl (g8) rfl 40 (irow .u8 (fky l (h, n))) (0, 0) _ R8 Try.underlying40 rfl (infok8 _ fl) ?_) | (refine wpList_store_row rfl 40 _ _ rfl (w.heap.size + 1) (irow .u8 (fky l (h, n))) rfl rfl 40 _ R1 (infok8 _ fl) (fit32 _ _ (zr_len 32) fl) (irow_one _ _) ?_) | fail)
  refine bodyPost_ret (v := .tuple #[.agg (irow .u8 (fky l (h, n))), .bool true]) (results_cell_slot Try.results20 _ _ (w.heap.size + 1) _ _ _ _ rfl (setRow_heap w6 (w.heap.size + 1) _ (irow .u8 (fky l (h, n))) _ _ R1) Try.underlying40 rfl (infok8 _ fl)) rfl ⟨v', rfl, hS2.move (fun k hk => setRow_other w6 (w.heap.size + 1) k (irow .u8 (fky l (h, n))) (fun e => ?_)), ?_, hv'⟩
  · subst e
    rcases hk with e | e | e
    · exact nR1 (.inl e)
    · exact nR1 (.inr (.inl e))
    · exact nR1 (.inr (.inr (hv' ▸ e)))
  · exact ⟨hfw.os, hfw.tape, hfw.output, by rw [size_setRow]; exact hfw.size, fun k hk hx => (setRow_other w6 (w.heap.size + 1) k (irow .u8 (fky l (h, n))) (by omega)).trans (hfw.block k hk hx)⟩
theorem a_Take (base g b : Nat) (v : Value) (most : Int) (l : List Sr) (h : List Int) (hh : h.length = 32) (n : Int) (w : World) (hS : Sto w base g b v most l) : Calls Try.prog 20 #[.pointer (some ⟨g, 0, none⟩), .agg (irow .u8 h), .int .u32 n] w fun e w' => ∃ v', e = .returned (.tuple #[.agg (irow .u8 (fky l (h, n))), .bool (fnd l (h, n)).isSome]) ∧ Sto w' base g b v' most (tk l (h, n)) ∧ Fr (own3 g b v) w w' ∧ v'.ownBlock = v.ownBlock := by
  cases hp : plc (h, n) (l.map Sr.lb) with
  | none =>
    have hf : (fnd l (h, n)).isSome = false := by unfold fnd; rw [hp]; rfl
    have ht : tk l (h, n) = l := by unfold tk; rw [hp]
    rw [hf, ht]
    exact (a_Take_no base g b v most l h hh n hf w hS).mono (fun e w' q => ⟨v, q.1, hS.keep q.2, Fr.of q.2, rfl⟩)
  | some i =>
    have hf : (fnd l (h, n)).isSome = true := by unfold fnd; rw [hp]; rfl
    have ht : tk l (h, n) = l.take i ++ l.drop (i + 1) := by unfold tk; rw [hp]
    rw [hf, ht]
    exact a_Take_go base g b v most l h hh n i hp hf w hS
/-- How many go. -/
def fgt (l : List Sr) (n : Int) : Nat := if n ≤ 0 then 0 else if (l.length : Int) ≤ n then l.length else n.toNat
theorem fgt_le (l : List Sr) (n : Int) : fgt l n ≤ l.length := by
  unfold fgt
  split
  · omega
  · split <;> omega
theorem a_dropN (base g b : Nat) (v : Value) (most : Int) (l : List Sr) (k : Nat) (hk : k ≤ l.length) (w : World) (hS : Sto w base g b v most l) : Calls Try.prog 50 #[.pointer (some ⟨g, 0, none⟩), .int .i64 0, .int .i64 (k : Int)] w fun e w' => ∃ v', e = .returned (.tuple #[]) ∧ Sto w' base g b v' most (l.drop k) ∧ Fr (own3 g b v) w w' ∧ v'.ownBlock = v.ownBlock := by
  rcases Nat.eq_zero_or_pos k with rfl | h
  · exact (a_drop0 base g b v most l w hS).mono (fun e w' q => ⟨v, q.1, by rw [q.2]; exact hS, by rw [q.2]; exact Fr.refl _ _, rfl⟩)
  · have := a_drop base g b v most l 0 k h hk w hS
    rw [List.take_zero, List.nil_append] at this
    exact this
set_option maxRecDepth 100000 in
set_option maxHeartbeats 4000000 in
theorem a_Forget (base g b : Nat) (v : Value) (most : Int) (l : List Sr) (n : Int) (w : World) (hS : Sto w base g b v most l) : Calls Try.prog 22 #[.pointer (some ⟨g, 0, none⟩), .int .i64 n] w fun e w' => ∃ v', e = .returned (.int .i64 (fgt l n)) ∧ Sto w' base g b v' most (l.drop (fgt l n)) ∧ Fr (own3 g b v) w w' ∧ v'.ownBlock = v.ownBlock := by
  have hL := a_Len base g b v most l w hS
  have cD := fun k hk => a_dropN base g b v most l k hk w hS
  have hln := hS.len
  have hm0 := hS.most0
  rcases Int.lt_or_le n 0 with h1 | h1
  · have hf : fgt l n = 0 := if_pos (by omega)
    rw [hf]
    replace cD := cD 0 (by omega)
    clear hf
    go_enter Try.func22, Try.ntmps22
    go_wp2_with (fail)
    refine hL.mono ?_
    rintro e_ w1 ⟨rfl, h_⟩
    subst w1
    go_wp2_with (fail)
    all_goals first | (exfalso; omega) | skip
    refine cD.mono ?_
    rintro e_ w2 ⟨v', rfl, hS2, hf, hv⟩
    go_wp2_with (fail)
    go_ret
    exact ⟨v', rfl, hS2, hf, hv⟩
  · obtain ⟨N, rfl⟩ := Int.eq_ofNat_of_zero_le h1
    rcases Nat.lt_or_ge l.length N with h2 | h2
    rotate_left 1
    · have hf : fgt l (N : Int) = N := by unfold fgt; split <;> (try split) <;> omega
      rw [hf]
      replace cD := cD N (by omega)
      clear hf
      have h3 : ¬ (l.length : Int) < (N : Int) := by omega
      go_enter Try.func22, Try.ntmps22
      go_wp2_with (fail)
      refine hL.mono ?_
      rintro e_ w1 ⟨rfl, h_⟩
      subst w1
      go_wp2_with (fail)
      all_goals first | (exfalso; omega) | skip
      refine cD.mono ?_
      rintro e_ w2 ⟨v', rfl, hS2, hf, hv⟩
      go_wp2_with (fail)
      go_ret
      exact ⟨v', rfl, hS2, hf, hv⟩
    · have hf : fgt l (N : Int) = l.length := by unfold fgt; split <;> (try split) <;> omega
      rw [hf]
      replace cD := cD l.length (by omega)
      clear hf
      have h3 : (l.length : Int) < (N : Int) := by omega
      go_enter Try.func22, Try.ntmps22
      go_wp2_with (fail)
      refine hL.mono ?_
      rintro e_ w1 ⟨rfl, h_⟩
      subst w1
      go_wp2_with (fail)
      all_goals first | (exfalso; omega) | skip
      refine cD.mono ?_
      rintro e_ w2 ⟨v', rfl, hS2, hf, hv⟩
      go_wp2_with (fail)
      go_ret
      exact ⟨v', rfl, hS2, hf, hv⟩

end Go.Proofs.Ytebgdenfaiinmaa
