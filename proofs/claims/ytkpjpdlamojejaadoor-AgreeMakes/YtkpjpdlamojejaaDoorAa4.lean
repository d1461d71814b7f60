import Derived.Test.YtkpjpdlamojejaaDoorProg
import Derived.WalkKit
import Derived.WalkSpells
import Derived.WalkLawsBesides
import Derived.Lib.QuietBelow
import Derived.BigQuiet
import Derived.OrdersHeld
import Derived.Deep.RegionHeld3
import Derived.OwnWalk
import Derived.Deep.Cut
import Derived.Test.YtkpjpdlamojejaaDoorKa
import Derived.Test.YtkpjpdlamojejaaDoorAa3
namespace Go.Proofs.YtkpjpdlamojejaaDoor
set_option maxRecDepth 100000
open Go Go.RowKit Go.Sort
attribute [local go_sem] setCell_drewN alloc_drewN

theorem run_storeVar_cell {P : Program} (w : World) (g off : Nat) (ty : TypeId) (v : Value) (ht : w.there g off 1) (hi : (P.info? ty).map (·.size) = some 1) (h1 : v.oneCell' = true) : (storeVar ty ⟨g, off, none⟩ v).run P w = .ok () (w.setCells g off [v]) := by
  have := run_storeCells_cells (P := P) g off [v] 0 w (fun j hj => by simpa using (ht j (by simpa using hj)).1) (fun j hj => by simpa using (ht j (by simpa using hj)).2) (fun u hu => by simp at hu; subst hu; exact h1)
  have hc : v.cells = #[v] := by cases v <;> first | rfl | cases h1
  cases hq : P.info? ty with
  | none => simp [hq] at hi
  | some i =>
    have hs : i.size = 1 := by simpa [hq] using hi
    simp only [Nat.add_zero] at this
    simp [storeVar, sizeOf, typeInfo, hq, hc, hs, this]
theorem wp_store_cellR {P : Program} {o : Oper} {a : Act} {w : World} {K : Act → World → Prop} {Q : Exit → Act → World → Prop} (ty : TypeId) (x y : Operand) (ho : o.op = .store ty x y)
    (g off : Nat) (v : Value) (hx : a.eval x = .pointer (some ⟨g, off, none⟩)) (hy : a.eval y = v) (t : TypeId) (old new : Array Value) (hg : w.heap[g]? = some (.cells old t (0, 0))) (hlt : off < old.size) (hnew : old.setIfInBounds off v = new)
    (hi : (P.info? ty).map (·.size) = some 1) (h1 : v.oneCell' = true)
    (h : K (a.put o.dst undef) (w.setRow g new)) : o.wp P a w K Q := by
  unfold Oper.wp execOp
  simp only [ho, hx, hy, Instr.storeAt, Instr.sureAddr, Sem.run_bind, Sem.run_pure, Result.andThen_ok, run_storeVar_cell w g off ty v (there_row hg hlt) hi h1]
  rw [setCells_eq [v] off w old hg]
  have e : ovw old off [v] = new := hnew
  rw [e]
  exact h
/-- What the secrets are: the first error, or keys and the extra. -/
def SeR (sh : List Int → List Int) (er : List Int → Int) (ms : List (List Int)) (p q : List Int) (w : World) (e : Ending) (w' : World) : Prop :=
  ((fer er ms ≠ 0 ∧ e = .returned (.tuple #[.agg scz, .int .i64 (fer er ms)])) ∨ (fer er ms = 0 ∧ ∃ v, e = .returned (.tuple #[.agg (scr (pt (scb (ms.map sh)) 0 32) (pt (scb (ms.map sh)) 32 32) (pt (scb (ms.map sh)) 64 32) v), .int .i64 0]) ∧ OwnI w' w.heap.size v (p ++ q))) ∧ Below w.heap.size w w'
theorem own_oneI {W : World} {b : Nat} {v : Value} {l : List Int} (h : OwnI W b v l) : v.oneCell' = true := by
  obtain ⟨ao, cap, rfl⟩ := h.form
  rfl
set_option maxRecDepth 100000 in
set_option maxHeartbeats 4000000 in
theorem a_secrets1 (sh : List Int → List Int) (er : List Int → Int) (L : List Int) (h : Bool) (hL : L.length = 224) (ms : List (List Int)) (h1 : 0 < ms.length) (h4 : ms.length ≤ 4) (hsl : ∀ m ∈ ms, K8 (sh m)) (p q : List Int) (hp : p.length = 32) (hq : q.length = 32)
    (cK : ∀ w : World, Lo.Four w → Calls Tryd.prog 16 #[.agg (vw L h (.func (.func 11) #[] #[]))] w (KyR sh er ms w))
    (w : World) (hF : Lo.Four w) (hS : Sta w) (hK0 : Kon w) : Calls Tryd.prog 12 #[.agg (vw L h (.func (.func 11) #[] #[])), .agg (irow .u8 p), .agg (irow .u8 q)] w (SeR sh er ms p q w) := by
  have R0 := hp4_0 w (.cells (vw L h (.func (.func 11) #[] #[])) 45) (.cells (irow .u8 p) 23) (.cells (irow .u8 q) 23) (.cells scz 30)
  have R1 := hp4_1 w (.cells (vw L h (.func (.func 11) #[] #[])) 45) (.cells (irow .u8 p) 23) (.cells (irow .u8 q) 23) (.cells scz 30)
  have R2 := hp4_2 w (.cells (vw L h (.func (.func 11) #[] #[])) 45) (.cells (irow .u8 p) 23) (.cells (irow .u8 q) 23) (.cells scz 30)
  have R3 := hp4_3 w (.cells (vw L h (.func (.func 11) #[] #[])) 45) (.cells (irow .u8 p) 23) (.cells (irow .u8 q) 23) (.cells scz 30)
  have hw : Below w.heap.size w ((((w.alloc (.cells (vw L h (.func (.func 11) #[] #[])) 45)).alloc (.cells (irow .u8 p) 23)).alloc (.cells (irow .u8 q) 23)).alloc (.cells scz 30)) := (((((Below.refl _ _).alloc (Nat.le_refl _) _).alloc (by simp) _).alloc (by simp; omega) _).alloc (by simp; omega) _)
  have hF1 := hF.below hw
  have hS1 := hS.below hw
  have hK1 := hK0.below hw
  have iV := info_vw1 L h (.func (.func 11) #[] #[]) hL
  generalize vw L h (.func (.func 11) #[] #[]) = R at *
  go_enter Tryd.func12, Tryd.ntmps12
  go_upto_region 1 with (first | (refine wpList_box rfl 45 _ rfl _ rfl (box_vw1 _) ?_) | (refine wpList_box rfl 23 _ rfl _ rfl (bKy _) ?_) | (refine wpList_alloc rfl 30 rfl scz zScA ?_) | fail)
  try simp only [size_alloc1, Act.put, List.setIfInBounds_toArray, List.set_cons_succ, List.set_cons_zero]
  generalize ((((w.alloc (.cells R 45)).alloc (.cells (irow .u8 p) 23)).alloc (.cells (irow .u8 q) 23)).alloc (.cells scz 30)) = w1 at *
  repeat ((fail_if_success (refine wpList_load_want rfl 45 _ rfl (w.heap.size) rfl 45 R (0, 0) _ R0 Tryd.underlying45 rfl iV ?_)); first | go_skip | go_step)
  refine wpList_load_want rfl 45 _ rfl (w.heap.size) rfl 45 R (0, 0) _ R0 Tryd.underlying45 rfl iV ?_
  try simp only [Act.put, List.setIfInBounds_toArray, List.set_cons_succ, List.set_cons_zero]
  go_wp2_with (fail)
  refine (cK w1 hF1).mono ?_
  rintro e_ w2 ⟨hR, hb⟩
  have sz1 := hw.size
  replace R1 := keep hb R1
  replace R2 := keep hb R2
  have lt3 := lt_of_row R3
  replace R3 := keep hb R3
  replace hS1 := hS1.below hb
  replace hK1 := hK1.below hb
  replace hw := Below.after hw hb
  clear hb R0 hF1 cK
  rcases hR with ⟨hne, rfl⟩ | ⟨he, v, rfl, hO⟩
  · have R4 := setRow_heap w2 (w.heap.size + 1 + 1 + 1) _ scz _ _ R3
    have hw4 := below_setRow hw (show w.heap.size ≤ w.heap.size + 1 + 1 + 1 by omega) scz
    have hde : (fer er ms != 0) = true := by simp [hne]
    generalize hE : fer er ms = E at *
    replace hE := hide hE
    replace hne := hide hne
    have zn := zr_len 32
    go_wp2_with (first | (refine wpList_build_as rfl 30 _ rfl [] rfl scz builtZc ?_) | (refine wpList_store_row rfl 30 _ _ rfl (w.heap.size + 1 + 1 + 1) scz rfl rfl 30 _ R3 (info_scr _ _ _ _ zn zn zn) rfl (scr_one _ _ _ _ rfl) ?_) | fail)
    exact bodyPost_ret (Lo.results_row_slot Tryd.results12 _ _ (w.heap.size + 1 + 1 + 1) _ _ _ _ _ rfl R4 rfl Tryd.underlying30 rfl (info_scr _ _ _ _ zn zn zn)) rfl ⟨.inl ⟨by rw [hE.out]; exact hne.out, by rw [hE.out]; rfl⟩, hw4⟩
  · have hmap : (ms.map sh).length = ms.length := List.length_map ..
    have cS := a_secretsOf (ms.map sh) (fun k hk => by obtain ⟨m, hm, rfl⟩ := List.mem_map.1 hk; exact hsl m hm) (by omega) (by omega) w1.heap.size v w2 hO hS1 hK1
    have hxl := scb_len (ms.map sh)
    have l0 : (pt (scb (ms.map sh)) 0 32).length = 32 := pt_len _ _ _ (by omega)
    have l32 : (pt (scb (ms.map sh)) 32 32).length = 32 := pt_len _ _ _ (by omega)
    have l64 : (pt (scb (ms.map sh)) 64 32).length = 32 := pt_len _ _ _ (by omega)
    generalize hP0 : pt (scb (ms.map sh)) 0 32 = P0 at *
    generalize hP1 : pt (scb (ms.map sh)) 32 32 = P1 at *
    generalize hP2 : pt (scb (ms.map sh)) 64 32 = P2 at *
    replace hP0 := hide hP0
    replace hP1 := hide hP1
    replace hP2 := hide hP2
    replace he := hide he
    clear hxl hmap
    generalize hks : ms.map sh = ks at *
    replace hks := hide hks
    obtain ⟨ao, cap, rfl⟩ := slen_own hO
    go_wp2_with (fail)
    refine cS.mono ?_
    rintro e_ w3 ⟨rfl, hb⟩
    have ltw := hb.size
    have lt3c := lt_of_row R3
    replace R1 := keep hb R1
    replace R2 := keep hb R2
    replace R3 := keep hb R3
    replace hw := Below.after hw hb
    clear hb cS hS1 hK1 hO
    have z_ := hp1_0 w3 (.cells scz 30)
    have zn := zr_len 32
    go_wp2_with (first | (refine wpList_alloc rfl 30 rfl scz zScA ?_) | (refine wpList_store_row rfl 30 _ _ rfl (w3.heap.size) (scr P0 P1 P2 (.slice none 0 0)) rfl rfl 30 _ z_ (info_scr _ _ _ _ l0 l32 l64) (fit_scr _ _ _ _ zn zn zn _ _ _ _ l0 l32 l64) (scr_one _ _ _ _ rfl) ?_; refine wpList_stay ?_) | fail)
    unfold WpStay
    try simp only [Act.put, List.setIfInBounds_toArray, List.set_cons_succ, List.set_cons_zero]
    have R5 := setRow_heap (w3.alloc (.cells scz 30)) w3.heap.size _ (scr P0 P1 P2 (.slice none 0 0)) _ _ z_
    have hb_ : Below w3.heap.size w3 ((w3.alloc (.cells scz 30)).setRow w3.heap.size (scr P0 P1 P2 (.slice none 0 0))) := below_setRow ((Below.refl _ _).alloc (Nat.le_refl _) _) (Nat.le_refl _) _
    have lt3d := lt_of_row R3
    replace R1 := keep hb_ R1
    replace R2 := keep hb_ R2
    replace R3 := keep hb_ R3
    replace hw := Below.after hw hb_
    clear hb_ z_
    generalize (w3.alloc (.cells scz 30)).setRow w3.heap.size (scr P0 P1 P2 (.slice none 0 0)) = w5 at *
    generalize w3.heap.size = g5 at *
    have sk1 := slice_k (w.heap.size + 1)
    have sk2 := slice_k (w.heap.size + 1 + 1)
    go_upto_region 5 with (fail)
    have hbd : Below w5.heap.size w5 w5.drew := below_drN (Below.refl _ _) 1
    replace R1 := keep hbd R1
    replace R2 := keep hbd R2
    replace R3 := keep hbd R3
    replace R5 := keep hbd R5
    replace hw := Below.after hw hbd
    clear hbd
    refine wp_region_noPanic ?_
    refine wp_region_held (S := fun _ => True) (by kernel_rfl) ?_
    change wpAnyH _ _ _ _ _ _ _ _ (World.drew _)
    generalize w5.drew = w6 at *
    refine wpAnyH_take (i := 0) (v := .slice (some ⟨w.heap.size + 1, 0, none⟩) 32 32) rfl (by kernel_rfl) (by kernel_rfl) (by kernel_rfl) (fun _ _ _ h => h) (Or.inl ⟨by rfl, ?y14⟩) trivial ?r14
    case y14 =>
      intro w_ hS_
      go_simp
      try with_reducible rfl
    simp only [Act.put, List.getElem_toArray, List.getElem_cons_zero, List.setIfInBounds_toArray, List.set_cons_succ, List.set_cons_zero]
    refine wpAnyH_take (i := 1) (v := .slice (some ⟨w.heap.size + 1 + 1, 0, none⟩) 32 32) rfl (by kernel_rfl) (by kernel_rfl) (by kernel_rfl) (fun _ _ _ h => h) (Or.inl ⟨by rfl, ?y15⟩) trivial ?r15
    case y15 =>
      intro w_ hS_
      go_simp
      try with_reducible rfl
    simp only [Act.put, List.getElem_toArray, List.getElem_cons_succ, List.getElem_cons_zero, List.setIfInBounds_toArray, List.set_cons_succ, List.set_cons_zero]
    refine wpAnyH_one (k := 2) (fuel := 3) (by kernel_rfl) rfl (by kernel_rfl) (fun K_ hK => ?_)
    refine wp_world_op (.slice (some ⟨w6.heap.size, 0, none⟩) 2 2) (w6.alloc (.cells #[.slice (some ⟨w.heap.size + 1, 0, none⟩) 32 32, .slice (some ⟨w.heap.size + 1 + 1, 0, none⟩) 32 32] 28)) (by kernel_rfl) ?_
    have hb_ : Below w6.heap.size w6 (w6.alloc (.cells #[.slice (some ⟨w.heap.size + 1, 0, none⟩) 32 32, .slice (some ⟨w.heap.size + 1 + 1, 0, none⟩) 32 32] 28)) := (Below.refl _ _).alloc (Nat.le_refl _) _
    have rP := hp1_0 w6 (.cells #[.slice (some ⟨w.heap.size + 1, 0, none⟩) 32 32, .slice (some ⟨w.heap.size + 1 + 1, 0, none⟩) 32 32] 28)
    have lt5 := lt_of_row R5
    replace R1 := keep hb_ R1
    replace R2 := keep hb_ R2
    replace R3 := keep hb_ R3
    replace R5 := keep hb_ R5
    replace hw := Below.after hw hb_
    clear hb_
    refine hK _ _ trivial ?_
    simp only [Act.put, List.getElem_toArray, List.getElem_cons_succ, List.getElem_cons_zero, List.setIfInBounds_toArray, List.set_cons_succ, List.set_cons_zero]
    clear hK
    generalize w6.alloc (.cells #[.slice (some ⟨w.heap.size + 1, 0, none⟩) 32 32, .slice (some ⟨w.heap.size + 1 + 1, 0, none⟩) 32 32] 28) = w7 at *
    generalize w6.heap.size = g7 at *
    refine wpAnyH_one (k := 3) (fuel := 2) (by kernel_rfl) rfl (by kernel_rfl) (fun K_ hK => ?_)
    refine wp_call_ex (f := 18) (by kernel_rfl) (a_concatK p q hp hq w7 g7 _ _ rP R1 R2) (fun v_ w8 hX_ => ?_)
    obtain ⟨hO, hb_⟩ := hX_
    have szw := hw.size
    have lt5b := lt_of_row R5
    have lt3b := lt_of_row R3
    replace R3 := keep hb_ R3
    replace R5 := keep hb_ R5
    replace hw := Below.after hw hb_
    clear hb_ rP R1 R2
    refine hK _ _ trivial ?_
    simp only [Act.put, List.getElem_toArray, List.getElem_cons_succ, List.getElem_cons_zero, List.setIfInBounds_toArray, List.set_cons_succ, List.set_cons_zero]
    clear hK
    have hone := own_oneI hO
    have R6 := setRow_heap w8 g5 _ (scr P0 P1 P2 v_) _ _ R5
    have R7 := (setRow_other w8 g5 (w.heap.size + 1 + 1 + 1) (scr P0 P1 P2 v_) (by omega)).trans R3
    have hw6 := below_setRow hw (show w.heap.size ≤ g5 by omega) (scr P0 P1 P2 v_)
    have hO6 : OwnI (w8.setRow g5 (scr P0 P1 P2 v_)) w7.heap.size v_ (p ++ q) := hO.move (fun k o e hk => (setRow_other w8 g5 k _ (by have := hO.lt k e; omega)).trans hk)
    replace hO6 : OwnI (w8.setRow g5 (scr P0 P1 P2 v_)) w.heap.size v_ (p ++ q) ∧ ∀ k, v_.ownBlock = some k → w7.heap.size ≤ k := ⟨hO6.down szw, fun k e => (hO6.lt k e).1⟩
    refine wpAnyH_take (i := 4) (v := ?v16) rfl (by kernel_rfl) (by kernel_rfl) (by kernel_rfl) (fun _ _ _ h => h) (Or.inl ⟨by rfl, ?y16⟩) trivial ?r16
    case y16 =>
      intro w_ hS_
      go_simp
      try with_reducible rfl
    simp only [Act.put, List.getElem_toArray, List.getElem_cons_succ, List.getElem_cons_zero, List.setIfInBounds_toArray, List.set_cons_succ, List.set_cons_zero]
    refine wpAnyH_one (k := 5) (fuel := 0) (by kernel_rfl) rfl (by kernel_rfl) (fun K_ hK => ?_)
    refine wp_store_cellR 28 _ _ rfl g5 96 v_ rfl rfl 30 (scr P0 P1 P2 (.slice none 0 0)) (scr P0 P1 P2 v_) R5 (by rw [scr_size _ _ _ _ l0 l32 l64]; omega) (sc_put _ _ _ _ _ l0 l32 l64) (by kernel_rfl) hone ?_
    refine hK _ _ trivial ?_
    simp only [Act.put]
    clear hK
    refine wpAnyH_done (by kernel_rfl) ?_ _
    refine NoPanic.normal ?_
    clear R5 R3 hO hw
    generalize w8.setRow g5 (scr P0 P1 P2 v_) = w9 at *
    have R8 := setRow_heap w9 (w.heap.size + 1 + 1 + 1) _ (scr P0 P1 P2 v_) _ _ R7
    have hw8 := below_setRow hw6 (show w.heap.size ≤ w.heap.size + 1 + 1 + 1 by omega) (scr P0 P1 P2 v_)
    have hO8 : OwnI (w9.setRow (w.heap.size + 1 + 1 + 1) (scr P0 P1 P2 v_)) w.heap.size v_ (p ++ q) := hO6.1.move (fun k o e hk => (setRow_other w9 (w.heap.size + 1 + 1 + 1) k _ (by have := hO6.2 k e; omega)).trans hk)
    go_wp2_with (first | (refine wpList_load_want rfl 30 _ rfl g5 rfl 30 (scr P0 P1 P2 v_) (0, 0) _ R6 Tryd.underlying30 rfl (info_scr _ _ _ _ l0 l32 l64) ?_) | (refine wpList_store_row rfl 30 _ _ rfl (w.heap.size + 1 + 1 + 1) (scr P0 P1 P2 v_) rfl rfl 30 _ R7 (info_scr _ _ _ _ l0 l32 l64) (fit_scr _ _ _ _ zn zn zn _ _ _ _ l0 l32 l64) (scr_one _ _ _ _ hone) ?_) | fail)
    exact bodyPost_ret (Lo.results_row_slot Tryd.results12 _ _ (w.heap.size + 1 + 1 + 1) _ _ _ _ _ rfl R8 rfl Tryd.underlying30 rfl (info_scr _ _ _ _ l0 l32 l64)) rfl ⟨.inr ⟨he.out, v_, by rw [hks.out, hP0.out, hP1.out, hP2.out]; rfl, hO8⟩, hw8⟩
end Go.Proofs.YtkpjpdlamojejaaDoor

namespace Go.Proofs.YtkpjpdlamojejaaDoor
set_option maxRecDepth 100000
open Go Go.RowKit Go.Sort
attribute [local go_sem] setCell_drewN alloc_drewN

theorem take2 (m : List Int) (i j : Nat) : m.take (i + j) = m.take i ++ (m.drop i).take j := List.take_add ..
/-- What is shared at a meeting, by the pair's private key (its first 32 bytes) and the other's. -/
def sh1 (m : List Int) : List Int := shL (m.take 32) (m.drop 64)
def er1 (m : List Int) : Int := wkE (m.take 32) (m.drop 64)
def sh2 (m : List Int) : List Int := shL ((m.drop 32).take 32) (m.take 32)
def er2 (m : List Int) : Int := wkE ((m.drop 32).take 32) (m.take 32)
def B8 (l : List Int) : Prop := ∀ x ∈ l, 0 ≤ x ∧ x < 256
theorem B8.app {a b : List Int} (ha : B8 a) (hb : B8 b) : B8 (a ++ b) := fun x hx => by
  rcases List.mem_append.1 hx with h | h
  · exact ha x h
  · exact hb x h
theorem B8.take {a : List Int} (h : B8 a) (n : Nat) : B8 (a.take n) := fun x hx => h x (List.mem_of_mem_take hx)
theorem B8.drop {a : List Int} (h : B8 a) (n : Nat) : B8 (a.drop n) := fun x hx => h x (List.mem_of_mem_drop hx)
theorem mts_all {P : List Int → Prop} {W F I S O : List Int} {h : Bool} (h1 : P (W ++ S)) (h2 : P (F ++ I)) (h3 : P (F ++ S)) (h4 : P (F ++ O)) : ∀ m ∈ mts W F I S O h, P m := by
  intro m hm
  cases h
  · rw [mts_f] at hm
    simp only [List.mem_cons, List.not_mem_nil, or_false] at hm
    rcases hm with rfl | rfl | rfl <;> assumption
  · rw [mts_t] at hm
    simp only [List.mem_append, List.mem_cons, List.not_mem_nil, or_false] at hm
    rcases hm with (rfl | rfl | rfl) | rfl <;> assumption
theorem mts_n (W F I S O : List Int) (h : Bool) : 0 < (mts W F I S O h).length ∧ (mts W F I S O h).length ≤ 4 := by
  cases h
  · rw [mts_f]; exact ⟨by simp, by simp⟩
  · rw [mts_t]; exact ⟨by simp, by simp⟩
theorem share_of1 (m : List Int) (hm : m.length = 96) (hb : B8 m) (w : World) (hF : Lo.Four w) : Calls Tryd.prog 11 #[.agg (irow .u8 (m.take 64)), .agg (irow .u8 (m.drop 64))] w fun e w' => e = .returned (.tuple #[.agg (irow .u8 (sh1 m)), .int .i64 (er1 m)]) ∧ Below w.heap.size w w' := by
  rw [take2 m 32 32]
  exact a_share1 (m.take 32) ((m.drop 32).take 32) (m.drop 64) ⟨by simp; omega, hb.take 32⟩ (by simp; omega) ⟨by simp; omega, hb.drop 64⟩ w hF
theorem built_v1 (W F I S O : List Int) (h : Bool) (hW : W.length = 64) (hF : F.length = 64) (hI : I.length = 32) (hS : S.length = 32) (hO : O.length = 32) : Tryd.prog.built 45 [(0, .agg (irow .u8 W)), (1, .agg (irow .u8 F)), (2, .agg (irow .u8 I)), (3, .agg (irow .u8 S)), (4, .agg (irow .u8 O)), (5, .bool h), (6, (.func (.func 11) #[] #[]))] = some (vw (W ++ (F ++ (I ++ (S ++ O)))) h (.func (.func 11) #[] #[])) := by
  obtain ⟨wa, wr, hwa, hwr, rfl⟩ := lenS W 32 32 hW
  obtain ⟨wa0, wa1, wa2, wa3, wa4, wa5, wa6, wa7, wa8, wa9, wa10, wa11, wa12, wa13, wa14, wa15, wa16, wa17, wa18, wa19, wa20, wa21, wa22, wa23, wa24, wa25, wa26, wa27, wa28, wa29, wa30, wa31, rfl⟩ := len32 wa hwa
  obtain ⟨wr0, wr1, wr2, wr3, wr4, wr5, wr6, wr7, wr8, wr9, wr10, wr11, wr12, wr13, wr14, wr15, wr16, wr17, wr18, wr19, wr20, wr21, wr22, wr23, wr24, wr25, wr26, wr27, wr28, wr29, wr30, wr31, rfl⟩ := len32 wr hwr
  obtain ⟨fa, fr, hfa, hfr, rfl⟩ := lenS F 32 32 hF
  obtain ⟨fa0, fa1, fa2, fa3, fa4, fa5, fa6, fa7, fa8, fa9, fa10, fa11, fa12, fa13, fa14, fa15, fa16, fa17, fa18, fa19, fa20, fa21, fa22, fa23, fa24, fa25, fa26, fa27, fa28, fa29, fa30, fa31, rfl⟩ := len32 fa hfa
  obtain ⟨fr0, fr1, fr2, fr3, fr4, fr5, fr6, fr7, fr8, fr9, fr10, fr11, fr12, fr13, fr14, fr15, fr16, fr17, fr18, fr19, fr20, fr21, fr22, fr23, fr24, fr25, fr26, fr27, fr28, fr29, fr30, fr31, rfl⟩ := len32 fr hfr
  obtain ⟨i0, i1, i2, i3, i4, i5, i6, i7, i8, i9, i10, i11, i12, i13, i14, i15, i16, i17, i18, i19, i20, i21, i22, i23, i24, i25, i26, i27, i28, i29, i30, i31, rfl⟩ := len32 I hI
  obtain ⟨s0, s1, s2, s3, s4, s5, s6, s7, s8, s9, s10, s11, s12, s13, s14, s15, s16, s17, s18, s19, s20, s21, s22, s23, s24, s25, s26, s27, s28, s29, s30, s31, rfl⟩ := len32 S hS
  obtain ⟨o0, o1, o2, o3, o4, o5, o6, o7, o8, o9, o10, o11, o12, o13, o14, o15, o16, o17, o18, o19, o20, o21, o22, o23, o24, o25, o26, o27, o28, o29, o30, o31, rfl⟩ := len32 O hO
  kernel_rfl
theorem secrets_of1 (W F I S O : List Int) (h : Bool) (hW : W.length = 64) (hF : F.length = 64) (hI : I.length = 32) (hS : S.length = 32) (hO : O.length = 32) (bW : B8 W) (bF : B8 F) (bI : B8 I) (bS : B8 S) (bO : B8 O) (p q : List Int) (hp : p.length = 32) (hq : q.length = 32) (w : World) (hFo : Lo.Four w) (hSt : Sta w) (hKo : Kon w) : Calls Tryd.prog 12 #[.agg (vw (W ++ (F ++ (I ++ (S ++ O)))) h (.func (.func 11) #[] #[])), .agg (irow .u8 p), .agg (irow .u8 q)] w (SeR sh1 er1 (mts W F I S O h) p q w) := by
  have hL : (W ++ (F ++ (I ++ (S ++ O)))).length = 224 := by simp [hW, hF, hI, hS, hO]
  have hm : ∀ m ∈ mts W F I S O h, m.length = 96 := mts_all (by simp [hW, hS]) (by simp [hF, hI]) (by simp [hF, hS]) (by simp [hF, hO])
  have hb : ∀ m ∈ mts W F I S O h, B8 m := mts_all (bW.app bS) (bF.app bI) (bF.app bS) (bF.app bO)
  obtain ⟨n1, n4⟩ := mts_n W F I S O h
  exact a_secrets1 sh1 er1 (W ++ (F ++ (I ++ (S ++ O)))) h hL (mts W F I S O h) n1 n4 (fun m _ => shL_K8 _ _) p q hp hq
    (fun w hF' => a_keys1 sh1 er1 (W ++ (F ++ (I ++ (S ++ O)))) h hL (mts W F I S O h) hm n1 n4 (fun m _ => shL_len _ _) (fun w => a_meet1 W F I S O h (.func (.func 11) #[] #[]) hW hF hI hS hO w) (fun m hmm w hF'' => share_of1 m (hm m hmm) (hb m hmm) w hF'') w hF') w hFo hSt hKo
set_option maxRecDepth 100000 in
set_option maxHeartbeats 4000000 in
theorem a_canBe (i s o : List Int) (h : Bool) (hi : i.length = 32) (hs : s.length = 32) (ho : o.length = 32) (w : World) : Calls Tryd.prog 10 #[.agg (brow i s o h)] w fun e w' => e = .returned (.bool (h || decide (o = zr 32))) ∧ Below w.heap.size w w' := by
  have R0 := hp1_0 w (.cells (brow i s o h) 27)
  have hw : Below w.heap.size w (w.alloc (.cells (brow i s o h) 27)) := (Below.refl _ _).alloc (Nat.le_refl _) _
  have c_h : World.cell? _ ⟨w.heap.size, 96, none⟩ = some (.bool h) := (cell_of_row _ _ _ _ _ _ R0).trans (bn_h i s o h hi hs ho)
  have heq := fun W => eq_k o (zr 32) ho (zr_len 32) W
  have xo := bn_o i s o h hi hs ho
  generalize decide (o = zr 32) = D at *
  generalize brow i s o h = R at *
  go_enter Tryd.func10, Tryd.ntmps10
  go_upto_region 1 with (first | (refine wpList_box rfl 27 _ rfl _ rfl (box_brow _) ?_) | fail)
  try simp only [Act.put, List.setIfInBounds_toArray, List.set_cons_succ, List.set_cons_zero]
  generalize w.alloc (.cells R 27) = w1 at *
  cases h
  · go_wp2_with (first | (refine wpList_load_part rfl 23 _ rfl (w.heap.size) 64 rfl 27 R (0, 0) (irow .u8 o) _ R0 xo Tryd.underlying23 rfl (infoKy o ho) ?_) | (refine wpList_build_want rfl 23 _ rfl [] rfl (irow .u8 (zr 32)) builtZk ?_) | fail)
    go_ret
    exact ⟨rfl, hw⟩
  · repeat (first | go_skip | go_step)
    go_ret
    exact ⟨rfl, hw⟩
end Go.Proofs.YtkpjpdlamojejaaDoor

namespace Go.Proofs.YtkpjpdlamojejaaDoor
set_option maxRecDepth 100000
open Go Go.RowKit Go.Sort
attribute [local go_sem] setCell_drewN alloc_drewN

def StR (can : Bool) (sh : List Int → List Int) (er : List Int → Int) (ms : List (List Int)) (p q : List Int) (w : World) (e : Ending) (w' : World) : Prop :=
  (can = false ∧ e = .returned (.tuple #[.agg scz, .int .i64 140]) ∧ Below w.heap.size w w') ∨ (can = true ∧ SeR sh er ms p q w e w')
theorem zV1 : ∃ Z : Array Value, Z.size = 226 ∧ ∀ W : World, (Instr.alloc 45 true (.tuple #[])).run Tryd.prog W = .ok (.pointer (some ⟨W.heap.size, 0, none⟩)) (W.alloc (.cells Z 45)) := ⟨(k8 (zr 224) ++ ([Value.bool false, .nilFunc] ++ [])).toArray, by simp [k8_len, zr_len], fun W => by kernel_rfl⟩
set_option maxRecDepth 100000 in
set_option maxHeartbeats 4000000 in
theorem a_Start (pa pb fa fb i s o : List Int) (h : Bool) (kpa : K8 pa) (kpb : K8 pb) (kfa : K8 fa) (kfb : K8 fb) (ki : K8 i) (ks : K8 s) (ko : K8 o) (w : World) (hF : Lo.Four w) (hS : Sta w) (hK : Kon w) : Calls Tryd.prog 4 #[.agg (prow pa pb), .agg (prow fa fb), .agg (brow i s o h)] w (StR (h || decide (o = zr 32)) sh1 er1 (mts (pa ++ pb) (fa ++ fb) i s o h) pb i w) := by
  rw [prow_irow, prow_irow]
  have hi := ki.1
  have hs := ks.1
  have ho := ko.1
  have lp : (pa ++ pb).length = 64 := by simp [kpa.1, kpb.1]
  have lf : (fa ++ fb).length = 64 := by simp [kfa.1, kfb.1]
  have xpb := app_ext1 pa pb 32 kpa.1
  have lpb := kpb.1
  have R0 := hp4_0 w (.cells (irow .u8 (pa ++ pb)) 25) (.cells (irow .u8 (fa ++ fb)) 25) (.cells (brow i s o h) 27) (.cells scz 30)
  have R1 := hp4_1 w (.cells (irow .u8 (pa ++ pb)) 25) (.cells (irow .u8 (fa ++ fb)) 25) (.cells (brow i s o h) 27) (.cells scz 30)
  have R2 := hp4_2 w (.cells (irow .u8 (pa ++ pb)) 25) (.cells (irow .u8 (fa ++ fb)) 25) (.cells (brow i s o h) 27) (.cells scz 30)
  have R3 := hp4_3 w (.cells (irow .u8 (pa ++ pb)) 25) (.cells (irow .u8 (fa ++ fb)) 25) (.cells (brow i s o h) 27) (.cells scz 30)
  have hw : Below w.heap.size w ((((w.alloc (.cells (irow .u8 (pa ++ pb)) 25)).alloc (.cells (irow .u8 (fa ++ fb)) 25)).alloc (.cells (brow i s o h) 27)).alloc (.cells scz 30)) := (((((Below.refl _ _).alloc (Nat.le_refl _) _).alloc (by simp) _).alloc (by simp; omega) _).alloc (by simp; omega) _)
  replace hF := hF.below hw
  replace hS := hS.below hw
  replace hK := hK.below hw
  have cC := a_canBe i s o h hi hs ho
  have iB := info_brow i s o h hi hs ho
  have xi := bn_i i s o h hi
  have xs := bn_s i s o h hi hs
  have xo := bn_o i s o h hi hs ho
  have qh := bn_h i s o h hi hs ho
  have bV := built_v1 (pa ++ pb) (fa ++ fb) i s o h lp lf hi hs ho
  have iV := info_vw1 ((pa ++ pb) ++ ((fa ++ fb) ++ (i ++ (s ++ o)))) h (.func (.func 11) #[] #[]) (by simp [kpa.1, kpb.1, kfa.1, kfb.1, hi, hs, ho])
  have sV := vw_size ((pa ++ pb) ++ ((fa ++ fb) ++ (i ++ (s ++ o)))) h (.func (.func 11) #[] #[])
  have oV := vw_one ((pa ++ pb) ++ ((fa ++ fb) ++ (i ++ (s ++ o)))) h (.func (.func 11) #[] #[]) rfl
  have cS := secrets_of1 (pa ++ pb) (fa ++ fb) i s o h lp lf hi hs ho (B8.app kpa.2 kpb.2) (B8.app kfa.2 kfb.2) ki.2 ks.2 ko.2 pb i lpb hi
  rw [show ((pa ++ pb) ++ ((fa ++ fb) ++ (i ++ (s ++ o)))).length + 2 = 226 by simp [kpa.1, kpb.1, kfa.1, kfb.1, hi, hs, ho]] at sV
  generalize vw ((pa ++ pb) ++ ((fa ++ fb) ++ (i ++ (s ++ o)))) h (.func (.func 11) #[] #[]) = V at *
  generalize brow i s o h = R at *
  generalize hcan : (h || decide (o = zr 32)) = can at *
  clear hcan
  go_enter Tryd.func4, Tryd.ntmps4
  go_upto_region 1 with (first | (refine wpList_box rfl 25 _ rfl _ rfl (bPrA _) ?_) | (refine wpList_box rfl 27 _ rfl _ rfl (box_brow _) ?_) | (refine wpList_alloc rfl 30 rfl scz zScA ?_) | fail)
  try simp only [size_alloc1, Act.put, List.setIfInBounds_toArray, List.set_cons_succ, List.set_cons_zero]
  generalize ((((w.alloc (.cells (irow .u8 (pa ++ pb)) 25)).alloc (.cells (irow .u8 (fa ++ fb)) 25)).alloc (.cells R 27)).alloc (.cells scz 30)) = w1 at *
  repeat ((fail_if_success (refine wpList_load_want rfl 27 _ rfl (w.heap.size + 1 + 1) rfl 27 R (0, 0) _ R2 Tryd.underlying27 rfl iB ?_)); first | go_skip | go_step)
  refine wpList_load_want rfl 27 _ rfl (w.heap.size + 1 + 1) rfl 27 R (0, 0) _ R2 Tryd.underlying27 rfl iB ?_
  try simp only [Act.put, List.setIfInBounds_toArray, List.set_cons_succ, List.set_cons_zero]
  go_wp2_with (fail)
  refine (cC w1).mono ?_
  rintro e_ w2 ⟨rfl, hb⟩
  replace R0 := keep hb R0
  replace R1 := keep hb R1
  replace R2 := keep hb R2
  replace R3 := keep hb R3
  replace hF := hF.below hb
  replace hS := hS.below hb
  replace hK := hK.below hb
  replace hw := Below.after hw hb
  clear hb cC iB
  cases can
  · clear cS
    have zn := zr_len 32
    have R8 := setRow_heap w2 (w.heap.size + 1 + 1 + 1) _ scz _ _ R3
    have hw8 := below_setRow hw (show w.heap.size ≤ w.heap.size + 1 + 1 + 1 by omega) scz
    go_wp2_with (first | (refine wpList_build_as rfl 30 _ rfl [] rfl scz builtZc ?_) | (refine wpList_store_row rfl 30 _ _ rfl (w.heap.size + 1 + 1 + 1) scz rfl rfl 30 _ R3 (info_scr _ _ _ _ zn zn zn) rfl (scr_one _ _ _ _ rfl) ?_) | fail)
    exact bodyPost_ret (Lo.results_row_slot Tryd.results4 _ _ (w.heap.size + 1 + 1 + 1) _ _ _ _ _ rfl R8 rfl Tryd.underlying30 rfl (info_scr _ _ _ _ zn zn zn)) rfl (.inl ⟨rfl, rfl, hw8⟩)
  have c_h : w2.cell? ⟨w.heap.size + 1 + 1, 96, none⟩ = some (.bool h) := (cell_of_row _ _ _ _ _ _ R2).trans qh
  go_upto_region 3 with (fail)
  repeat ((fail_if_success (refine wpList_load_want rfl 25 _ rfl (w.heap.size) rfl 25 (irow .u8 (pa ++ pb)) (0, 0) _ R0 Tryd.underlying25 rfl (infoP64 _ lp) ?_)); first | go_skip | go_step)
  refine wpList_load_want rfl 25 _ rfl (w.heap.size) rfl 25 (irow .u8 (pa ++ pb)) (0, 0) _ R0 Tryd.underlying25 rfl (infoP64 _ lp) ?_
  repeat ((fail_if_success (refine wpList_load_want rfl 25 _ rfl (w.heap.size + 1) rfl 25 (irow .u8 (fa ++ fb)) (0, 0) _ R1 Tryd.underlying25 rfl (infoP64 _ lf) ?_)); first | go_skip | go_step)
  refine wpList_load_want rfl 25 _ rfl (w.heap.size + 1) rfl 25 (irow .u8 (fa ++ fb)) (0, 0) _ R1 Tryd.underlying25 rfl (infoP64 _ lf) ?_
  repeat ((fail_if_success (refine wpList_load_part rfl 23 _ rfl (w.heap.size + 1 + 1) 0 rfl 27 R (0, 0) (irow .u8 i) _ R2 xi Tryd.underlying23 rfl (infoKy _ hi) ?_)); first | go_skip | go_step)
  refine wpList_load_part rfl 23 _ rfl (w.heap.size + 1 + 1) 0 rfl 27 R (0, 0) (irow .u8 i) _ R2 xi Tryd.underlying23 rfl (infoKy _ hi) ?_
  repeat ((fail_if_success (refine wpList_load_part rfl 23 _ rfl (w.heap.size + 1 + 1) 32 rfl 27 R (0, 0) (irow .u8 s) _ R2 xs Tryd.underlying23 rfl (infoKy _ hs) ?_)); first | go_skip | go_step)
  refine wpList_load_part rfl 23 _ rfl (w.heap.size + 1 + 1) 32 rfl 27 R (0, 0) (irow .u8 s) _ R2 xs Tryd.underlying23 rfl (infoKy _ hs) ?_
  repeat ((fail_if_success (refine wpList_load_part rfl 23 _ rfl (w.heap.size + 1 + 1) 64 rfl 27 R (0, 0) (irow .u8 o) _ R2 xo Tryd.underlying23 rfl (infoKy _ ho) ?_)); first | go_skip | go_step)
  refine wpList_load_part rfl 23 _ rfl (w.heap.size + 1 + 1) 64 rfl 27 R (0, 0) (irow .u8 o) _ R2 xo Tryd.underlying23 rfl (infoKy _ ho) ?_
  try simp only [Act.put, List.setIfInBounds_toArray, List.set_cons_succ, List.set_cons_zero]
  repeat ((fail_if_success (refine wpList_build_as rfl 45 _ rfl [(0, .agg (irow .u8 (pa ++ pb))), (1, .agg (irow .u8 (fa ++ fb))), (2, .agg (irow .u8 i)), (3, .agg (irow .u8 s)), (4, .agg (irow .u8 o)), (5, .bool h), (6, (.func (.func 11) #[] #[]))] rfl V bV ?_)); first | go_skip | go_step)
  refine wpList_build_as rfl 45 _ rfl [(0, .agg (irow .u8 (pa ++ pb))), (1, .agg (irow .u8 (fa ++ fb))), (2, .agg (irow .u8 i)), (3, .agg (irow .u8 s)), (4, .agg (irow .u8 o)), (5, .bool h), (6, (.func (.func 11) #[] #[]))] rfl V bV ?_
  try simp only [Act.put, List.setIfInBounds_toArray, List.set_cons_succ, List.set_cons_zero]
  clear c_h qh xs xo
  obtain ⟨Z, hZ, zV⟩ := zV1
  have z_ := hp1_0 w2 (.cells Z 45)
  repeat ((fail_if_success (refine wpList_alloc rfl 45 rfl Z zV ?_)); first | go_skip | go_step)
  refine wpList_alloc rfl 45 rfl Z zV ?_
  repeat ((fail_if_success (refine wpList_store_row rfl 45 _ _ rfl (w2.heap.size) V rfl rfl 45 _ z_ iV (by rw [hZ, sV]) oV ?_)); first | go_skip | go_step)
  refine wpList_store_row rfl 45 _ _ rfl (w2.heap.size) V rfl rfl 45 _ z_ iV (by rw [hZ, sV]) oV ?_
  have R6 := setRow_heap (w2.alloc (.cells Z 45)) w2.heap.size _ V _ _ z_
  have hb_ : Below w2.heap.size w2 ((w2.alloc (.cells Z 45)).setRow w2.heap.size V) := below_setRow ((Below.refl _ _).alloc (Nat.le_refl _) _) (Nat.le_refl _) _
  have sz2 := hw.size
  have ltR0 := lt_of_row R0
  replace R0 := keep hb_ R0
  have ltR2 := lt_of_row R2
  replace R2 := keep hb_ R2
  have ltR3 := lt_of_row R3
  replace R3 := keep hb_ R3
  replace hF := hF.below hb_
  replace hS := hS.below hb_
  replace hK := hK.below hb_
  replace hw := Below.after hw hb_
  clear hb_ z_
  try simp only [Act.put, List.setIfInBounds_toArray, List.set_cons_succ, List.set_cons_zero]
  generalize (w2.alloc (.cells Z 45)).setRow w2.heap.size V = w3 at *
  generalize w2.heap.size = g3 at *
  clear hZ zV
  go_upto_region 4 with (fail)
  repeat ((fail_if_success (refine wpList_load_want rfl 45 _ rfl g3 rfl 45 V (0, 0) _ R6 Tryd.underlying45 rfl iV ?_)); first | go_skip | go_step)
  refine wpList_load_want rfl 45 _ rfl g3 rfl 45 V (0, 0) _ R6 Tryd.underlying45 rfl iV ?_
  repeat ((fail_if_success (refine wpList_load_part rfl 23 _ rfl (w.heap.size) 32 rfl 25 (irow .u8 (pa ++ pb)) (0, 0) (irow .u8 pb) _ R0 xpb Tryd.underlying23 rfl (infoKy _ lpb) ?_)); first | go_skip | go_step)
  refine wpList_load_part rfl 23 _ rfl (w.heap.size) 32 rfl 25 (irow .u8 (pa ++ pb)) (0, 0) (irow .u8 pb) _ R0 xpb Tryd.underlying23 rfl (infoKy _ lpb) ?_
  repeat ((fail_if_success (refine wpList_load_part rfl 23 _ rfl (w.heap.size + 1 + 1) 0 rfl 27 R (0, 0) (irow .u8 i) _ R2 xi Tryd.underlying23 rfl (infoKy _ hi) ?_)); first | go_skip | go_step)
  refine wpList_load_part rfl 23 _ rfl (w.heap.size + 1 + 1) 0 rfl 27 R (0, 0) (irow .u8 i) _ R2 xi Tryd.underlying23 rfl (infoKy _ hi) ?_
  try simp only [Act.put, List.setIfInBounds_toArray, List.set_cons_succ, List.set_cons_zero]
  go_wp2_with (fail)
  refine (cS w3 hF hS hK).mono ?_
  rintro e_ w4 ⟨hR, hb⟩
  have ltS := lt_of_row R3
  replace R3 := keep hb R3
  have sz3 := hw.size
  replace hw := Below.after hw hb
  clear hb cS R6
  have zn := zr_len 32
  rcases hR with ⟨hne, rfl⟩ | ⟨he, v, rfl, hO⟩
  · have R8 := setRow_heap w4 (w.heap.size + 1 + 1 + 1) _ scz _ _ R3
    have hw8 := below_setRow hw (show w.heap.size ≤ w.heap.size + 1 + 1 + 1 by omega) scz
    generalize hE : fer er1 (mts (pa ++ pb) (fa ++ fb) i s o h) = E at *
    replace hE := hide hE
    replace hne := hide hne
    go_wp2_with (first | (refine wpList_store_row rfl 30 _ _ rfl (w.heap.size + 1 + 1 + 1) scz rfl rfl 30 _ R3 (info_scr _ _ _ _ zn zn zn) rfl (scr_one _ _ _ _ rfl) ?_) | fail)
    exact bodyPost_ret (Lo.results_row_slot Tryd.results4 _ _ (w.heap.size + 1 + 1 + 1) _ _ _ _ _ rfl R8 rfl Tryd.underlying30 rfl (info_scr _ _ _ _ zn zn zn)) rfl (.inr ⟨rfl, ⟨.inl ⟨by rw [hE.out]; exact hne.out, by rw [hE.out]; rfl⟩, hw8⟩⟩)
  · have hxl := scb_len ((mts (pa ++ pb) (fa ++ fb) i s o h).map sh1)
    have l0 : (pt (scb ((mts (pa ++ pb) (fa ++ fb) i s o h).map sh1)) 0 32).length = 32 := pt_len _ _ _ (by omega)
    have l32 : (pt (scb ((mts (pa ++ pb) (fa ++ fb) i s o h).map sh1)) 32 32).length = 32 := pt_len _ _ _ (by omega)
    have l64 : (pt (scb ((mts (pa ++ pb) (fa ++ fb) i s o h).map sh1)) 64 32).length = 32 := pt_len _ _ _ (by omega)
    generalize hP0 : pt (scb ((mts (pa ++ pb) (fa ++ fb) i s o h).map sh1)) 0 32 = P0 at *
    generalize hP1 : pt (scb ((mts (pa ++ pb) (fa ++ fb) i s o h).map sh1)) 32 32 = P1 at *
    generalize hP2 : pt (scb ((mts (pa ++ pb) (fa ++ fb) i s o h).map sh1)) 64 32 = P2 at *
    replace hP0 := hide hP0
    replace hP1 := hide hP1
    replace hP2 := hide hP2
    replace he := hide he
    clear hxl
    have hone := own_oneI hO
    have R8 := setRow_heap w4 (w.heap.size + 1 + 1 + 1) _ (scr P0 P1 P2 v) _ _ R3
    have hw8 := below_setRow hw (show w.heap.size ≤ w.heap.size + 1 + 1 + 1 by omega) (scr P0 P1 P2 v)
    have hO8 : OwnI (w4.setRow (w.heap.size + 1 + 1 + 1) (scr P0 P1 P2 v)) w.heap.size v (pb ++ i) := (hO.move (fun k o e hk => (setRow_other w4 (w.heap.size + 1 + 1 + 1) k _ (by have := hO.lt k e; omega)).trans hk)).down sz3
    clear hO
    go_wp2_with (first | (refine wpList_store_row rfl 30 _ _ rfl (w.heap.size + 1 + 1 + 1) (scr P0 P1 P2 v) rfl rfl 30 _ R3 (info_scr _ _ _ _ l0 l32 l64) (fit_scr _ _ _ _ zn zn zn _ _ _ _ l0 l32 l64) (scr_one _ _ _ _ hone) ?_) | fail)
    exact bodyPost_ret (Lo.results_row_slot Tryd.results4 _ _ (w.heap.size + 1 + 1 + 1) _ _ _ _ _ rfl R8 rfl Tryd.underlying30 rfl (info_scr _ _ _ _ l0 l32 l64)) rfl (.inr ⟨rfl, ⟨.inr ⟨he.out, v, by rw [hP0.out, hP1.out, hP2.out]; rfl, hO8⟩, hw8⟩⟩)
end Go.Proofs.YtkpjpdlamojejaaDoor
