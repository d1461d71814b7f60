import Derived.Test.YtgfhoabgbgddbaaDoorProg
import Derived.WalkKit
import Derived.WalkSpells
import Derived.WalkLawsBesides
import Derived.Lib.QuietBelow
import Derived.BigQuiet
import Derived.Test.YtgfhoabgbgddbaaDoorCdKa
import Derived.Test.YtgfhoabgbgddbaaDoorCdDwj
import Derived.Test.YtgfhoabgbgddbaaDoorCdCe
import Derived.Test.YtgfhoabgbgddbaaDoorCdDwh
import Derived.Test.YtgfhoabgbgddbaaDoorCdDwg
import Derived.Test.YtgfhoabgbgddbaaDoorCdDwi
namespace Go.Proofs.YtgfhoabgbgddbaaDoor
set_option maxRecDepth 100000
open Go.RowKit Go.Sort
attribute [local go_sem] setCell_drewN alloc_drewN
set_option maxRecDepth 100000 in
set_option maxHeartbeats 8000000 in
theorem a_scale {k u : Array Value} {K U : Int} (hk : KeyOf k K) (hu : KeyOf u U) : Gives4 62 #[.agg k, .agg u] (.agg (kb (scl K U))) := by
 have cC := a_clamp hk
 have hS : KeyOf (kb (clp K)) (clp K) := kb_key _ (clp_bd K).1 (Int.lt_trans (clp_bd K).2 (by decide))
 obtain ⟨xr, hx0, cF⟩ := a_from hu
 have hx : NumOf xr (num U) := hx0.congr (Int.emod_emod _ _).symm
 clear hx0
 obtain ⟨t, ht, cL⟩ := ladder_walk hx (clp K)
 have cB := a_bytes ht
 have eY : scn (clp K) (num U) % prm = scl K U := Int.emod_emod _ _
 rw [eY] at cB
 have hY : KeyOf (kb (scl K U)) (scl K U) := kb_key _ (scl_bd K U).1 (scl_bd K U).2
 clear eY
 have hz := key_zero
 have hmf : ∀ (fn : Fn) (first cap : Array Value) (w : World), (Instr.makeFunc fn first cap).run Tryd.prog w = .ok (.func fn first cap) w := fun _ _ _ _ => rfl
 generalize scl K U = Y at *
 generalize scn (clp K) (num U) = Y' at *
 generalize clp K = S at *
 generalize num U = X at *
 intro w hF
 go_enter Tryd.func62, Tryd.ntmps62
 go_wp2_with (first | (refine wpList_load_want rfl 23 _ rfl (w.heap.size) rfl 23 k (0, 0) _ (hp3_0 w _ _ _) Tryd.underlying23 rfl hk.info ?_) | (refine wpList_load_want rfl 23 _ rfl (w.heap.size + 1) rfl 23 u (0, 0) _ (hp3_1 w _ _ _) Tryd.underlying23 rfl hu.info ?_) | (refine wpList_load_want rfl 23 _ rfl (w.heap.size + 1 + 1) rfl 23 #[.int .u8 0, .int .u8 0, .int .u8 0, .int .u8 0, .int .u8 0, .int .u8 0, .int .u8 0, .int .u8 0, .int .u8 0, .int .u8 0, .int .u8 0, .int .u8 0, .int .u8 0, .int .u8 0, .int .u8 0, .int .u8 0, .int .u8 0, .int .u8 0, .int .u8 0, .int .u8 0, .int .u8 0, .int .u8 0, .int .u8 0, .int .u8 0, .int .u8 0, .int .u8 0, .int .u8 0, .int .u8 0, .int .u8 0, .int .u8 0, .int .u8 0, .int .u8 0] (0, 0) _ (hp3_2 w _ _ _) Tryd.underlying23 rfl hz.info ?_) | fail)
 have rp0 : (((w.alloc (.cells k 23)).alloc (.cells u 23)).alloc (.cells #[.int .u8 0, .int .u8 0, .int .u8 0, .int .u8 0, .int .u8 0, .int .u8 0, .int .u8 0, .int .u8 0, .int .u8 0, .int .u8 0, .int .u8 0, .int .u8 0, .int .u8 0, .int .u8 0, .int .u8 0, .int .u8 0, .int .u8 0, .int .u8 0, .int .u8 0, .int .u8 0, .int .u8 0, .int .u8 0, .int .u8 0, .int .u8 0, .int .u8 0, .int .u8 0, .int .u8 0, .int .u8 0, .int .u8 0, .int .u8 0, .int .u8 0, .int .u8 0] 23)).heap[w.heap.size]? = some (.cells k 23 (0, 0)) := hp3_0 w _ _ _
 have rp1 : (((w.alloc (.cells k 23)).alloc (.cells u 23)).alloc (.cells #[.int .u8 0, .int .u8 0, .int .u8 0, .int .u8 0, .int .u8 0, .int .u8 0, .int .u8 0, .int .u8 0, .int .u8 0, .int .u8 0, .int .u8 0, .int .u8 0, .int .u8 0, .int .u8 0, .int .u8 0, .int .u8 0, .int .u8 0, .int .u8 0, .int .u8 0, .int .u8 0, .int .u8 0, .int .u8 0, .int .u8 0, .int .u8 0, .int .u8 0, .int .u8 0, .int .u8 0, .int .u8 0, .int .u8 0, .int .u8 0, .int .u8 0, .int .u8 0] 23)).heap[w.heap.size + 1]? = some (.cells u 23 (0, 0)) := hp3_1 w _ _ _
 have rp2 : (((w.alloc (.cells k 23)).alloc (.cells u 23)).alloc (.cells #[.int .u8 0, .int .u8 0, .int .u8 0, .int .u8 0, .int .u8 0, .int .u8 0, .int .u8 0, .int .u8 0, .int .u8 0, .int .u8 0, .int .u8 0, .int .u8 0, .int .u8 0, .int .u8 0, .int .u8 0, .int .u8 0, .int .u8 0, .int .u8 0, .int .u8 0, .int .u8 0, .int .u8 0, .int .u8 0, .int .u8 0, .int .u8 0, .int .u8 0, .int .u8 0, .int .u8 0, .int .u8 0, .int .u8 0, .int .u8 0, .int .u8 0, .int .u8 0] 23)).heap[w.heap.size + 1 + 1]? = some (.cells #[.int .u8 0, .int .u8 0, .int .u8 0, .int .u8 0, .int .u8 0, .int .u8 0, .int .u8 0, .int .u8 0, .int .u8 0, .int .u8 0, .int .u8 0, .int .u8 0, .int .u8 0, .int .u8 0, .int .u8 0, .int .u8 0, .int .u8 0, .int .u8 0, .int .u8 0, .int .u8 0, .int .u8 0, .int .u8 0, .int .u8 0, .int .u8 0, .int .u8 0, .int .u8 0, .int .u8 0, .int .u8 0, .int .u8 0, .int .u8 0, .int .u8 0, .int .u8 0] 23 (0, 0)) := hp3_2 w _ _ _
 have hw : Below w.heap.size w (((w.alloc (.cells k 23)).alloc (.cells u 23)).alloc (.cells #[.int .u8 0, .int .u8 0, .int .u8 0, .int .u8 0, .int .u8 0, .int .u8 0, .int .u8 0, .int .u8 0, .int .u8 0, .int .u8 0, .int .u8 0, .int .u8 0, .int .u8 0, .int .u8 0, .int .u8 0, .int .u8 0, .int .u8 0, .int .u8 0, .int .u8 0, .int .u8 0, .int .u8 0, .int .u8 0, .int .u8 0, .int .u8 0, .int .u8 0, .int .u8 0, .int .u8 0, .int .u8 0, .int .u8 0, .int .u8 0, .int .u8 0, .int .u8 0] 23)) := ((((Below.refl _ _).alloc (Nat.le_refl _) _).alloc (by simp) _).alloc (by simp; omega) _)
 have hz0 := hF.1
 have f4 : Four (((w.alloc (.cells k 23)).alloc (.cells u 23)).alloc (.cells #[.int .u8 0, .int .u8 0, .int .u8 0, .int .u8 0, .int .u8 0, .int .u8 0, .int .u8 0, .int .u8 0, .int .u8 0, .int .u8 0, .int .u8 0, .int .u8 0, .int .u8 0, .int .u8 0, .int .u8 0, .int .u8 0, .int .u8 0, .int .u8 0, .int .u8 0, .int .u8 0, .int .u8 0, .int .u8 0, .int .u8 0, .int .u8 0, .int .u8 0, .int .u8 0, .int .u8 0, .int .u8 0, .int .u8 0, .int .u8 0, .int .u8 0, .int .u8 0] 23)) := (((hF.alloc _).alloc _).alloc _)
 generalize (((w.alloc (.cells k 23)).alloc (.cells u 23)).alloc (.cells #[.int .u8 0, .int .u8 0, .int .u8 0, .int .u8 0, .int .u8 0, .int .u8 0, .int .u8 0, .int .u8 0, .int .u8 0, .int .u8 0, .int .u8 0, .int .u8 0, .int .u8 0, .int .u8 0, .int .u8 0, .int .u8 0, .int .u8 0, .int .u8 0, .int .u8 0, .int .u8 0, .int .u8 0, .int .u8 0, .int .u8 0, .int .u8 0, .int .u8 0, .int .u8 0, .int .u8 0, .int .u8 0, .int .u8 0, .int .u8 0, .int .u8 0, .int .u8 0] 23)) = w0 at *
 refine (cC.at _).mono ?_
 rintro e w2 ⟨rfl, hb⟩
 replace rp0 := keep hb rp0
 replace rp1 := keep hb rp1
 replace rp2 := keep hb rp2
 replace hw := Below.after hw hb
 replace f4 := f4.below hb
 clear hb
 go_wp2_with (first | (refine wpList_store_row rfl 23 _ _ rfl (w2.heap.size) (kb S) rfl rfl 23 #[.int .u8 0, .int .u8 0, .int .u8 0, .int .u8 0, .int .u8 0, .int .u8 0, .int .u8 0, .int .u8 0, .int .u8 0, .int .u8 0, .int .u8 0, .int .u8 0, .int .u8 0, .int .u8 0, .int .u8 0, .int .u8 0, .int .u8 0, .int .u8 0, .int .u8 0, .int .u8 0, .int .u8 0, .int .u8 0, .int .u8 0, .int .u8 0, .int .u8 0, .int .u8 0, .int .u8 0, .int .u8 0, .int .u8 0, .int .u8 0, .int .u8 0, .int .u8 0] (hp1_0 w2 _) hS.info (hz.size.trans hS.size.symm) hS.one ?_; rw [setRow_alloc_new _ _ _ _ _ _ (by simp)]) | (refine wpList_load_want rfl 23 _ rfl (w2.heap.size) rfl 23 (kb S) (0, 0) _ (hp1_0 w2 _) Tryd.underlying23 rfl hS.info ?_) | (refine wpList_load_want rfl 23 _ rfl (w.heap.size) rfl 23 k (0, 0) _ (keep ((Below.refl _ _).alloc (Nat.le_refl _) _) rp0) Tryd.underlying23 rfl hk.info ?_) | (refine wpList_load_want rfl 23 _ rfl (w.heap.size + 1) rfl 23 u (0, 0) _ (keep ((Below.refl _ _).alloc (Nat.le_refl _) _) rp1) Tryd.underlying23 rfl hu.info ?_) | (refine wpList_load_want rfl 23 _ rfl (w.heap.size + 1 + 1) rfl 23 #[.int .u8 0, .int .u8 0, .int .u8 0, .int .u8 0, .int .u8 0, .int .u8 0, .int .u8 0, .int .u8 0, .int .u8 0, .int .u8 0, .int .u8 0, .int .u8 0, .int .u8 0, .int .u8 0, .int .u8 0, .int .u8 0, .int .u8 0, .int .u8 0, .int .u8 0, .int .u8 0, .int .u8 0, .int .u8 0, .int .u8 0, .int .u8 0, .int .u8 0, .int .u8 0, .int .u8 0, .int .u8 0, .int .u8 0, .int .u8 0, .int .u8 0, .int .u8 0] (0, 0) _ (keep ((Below.refl _ _).alloc (Nat.le_refl _) _) rp2) Tryd.underlying23 rfl hz.info ?_) | fail)
 have rl5 : (w2.alloc (.cells (kb S) 23)).heap[w2.heap.size]? = some (.cells (kb S) 23 (0, 0)) := hp1_0 w2 _
 have hb : Below w2.heap.size w2 (w2.alloc (.cells (kb S) 23)) := ((Below.refl _ _).alloc (Nat.le_refl _) _)
 generalize (w2.alloc (.cells (kb S) 23)) = wa at *
 have ygs_0 := lt_of_row rp0
 have ygs_1 := lt_of_row rp1
 have ygs_2 := lt_of_row rp2
 have ygs := hw.size
 have zgs := f4.1
 replace rp0 := keep hb rp0
 replace rp1 := keep hb rp1
 replace rp2 := keep hb rp2
 replace hw := Below.after hw hb
 replace f4 := f4.below hb
 clear hb
 generalize w2.heap.size = gs at *
 clear w2
 refine (cF.at _).mono ?_
 rintro e w4 ⟨rfl, hb⟩
 replace rp0 := keep hb rp0
 replace rp1 := keep hb rp1
 replace rp2 := keep hb rp2
 replace rl5 := keep hb rl5
 replace hw := Below.after hw hb
 replace f4 := f4.below hb
 clear hb
 go_wp2_with (first | fail)
 refine (cL _ gs f4 rl5).mono ?_
 rintro e wl ⟨rfl, hb⟩
 replace rp0 := keep hb rp0
 replace rp1 := keep hb rp1
 replace rp2 := keep hb rp2
 replace rl5 := keep hb rl5
 replace hw := Below.after hw hb
 replace f4 := f4.below hb
 clear hb
 go_wp2_with (first | (refine wpList_load_want rfl 23 _ rfl (w.heap.size) rfl 23 k (0, 0) _ rp0 Tryd.underlying23 rfl hk.info ?_) | (refine wpList_load_want rfl 23 _ rfl (w.heap.size + 1) rfl 23 u (0, 0) _ rp1 Tryd.underlying23 rfl hu.info ?_) | (refine wpList_load_want rfl 23 _ rfl (w.heap.size + 1 + 1) rfl 23 #[.int .u8 0, .int .u8 0, .int .u8 0, .int .u8 0, .int .u8 0, .int .u8 0, .int .u8 0, .int .u8 0, .int .u8 0, .int .u8 0, .int .u8 0, .int .u8 0, .int .u8 0, .int .u8 0, .int .u8 0, .int .u8 0, .int .u8 0, .int .u8 0, .int .u8 0, .int .u8 0, .int .u8 0, .int .u8 0, .int .u8 0, .int .u8 0, .int .u8 0, .int .u8 0, .int .u8 0, .int .u8 0, .int .u8 0, .int .u8 0, .int .u8 0, .int .u8 0] (0, 0) _ rp2 Tryd.underlying23 rfl hz.info ?_) | (refine wpList_load_want rfl 23 _ rfl (gs) rfl 23 (kb S) (0, 0) _ rl5 Tryd.underlying23 rfl hS.info ?_) | fail)
 refine (cB.at _).mono ?_
 rintro e w6 ⟨rfl, hb⟩
 replace rp0 := keep hb rp0
 replace rp1 := keep hb rp1
 replace rp2 := keep hb rp2
 replace rl5 := keep hb rl5
 replace hw := Below.after hw hb
 replace f4 := f4.below hb
 clear hb
 go_wp2_with (first | (refine wpList_store_row rfl 23 _ _ rfl (w.heap.size + 1 + 1) (kb Y) rfl rfl 23 _ rp2 hY.info (hz.size.trans hY.size.symm) hY.one ?_) | fail)
 exact bodyPost_ret (v := .agg (kb Y)) (results_cell_row Tryd.results62 _ _ (w.heap.size + 1 + 1) _ (kb Y) _ _ rfl (setRow_heap _ _ _ _ _ _ rp2) Tryd.underlying23 rfl hY.info) rfl ⟨rfl, below_setRow hw (by omega) _⟩
end Go.Proofs.YtgfhoabgbgddbaaDoor
namespace Go.Proofs.YtgfhoabgbgddbaaDoor
set_option maxRecDepth 100000
open Go Go.RowKit Go.Sort
def b32 (N : Int) : List Int := [byt N 0, byt N 1, byt N 2, byt N 3, byt N 4, byt N 5, byt N 6, byt N 7, byt N 8, byt N 9, byt N 10, byt N 11, byt N 12, byt N 13, byt N 14, byt N 15, byt N 16, byt N 17, byt N 18, byt N 19, byt N 20, byt N 21, byt N 22, byt N 23, byt N 24, byt N 25, byt N 26, byt N 27, byt N 28, byt N 29, byt N 30, byt N 31]
theorem kb_b32 (N : Int) : kb N = ((b32 N).map (Value.int .u8)).toArray := rfl
theorem b32_bd (N : Int) : ∀ z ∈ b32 N, 0 ≤ z ∧ z < 256 := by
 intro z hz
 simp only [b32, List.mem_cons, List.not_mem_nil, or_false] at hz
 rcases hz with rfl | rfl | rfl | rfl | rfl | rfl | rfl | rfl | rfl | rfl | rfl | rfl | rfl | rfl | rfl | rfl | rfl | rfl | rfl | rfl | rfl | rfl | rfl | rfl | rfl | rfl | rfl | rfl | rfl | rfl | rfl | rfl <;> exact byt_bd N _
theorem bval_valB : ∀ l : List Int, (∀ z ∈ l, 0 ≤ z ∧ z < 256) → (bval l : Int) = valB l
 | [], _ => rfl
 | z :: l, h => by
  have ih := bval_valB l (fun y hy => h y (List.mem_cons_of_mem _ hy))
  have hz := h z (by simp)
  simp only [bval, valB]
  omega
theorem bval_b32 (N : Int) (h0 : 0 ≤ N) (h1 : N < 115792089237316195423570985008687907853269984665640564039457584007913129639936) : bval (b32 N) = N.toNat := by
 have e := bval_valB (b32 N) (b32_bd N)
 have v : valB (b32 N) = N := valB_byt N h0 h1
 rw [v] at e
 omega
theorem bys_row {w : World} {g : Nat} {N : Int} {t : TypeId} (r : w.heap[g]? = some (.cells (kb N) t (0, 0))) (_h : KeyOf (kb N) N) : Bys w (.slice (some ⟨g, 0, none⟩) 32 32) (b32 N) := by
 refine ⟨some ⟨g, 0, none⟩, 32, rfl, (by show 32 ≤ _; decide), fun j hj => ⟨g, 0, rfl, lt_of_row r, ?_⟩, b32_bd N⟩
 rw [Nat.zero_add, cell_of_row w g j _ _ _ r, kb_b32]
 rw [List.getElem?_toArray, List.getElem?_map, List.getElem?_eq_getElem hj, List.getD_eq_getElem?_getD, List.getElem?_eq_getElem hj]
 rfl
theorem keepc {w : World} {g o : Nat} {v : Value} (h : w.cell? ⟨g, o, none⟩ = some v) : Hid (∀ W, (∃ p : Regrown, W = grow (redrawn w p.d) p.os) → W.cell? ⟨g, o, none⟩ = some v) := by
 rintro W ⟨p, rfl⟩
 have hb := below_regrown w p.d p.os
 have hg : g < w.heap.size := by
  rcases Nat.lt_or_ge g w.heap.size with q | q
  ·exact q
  ·simp [World.cell?, Array.getElem?_eq_none q] at h
 exact (hb.cell (p := ⟨g, o, none⟩) hg).trans h
theorem wpQuiet_load_cell31 {P : Program} {C : World → Prop} {ops : Array Oper} {Q : Act → Prop} {a : Act} {o : Oper} {rest : List Oper} (hw : Region.wanted o (yielded ops a.tmps) = true) (ty : TypeId) (x : Operand) (ho : o.op = .load ty x)
 (g off : Nat) (hx : a.eval x = .pointer (some ⟨g, off, none⟩)) (v : Value) (hc : ∀ w, C w → w.cell? ⟨g, off, none⟩ = some v) {k : IntKind} (hu : P.underlying ty = some (.int k))
 (h : wpQuiet P ops C Q rest (a.put o.dst v)) : wpQuiet P ops C Q (o :: rest) a := by
 refine BigFrame.wpQuiet_want hw fun K hK => ⟨v, fun w hw => ?_, hK _ h⟩
 unfold Oper.quietAt execOp
 simp only [ho, hx, Instr.loadAt, Instr.sureAddr, Sem.run_bind, Sem.run_pure, Result.andThen_ok, run_loadVar_int w g off ty v (hc w hw) hu]
 exact ⟨by simp, rfl⟩
end Go.Proofs.YtgfhoabgbgddbaaDoor
namespace Go.Proofs.YtgfhoabgbgddbaaDoor
set_option maxRecDepth 100000
open Go.RowKit Go.Sort
attribute [local go_sem] setCell_drewN alloc_drewN
set_option maxRecDepth 100000 in
set_option maxHeartbeats 8000000 in
theorem dresses_aux {t ts ur kk uu : Array Value} {N K E U X C V S : Int} {P Q : E1} {odd zero on : Bool} (hk : KeyOf kk K) (hu_ : KeyOf uu N) (ht : PtO t P) (_hts : PtO ts Q) (_hu : NumOf ur U) (hX : KeyOf (kb X) X) (hC : KeyOf (kb C) C) (hV : KeyOf (kb V) V) (hS : KeyOf (kb S) S)
 (cL : Gives5 14 #[.agg uu, .bool odd] (.tuple #[.agg t, .int .i64 E])) (cF : Gives 46 #[.agg uu] (.agg ur)) (cZ : Gives 56 #[.agg ur] (.bool zero)) (cO : Gives5 59 #[.agg uu] (.bool on)) (cC : Gives 60 #[.agg kk] (.agg (kb C)))
 (cY : Gives 16 #[.agg t] (.agg (kb V))) (cB : Gives 55 #[.agg ur] (.agg (kb X))) (cW : Gives4 62 #[.agg kk, .agg uu] (.agg (kb S)))
 (hgo : on = true → zero = false → Gives4 61 #[.agg t] (.agg (kb X)) ∧ Gives4 61 #[.agg ts] (.agg (kb S)) ∧ ∀ (w : World) (ev : Value), Four w → Bys w ev (b32 C) → Calls Tryd.prog 21 #[.agg t, ev] w fun e w' => e = .returned (.agg ts) ∧ Below w.heap.size w w')
 (hcase : (zero = true ∧ odd = true ∧ E = 190) ∨ (zero = true ∧ odd = false ∧ E = 0) ∨ (zero = false ∧ on = false ∧ E = 190 ∧ Gives 43 #[.agg t] (.bool true)) ∨ (zero = false ∧ on = true ∧ E = 0 ∧ odd = true ∧ decide (128 ≤ byt V 31) = true) ∨ (zero = false ∧ on = true ∧ E = 0 ∧ odd = false ∧ decide (128 ≤ byt V 31) = false))
 (w : World) (hF : Edw w) : Calls Tryd.prog 10 #[.agg kk, .agg uu, .bool odd] w fun e w' => e = .returned (.bool true) ∧ Below w.heap.size w w' := by
 have c1 := a_lives2
 have heqX : ∀ W, (Op.equalIn 10000 23 (.agg (kb X)) (.agg (kb X))).run Tryd.prog W = .ok true W := fun W => by rw [kb_equal _ _ hX.bd.1 hX.bd.2 hX.bd.1 hX.bd.2]; simp
 have heqS : ∀ W, (Op.equalIn 10000 23 (.agg (kb S)) (.agg (kb S))).run Tryd.prog W = .ok true W := fun W => by rw [kb_equal _ _ hS.bd.1 hS.bd.2 hS.bd.1 hS.bd.2]; simp
 rcases hcase with ⟨rfl, rfl, rfl⟩ | ⟨rfl, rfl, rfl⟩ | ⟨rfl, rfl, rfl, cN⟩ | ⟨rfl, rfl, rfl, rfl, hge⟩ | ⟨rfl, rfl, rfl, rfl, hge⟩
 ·clear hgo
  have rp0 : ((w.alloc (.cells kk 23)).alloc (.cells uu 23)).heap[w.heap.size]? = some (.cells kk 23 (0, 0)) := hp2_0 w _ _
  have rp1 : ((w.alloc (.cells kk 23)).alloc (.cells uu 23)).heap[w.heap.size + 1]? = some (.cells uu 23 (0, 0)) := hp2_1 w _ _
  have hw : Below w.heap.size w ((w.alloc (.cells kk 23)).alloc (.cells uu 23)) := (((Below.refl _ _).alloc (Nat.le_refl _) _).alloc (by simp) _)
  have hz0 := hF.sz
  have f4 : Edw ((w.alloc (.cells kk 23)).alloc (.cells uu 23)) := ((hF.alloc _).alloc _)
  go_enter Tryd.func10, Tryd.ntmps10
  iterate 12 go_step
  generalize ((w.alloc (.cells kk 23)).alloc (.cells uu 23)) = w0 at *
  go_wp2_with (first | (refine wpList_load_want rfl 23 _ rfl (w.heap.size) rfl 23 kk (0, 0) _ rp0 Tryd.underlying23 rfl hk.info ?_) | (refine wpList_load_want rfl 23 _ rfl (w.heap.size + 1) rfl 23 uu (0, 0) _ rp1 Tryd.underlying23 rfl hu_.info ?_) | fail)
  refine (c1.at f4).mono ?_
  rintro e w2 ⟨rfl, hb⟩
  replace rp0 := keep hb rp0
  replace rp1 := keep hb rp1
  replace hw := Below.after hw hb
  replace f4 := f4.below hb
  clear hb
  go_wp2_with (first | (refine wpList_load_want rfl 23 _ rfl (w.heap.size) rfl 23 kk (0, 0) _ rp0 Tryd.underlying23 rfl hk.info ?_) | (refine wpList_load_want rfl 23 _ rfl (w.heap.size + 1) rfl 23 uu (0, 0) _ rp1 Tryd.underlying23 rfl hu_.info ?_) | fail)
  refine (cL.at f4.1).mono ?_
  rintro e w4 ⟨rfl, hb⟩
  replace rp0 := keep hb rp0
  replace rp1 := keep hb rp1
  replace hw := Below.after hw hb
  replace f4 := f4.below hb
  clear hb
  go_wp2_with (first | (refine wpList_store_row rfl 29 _ _ rfl (w4.heap.size) t rfl rfl 29 #[.int .u64 0, .int .u64 0, .int .u64 0, .int .u64 0, .int .u64 0, .int .u64 0, .int .u64 0, .int .u64 0, .int .u64 0, .int .u64 0, .int .u64 0, .int .u64 0, .int .u64 0, .int .u64 0, .int .u64 0, .int .u64 0, .int .u64 0, .int .u64 0, .int .u64 0, .int .u64 0] (hp1_0 w4 _) ht.info (ht.size).symm ht.one ?_; rw [setRow_alloc_new _ _ _ _ _ _ (by simp)]; refine wpList_stay ?_) | fail)
  unfold WpStay
  try simp only [Act.put]
  have rl7 : (w4.alloc (.cells t 29)).heap[w4.heap.size]? = some (.cells t 29 (0, 0)) := hp1_0 w4 _
  have hb : Below w4.heap.size w4 (w4.alloc (.cells t 29)) := ((Below.refl _ _).alloc (Nat.le_refl _) _)
  generalize (w4.alloc (.cells t 29)) = wp at *
  have ygp_0 := lt_of_row rp0
  have ygp_1 := lt_of_row rp1
  have ygp := hw.size
  have zgp := f4.sz
  replace rp0 := keep hb rp0
  replace rp1 := keep hb rp1
  replace hw := Below.after hw hb
  replace f4 := f4.below hb
  clear hb
  generalize w4.heap.size = gp at *
  clear w4
  go_wp2_with (first | (refine wpList_load_want rfl 23 _ rfl (w.heap.size) rfl 23 kk (0, 0) _ rp0 Tryd.underlying23 rfl hk.info ?_) | (refine wpList_load_want rfl 23 _ rfl (w.heap.size + 1) rfl 23 uu (0, 0) _ rp1 Tryd.underlying23 rfl hu_.info ?_) | (refine wpList_load_want rfl 29 _ rfl (gp) rfl 29 t (0, 0) _ rl7 Tryd.underlying29 rfl ht.info ?_) | fail)
  refine (cF.at _).mono ?_
  rintro e w6 ⟨rfl, hb⟩
  replace rp0 := keep hb rp0
  replace rp1 := keep hb rp1
  replace rl7 := keep hb rl7
  replace hw := Below.after hw hb
  replace f4 := f4.below hb
  clear hb
  go_wp2_with (first | (refine wpList_load_want rfl 23 _ rfl (w.heap.size) rfl 23 kk (0, 0) _ rp0 Tryd.underlying23 rfl hk.info ?_) | (refine wpList_load_want rfl 23 _ rfl (w.heap.size + 1) rfl 23 uu (0, 0) _ rp1 Tryd.underlying23 rfl hu_.info ?_) | (refine wpList_load_want rfl 29 _ rfl (gp) rfl 29 t (0, 0) _ rl7 Tryd.underlying29 rfl ht.info ?_) | fail)
  refine (cZ.at _).mono ?_
  rintro e w8 ⟨rfl, hb⟩
  replace rp0 := keep hb rp0
  replace rp1 := keep hb rp1
  replace rl7 := keep hb rl7
  replace hw := Below.after hw hb
  replace f4 := f4.below hb
  clear hb
  go_wp2_with (fail)
  go_ret
  exact ⟨rfl, hw⟩
 ·clear hgo
  have rp0 : ((w.alloc (.cells kk 23)).alloc (.cells uu 23)).heap[w.heap.size]? = some (.cells kk 23 (0, 0)) := hp2_0 w _ _
  have rp1 : ((w.alloc (.cells kk 23)).alloc (.cells uu 23)).heap[w.heap.size + 1]? = some (.cells uu 23 (0, 0)) := hp2_1 w _ _
  have hw : Below w.heap.size w ((w.alloc (.cells kk 23)).alloc (.cells uu 23)) := (((Below.refl _ _).alloc (Nat.le_refl _) _).alloc (by simp) _)
  have hz0 := hF.sz
  have f4 : Edw ((w.alloc (.cells kk 23)).alloc (.cells uu 23)) := ((hF.alloc _).alloc _)
  go_enter Tryd.func10, Tryd.ntmps10
  iterate 12 go_step
  generalize ((w.alloc (.cells kk 23)).alloc (.cells uu 23)) = w0 at *
  go_wp2_with (first | (refine wpList_load_want rfl 23 _ rfl (w.heap.size) rfl 23 kk (0, 0) _ rp0 Tryd.underlying23 rfl hk.info ?_) | (refine wpList_load_want rfl 23 _ rfl (w.heap.size + 1) rfl 23 uu (0, 0) _ rp1 Tryd.underlying23 rfl hu_.info ?_) | fail)
  refine (c1.at f4).mono ?_
  rintro e w2 ⟨rfl, hb⟩
  replace rp0 := keep hb rp0
  replace rp1 := keep hb rp1
  replace hw := Below.after hw hb
  replace f4 := f4.below hb
  clear hb
  go_wp2_with (first | (refine wpList_load_want rfl 23 _ rfl (w.heap.size) rfl 23 kk (0, 0) _ rp0 Tryd.underlying23 rfl hk.info ?_) | (refine wpList_load_want rfl 23 _ rfl (w.heap.size + 1) rfl 23 uu (0, 0) _ rp1 Tryd.underlying23 rfl hu_.info ?_) | fail)
  refine (cL.at f4.1).mono ?_
  rintro e w4 ⟨rfl, hb⟩
  replace rp0 := keep hb rp0
  replace rp1 := keep hb rp1
  replace hw := Below.after hw hb
  replace f4 := f4.below hb
  clear hb
  go_wp2_with (first | (refine wpList_store_row rfl 29 _ _ rfl (w4.heap.size) t rfl rfl 29 #[.int .u64 0, .int .u64 0, .int .u64 0, .int .u64 0, .int .u64 0, .int .u64 0, .int .u64 0, .int .u64 0, .int .u64 0, .int .u64 0, .int .u64 0, .int .u64 0, .int .u64 0, .int .u64 0, .int .u64 0, .int .u64 0, .int .u64 0, .int .u64 0, .int .u64 0, .int .u64 0] (hp1_0 w4 _) ht.info (ht.size).symm ht.one ?_; rw [setRow_alloc_new _ _ _ _ _ _ (by simp)]; refine wpList_stay ?_) | fail)
  unfold WpStay
  try simp only [Act.put]
  have rl7 : (w4.alloc (.cells t 29)).heap[w4.heap.size]? = some (.cells t 29 (0, 0)) := hp1_0 w4 _
  have hb : Below w4.heap.size w4 (w4.alloc (.cells t 29)) := ((Below.refl _ _).alloc (Nat.le_refl _) _)
  generalize (w4.alloc (.cells t 29)) = wp at *
  have ygp_0 := lt_of_row rp0
  have ygp_1 := lt_of_row rp1
  have ygp := hw.size
  have zgp := f4.sz
  replace rp0 := keep hb rp0
  replace rp1 := keep hb rp1
  replace hw := Below.after hw hb
  replace f4 := f4.below hb
  clear hb
  generalize w4.heap.size = gp at *
  clear w4
  go_wp2_with (first | (refine wpList_load_want rfl 23 _ rfl (w.heap.size) rfl 23 kk (0, 0) _ rp0 Tryd.underlying23 rfl hk.info ?_) | (refine wpList_load_want rfl 23 _ rfl (w.heap.size + 1) rfl 23 uu (0, 0) _ rp1 Tryd.underlying23 rfl hu_.info ?_) | (refine wpList_load_want rfl 29 _ rfl (gp) rfl 29 t (0, 0) _ rl7 Tryd.underlying29 rfl ht.info ?_) | fail)
  refine (cF.at _).mono ?_
  rintro e w6 ⟨rfl, hb⟩
  replace rp0 := keep hb rp0
  replace rp1 := keep hb rp1
  replace rl7 := keep hb rl7
  replace hw := Below.after hw hb
  replace f4 := f4.below hb
  clear hb
  go_wp2_with (first | (refine wpList_load_want rfl 23 _ rfl (w.heap.size) rfl 23 kk (0, 0) _ rp0 Tryd.underlying23 rfl hk.info ?_) | (refine wpList_load_want rfl 23 _ rfl (w.heap.size + 1) rfl 23 uu (0, 0) _ rp1 Tryd.underlying23 rfl hu_.info ?_) | (refine wpList_load_want rfl 29 _ rfl (gp) rfl 29 t (0, 0) _ rl7 Tryd.underlying29 rfl ht.info ?_) | fail)
  refine (cZ.at _).mono ?_
  rintro e w8 ⟨rfl, hb⟩
  replace rp0 := keep hb rp0
  replace rp1 := keep hb rp1
  replace rl7 := keep hb rl7
  replace hw := Below.after hw hb
  replace f4 := f4.below hb
  clear hb
  go_wp2_with (fail)
  go_ret
  exact ⟨rfl, hw⟩
 ·clear hgo
  have rp0 : ((w.alloc (.cells kk 23)).alloc (.cells uu 23)).heap[w.heap.size]? = some (.cells kk 23 (0, 0)) := hp2_0 w _ _
  have rp1 : ((w.alloc (.cells kk 23)).alloc (.cells uu 23)).heap[w.heap.size + 1]? = some (.cells uu 23 (0, 0)) := hp2_1 w _ _
  have hw : Below w.heap.size w ((w.alloc (.cells kk 23)).alloc (.cells uu 23)) := (((Below.refl _ _).alloc (Nat.le_refl _) _).alloc (by simp) _)
  have hz0 := hF.sz
  have f4 : Edw ((w.alloc (.cells kk 23)).alloc (.cells uu 23)) := ((hF.alloc _).alloc _)
  go_enter Tryd.func10, Tryd.ntmps10
  iterate 12 go_step
  generalize ((w.alloc (.cells kk 23)).alloc (.cells uu 23)) = w0 at *
  go_wp2_with (first | (refine wpList_load_want rfl 23 _ rfl (w.heap.size) rfl 23 kk (0, 0) _ rp0 Tryd.underlying23 rfl hk.info ?_) | (refine wpList_load_want rfl 23 _ rfl (w.heap.size + 1) rfl 23 uu (0, 0) _ rp1 Tryd.underlying23 rfl hu_.info ?_) | fail)
  refine (c1.at f4).mono ?_
  rintro e w2 ⟨rfl, hb⟩
  replace rp0 := keep hb rp0
  replace rp1 := keep hb rp1
  replace hw := Below.after hw hb
  replace f4 := f4.below hb
  clear hb
  go_wp2_with (first | (refine wpList_load_want rfl 23 _ rfl (w.heap.size) rfl 23 kk (0, 0) _ rp0 Tryd.underlying23 rfl hk.info ?_) | (refine wpList_load_want rfl 23 _ rfl (w.heap.size + 1) rfl 23 uu (0, 0) _ rp1 Tryd.underlying23 rfl hu_.info ?_) | fail)
  refine (cL.at f4.1).mono ?_
  rintro e w4 ⟨rfl, hb⟩
  replace rp0 := keep hb rp0
  replace rp1 := keep hb rp1
  replace hw := Below.after hw hb
  replace f4 := f4.below hb
  clear hb
  go_wp2_with (first | (refine wpList_store_row rfl 29 _ _ rfl (w4.heap.size) t rfl rfl 29 #[.int .u64 0, .int .u64 0, .int .u64 0, .int .u64 0, .int .u64 0, .int .u64 0, .int .u64 0, .int .u64 0, .int .u64 0, .int .u64 0, .int .u64 0, .int .u64 0, .int .u64 0, .int .u64 0, .int .u64 0, .int .u64 0, .int .u64 0, .int .u64 0, .int .u64 0, .int .u64 0] (hp1_0 w4 _) ht.info (ht.size).symm ht.one ?_; rw [setRow_alloc_new _ _ _ _ _ _ (by simp)]; refine wpList_stay ?_) | fail)
  unfold WpStay
  try simp only [Act.put]
  have rl7 : (w4.alloc (.cells t 29)).heap[w4.heap.size]? = some (.cells t 29 (0, 0)) := hp1_0 w4 _
  have hb : Below w4.heap.size w4 (w4.alloc (.cells t 29)) := ((Below.refl _ _).alloc (Nat.le_refl _) _)
  generalize (w4.alloc (.cells t 29)) = wp at *
  have ygp_0 := lt_of_row rp0
  have ygp_1 := lt_of_row rp1
  have ygp := hw.size
  have zgp := f4.sz
  replace rp0 := keep hb rp0
  replace rp1 := keep hb rp1
  replace hw := Below.after hw hb
  replace f4 := f4.below hb
  clear hb
  generalize w4.heap.size = gp at *
  clear w4
  go_wp2_with (first | (refine wpList_load_want rfl 23 _ rfl (w.heap.size) rfl 23 kk (0, 0) _ rp0 Tryd.underlying23 rfl hk.info ?_) | (refine wpList_load_want rfl 23 _ rfl (w.heap.size + 1) rfl 23 uu (0, 0) _ rp1 Tryd.underlying23 rfl hu_.info ?_) | (refine wpList_load_want rfl 29 _ rfl (gp) rfl 29 t (0, 0) _ rl7 Tryd.underlying29 rfl ht.info ?_) | fail)
  refine (cF.at _).mono ?_
  rintro e w6 ⟨rfl, hb⟩
  replace rp0 := keep hb rp0
  replace rp1 := keep hb rp1
  replace rl7 := keep hb rl7
  replace hw := Below.after hw hb
  replace f4 := f4.below hb
  clear hb
  go_wp2_with (first | (refine wpList_load_want rfl 23 _ rfl (w.heap.size) rfl 23 kk (0, 0) _ rp0 Tryd.underlying23 rfl hk.info ?_) | (refine wpList_load_want rfl 23 _ rfl (w.heap.size + 1) rfl 23 uu (0, 0) _ rp1 Tryd.underlying23 rfl hu_.info ?_) | (refine wpList_load_want rfl 29 _ rfl (gp) rfl 29 t (0, 0) _ rl7 Tryd.underlying29 rfl ht.info ?_) | fail)
  refine (cZ.at _).mono ?_
  rintro e w8 ⟨rfl, hb⟩
  replace rp0 := keep hb rp0
  replace rp1 := keep hb rp1
  replace rl7 := keep hb rl7
  replace hw := Below.after hw hb
  replace f4 := f4.below hb
  clear hb
  go_wp2_with (first | (refine wpList_load_want rfl 23 _ rfl (w.heap.size) rfl 23 kk (0, 0) _ rp0 Tryd.underlying23 rfl hk.info ?_) | (refine wpList_load_want rfl 23 _ rfl (w.heap.size + 1) rfl 23 uu (0, 0) _ rp1 Tryd.underlying23 rfl hu_.info ?_) | (refine wpList_load_want rfl 29 _ rfl (gp) rfl 29 t (0, 0) _ rl7 Tryd.underlying29 rfl ht.info ?_) | fail)
  refine (cO.at f4.1).mono ?_
  rintro e wo ⟨rfl, hb⟩
  replace rp0 := keep hb rp0
  replace rp1 := keep hb rp1
  replace rl7 := keep hb rl7
  replace hw := Below.after hw hb
  replace f4 := f4.below hb
  clear hb
  go_wp2_with (first | (refine wpList_load_want rfl 23 _ rfl (w.heap.size) rfl 23 kk (0, 0) _ rp0 Tryd.underlying23 rfl hk.info ?_) | (refine wpList_load_want rfl 23 _ rfl (w.heap.size + 1) rfl 23 uu (0, 0) _ rp1 Tryd.underlying23 rfl hu_.info ?_) | (refine wpList_load_want rfl 29 _ rfl (gp) rfl 29 t (0, 0) _ rl7 Tryd.underlying29 rfl ht.info ?_) | fail)
  refine (cN.at _).mono ?_
  rintro e wn ⟨rfl, hb⟩
  replace rp0 := keep hb rp0
  replace rp1 := keep hb rp1
  replace rl7 := keep hb rl7
  replace hw := Below.after hw hb
  replace f4 := f4.below hb
  clear hb
  go_wp2_with (fail)
  go_ret
  exact ⟨rfl, hw⟩
 ·obtain ⟨cU, cU2, cS⟩ := hgo rfl rfl
  clear hgo
  have rp0 : ((w.alloc (.cells kk 23)).alloc (.cells uu 23)).heap[w.heap.size]? = some (.cells kk 23 (0, 0)) := hp2_0 w _ _
  have rp1 : ((w.alloc (.cells kk 23)).alloc (.cells uu 23)).heap[w.heap.size + 1]? = some (.cells uu 23 (0, 0)) := hp2_1 w _ _
  have hw : Below w.heap.size w ((w.alloc (.cells kk 23)).alloc (.cells uu 23)) := (((Below.refl _ _).alloc (Nat.le_refl _) _).alloc (by simp) _)
  have hz0 := hF.sz
  have f4 : Edw ((w.alloc (.cells kk 23)).alloc (.cells uu 23)) := ((hF.alloc _).alloc _)
  go_enter Tryd.func10, Tryd.ntmps10
  iterate 12 go_step
  generalize ((w.alloc (.cells kk 23)).alloc (.cells uu 23)) = w0 at *
  go_wp2_with (first | (refine wpList_load_want rfl 23 _ rfl (w.heap.size) rfl 23 kk (0, 0) _ rp0 Tryd.underlying23 rfl hk.info ?_) | (refine wpList_load_want rfl 23 _ rfl (w.heap.size + 1) rfl 23 uu (0, 0) _ rp1 Tryd.underlying23 rfl hu_.info ?_) | fail)
  refine (c1.at f4).mono ?_
  rintro e w2 ⟨rfl, hb⟩
  replace rp0 := keep hb rp0
  replace rp1 := keep hb rp1
  replace hw := Below.after hw hb
  replace f4 := f4.below hb
  clear hb
  go_wp2_with (first | (refine wpList_load_want rfl 23 _ rfl (w.heap.size) rfl 23 kk (0, 0) _ rp0 Tryd.underlying23 rfl hk.info ?_) | (refine wpList_load_want rfl 23 _ rfl (w.heap.size + 1) rfl 23 uu (0, 0) _ rp1 Tryd.underlying23 rfl hu_.info ?_) | fail)
  refine (cL.at f4.1).mono ?_
  rintro e w4 ⟨rfl, hb⟩
  replace rp0 := keep hb rp0
  replace rp1 := keep hb rp1
  replace hw := Below.after hw hb
  replace f4 := f4.below hb
  clear hb
  go_wp2_with (first | (refine wpList_store_row rfl 29 _ _ rfl (w4.heap.size) t rfl rfl 29 #[.int .u64 0, .int .u64 0, .int .u64 0, .int .u64 0, .int .u64 0, .int .u64 0, .int .u64 0, .int .u64 0, .int .u64 0, .int .u64 0, .int .u64 0, .int .u64 0, .int .u64 0, .int .u64 0, .int .u64 0, .int .u64 0, .int .u64 0, .int .u64 0, .int .u64 0, .int .u64 0] (hp1_0 w4 _) ht.info (ht.size).symm ht.one ?_; rw [setRow_alloc_new _ _ _ _ _ _ (by simp)]; refine wpList_stay ?_) | fail)
  unfold WpStay
  try simp only [Act.put]
  have rl7 : (w4.alloc (.cells t 29)).heap[w4.heap.size]? = some (.cells t 29 (0, 0)) := hp1_0 w4 _
  have hb : Below w4.heap.size w4 (w4.alloc (.cells t 29)) := ((Below.refl _ _).alloc (Nat.le_refl _) _)
  generalize (w4.alloc (.cells t 29)) = wp at *
  have ygp_0 := lt_of_row rp0
  have ygp_1 := lt_of_row rp1
  have ygp := hw.size
  have zgp := f4.sz
  replace rp0 := keep hb rp0
  replace rp1 := keep hb rp1
  replace hw := Below.after hw hb
  replace f4 := f4.below hb
  clear hb
  generalize w4.heap.size = gp at *
  clear w4
  go_wp2_with (first | (refine wpList_load_want rfl 23 _ rfl (w.heap.size) rfl 23 kk (0, 0) _ rp0 Tryd.underlying23 rfl hk.info ?_) | (refine wpList_load_want rfl 23 _ rfl (w.heap.size + 1) rfl 23 uu (0, 0) _ rp1 Tryd.underlying23 rfl hu_.info ?_) | (refine wpList_load_want rfl 29 _ rfl (gp) rfl 29 t (0, 0) _ rl7 Tryd.underlying29 rfl ht.info ?_) | fail)
  refine (cF.at _).mono ?_
  rintro e w6 ⟨rfl, hb⟩
  replace rp0 := keep hb rp0
  replace rp1 := keep hb rp1
  replace rl7 := keep hb rl7
  replace hw := Below.after hw hb
  replace f4 := f4.below hb
  clear hb
  go_wp2_with (first | (refine wpList_load_want rfl 23 _ rfl (w.heap.size) rfl 23 kk (0, 0) _ rp0 Tryd.underlying23 rfl hk.info ?_) | (refine wpList_load_want rfl 23 _ rfl (w.heap.size + 1) rfl 23 uu (0, 0) _ rp1 Tryd.underlying23 rfl hu_.info ?_) | (refine wpList_load_want rfl 29 _ rfl (gp) rfl 29 t (0, 0) _ rl7 Tryd.underlying29 rfl ht.info ?_) | fail)
  refine (cZ.at _).mono ?_
  rintro e w8 ⟨rfl, hb⟩
  replace rp0 := keep hb rp0
  replace rp1 := keep hb rp1
  replace rl7 := keep hb rl7
  replace hw := Below.after hw hb
  replace f4 := f4.below hb
  clear hb
  go_wp2_with (first | (refine wpList_load_want rfl 23 _ rfl (w.heap.size) rfl 23 kk (0, 0) _ rp0 Tryd.underlying23 rfl hk.info ?_) | (refine wpList_load_want rfl 23 _ rfl (w.heap.size + 1) rfl 23 uu (0, 0) _ rp1 Tryd.underlying23 rfl hu_.info ?_) | (refine wpList_load_want rfl 29 _ rfl (gp) rfl 29 t (0, 0) _ rl7 Tryd.underlying29 rfl ht.info ?_) | fail)
  refine (cO.at f4.1).mono ?_
  rintro e wo ⟨rfl, hb⟩
  replace rp0 := keep hb rp0
  replace rp1 := keep hb rp1
  replace rl7 := keep hb rl7
  replace hw := Below.after hw hb
  replace f4 := f4.below hb
  clear hb
  go_wp2_with (first | (refine wpList_load_want rfl 23 _ rfl (w.heap.size) rfl 23 kk (0, 0) _ rp0 Tryd.underlying23 rfl hk.info ?_) | (refine wpList_load_want rfl 23 _ rfl (w.heap.size + 1) rfl 23 uu (0, 0) _ rp1 Tryd.underlying23 rfl hu_.info ?_) | (refine wpList_load_want rfl 29 _ rfl (gp) rfl 29 t (0, 0) _ rl7 Tryd.underlying29 rfl ht.info ?_) | fail)
  refine (cC.at _).mono ?_
  rintro e w10 ⟨rfl, hb⟩
  replace rp0 := keep hb rp0
  replace rp1 := keep hb rp1
  replace rl7 := keep hb rl7
  replace hw := Below.after hw hb
  replace f4 := f4.below hb
  clear hb
  go_wp2_with (first | (refine wpList_store_row rfl 23 _ _ rfl (w10.heap.size) (kb C) rfl rfl 23 #[.int .u8 0, .int .u8 0, .int .u8 0, .int .u8 0, .int .u8 0, .int .u8 0, .int .u8 0, .int .u8 0, .int .u8 0, .int .u8 0, .int .u8 0, .int .u8 0, .int .u8 0, .int .u8 0, .int .u8 0, .int .u8 0, .int .u8 0, .int .u8 0, .int .u8 0, .int .u8 0, .int .u8 0, .int .u8 0, .int .u8 0, .int .u8 0, .int .u8 0, .int .u8 0, .int .u8 0, .int .u8 0, .int .u8 0, .int .u8 0, .int .u8 0, .int .u8 0] (hp1_0 w10 _) hC.info (hC.size).symm hC.one ?_; rw [setRow_alloc_new _ _ _ _ _ _ (by simp)]; refine wpList_stay ?_) | fail)
  unfold WpStay
  try simp only [Act.put]
  have rl9 : (w10.alloc (.cells (kb C) 23)).heap[w10.heap.size]? = some (.cells (kb C) 23 (0, 0)) := hp1_0 w10 _
  have hb : Below w10.heap.size w10 (w10.alloc (.cells (kb C) 23)) := ((Below.refl _ _).alloc (Nat.le_refl _) _)
  generalize (w10.alloc (.cells (kb C) 23)) = wc_ at *
  have ygc_0 := lt_of_row rp0
  have ygc_1 := lt_of_row rp1
  have ygc_2 := lt_of_row rl7
  have ygc := hw.size
  have zgc := f4.sz
  replace rp0 := keep hb rp0
  replace rp1 := keep hb rp1
  replace rl7 := keep hb rl7
  replace hw := Below.after hw hb
  replace f4 := f4.below hb
  clear hb
  generalize w10.heap.size = gc at *
  clear w10
  go_wp2_with (first | (refine wpList_load_want rfl 23 _ rfl (w.heap.size) rfl 23 kk (0, 0) _ rp0 Tryd.underlying23 rfl hk.info ?_) | (refine wpList_load_want rfl 23 _ rfl (w.heap.size + 1) rfl 23 uu (0, 0) _ rp1 Tryd.underlying23 rfl hu_.info ?_) | (refine wpList_load_want rfl 29 _ rfl (gp) rfl 29 t (0, 0) _ rl7 Tryd.underlying29 rfl ht.info ?_) | (refine wpList_load_want rfl 23 _ rfl (gc) rfl 23 (kb C) (0, 0) _ rl9 Tryd.underlying23 rfl hC.info ?_) | fail)
  refine (cY.at _).mono ?_
  rintro e w12 ⟨rfl, hb⟩
  replace rp0 := keep hb rp0
  replace rp1 := keep hb rp1
  replace rl7 := keep hb rl7
  replace rl9 := keep hb rl9
  replace hw := Below.after hw hb
  replace f4 := f4.below hb
  clear hb
  go_wp2_with (first | (refine wpList_store_row rfl 23 _ _ rfl (w12.heap.size) (kb V) rfl rfl 23 #[.int .u8 0, .int .u8 0, .int .u8 0, .int .u8 0, .int .u8 0, .int .u8 0, .int .u8 0, .int .u8 0, .int .u8 0, .int .u8 0, .int .u8 0, .int .u8 0, .int .u8 0, .int .u8 0, .int .u8 0, .int .u8 0, .int .u8 0, .int .u8 0, .int .u8 0, .int .u8 0, .int .u8 0, .int .u8 0, .int .u8 0, .int .u8 0, .int .u8 0, .int .u8 0, .int .u8 0, .int .u8 0, .int .u8 0, .int .u8 0, .int .u8 0, .int .u8 0] (hp1_0 w12 _) hV.info (hV.size).symm hV.one ?_; rw [setRow_alloc_new _ _ _ _ _ _ (by simp)]; refine wpList_stay ?_) | fail)
  unfold WpStay
  try simp only [Act.put]
  have rl10 : (w12.alloc (.cells (kb V) 23)).heap[w12.heap.size]? = some (.cells (kb V) 23 (0, 0)) := hp1_0 w12 _
  have hb : Below w12.heap.size w12 (w12.alloc (.cells (kb V) 23)) := ((Below.refl _ _).alloc (Nat.le_refl _) _)
  generalize (w12.alloc (.cells (kb V) 23)) = wv at *
  have ygv_0 := lt_of_row rp0
  have ygv_1 := lt_of_row rp1
  have ygv_2 := lt_of_row rl7
  have ygv_3 := lt_of_row rl9
  have ygv := hw.size
  have zgv := f4.sz
  replace rp0 := keep hb rp0
  replace rp1 := keep hb rp1
  replace rl7 := keep hb rl7
  replace rl9 := keep hb rl9
  replace hw := Below.after hw hb
  replace f4 := f4.below hb
  clear hb
  generalize w12.heap.size = gv at *
  clear w12
  go_wp2_with (fail)
  have hSl := bys_row rl9 hC
  have hCl := keepc (show wv.cell? ⟨gv, 31, none⟩ = some (.int .u8 (byt V 31)) from cell_of_row wv gv 31 _ _ _ rl10)
  have Hrp0 := keepr rp0
  have Hrp1 := keepr rp1
  have Hrl7 := keepr rl7
  have Hrl9 := keepr rl9
  have Hrl10 := keepr rl10
  refine wp_region_quiet_below (by kernel_rfl) (by kernel_rfl) ?_
  refine wpQuiet_load_row rfl 29 _ rfl (gp) rfl 29 t (0, 0) _ Hrl7.out Tryd.underlying29 rfl ht.info ?_
  simp only [Act.put, List.setIfInBounds_toArray, List.set_cons_succ, List.set_cons_zero]
  go_big_quiet_step (exact cU.re f4.1.1)
  refine wpQuiet_load_row rfl 23 _ rfl (w.heap.size + 1) rfl 23 uu (0, 0) _ Hrp1.out Tryd.underlying23 rfl hu_.info ?_
  simp only [Act.put, List.setIfInBounds_toArray, List.set_cons_succ, List.set_cons_zero]
  go_big_quiet_step (exact cF.re)
  go_big_quiet_step (exact cB.re)
  go_big_quiet_step (fail)
  go_big_quiet_step (fail)
  go_big_quiet_step (fail)
  refine wpQuiet_load_cell31 rfl 5 _ rfl (gv) 31 rfl _ hCl.out Tryd.underlying5 ?_
  simp only [Act.put, List.setIfInBounds_toArray, List.set_cons_succ, List.set_cons_zero]
  go_big_quiet_step (fail)
  go_big_quiet_step (fail)
  go_big_quiet_step (fail)
  go_big_quiet_step (fail)
  go_big_quiet_step (fail)
  refine wpQuiet_load_want rfl 29 _ rfl (gp) rfl 29 t (0, 0) _ Hrl7.out Tryd.underlying29 rfl ht.info ?_
  simp only [Act.put, List.setIfInBounds_toArray, List.set_cons_succ, List.set_cons_zero]
  go_big_quiet_step (fail)
  go_big_quiet_step (exact re_bys4 f4.1.1 hSl cS)
  go_big_quiet_step (exact cU2.re f4.1.1)
  refine wpQuiet_load_want rfl 23 _ rfl (w.heap.size) rfl 23 kk (0, 0) _ Hrp0.out Tryd.underlying23 rfl hk.info ?_
  simp only [Act.put, List.setIfInBounds_toArray, List.set_cons_succ, List.set_cons_zero]
  refine wpQuiet_load_want rfl 23 _ rfl (w.heap.size + 1) rfl 23 uu (0, 0) _ Hrp1.out Tryd.underlying23 rfl hu_.info ?_
  simp only [Act.put, List.setIfInBounds_toArray, List.set_cons_succ, List.set_cons_zero]
  go_big_quiet_step (exact cW.re f4.1.1)
  go_big_quiet_step (fail)
  go_big_quiet_step (fail)
  go_big_quiet_step (fail)
  refine wpQuiet_nil ?_
  rintro _ ⟨p, rfl⟩
  have hb := below_regrown wv p.d p.os
  generalize grow (redrawn wv p.d) p.os = w13 at *
  replace rp0 := keep hb rp0
  replace rp1 := keep hb rp1
  replace rl7 := keep hb rl7
  replace rl9 := keep hb rl9
  replace rl10 := keep hb rl10
  replace hw := Below.after hw hb
  replace f4 := f4.below hb
  replace hSl := hSl.keep hb
  clear hb
  clear Hrp0 Hrp1 Hrl7 Hrl9 Hrl10
  go_wp2
  go_ret
  exact ⟨rfl, hw⟩
 ·obtain ⟨cU, cU2, cS⟩ := hgo rfl rfl
  clear hgo
  have rp0 : ((w.alloc (.cells kk 23)).alloc (.cells uu 23)).heap[w.heap.size]? = some (.cells kk 23 (0, 0)) := hp2_0 w _ _
  have rp1 : ((w.alloc (.cells kk 23)).alloc (.cells uu 23)).heap[w.heap.size + 1]? = some (.cells uu 23 (0, 0)) := hp2_1 w _ _
  have hw : Below w.heap.size w ((w.alloc (.cells kk 23)).alloc (.cells uu 23)) := (((Below.refl _ _).alloc (Nat.le_refl _) _).alloc (by simp) _)
  have hz0 := hF.sz
  have f4 : Edw ((w.alloc (.cells kk 23)).alloc (.cells uu 23)) := ((hF.alloc _).alloc _)
  go_enter Tryd.func10, Tryd.ntmps10
  iterate 12 go_step
  generalize ((w.alloc (.cells kk 23)).alloc (.cells uu 23)) = w0 at *
  go_wp2_with (first | (refine wpList_load_want rfl 23 _ rfl (w.heap.size) rfl 23 kk (0, 0) _ rp0 Tryd.underlying23 rfl hk.info ?_) | (refine wpList_load_want rfl 23 _ rfl (w.heap.size + 1) rfl 23 uu (0, 0) _ rp1 Tryd.underlying23 rfl hu_.info ?_) | fail)
  refine (c1.at f4).mono ?_
  rintro e w2 ⟨rfl, hb⟩
  replace rp0 := keep hb rp0
  replace rp1 := keep hb rp1
  replace hw := Below.after hw hb
  replace f4 := f4.below hb
  clear hb
  go_wp2_with (first | (refine wpList_load_want rfl 23 _ rfl (w.heap.size) rfl 23 kk (0, 0) _ rp0 Tryd.underlying23 rfl hk.info ?_) | (refine wpList_load_want rfl 23 _ rfl (w.heap.size + 1) rfl 23 uu (0, 0) _ rp1 Tryd.underlying23 rfl hu_.info ?_) | fail)
  refine (cL.at f4.1).mono ?_
  rintro e w4 ⟨rfl, hb⟩
  replace rp0 := keep hb rp0
  replace rp1 := keep hb rp1
  replace hw := Below.after hw hb
  replace f4 := f4.below hb
  clear hb
  go_wp2_with (first | (refine wpList_store_row rfl 29 _ _ rfl (w4.heap.size) t rfl rfl 29 #[.int .u64 0, .int .u64 0, .int .u64 0, .int .u64 0, .int .u64 0, .int .u64 0, .int .u64 0, .int .u64 0, .int .u64 0, .int .u64 0, .int .u64 0, .int .u64 0, .int .u64 0, .int .u64 0, .int .u64 0, .int .u64 0, .int .u64 0, .int .u64 0, .int .u64 0, .int .u64 0] (hp1_0 w4 _) ht.info (ht.size).symm ht.one ?_; rw [setRow_alloc_new _ _ _ _ _ _ (by simp)]; refine wpList_stay ?_) | fail)
  unfold WpStay
  try simp only [Act.put]
  have rl7 : (w4.alloc (.cells t 29)).heap[w4.heap.size]? = some (.cells t 29 (0, 0)) := hp1_0 w4 _
  have hb : Below w4.heap.size w4 (w4.alloc (.cells t 29)) := ((Below.refl _ _).alloc (Nat.le_refl _) _)
  generalize (w4.alloc (.cells t 29)) = wp at *
  have ygp_0 := lt_of_row rp0
  have ygp_1 := lt_of_row rp1
  have ygp := hw.size
  have zgp := f4.sz
  replace rp0 := keep hb rp0
  replace rp1 := keep hb rp1
  replace hw := Below.after hw hb
  replace f4 := f4.below hb
  clear hb
  generalize w4.heap.size = gp at *
  clear w4
  go_wp2_with (first | (refine wpList_load_want rfl 23 _ rfl (w.heap.size) rfl 23 kk (0, 0) _ rp0 Tryd.underlying23 rfl hk.info ?_) | (refine wpList_load_want rfl 23 _ rfl (w.heap.size + 1) rfl 23 uu (0, 0) _ rp1 Tryd.underlying23 rfl hu_.info ?_) | (refine wpList_load_want rfl 29 _ rfl (gp) rfl 29 t (0, 0) _ rl7 Tryd.underlying29 rfl ht.info ?_) | fail)
  refine (cF.at _).mono ?_
  rintro e w6 ⟨rfl, hb⟩
  replace rp0 := keep hb rp0
  replace rp1 := keep hb rp1
  replace rl7 := keep hb rl7
  replace hw := Below.after hw hb
  replace f4 := f4.below hb
  clear hb
  go_wp2_with (first | (refine wpList_load_want rfl 23 _ rfl (w.heap.size) rfl 23 kk (0, 0) _ rp0 Tryd.underlying23 rfl hk.info ?_) | (refine wpList_load_want rfl 23 _ rfl (w.heap.size + 1) rfl 23 uu (0, 0) _ rp1 Tryd.underlying23 rfl hu_.info ?_) | (refine wpList_load_want rfl 29 _ rfl (gp) rfl 29 t (0, 0) _ rl7 Tryd.underlying29 rfl ht.info ?_) | fail)
  refine (cZ.at _).mono ?_
  rintro e w8 ⟨rfl, hb⟩
  replace rp0 := keep hb rp0
  replace rp1 := keep hb rp1
  replace rl7 := keep hb rl7
  replace hw := Below.after hw hb
  replace f4 := f4.below hb
  clear hb
  go_wp2_with (first | (refine wpList_load_want rfl 23 _ rfl (w.heap.size) rfl 23 kk (0, 0) _ rp0 Tryd.underlying23 rfl hk.info ?_) | (refine wpList_load_want rfl 23 _ rfl (w.heap.size + 1) rfl 23 uu (0, 0) _ rp1 Tryd.underlying23 rfl hu_.info ?_) | (refine wpList_load_want rfl 29 _ rfl (gp) rfl 29 t (0, 0) _ rl7 Tryd.underlying29 rfl ht.info ?_) | fail)
  refine (cO.at f4.1).mono ?_
  rintro e wo ⟨rfl, hb⟩
  replace rp0 := keep hb rp0
  replace rp1 := keep hb rp1
  replace rl7 := keep hb rl7
  replace hw := Below.after hw hb
  replace f4 := f4.below hb
  clear hb
  go_wp2_with (first | (refine wpList_load_want rfl 23 _ rfl (w.heap.size) rfl 23 kk (0, 0) _ rp0 Tryd.underlying23 rfl hk.info ?_) | (refine wpList_load_want rfl 23 _ rfl (w.heap.size + 1) rfl 23 uu (0, 0) _ rp1 Tryd.underlying23 rfl hu_.info ?_) | (refine wpList_load_want rfl 29 _ rfl (gp) rfl 29 t (0, 0) _ rl7 Tryd.underlying29 rfl ht.info ?_) | fail)
  refine (cC.at _).mono ?_
  rintro e w10 ⟨rfl, hb⟩
  replace rp0 := keep hb rp0
  replace rp1 := keep hb rp1
  replace rl7 := keep hb rl7
  replace hw := Below.after hw hb
  replace f4 := f4.below hb
  clear hb
  go_wp2_with (first | (refine wpList_store_row rfl 23 _ _ rfl (w10.heap.size) (kb C) rfl rfl 23 #[.int .u8 0, .int .u8 0, .int .u8 0, .int .u8 0, .int .u8 0, .int .u8 0, .int .u8 0, .int .u8 0, .int .u8 0, .int .u8 0, .int .u8 0, .int .u8 0, .int .u8 0, .int .u8 0, .int .u8 0, .int .u8 0, .int .u8 0, .int .u8 0, .int .u8 0, .int .u8 0, .int .u8 0, .int .u8 0, .int .u8 0, .int .u8 0, .int .u8 0, .int .u8 0, .int .u8 0, .int .u8 0, .int .u8 0, .int .u8 0, .int .u8 0, .int .u8 0] (hp1_0 w10 _) hC.info (hC.size).symm hC.one ?_; rw [setRow_alloc_new _ _ _ _ _ _ (by simp)]; refine wpList_stay ?_) | fail)
  unfold WpStay
  try simp only [Act.put]
  have rl9 : (w10.alloc (.cells (kb C) 23)).heap[w10.heap.size]? = some (.cells (kb C) 23 (0, 0)) := hp1_0 w10 _
  have hb : Below w10.heap.size w10 (w10.alloc (.cells (kb C) 23)) := ((Below.refl _ _).alloc (Nat.le_refl _) _)
  generalize (w10.alloc (.cells (kb C) 23)) = wc_ at *
  have ygc_0 := lt_of_row rp0
  have ygc_1 := lt_of_row rp1
  have ygc_2 := lt_of_row rl7
  have ygc := hw.size
  have zgc := f4.sz
  replace rp0 := keep hb rp0
  replace rp1 := keep hb rp1
  replace rl7 := keep hb rl7
  replace hw := Below.after hw hb
  replace f4 := f4.below hb
  clear hb
  generalize w10.heap.size = gc at *
  clear w10
  go_wp2_with (first | (refine wpList_load_want rfl 23 _ rfl (w.heap.size) rfl 23 kk (0, 0) _ rp0 Tryd.underlying23 rfl hk.info ?_) | (refine wpList_load_want rfl 23 _ rfl (w.heap.size + 1) rfl 23 uu (0, 0) _ rp1 Tryd.underlying23 rfl hu_.info ?_) | (refine wpList_load_want rfl 29 _ rfl (gp) rfl 29 t (0, 0) _ rl7 Tryd.underlying29 rfl ht.info ?_) | (refine wpList_load_want rfl 23 _ rfl (gc) rfl 23 (kb C) (0, 0) _ rl9 Tryd.underlying23 rfl hC.info ?_) | fail)
  refine (cY.at _).mono ?_
  rintro e w12 ⟨rfl, hb⟩
  replace rp0 := keep hb rp0
  replace rp1 := keep hb rp1
  replace rl7 := keep hb rl7
  replace rl9 := keep hb rl9
  replace hw := Below.after hw hb
  replace f4 := f4.below hb
  clear hb
  go_wp2_with (first | (refine wpList_store_row rfl 23 _ _ rfl (w12.heap.size) (kb V) rfl rfl 23 #[.int .u8 0, .int .u8 0, .int .u8 0, .int .u8 0, .int .u8 0, .int .u8 0, .int .u8 0, .int .u8 0, .int .u8 0, .int .u8 0, .int .u8 0, .int .u8 0, .int .u8 0, .int .u8 0, .int .u8 0, .int .u8 0, .int .u8 0, .int .u8 0, .int .u8 0, .int .u8 0, .int .u8 0, .int .u8 0, .int .u8 0, .int .u8 0, .int .u8 0, .int .u8 0, .int .u8 0, .int .u8 0, .int .u8 0, .int .u8 0, .int .u8 0, .int .u8 0] (hp1_0 w12 _) hV.info (hV.size).symm hV.one ?_; rw [setRow_alloc_new _ _ _ _ _ _ (by simp)]; refine wpList_stay ?_) | fail)
  unfold WpStay
  try simp only [Act.put]
  have rl10 : (w12.alloc (.cells (kb V) 23)).heap[w12.heap.size]? = some (.cells (kb V) 23 (0, 0)) := hp1_0 w12 _
  have hb : Below w12.heap.size w12 (w12.alloc (.cells (kb V) 23)) := ((Below.refl _ _).alloc (Nat.le_refl _) _)
  generalize (w12.alloc (.cells (kb V) 23)) = wv at *
  have ygv_0 := lt_of_row rp0
  have ygv_1 := lt_of_row rp1
  have ygv_2 := lt_of_row rl7
  have ygv_3 := lt_of_row rl9
  have ygv := hw.size
  have zgv := f4.sz
  replace rp0 := keep hb rp0
  replace rp1 := keep hb rp1
  replace rl7 := keep hb rl7
  replace rl9 := keep hb rl9
  replace hw := Below.after hw hb
  replace f4 := f4.below hb
  clear hb
  generalize w12.heap.size = gv at *
  clear w12
  go_wp2_with (fail)
  have hSl := bys_row rl9 hC
  have hCl := keepc (show wv.cell? ⟨gv, 31, none⟩ = some (.int .u8 (byt V 31)) from cell_of_row wv gv 31 _ _ _ rl10)
  have Hrp0 := keepr rp0
  have Hrp1 := keepr rp1
  have Hrl7 := keepr rl7
  have Hrl9 := keepr rl9
  have Hrl10 := keepr rl10
  refine wp_region_quiet_below (by kernel_rfl) (by kernel_rfl) ?_
  refine wpQuiet_load_row rfl 29 _ rfl (gp) rfl 29 t (0, 0) _ Hrl7.out Tryd.underlying29 rfl ht.info ?_
  simp only [Act.put, List.setIfInBounds_toArray, List.set_cons_succ, List.set_cons_zero]
  go_big_quiet_step (exact cU.re f4.1.1)
  refine wpQuiet_load_row rfl 23 _ rfl (w.heap.size + 1) rfl 23 uu (0, 0) _ Hrp1.out Tryd.underlying23 rfl hu_.info ?_
  simp only [Act.put, List.setIfInBounds_toArray, List.set_cons_succ, List.set_cons_zero]
  go_big_quiet_step (exact cF.re)
  go_big_quiet_step (exact cB.re)
  go_big_quiet_step (fail)
  go_big_quiet_step (fail)
  go_big_quiet_step (fail)
  refine wpQuiet_load_cell31 rfl 5 _ rfl (gv) 31 rfl _ hCl.out Tryd.underlying5 ?_
  simp only [Act.put, List.setIfInBounds_toArray, List.set_cons_succ, List.set_cons_zero]
  go_big_quiet_step (fail)
  go_big_quiet_step (fail)
  go_big_quiet_step (fail)
  go_big_quiet_step (fail)
  go_big_quiet_step (fail)
  refine wpQuiet_load_want rfl 29 _ rfl (gp) rfl 29 t (0, 0) _ Hrl7.out Tryd.underlying29 rfl ht.info ?_
  simp only [Act.put, List.setIfInBounds_toArray, List.set_cons_succ, List.set_cons_zero]
  go_big_quiet_step (fail)
  go_big_quiet_step (exact re_bys4 f4.1.1 hSl cS)
  go_big_quiet_step (exact cU2.re f4.1.1)
  refine wpQuiet_load_want rfl 23 _ rfl (w.heap.size) rfl 23 kk (0, 0) _ Hrp0.out Tryd.underlying23 rfl hk.info ?_
  simp only [Act.put, List.setIfInBounds_toArray, List.set_cons_succ, List.set_cons_zero]
  refine wpQuiet_load_want rfl 23 _ rfl (w.heap.size + 1) rfl 23 uu (0, 0) _ Hrp1.out Tryd.underlying23 rfl hu_.info ?_
  simp only [Act.put, List.setIfInBounds_toArray, List.set_cons_succ, List.set_cons_zero]
  go_big_quiet_step (exact cW.re f4.1.1)
  go_big_quiet_step (fail)
  go_big_quiet_step (fail)
  go_big_quiet_step (fail)
  refine wpQuiet_nil ?_
  rintro _ ⟨p, rfl⟩
  have hb := below_regrown wv p.d p.os
  generalize grow (redrawn wv p.d) p.os = w13 at *
  replace rp0 := keep hb rp0
  replace rp1 := keep hb rp1
  replace rl7 := keep hb rl7
  replace rl9 := keep hb rl9
  replace rl10 := keep hb rl10
  replace hw := Below.after hw hb
  replace f4 := f4.below hb
  replace hSl := hSl.keep hb
  clear hb
  clear Hrp0 Hrp1 Hrl7 Hrl9 Hrl10
  go_wp2
  go_ret
  exact ⟨rfl, hw⟩
theorem dresses_any {kk uu : Array Value} {K N : Int} (hk : KeyOf kk K) (hu_ : KeyOf uu N) (odd : Bool) (w : World) (hF : Edw w) : Calls Tryd.prog 10 #[.agg kk, .agg uu, .bool odd] w fun e w' => e = .returned (.bool true) ∧ Below w.heap.size w w' := by
 obtain ⟨t, ht, cL⟩ := a_Lift hu_ odd
 obtain ⟨ur, hu, cF⟩ := a_from hu_
 have hCb := clp_bd K
 have hC : KeyOf (kb (clp K)) (clp K) := kb_key _ hCb.1 (by omega)
 obtain ⟨ts, hts, cS⟩ := a_Scale ht (b32 (clp K)) (b32_bd _)
 rw [bval_b32 _ hCb.1 (by omega)] at hts
 have hS : KeyOf (kb (scl K N)) (scl K N) := by
  have b := scn_bd (clp K) (num N)
  exact kb_key _ b.1 (Int.lt_trans b.2 (by decide))
 refine dresses_aux (E := le' N odd) (zero := decide (num N = 0)) (on := rok (cvn (num N))) (C := clp K) (V := pb (lp N odd)) (X := num N) (S := scl K N) hk hu_ ht hts hu (kb_mod _) hC (pb_key _) hS cL cF (a_isZero hu) (a_on hu_) (a_clamp hk) (a_Bytes ht) (a_bytes hu) (a_scale hk hu_) (fun h1 h2 => ?_) ?_ w hF
 ·obtain ⟨e1, e2, e3, e4⟩ := dr_on (of_decide_eq_false h2) odd h1
  refine ⟨?_, ?_, cS⟩
  ·have := a_U ht; rw [e2] at this; exact this
  ·have := a_U hts; rw [e4] at this; exact this
 ·have hb := pb_bd (lp N odd)
  have htp := (kb_top (pb (lp N odd)) hb.1 hb.2).1
  by_cases h0 : num N = 0
  ·obtain ⟨a, b⟩ := dr_err h0 odd
   cases odd with
   | true => exact .inl ⟨decide_eq_true h0, rfl, (a rfl).1⟩
   | false => exact .inr (.inl ⟨decide_eq_true h0, rfl, b rfl⟩)
  ·by_cases hr : rok (cvn (num N)) = true
   ·obtain ⟨e1, e2, e3, e4⟩ := dr_on h0 odd hr
    have hy := y_bd (lp N odd)
    rw [prm_is] at hy
    cases odd with
    | true =>
     refine .inr (.inr (.inr (.inl ⟨decide_eq_false h0, hr, e1, rfl, decide_eq_true ?_⟩)))
     rw [htp]
     unfold pb
     rw [e3]
     simp only [od, if_true]
     omega
    | false =>
     refine .inr (.inr (.inr (.inr ⟨decide_eq_false h0, hr, e1, rfl, decide_eq_false ?_⟩)))
     rw [htp]
     unfold pb
     rw [e3]
     simp only [od, Bool.false_eq_true, if_false]
     omega
   ·rw [Bool.not_eq_true] at hr
    obtain ⟨e1, e2⟩ := dr_off h0 odd hr
    have hn := a_IsNeutral ht
    rw [e2, eqb_self] at hn
    exact .inr (.inr (.inl ⟨decide_eq_false h0, hr, e1, hn⟩))
end Go.Proofs.YtgfhoabgbgddbaaDoor

