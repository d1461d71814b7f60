import Derived.Test.YtpconccafpcpnaaDoorProg
import Derived.WalkKit
import Derived.WalkSpells
import Derived.WalkLawsBesides
import Derived.Lib.QuietBelow
import Derived.BigQuiet
import Derived.OrdersHeld
import Derived.Deep.RegionHeld3
import Derived.Test.YtpconccafpcpnaaDoorKa
import Derived.Test.YtpconccafpcpnaaDoorCoa
import Derived.Test.YtpconccafpcpnaaDoorCla
import Derived.Test.YtpconccafpcpnaaDoorCh
import Derived.Test.YtpconccafpcpnaaDoorGk
import Derived.Test.YtpconccafpcpnaaDoorGu
import Derived.Test.YtpconccafpcpnaaDoorEi
import Derived.Test.YtpconccafpcpnaaDoorJa
namespace Go.Proofs.YtpconccafpcpnaaDoor
set_option maxRecDepth 100000
open Go Go.RowKit Go.Sort
attribute [local go_sem] setCell_drewN alloc_drewN

def EStay (p : Prop) : Prop := p
theorem wpList_estay {P : Program} {ops : Array Oper} {rest : List Oper} {a : Act} {w : World} {Q : Exit → Act → World → Prop} (h : EStay (wpList P ops Q rest a w)) : wpList P ops Q rest a w := h
theorem ecut {G : Prop} {A : Nat → World → Prop} (T : Nat → World → Prop) (h1 : (∀ g W, T g W → A g W) → G) (h2 : ∀ g W, T g W → A g W) : G := h1 h2
theorem ex1e {f : FuncId} {args : Array Value} {w : World} {v : Value} {Bp : World → Prop} (h : Calls Tryd.prog f args w fun e w' => e = .returned v ∧ Bp w') : Calls Tryd.prog f args w fun e w' => ∃ v', e = .returned v' ∧ v' = v ∧ Bp w' := h.mono fun _ _ ⟨a, b⟩ => ⟨v, a, rfl, b⟩
theorem all_rowe (cs : Array Value) : cs.extract 0 (0 + cs.size) = cs := by simp
section
variable {P : Program} {ops : Array Oper} {Q : Exit → Act → World → Prop} {md : Region.Mode} {S : World → Prop}
theorem eH_one {k : Nat} {o : Oper} {fuel : Nat} {listed : Array Bool} {a : Act} {w : World} (hr : Region.ready md ops listed = [k]) (hi : ops[k]? = some o) (hw : Region.wanted o (yielded ops a.tmps) = true)
    (h : ∀ K : Act → World → Prop, (∀ a' w', S w' → wpAnyH P md ops Q S fuel (listed.setIfInBounds k true) a' w' → K a' w') → o.wp P a w K Q) : wpAnyH P md ops Q S (fuel + 1) listed a w := by
  refine wpAnyH_all hr (by simp) (fun i hi' => ?_)
  obtain rfl : i = k := by simpa using hi'
  unfold wpOp
  simp only [hi, hw, if_true]
  exact .inl (h _ (fun a' w' hS hn => ⟨hS, hn⟩))
theorem eH_two {j k : Nat} {oj ok : Oper} {fuel : Nat} {listed : Array Bool} {a : Act} {w : World} (hr : Region.ready md ops listed = [j, k]) (hj : ops[j]? = some oj) (hk : ops[k]? = some ok) (wj : Region.wanted oj (yielded ops a.tmps) = true) (wk : Region.wanted ok (yielded ops a.tmps) = true)
    (h1 : ∀ K : Act → World → Prop, (∀ a' w', S w' → wpAnyH P md ops Q S fuel (listed.setIfInBounds j true) a' w' → K a' w') → oj.wp P a w K Q)
    (h2 : ∀ K : Act → World → Prop, (∀ a' w', S w' → wpAnyH P md ops Q S fuel (listed.setIfInBounds k true) a' w' → K a' w') → ok.wp P a w K Q) : wpAnyH P md ops Q S (fuel + 1) listed a w := by
  refine wpAnyH_all hr (by simp) (fun i hi' => ?_)
  obtain rfl | rfl : i = j ∨ i = k := by simpa using hi'
  · unfold wpOp
    simp only [hj, wj, if_true]
    exact .inl (h1 _ (fun a' w' hS hn => ⟨hS, hn⟩))
  · unfold wpOp
    simp only [hk, wk, if_true]
    exact .inl (h2 _ (fun a' w' hS hn => ⟨hS, hn⟩))
theorem e_load_part {o : Oper} {a : Act} {w : World} (ty : TypeId) (x : Operand) (ho : o.op = .load ty x) (g off : Nat) (hx : a.eval x = .pointer (some ⟨g, off, none⟩)) (t : TypeId) (cs : Array Value) (fr : Nat × Nat) (part : Array Value) (d : TypeDesc) (hg : w.heap[g]? = some (.cells cs t fr)) (hp : cs.extract off (off + part.size) = part)
    (hu : P.underlying ty = some d) (hd : d.isRow = true) (hi : (P.info? ty).map (·.size) = some part.size) : (execOp a.eval o).run P w = .ok (.value (.agg part)) w := by
  have hr := World.rangeAt_of_block hg off part.size
  rw [hp] at hr
  have hl := run_loadVar_mid (P := P) w g off ty part.toList d hr hu hd (by simpa using hi)
  unfold execOp
  simp only [ho, hx, Instr.loadAt, Instr.sureAddr, Sem.run_bind, Sem.run_pure, Result.andThen_ok, hl]
end
theorem e_world_op {P : Program} {o : Oper} {a : Act} {w : World} {K : Act → World → Prop} {Q : Exit → Act → World → Prop} (v : Value) (w' : World) (hx : (execOp a.eval o).run P w = .ok (.value v) w') (h : K (a.put o.dst v) w') : o.wp P a w K Q := by
  unfold Oper.wp
  rw [hx, Oper.upon_value]
  exact h
theorem key_two : KeyOf #[.int .u8 2, .int .u8 0, .int .u8 0, .int .u8 0, .int .u8 0, .int .u8 0, .int .u8 0, .int .u8 0, .int .u8 0, .int .u8 0, .int .u8 0, .int .u8 0, .int .u8 0, .int .u8 0, .int .u8 0, .int .u8 0, .int .u8 0, .int .u8 0, .int .u8 0, .int .u8 0, .int .u8 0, .int .u8 0, .int .u8 0, .int .u8 0, .int .u8 0, .int .u8 0, .int .u8 0, .int .u8 0, .int .u8 0, .int .u8 0, .int .u8 0, .int .u8 0] 2 := ⟨2, 0, 0, 0, 0, 0, 0, 0, 0, 0, 0, 0, 0, 0, 0, 0, 0, 0, 0, 0, 0, 0, 0, 0, 0, 0, 0, 0, 0, 0, 0, 0, rfl, by decide, by decide⟩
theorem on_two : rok (cvn (num 2)) = false := by rw [rok_c (cvn_fX _), show num 2 = 2 from num_of (by decide), rok_f2]
theorem two_inv : 2 * 2 ^ 57896044618658097711785492504343953926634992332820282019728792003956564819947 % prm = 1 % prm := inv_mul (x := 2) (by decide)
set_option maxRecDepth 100000 in
set_option maxHeartbeats 4000000 in
theorem sides_any {k u : Array Value} {K U : Int} (hk : KeyOf k K) (hu : KeyOf u U) (w : World) (hF : Both w) : Calls Tryd.prog 8 #[.agg k, .agg u] w fun e w' => e = .returned (.bool true) ∧ Below w.heap.size w w' := by
  have cP := a_public hk
  have h9 : KeyOf (kb (scl K 9)) (scl K 9) := kb_key _ (scl_bd K 9).1 (scl_bd K 9).2
  have cO9 := a_on h9
  rw [rok_c (cvn_fX _), side_nine] at cO9
  have cO2 := a_on key_two
  rw [on_two] at cO2
  have cS2 := a_scale hk key_two
  have h2 : KeyOf (kb (scl K 2)) (scl K 2) := kb_key _ (scl_bd K 2).1 (scl_bd K 2).2
  have cOS2 := a_on h2
  rw [rok_c (cvn_fX _), side_two] at cOS2
  obtain ⟨xr, hx0, cF⟩ := a_from hu
  have hx : NumOf xr (num U) := hx0.congr (Int.emod_emod _ _).symm
  clear hx0
  obtain ⟨wr, hwr, cC⟩ := a_curved hx
  obtain ⟨s1, hs1, cR⟩ := a_root hwr
  obtain ⟨r2, hr2, cSm⟩ := a_small 2 (by decide) (by decide)
  obtain ⟨ri, hri, cI⟩ := a_invert hr2
  obtain ⟨rm, hrm, cM⟩ := a_mul hwr hri
  obtain ⟨s2, hs2, cR2⟩ := a_root hrm
  have cO := a_on hu
  rw [rok_c (cvn_fX _)] at cO
  have cZ := a_isZero hwr
  have cS := a_scale hk hu
  have hY : KeyOf (kb (scl K U)) (scl K U) := kb_key _ (scl_bd K U).1 (scl_bd K U).2
  have cOS := a_on hY
  rw [rok_c (cvn_fX _)] at cOS
  have heq := key_zero_eq (scl K U) (scl_bd K U).1 (scl_bd K U).2
  have hside := side_any K U
  have hHZ : decide (fX (num U) % prm = 0) = true ∨ rok (fX (num U) * 2 ^ 57896044618658097711785492504343953926634992332820282019728792003956564819947) = !rok (fX (num U)) := by
    by_cases h : fX (num U) % prm = 0
    · exact .inl (decide_eq_true h)
    · exact .inr (half_not two_inv h)
  clear h9 h2
  generalize rok (fX (num U) * 2 ^ 57896044618658097711785492504343953926634992332820282019728792003956564819947) = H at *
  generalize decide (fX (num U) % prm = 0) = Z at *
  generalize rok (fX (num (scl K U))) = OS at *
  generalize rok (fX (num U)) = O at *
  generalize kb (scl K 9) = k9 at *
  generalize kb (scl K 2) = k2 at *
  generalize hYd : kb (scl K U) = ky at *
  generalize scl K U = Y at *
  have rp0 : (((w.alloc (.cells k 34)).alloc (.cells u 34)).alloc (.cells #[.int .u8 0, .int .u8 0, .int .u8 0, .int .u8 0, .int .u8 0, .int .u8 0, .int .u8 0, .int .u8 0, .int .u8 0, .int .u8 0, .int .u8 0, .int .u8 0, .int .u8 0, .int .u8 0, .int .u8 0, .int .u8 0, .int .u8 0, .int .u8 0, .int .u8 0, .int .u8 0, .int .u8 0, .int .u8 0, .int .u8 0, .int .u8 0, .int .u8 0, .int .u8 0, .int .u8 0, .int .u8 0, .int .u8 0, .int .u8 0, .int .u8 0, .int .u8 0] 34)).heap[w.heap.size]? = some (.cells k 34 (0, 0)) := hp3_0 w _ _ _
  have rp1 : (((w.alloc (.cells k 34)).alloc (.cells u 34)).alloc (.cells #[.int .u8 0, .int .u8 0, .int .u8 0, .int .u8 0, .int .u8 0, .int .u8 0, .int .u8 0, .int .u8 0, .int .u8 0, .int .u8 0, .int .u8 0, .int .u8 0, .int .u8 0, .int .u8 0, .int .u8 0, .int .u8 0, .int .u8 0, .int .u8 0, .int .u8 0, .int .u8 0, .int .u8 0, .int .u8 0, .int .u8 0, .int .u8 0, .int .u8 0, .int .u8 0, .int .u8 0, .int .u8 0, .int .u8 0, .int .u8 0, .int .u8 0, .int .u8 0] 34)).heap[w.heap.size + 1]? = some (.cells u 34 (0, 0)) := hp3_1 w _ _ _
  have rp2 : (((w.alloc (.cells k 34)).alloc (.cells u 34)).alloc (.cells #[.int .u8 0, .int .u8 0, .int .u8 0, .int .u8 0, .int .u8 0, .int .u8 0, .int .u8 0, .int .u8 0, .int .u8 0, .int .u8 0, .int .u8 0, .int .u8 0, .int .u8 0, .int .u8 0, .int .u8 0, .int .u8 0, .int .u8 0, .int .u8 0, .int .u8 0, .int .u8 0, .int .u8 0, .int .u8 0, .int .u8 0, .int .u8 0, .int .u8 0, .int .u8 0, .int .u8 0, .int .u8 0, .int .u8 0, .int .u8 0, .int .u8 0, .int .u8 0] 34)).heap[w.heap.size + 1 + 1]? = some (.cells #[.int .u8 0, .int .u8 0, .int .u8 0, .int .u8 0, .int .u8 0, .int .u8 0, .int .u8 0, .int .u8 0, .int .u8 0, .int .u8 0, .int .u8 0, .int .u8 0, .int .u8 0, .int .u8 0, .int .u8 0, .int .u8 0, .int .u8 0, .int .u8 0, .int .u8 0, .int .u8 0, .int .u8 0, .int .u8 0, .int .u8 0, .int .u8 0, .int .u8 0, .int .u8 0, .int .u8 0, .int .u8 0, .int .u8 0, .int .u8 0, .int .u8 0, .int .u8 0] 34 (0, 0)) := hp3_2 w _ _ _
  have hw : Below w.heap.size w (((w.alloc (.cells k 34)).alloc (.cells u 34)).alloc (.cells #[.int .u8 0, .int .u8 0, .int .u8 0, .int .u8 0, .int .u8 0, .int .u8 0, .int .u8 0, .int .u8 0, .int .u8 0, .int .u8 0, .int .u8 0, .int .u8 0, .int .u8 0, .int .u8 0, .int .u8 0, .int .u8 0, .int .u8 0, .int .u8 0, .int .u8 0, .int .u8 0, .int .u8 0, .int .u8 0, .int .u8 0, .int .u8 0, .int .u8 0, .int .u8 0, .int .u8 0, .int .u8 0, .int .u8 0, .int .u8 0, .int .u8 0, .int .u8 0] 34)) := (((Below.refl _ _).alloc (Nat.le_refl _) _).alloc (by simp) _).alloc (by simp; omega) _
  have hz0 := hF.sz
  have f4 : Both (((w.alloc (.cells k 34)).alloc (.cells u 34)).alloc (.cells #[.int .u8 0, .int .u8 0, .int .u8 0, .int .u8 0, .int .u8 0, .int .u8 0, .int .u8 0, .int .u8 0, .int .u8 0, .int .u8 0, .int .u8 0, .int .u8 0, .int .u8 0, .int .u8 0, .int .u8 0, .int .u8 0, .int .u8 0, .int .u8 0, .int .u8 0, .int .u8 0, .int .u8 0, .int .u8 0, .int .u8 0, .int .u8 0, .int .u8 0, .int .u8 0, .int .u8 0, .int .u8 0, .int .u8 0, .int .u8 0, .int .u8 0, .int .u8 0] 34)) := ((hF.alloc _).alloc _).alloc _
  go_enter Tryd.func8, Tryd.ntmps8
  iterate 20 go_step
  generalize (((w.alloc (.cells k 34)).alloc (.cells u 34)).alloc (.cells #[.int .u8 0, .int .u8 0, .int .u8 0, .int .u8 0, .int .u8 0, .int .u8 0, .int .u8 0, .int .u8 0, .int .u8 0, .int .u8 0, .int .u8 0, .int .u8 0, .int .u8 0, .int .u8 0, .int .u8 0, .int .u8 0, .int .u8 0, .int .u8 0, .int .u8 0, .int .u8 0, .int .u8 0, .int .u8 0, .int .u8 0, .int .u8 0, .int .u8 0, .int .u8 0, .int .u8 0, .int .u8 0, .int .u8 0, .int .u8 0, .int .u8 0, .int .u8 0] 34)) = w0 at *
  have c0 : w0.cell? ⟨w.heap.size + 1 + 1, 0, none⟩ = some (.int .u8 0) := (cell_of_row _ _ _ _ _ _ rp2).trans rfl
  have fz : w0.frozen? ⟨w.heap.size + 1 + 1, 0, none⟩ = false := by simp [World.frozen?, rp2]
  replace rp2 : (w0.setCell ⟨w.heap.size + 1 + 1, 0, none⟩ (.int .u8 2)).heap[w.heap.size + 1 + 1]? = some (.cells #[.int .u8 2, .int .u8 0, .int .u8 0, .int .u8 0, .int .u8 0, .int .u8 0, .int .u8 0, .int .u8 0, .int .u8 0, .int .u8 0, .int .u8 0, .int .u8 0, .int .u8 0, .int .u8 0, .int .u8 0, .int .u8 0, .int .u8 0, .int .u8 0, .int .u8 0, .int .u8 0, .int .u8 0, .int .u8 0, .int .u8 0, .int .u8 0, .int .u8 0, .int .u8 0, .int .u8 0, .int .u8 0, .int .u8 0, .int .u8 0, .int .u8 0, .int .u8 0] 34 (0, 0)) := heap_setCell_same _ _ _ _ _ _ rp2
  replace rp0 : (w0.setCell ⟨w.heap.size + 1 + 1, 0, none⟩ (.int .u8 2)).heap[w.heap.size]? = some (.cells k 34 (0, 0)) := (heap_setCell_other _ _ _ _ (by simp; omega)).trans rp0
  replace rp1 : (w0.setCell ⟨w.heap.size + 1 + 1, 0, none⟩ (.int .u8 2)).heap[w.heap.size + 1]? = some (.cells u 34 (0, 0)) := (heap_setCell_other _ _ _ _ (by simp)).trans rp1
  replace hw : Below w.heap.size w (w0.setCell ⟨w.heap.size + 1 + 1, 0, none⟩ (.int .u8 2)) := hw.setCell (by show w.heap.size ≤ w.heap.size + 1 + 1; omega) _
  replace f4 : Both (w0.setCell ⟨w.heap.size + 1 + 1, 0, none⟩ (.int .u8 2)) := f4.belowN (n := w.heap.size) hz0 ((Below.refl _ _).setCell (by show w.heap.size ≤ w.heap.size + 1 + 1; omega) _)
  go_wp2_with (first | (refine wpList_load_want rfl 34 _ rfl (w.heap.size) rfl 34 k (0, 0) _ rp0 Tryd.underlying34 rfl hk.info ?_) | (refine wpList_load_want rfl 34 _ rfl (w.heap.size + 1) rfl 34 u (0, 0) _ rp1 Tryd.underlying34 rfl hu.info ?_) | (refine wpList_load_want rfl 34 _ rfl (w.heap.size + 1 + 1) rfl 34 #[.int .u8 2, .int .u8 0, .int .u8 0, .int .u8 0, .int .u8 0, .int .u8 0, .int .u8 0, .int .u8 0, .int .u8 0, .int .u8 0, .int .u8 0, .int .u8 0, .int .u8 0, .int .u8 0, .int .u8 0, .int .u8 0, .int .u8 0, .int .u8 0, .int .u8 0, .int .u8 0, .int .u8 0, .int .u8 0, .int .u8 0, .int .u8 0, .int .u8 0, .int .u8 0, .int .u8 0, .int .u8 0, .int .u8 0, .int .u8 0, .int .u8 0, .int .u8 0] (0, 0) _ rp2 Tryd.underlying34 rfl key_two.info ?_) | fail)
  refine (cP.at f4.1).mono ?_
  rintro e_ v1 ⟨rfl, hb⟩
  replace rp0 := keep hb rp0
  replace rp1 := keep hb rp1
  replace rp2 := keep hb rp2
  replace hw := Below.after hw hb
  replace f4 := f4.below hb
  clear hb
  clear c0 fz
  go_wp2_with (first | (refine wpList_load_want rfl 34 _ rfl (w.heap.size) rfl 34 k (0, 0) _ rp0 Tryd.underlying34 rfl hk.info ?_) | (refine wpList_load_want rfl 34 _ rfl (w.heap.size + 1) rfl 34 u (0, 0) _ rp1 Tryd.underlying34 rfl hu.info ?_) | (refine wpList_load_want rfl 34 _ rfl (w.heap.size + 1 + 1) rfl 34 #[.int .u8 2, .int .u8 0, .int .u8 0, .int .u8 0, .int .u8 0, .int .u8 0, .int .u8 0, .int .u8 0, .int .u8 0, .int .u8 0, .int .u8 0, .int .u8 0, .int .u8 0, .int .u8 0, .int .u8 0, .int .u8 0, .int .u8 0, .int .u8 0, .int .u8 0, .int .u8 0, .int .u8 0, .int .u8 0, .int .u8 0, .int .u8 0, .int .u8 0, .int .u8 0, .int .u8 0, .int .u8 0, .int .u8 0, .int .u8 0, .int .u8 0, .int .u8 0] (0, 0) _ rp2 Tryd.underlying34 rfl key_two.info ?_) | fail)
  refine (cO9.at f4).mono ?_
  rintro e_ v2 ⟨rfl, hb⟩
  replace rp0 := keep hb rp0
  replace rp1 := keep hb rp1
  replace rp2 := keep hb rp2
  replace hw := Below.after hw hb
  replace f4 := f4.below hb
  clear hb
  go_wp2_with (first | (refine wpList_load_want rfl 34 _ rfl (w.heap.size) rfl 34 k (0, 0) _ rp0 Tryd.underlying34 rfl hk.info ?_) | (refine wpList_load_want rfl 34 _ rfl (w.heap.size + 1) rfl 34 u (0, 0) _ rp1 Tryd.underlying34 rfl hu.info ?_) | (refine wpList_load_want rfl 34 _ rfl (w.heap.size + 1 + 1) rfl 34 #[.int .u8 2, .int .u8 0, .int .u8 0, .int .u8 0, .int .u8 0, .int .u8 0, .int .u8 0, .int .u8 0, .int .u8 0, .int .u8 0, .int .u8 0, .int .u8 0, .int .u8 0, .int .u8 0, .int .u8 0, .int .u8 0, .int .u8 0, .int .u8 0, .int .u8 0, .int .u8 0, .int .u8 0, .int .u8 0, .int .u8 0, .int .u8 0, .int .u8 0, .int .u8 0, .int .u8 0, .int .u8 0, .int .u8 0, .int .u8 0, .int .u8 0, .int .u8 0] (0, 0) _ rp2 Tryd.underlying34 rfl key_two.info ?_) | fail)
  refine (cO2.at f4).mono ?_
  rintro e_ v3 ⟨rfl, hb⟩
  replace rp0 := keep hb rp0
  replace rp1 := keep hb rp1
  replace rp2 := keep hb rp2
  replace hw := Below.after hw hb
  replace f4 := f4.below hb
  clear hb
  go_wp2_with (first | (refine wpList_load_want rfl 34 _ rfl (w.heap.size) rfl 34 k (0, 0) _ rp0 Tryd.underlying34 rfl hk.info ?_) | (refine wpList_load_want rfl 34 _ rfl (w.heap.size + 1) rfl 34 u (0, 0) _ rp1 Tryd.underlying34 rfl hu.info ?_) | (refine wpList_load_want rfl 34 _ rfl (w.heap.size + 1 + 1) rfl 34 #[.int .u8 2, .int .u8 0, .int .u8 0, .int .u8 0, .int .u8 0, .int .u8 0, .int .u8 0, .int .u8 0, .int .u8 0, .int .u8 0, .int .u8 0, .int .u8 0, .int .u8 0, .int .u8 0, .int .u8 0, .int .u8 0, .int .u8 0, .int .u8 0, .int .u8 0, .int .u8 0, .int .u8 0, .int .u8 0, .int .u8 0, .int .u8 0, .int .u8 0, .int .u8 0, .int .u8 0, .int .u8 0, .int .u8 0, .int .u8 0, .int .u8 0, .int .u8 0] (0, 0) _ rp2 Tryd.underlying34 rfl key_two.info ?_) | fail)
  refine (cS2.at f4.1).mono ?_
  rintro e_ v4 ⟨rfl, hb⟩
  replace rp0 := keep hb rp0
  replace rp1 := keep hb rp1
  replace rp2 := keep hb rp2
  replace hw := Below.after hw hb
  replace f4 := f4.below hb
  clear hb
  go_wp2_with (first | (refine wpList_load_want rfl 34 _ rfl (w.heap.size) rfl 34 k (0, 0) _ rp0 Tryd.underlying34 rfl hk.info ?_) | (refine wpList_load_want rfl 34 _ rfl (w.heap.size + 1) rfl 34 u (0, 0) _ rp1 Tryd.underlying34 rfl hu.info ?_) | (refine wpList_load_want rfl 34 _ rfl (w.heap.size + 1 + 1) rfl 34 #[.int .u8 2, .int .u8 0, .int .u8 0, .int .u8 0, .int .u8 0, .int .u8 0, .int .u8 0, .int .u8 0, .int .u8 0, .int .u8 0, .int .u8 0, .int .u8 0, .int .u8 0, .int .u8 0, .int .u8 0, .int .u8 0, .int .u8 0, .int .u8 0, .int .u8 0, .int .u8 0, .int .u8 0, .int .u8 0, .int .u8 0, .int .u8 0, .int .u8 0, .int .u8 0, .int .u8 0, .int .u8 0, .int .u8 0, .int .u8 0, .int .u8 0, .int .u8 0] (0, 0) _ rp2 Tryd.underlying34 rfl key_two.info ?_) | fail)
  refine (cOS2.at f4).mono ?_
  rintro e_ v5 ⟨rfl, hb⟩
  replace rp0 := keep hb rp0
  replace rp1 := keep hb rp1
  replace rp2 := keep hb rp2
  replace hw := Below.after hw hb
  replace f4 := f4.below hb
  clear hb
  go_wp2_with (first | (refine wpList_load_want rfl 34 _ rfl (w.heap.size) rfl 34 k (0, 0) _ rp0 Tryd.underlying34 rfl hk.info ?_) | (refine wpList_load_want rfl 34 _ rfl (w.heap.size + 1) rfl 34 u (0, 0) _ rp1 Tryd.underlying34 rfl hu.info ?_) | (refine wpList_load_want rfl 34 _ rfl (w.heap.size + 1 + 1) rfl 34 #[.int .u8 2, .int .u8 0, .int .u8 0, .int .u8 0, .int .u8 0, .int .u8 0, .int .u8 0, .int .u8 0, .int .u8 0, .int .u8 0, .int .u8 0, .int .u8 0, .int .u8 0, .int .u8 0, .int .u8 0, .int .u8 0, .int .u8 0, .int .u8 0, .int .u8 0, .int .u8 0, .int .u8 0, .int .u8 0, .int .u8 0, .int .u8 0, .int .u8 0, .int .u8 0, .int .u8 0, .int .u8 0, .int .u8 0, .int .u8 0, .int .u8 0, .int .u8 0] (0, 0) _ rp2 Tryd.underlying34 rfl key_two.info ?_) | fail)
  refine (cF.at _).mono ?_
  rintro e_ v6 ⟨rfl, hb⟩
  replace rp0 := keep hb rp0
  replace rp1 := keep hb rp1
  replace rp2 := keep hb rp2
  replace hw := Below.after hw hb
  replace f4 := f4.below hb
  clear hb
  go_wp2_with (first | (refine wpList_load_want rfl 34 _ rfl (w.heap.size) rfl 34 k (0, 0) _ rp0 Tryd.underlying34 rfl hk.info ?_) | (refine wpList_load_want rfl 34 _ rfl (w.heap.size + 1) rfl 34 u (0, 0) _ rp1 Tryd.underlying34 rfl hu.info ?_) | (refine wpList_load_want rfl 34 _ rfl (w.heap.size + 1 + 1) rfl 34 #[.int .u8 2, .int .u8 0, .int .u8 0, .int .u8 0, .int .u8 0, .int .u8 0, .int .u8 0, .int .u8 0, .int .u8 0, .int .u8 0, .int .u8 0, .int .u8 0, .int .u8 0, .int .u8 0, .int .u8 0, .int .u8 0, .int .u8 0, .int .u8 0, .int .u8 0, .int .u8 0, .int .u8 0, .int .u8 0, .int .u8 0, .int .u8 0, .int .u8 0, .int .u8 0, .int .u8 0, .int .u8 0, .int .u8 0, .int .u8 0, .int .u8 0, .int .u8 0] (0, 0) _ rp2 Tryd.underlying34 rfl key_two.info ?_) | fail)
  refine (cC.at _).mono ?_
  rintro e_ v7 ⟨rfl, hb⟩
  replace rp0 := keep hb rp0
  replace rp1 := keep hb rp1
  replace rp2 := keep hb rp2
  replace hw := Below.after hw hb
  replace f4 := f4.below hb
  clear hb
  go_wp2_with (first | (refine wpList_store_row rfl 26 _ _ rfl (v7.heap.size) wr rfl rfl 26 #[.int .u64 0, .int .u64 0, .int .u64 0, .int .u64 0, .int .u64 0] (hp1_0 v7 _) hwr.info (hwr.fits rfl) hwr.one ?_; rw [setRow_alloc_new _ _ _ _ _ _ (by simp)]; refine wpList_estay ?_) | fail | fail)
  unfold EStay
  have rw : (v7.alloc (.cells wr 26)).heap[v7.heap.size]? = some (.cells wr 26 (0, 0)) := hp1_0 v7 _
  have hb : Below v7.heap.size v7 (v7.alloc (.cells wr 26)) := (Below.refl _ _).alloc (Nat.le_refl _) _
  generalize (v7.alloc (.cells wr 26)) = v8 at *
  have ygw_rp0 := lt_of_row rp0
  have ygw_rp1 := lt_of_row rp1
  have ygw_rp2 := lt_of_row rp2
  have ygw := hw.size
  replace rp0 := keep hb rp0
  replace rp1 := keep hb rp1
  replace rp2 := keep hb rp2
  replace hw := Below.after hw hb
  replace f4 := f4.below hb
  clear hb
  generalize v7.heap.size = gw at *
  try simp only [Act.put]
  go_wp2_with (first | (refine wpList_load_want rfl 34 _ rfl (w.heap.size) rfl 34 k (0, 0) _ rp0 Tryd.underlying34 rfl hk.info ?_) | (refine wpList_load_want rfl 34 _ rfl (w.heap.size + 1) rfl 34 u (0, 0) _ rp1 Tryd.underlying34 rfl hu.info ?_) | (refine wpList_load_want rfl 34 _ rfl (w.heap.size + 1 + 1) rfl 34 #[.int .u8 2, .int .u8 0, .int .u8 0, .int .u8 0, .int .u8 0, .int .u8 0, .int .u8 0, .int .u8 0, .int .u8 0, .int .u8 0, .int .u8 0, .int .u8 0, .int .u8 0, .int .u8 0, .int .u8 0, .int .u8 0, .int .u8 0, .int .u8 0, .int .u8 0, .int .u8 0, .int .u8 0, .int .u8 0, .int .u8 0, .int .u8 0, .int .u8 0, .int .u8 0, .int .u8 0, .int .u8 0, .int .u8 0, .int .u8 0, .int .u8 0, .int .u8 0] (0, 0) _ rp2 Tryd.underlying34 rfl key_two.info ?_) | (refine wpList_load_want rfl 26 _ rfl (gw) rfl 26 wr (0, 0) _ rw Tryd.underlying26 rfl hwr.info ?_) | fail)
  refine (cR.at f4).mono ?_
  rintro e_ v9 ⟨rfl, hb⟩
  replace rp0 := keep hb rp0
  replace rp1 := keep hb rp1
  replace rp2 := keep hb rp2
  replace rw := keep hb rw
  replace hw := Below.after hw hb
  replace f4 := f4.below hb
  clear hb
  go_wp2_with (first | (refine wpList_store_row rfl 26 _ _ rfl (v9.heap.size) s1 rfl rfl 26 #[.int .u64 0, .int .u64 0, .int .u64 0, .int .u64 0, .int .u64 0] (hp1_0 v9 _) hs1.info (hs1.fits rfl) hs1.one ?_; rw [setRow_alloc_new _ _ _ _ _ _ (by simp)]) | fail | fail)
  have rs : (v9.alloc (.cells s1 26)).heap[v9.heap.size]? = some (.cells s1 26 (0, 0)) := hp1_0 v9 _
  have hb : Below v9.heap.size v9 (v9.alloc (.cells s1 26)) := (Below.refl _ _).alloc (Nat.le_refl _) _
  generalize (v9.alloc (.cells s1 26)) = v10 at *
  have ygs_rp0 := lt_of_row rp0
  have ygs_rp1 := lt_of_row rp1
  have ygs_rp2 := lt_of_row rp2
  have ygs_rw := lt_of_row rw
  have ygs := hw.size
  replace rp0 := keep hb rp0
  replace rp1 := keep hb rp1
  replace rp2 := keep hb rp2
  replace rw := keep hb rw
  replace hw := Below.after hw hb
  replace f4 := f4.below hb
  clear hb
  generalize v9.heap.size = gs at *
  try simp only [Act.put]
  clear rp2 rs
  apply ecut (fun (g : Nat) (W : World) => W.heap[w.heap.size]? = some (.cells k 34 (0, 0)) ∧ W.heap[w.heap.size + 1]? = some (.cells u 34 (0, 0)) ∧ W.heap[gw]? = some (.cells wr 26 (0, 0)) ∧ Below w.heap.size w W ∧ Both W)
  · intro hT_
    have hbd : Below v10.heap.size v10 v10.drew := below_drN (Below.refl _ _) 1
    replace rp0 := keep hbd rp0
    replace rp1 := keep hbd rp1
    replace rw := keep hbd rw
    replace f4 := f4.below hbd
    replace hw := Below.after hw hbd
    clear hbd
    refine wp_region_noPanic ?_
    refine wp_region_held (S := fun W => W.heap[gw]? = some (.cells wr 26 (0, 0))) (by kernel_rfl) ?_
    change wpAnyH _ _ _ _ _ _ _ _ (World.drew _)
    generalize v10.drew = wd at *
    refine wpAnyH_take (i := 0) (v := .agg wr) rfl (by kernel_rfl) (by kernel_rfl) (by kernel_rfl) (fun _ _ _ h => h) (Or.inl ⟨by rfl, ?y1⟩) (rw) ?r1
    case y1 =>
      intro w_ hS_
      simp only [List.getElem_toArray, List.getElem_cons_zero]
      exact e_load_part 26 _ (by rfl) (gw) 0 (by rfl) 26 wr (0, 0) wr _ (hS_) (all_rowe _) Tryd.underlying26 rfl hwr.info
    simp only [Act.put, List.getElem_toArray, List.getElem_cons_zero, List.setIfInBounds_toArray, List.set_cons_succ, List.set_cons_zero]
    refine eH_two (j := 1) (k := 8) (fuel := 9) (by kernel_rfl) rfl rfl (by kernel_rfl) (by kernel_rfl) (fun K_ hK_ => ?_) (fun K_ hK_ => ?_)
    · refine wp_call_ex (f := 17) (by kernel_rfl) (ex1e (cSm.at _)) (fun v_ q1 hX_ => ?_)
      obtain ⟨rfl, hb_⟩ := hX_
      replace rp0 := keep hb_ rp0
      replace rp1 := keep hb_ rp1
      replace rw := keep hb_ rw
      replace f4 := f4.below hb_
      replace hw := Below.after hw hb_
      clear hb_
      refine hK_ _ _ (rw) ?_
      simp only [Act.put, List.getElem_toArray, List.getElem_cons_succ, List.getElem_cons_zero, List.setIfInBounds_toArray, List.set_cons_succ, List.set_cons_zero]
      clear hK_
      refine eH_two (j := 2) (k := 8) (fuel := 8) (by kernel_rfl) rfl rfl (by kernel_rfl) (by kernel_rfl) (fun K_ hK_ => ?_) (fun K_ hK_ => ?_)
      · refine wp_call_ex (f := 32) (by kernel_rfl) (ex1e (cI.at _)) (fun v_ q2 hX_ => ?_)
        obtain ⟨rfl, hb_⟩ := hX_
        replace rp0 := keep hb_ rp0
        replace rp1 := keep hb_ rp1
        replace rw := keep hb_ rw
        replace f4 := f4.below hb_
        replace hw := Below.after hw hb_
        clear hb_
        refine hK_ _ _ (rw) ?_
        simp only [Act.put, List.getElem_toArray, List.getElem_cons_succ, List.getElem_cons_zero, List.setIfInBounds_toArray, List.set_cons_succ, List.set_cons_zero]
        clear hK_
        refine eH_two (j := 3) (k := 8) (fuel := 7) (by kernel_rfl) rfl rfl (by kernel_rfl) (by kernel_rfl) (fun K_ hK_ => ?_) (fun K_ hK_ => ?_)
        · refine wp_call_ex (f := 31) (by kernel_rfl) (ex1e (cM.at _)) (fun v_ q3 hX_ => ?_)
          obtain ⟨rfl, hb_⟩ := hX_
          replace rp0 := keep hb_ rp0
          replace rp1 := keep hb_ rp1
          replace rw := keep hb_ rw
          replace f4 := f4.below hb_
          replace hw := Below.after hw hb_
          clear hb_
          refine hK_ _ _ (rw) ?_
          simp only [Act.put, List.getElem_toArray, List.getElem_cons_succ, List.getElem_cons_zero, List.setIfInBounds_toArray, List.set_cons_succ, List.set_cons_zero]
          clear hK_
          refine eH_two (j := 4) (k := 8) (fuel := 6) (by kernel_rfl) rfl rfl (by kernel_rfl) (by kernel_rfl) (fun K_ hK_ => ?_) (fun K_ hK_ => ?_)
          · refine wp_call_ex (f := 30) (by kernel_rfl) (ex1e (cR2.at f4)) (fun v_ q4 hX_ => ?_)
            obtain ⟨rfl, hb_⟩ := hX_
            replace rp0 := keep hb_ rp0
            replace rp1 := keep hb_ rp1
            replace rw := keep hb_ rw
            replace f4 := f4.below hb_
            replace hw := Below.after hw hb_
            clear hb_
            refine hK_ _ _ (rw) ?_
            simp only [Act.put, List.getElem_toArray, List.getElem_cons_succ, List.getElem_cons_zero, List.setIfInBounds_toArray, List.set_cons_succ, List.set_cons_zero]
            clear hK_
            refine wpAnyH_take (i := 5) (v := ?v2) rfl (by kernel_rfl) (by kernel_rfl) (by kernel_rfl) (fun _ _ _ h => h) (Or.inl ⟨by rfl, ?y2⟩) (rw) ?r2
            case y2 =>
              intro w_ hS_
              go_simp
              try with_reducible rfl
            simp only [Act.put, List.getElem_toArray, List.getElem_cons_succ, List.getElem_cons_zero, List.setIfInBounds_toArray, List.set_cons_succ, List.set_cons_zero]
            refine wpAnyH_take (i := 6) (v := ?v3) rfl (by kernel_rfl) (by kernel_rfl) (by kernel_rfl) (fun _ _ _ h => h) (Or.inl ⟨by rfl, ?y3⟩) (rw) ?r3
            case y3 =>
              intro w_ hS_
              go_simp
              try with_reducible rfl
            simp only [Act.put, List.getElem_toArray, List.getElem_cons_succ, List.getElem_cons_zero, List.setIfInBounds_toArray, List.set_cons_succ, List.set_cons_zero]
            refine wpAnyH_take (i := 7) (v := ?v4) rfl (by kernel_rfl) (by kernel_rfl) (by kernel_rfl) (fun _ _ _ h => h) (Or.inl ⟨by rfl, ?y4⟩) (rw) ?r4
            case y4 =>
              intro w_ hS_
              go_simp
              try with_reducible rfl
            simp only [Act.put, List.getElem_toArray, List.getElem_cons_succ, List.getElem_cons_zero, List.setIfInBounds_toArray, List.set_cons_succ, List.set_cons_zero]
            refine eH_one (k := 8) (fuel := 2) (by kernel_rfl) rfl (by kernel_rfl) (fun K_ hK_ => ?_)
            refine e_world_op (.pointer (some ⟨q4.heap.size, 0, none⟩)) (q4.alloc (.cells #[.int .u64 0, .int .u64 0, .int .u64 0, .int .u64 0, .int .u64 0] 26)) (by kernel_rfl) ?_
            have hb_ : Below q4.heap.size q4 (q4.alloc (.cells #[.int .u64 0, .int .u64 0, .int .u64 0, .int .u64 0, .int .u64 0] 26)) := (Below.refl _ _).alloc (Nat.le_refl _) _
            have sz_g6 : w.heap.size ≤ q4.heap.size := hw.size
            have lt_rp0_g6 := lt_of_row rp0
            have lt_rp1_g6 := lt_of_row rp1
            have lt_rw_g6 := lt_of_row rw
            have rA := hp1_0 q4 (.cells #[.int .u64 0, .int .u64 0, .int .u64 0, .int .u64 0, .int .u64 0] 26)
            replace rp0 := keep hb_ rp0
            replace rp1 := keep hb_ rp1
            replace rw := keep hb_ rw
            replace f4 := f4.below hb_
            replace hw := Below.after hw hb_
            clear hb_
            refine hK_ _ _ (rw) ?_
            simp only [Act.put, List.getElem_toArray, List.getElem_cons_succ, List.getElem_cons_zero, List.setIfInBounds_toArray, List.set_cons_succ, List.set_cons_zero]
            clear hK_
            generalize q4.alloc (.cells #[.int .u64 0, .int .u64 0, .int .u64 0, .int .u64 0, .int .u64 0] 26) = q5 at *
            generalize q4.heap.size = g6 at *
            refine eH_one (k := 9) (fuel := 1) (by kernel_rfl) rfl (by kernel_rfl) (fun K_ hK_ => ?_)
            refine wp_store_row 26 _ _ rfl (g6) s2 rfl rfl 26 _ rA hs2.info (hs2.fits rfl) hs2.one ?_
            replace rp0 := (setRow_other q5 (g6) (w.heap.size) s2 (by omega)).trans rp0
            replace rp1 := (setRow_other q5 (g6) (w.heap.size + 1) s2 (by omega)).trans rp1
            replace rw := (setRow_other q5 (g6) (gw) s2 (by omega)).trans rw
            replace hw := below_setRow hw (show w.heap.size ≤ g6 by omega) s2
            replace f4 := f4.setRow (show 1 < g6 by omega) s2
            clear rA
            refine hK_ _ _ (rw) ?_
            simp only [Act.put]
            clear hK_
            generalize q5.setRow (g6) s2 = q7 at *
            refine wpAnyH_take (i := 10) (v := ?v5) rfl (by kernel_rfl) (by kernel_rfl) (by kernel_rfl) (fun _ _ _ h => h) (Or.inl ⟨by rfl, ?y5⟩) (rw) ?r5
            case y5 =>
              intro w_ hS_
              go_simp
              try with_reducible rfl
            simp only [Act.put, List.getElem_toArray, List.getElem_cons_succ, List.getElem_cons_zero, List.setIfInBounds_toArray, List.set_cons_succ, List.set_cons_zero]
            refine wpAnyH_done (by kernel_rfl) ?_ _
            refine NoPanic.normal ?_
            exact hT_ g6 q7 ⟨rp0, rp1, rw, hw, f4⟩
          · refine e_world_op (.pointer (some ⟨q3.heap.size, 0, none⟩)) (q3.alloc (.cells #[.int .u64 0, .int .u64 0, .int .u64 0, .int .u64 0, .int .u64 0] 26)) (by kernel_rfl) ?_
            have hb_ : Below q3.heap.size q3 (q3.alloc (.cells #[.int .u64 0, .int .u64 0, .int .u64 0, .int .u64 0, .int .u64 0] 26)) := (Below.refl _ _).alloc (Nat.le_refl _) _
            have sz_g9 : w.heap.size ≤ q3.heap.size := hw.size
            have lt_rp0_g9 := lt_of_row rp0
            have lt_rp1_g9 := lt_of_row rp1
            have lt_rw_g9 := lt_of_row rw
            have rA := hp1_0 q3 (.cells #[.int .u64 0, .int .u64 0, .int .u64 0, .int .u64 0, .int .u64 0] 26)
            replace rp0 := keep hb_ rp0
            replace rp1 := keep hb_ rp1
            replace rw := keep hb_ rw
            replace f4 := f4.below hb_
            replace hw := Below.after hw hb_
            clear hb_
            refine hK_ _ _ (rw) ?_
            simp only [Act.put, List.getElem_toArray, List.getElem_cons_succ, List.getElem_cons_zero, List.setIfInBounds_toArray, List.set_cons_succ, List.set_cons_zero]
            clear hK_
            generalize q3.alloc (.cells #[.int .u64 0, .int .u64 0, .int .u64 0, .int .u64 0, .int .u64 0] 26) = q8 at *
            generalize q3.heap.size = g9 at *
            refine eH_one (k := 4) (fuel := 5) (by kernel_rfl) rfl (by kernel_rfl) (fun K_ hK_ => ?_)
            refine wp_call_ex (f := 30) (by kernel_rfl) (ex1e (cR2.at f4)) (fun v_ q10 hX_ => ?_)
            obtain ⟨rfl, hb_⟩ := hX_
            replace rp0 := keep hb_ rp0
            replace rp1 := keep hb_ rp1
            replace rw := keep hb_ rw
            replace rA := keep hb_ rA
            replace f4 := f4.below hb_
            replace hw := Below.after hw hb_
            clear hb_
            refine hK_ _ _ (rw) ?_
            simp only [Act.put, List.getElem_toArray, List.getElem_cons_succ, List.getElem_cons_zero, List.setIfInBounds_toArray, List.set_cons_succ, List.set_cons_zero]
            clear hK_
            refine wpAnyH_take (i := 5) (v := ?v6) rfl (by kernel_rfl) (by kernel_rfl) (by kernel_rfl) (fun _ _ _ h => h) (Or.inl ⟨by rfl, ?y6⟩) (rw) ?r6
            case y6 =>
              intro w_ hS_
              go_simp
              try with_reducible rfl
            simp only [Act.put, List.getElem_toArray, List.getElem_cons_succ, List.getElem_cons_zero, List.setIfInBounds_toArray, List.set_cons_succ, List.set_cons_zero]
            refine wpAnyH_take (i := 6) (v := ?v7) rfl (by kernel_rfl) (by kernel_rfl) (by kernel_rfl) (fun _ _ _ h => h) (Or.inl ⟨by rfl, ?y7⟩) (rw) ?r7
            case y7 =>
              intro w_ hS_
              go_simp
              try with_reducible rfl
            simp only [Act.put, List.getElem_toArray, List.getElem_cons_succ, List.getElem_cons_zero, List.setIfInBounds_toArray, List.set_cons_succ, List.set_cons_zero]
            refine wpAnyH_take (i := 7) (v := ?v8) rfl (by kernel_rfl) (by kernel_rfl) (by kernel_rfl) (fun _ _ _ h => h) (Or.inl ⟨by rfl, ?y8⟩) (rw) ?r8
            case y8 =>
              intro w_ hS_
              go_simp
              try with_reducible rfl
            simp only [Act.put, List.getElem_toArray, List.getElem_cons_succ, List.getElem_cons_zero, List.setIfInBounds_toArray, List.set_cons_succ, List.set_cons_zero]
            refine eH_one (k := 9) (fuel := 1) (by kernel_rfl) rfl (by kernel_rfl) (fun K_ hK_ => ?_)
            refine wp_store_row 26 _ _ rfl (g9) s2 rfl rfl 26 _ rA hs2.info (hs2.fits rfl) hs2.one ?_
            replace rp0 := (setRow_other q10 (g9) (w.heap.size) s2 (by omega)).trans rp0
            replace rp1 := (setRow_other q10 (g9) (w.heap.size + 1) s2 (by omega)).trans rp1
            replace rw := (setRow_other q10 (g9) (gw) s2 (by omega)).trans rw
            replace hw := below_setRow hw (show w.heap.size ≤ g9 by omega) s2
            replace f4 := f4.setRow (show 1 < g9 by omega) s2
            clear rA
            refine hK_ _ _ (rw) ?_
            simp only [Act.put]
            clear hK_
            generalize q10.setRow (g9) s2 = q11 at *
            refine wpAnyH_take (i := 10) (v := ?v9) rfl (by kernel_rfl) (by kernel_rfl) (by kernel_rfl) (fun _ _ _ h => h) (Or.inl ⟨by rfl, ?y9⟩) (rw) ?r9
            case y9 =>
              intro w_ hS_
              go_simp
              try with_reducible rfl
            simp only [Act.put, List.getElem_toArray, List.getElem_cons_succ, List.getElem_cons_zero, List.setIfInBounds_toArray, List.set_cons_succ, List.set_cons_zero]
            refine wpAnyH_done (by kernel_rfl) ?_ _
            refine NoPanic.normal ?_
            exact hT_ g9 q11 ⟨rp0, rp1, rw, hw, f4⟩
        · refine e_world_op (.pointer (some ⟨q2.heap.size, 0, none⟩)) (q2.alloc (.cells #[.int .u64 0, .int .u64 0, .int .u64 0, .int .u64 0, .int .u64 0] 26)) (by kernel_rfl) ?_
          have hb_ : Below q2.heap.size q2 (q2.alloc (.cells #[.int .u64 0, .int .u64 0, .int .u64 0, .int .u64 0, .int .u64 0] 26)) := (Below.refl _ _).alloc (Nat.le_refl _) _
          have sz_g13 : w.heap.size ≤ q2.heap.size := hw.size
          have lt_rp0_g13 := lt_of_row rp0
          have lt_rp1_g13 := lt_of_row rp1
          have lt_rw_g13 := lt_of_row rw
          have rA := hp1_0 q2 (.cells #[.int .u64 0, .int .u64 0, .int .u64 0, .int .u64 0, .int .u64 0] 26)
          replace rp0 := keep hb_ rp0
          replace rp1 := keep hb_ rp1
          replace rw := keep hb_ rw
          replace f4 := f4.below hb_
          replace hw := Below.after hw hb_
          clear hb_
          refine hK_ _ _ (rw) ?_
          simp only [Act.put, List.getElem_toArray, List.getElem_cons_succ, List.getElem_cons_zero, List.setIfInBounds_toArray, List.set_cons_succ, List.set_cons_zero]
          clear hK_
          generalize q2.alloc (.cells #[.int .u64 0, .int .u64 0, .int .u64 0, .int .u64 0, .int .u64 0] 26) = q12 at *
          generalize q2.heap.size = g13 at *
          refine eH_one (k := 3) (fuel := 6) (by kernel_rfl) rfl (by kernel_rfl) (fun K_ hK_ => ?_)
          refine wp_call_ex (f := 31) (by kernel_rfl) (ex1e (cM.at _)) (fun v_ q14 hX_ => ?_)
          obtain ⟨rfl, hb_⟩ := hX_
          replace rp0 := keep hb_ rp0
          replace rp1 := keep hb_ rp1
          replace rw := keep hb_ rw
          replace rA := keep hb_ rA
          replace f4 := f4.below hb_
          replace hw := Below.after hw hb_
          clear hb_
          refine hK_ _ _ (rw) ?_
          simp only [Act.put, List.getElem_toArray, List.getElem_cons_succ, List.getElem_cons_zero, List.setIfInBounds_toArray, List.set_cons_succ, List.set_cons_zero]
          clear hK_
          refine eH_one (k := 4) (fuel := 5) (by kernel_rfl) rfl (by kernel_rfl) (fun K_ hK_ => ?_)
          refine wp_call_ex (f := 30) (by kernel_rfl) (ex1e (cR2.at f4)) (fun v_ q15 hX_ => ?_)
          obtain ⟨rfl, hb_⟩ := hX_
          replace rp0 := keep hb_ rp0
          replace rp1 := keep hb_ rp1
          replace rw := keep hb_ rw
          replace rA := keep hb_ rA
          replace f4 := f4.below hb_
          replace hw := Below.after hw hb_
          clear hb_
          refine hK_ _ _ (rw) ?_
          simp only [Act.put, List.getElem_toArray, List.getElem_cons_succ, List.getElem_cons_zero, List.setIfInBounds_toArray, List.set_cons_succ, List.set_cons_zero]
          clear hK_
          refine wpAnyH_take (i := 5) (v := ?v10) rfl (by kernel_rfl) (by kernel_rfl) (by kernel_rfl) (fun _ _ _ h => h) (Or.inl ⟨by rfl, ?y10⟩) (rw) ?r10
          case y10 =>
            intro w_ hS_
            go_simp
            try with_reducible rfl
          simp only [Act.put, List.getElem_toArray, List.getElem_cons_succ, List.getElem_cons_zero, List.setIfInBounds_toArray, List.set_cons_succ, List.set_cons_zero]
          refine wpAnyH_take (i := 6) (v := ?v11) rfl (by kernel_rfl) (by kernel_rfl) (by kernel_rfl) (fun _ _ _ h => h) (Or.inl ⟨by rfl, ?y11⟩) (rw) ?r11
          case y11 =>
            intro w_ hS_
            go_simp
            try with_reducible rfl
          simp only [Act.put, List.getElem_toArray, List.getElem_cons_succ, List.getElem_cons_zero, List.setIfInBounds_toArray, List.set_cons_succ, List.set_cons_zero]
          refine wpAnyH_take (i := 7) (v := ?v12) rfl (by kernel_rfl) (by kernel_rfl) (by kernel_rfl) (fun _ _ _ h => h) (Or.inl ⟨by rfl, ?y12⟩) (rw) ?r12
          case y12 =>
            intro w_ hS_
            go_simp
            try with_reducible rfl
          simp only [Act.put, List.getElem_toArray, List.getElem_cons_succ, List.getElem_cons_zero, List.setIfInBounds_toArray, List.set_cons_succ, List.set_cons_zero]
          refine eH_one (k := 9) (fuel := 1) (by kernel_rfl) rfl (by kernel_rfl) (fun K_ hK_ => ?_)
          refine wp_store_row 26 _ _ rfl (g13) s2 rfl rfl 26 _ rA hs2.info (hs2.fits rfl) hs2.one ?_
          replace rp0 := (setRow_other q15 (g13) (w.heap.size) s2 (by omega)).trans rp0
          replace rp1 := (setRow_other q15 (g13) (w.heap.size + 1) s2 (by omega)).trans rp1
          replace rw := (setRow_other q15 (g13) (gw) s2 (by omega)).trans rw
          replace hw := below_setRow hw (show w.heap.size ≤ g13 by omega) s2
          replace f4 := f4.setRow (show 1 < g13 by omega) s2
          clear rA
          refine hK_ _ _ (rw) ?_
          simp only [Act.put]
          clear hK_
          generalize q15.setRow (g13) s2 = q16 at *
          refine wpAnyH_take (i := 10) (v := ?v13) rfl (by kernel_rfl) (by kernel_rfl) (by kernel_rfl) (fun _ _ _ h => h) (Or.inl ⟨by rfl, ?y13⟩) (rw) ?r13
          case y13 =>
            intro w_ hS_
            go_simp
            try with_reducible rfl
          simp only [Act.put, List.getElem_toArray, List.getElem_cons_succ, List.getElem_cons_zero, List.setIfInBounds_toArray, List.set_cons_succ, List.set_cons_zero]
          refine wpAnyH_done (by kernel_rfl) ?_ _
          refine NoPanic.normal ?_
          exact hT_ g13 q16 ⟨rp0, rp1, rw, hw, f4⟩
      · refine e_world_op (.pointer (some ⟨q1.heap.size, 0, none⟩)) (q1.alloc (.cells #[.int .u64 0, .int .u64 0, .int .u64 0, .int .u64 0, .int .u64 0] 26)) (by kernel_rfl) ?_
        have hb_ : Below q1.heap.size q1 (q1.alloc (.cells #[.int .u64 0, .int .u64 0, .int .u64 0, .int .u64 0, .int .u64 0] 26)) := (Below.refl _ _).alloc (Nat.le_refl _) _
        have sz_g18 : w.heap.size ≤ q1.heap.size := hw.size
        have lt_rp0_g18 := lt_of_row rp0
        have lt_rp1_g18 := lt_of_row rp1
        have lt_rw_g18 := lt_of_row rw
        have rA := hp1_0 q1 (.cells #[.int .u64 0, .int .u64 0, .int .u64 0, .int .u64 0, .int .u64 0] 26)
        replace rp0 := keep hb_ rp0
        replace rp1 := keep hb_ rp1
        replace rw := keep hb_ rw
        replace f4 := f4.below hb_
        replace hw := Below.after hw hb_
        clear hb_
        refine hK_ _ _ (rw) ?_
        simp only [Act.put, List.getElem_toArray, List.getElem_cons_succ, List.getElem_cons_zero, List.setIfInBounds_toArray, List.set_cons_succ, List.set_cons_zero]
        clear hK_
        generalize q1.alloc (.cells #[.int .u64 0, .int .u64 0, .int .u64 0, .int .u64 0, .int .u64 0] 26) = q17 at *
        generalize q1.heap.size = g18 at *
        refine eH_one (k := 2) (fuel := 7) (by kernel_rfl) rfl (by kernel_rfl) (fun K_ hK_ => ?_)
        refine wp_call_ex (f := 32) (by kernel_rfl) (ex1e (cI.at _)) (fun v_ q19 hX_ => ?_)
        obtain ⟨rfl, hb_⟩ := hX_
        replace rp0 := keep hb_ rp0
        replace rp1 := keep hb_ rp1
        replace rw := keep hb_ rw
        replace rA := keep hb_ rA
        replace f4 := f4.below hb_
        replace hw := Below.after hw hb_
        clear hb_
        refine hK_ _ _ (rw) ?_
        simp only [Act.put, List.getElem_toArray, List.getElem_cons_succ, List.getElem_cons_zero, List.setIfInBounds_toArray, List.set_cons_succ, List.set_cons_zero]
        clear hK_
        refine eH_one (k := 3) (fuel := 6) (by kernel_rfl) rfl (by kernel_rfl) (fun K_ hK_ => ?_)
        refine wp_call_ex (f := 31) (by kernel_rfl) (ex1e (cM.at _)) (fun v_ q20 hX_ => ?_)
        obtain ⟨rfl, hb_⟩ := hX_
        replace rp0 := keep hb_ rp0
        replace rp1 := keep hb_ rp1
        replace rw := keep hb_ rw
        replace rA := keep hb_ rA
        replace f4 := f4.below hb_
        replace hw := Below.after hw hb_
        clear hb_
        refine hK_ _ _ (rw) ?_
        simp only [Act.put, List.getElem_toArray, List.getElem_cons_succ, List.getElem_cons_zero, List.setIfInBounds_toArray, List.set_cons_succ, List.set_cons_zero]
        clear hK_
        refine eH_one (k := 4) (fuel := 5) (by kernel_rfl) rfl (by kernel_rfl) (fun K_ hK_ => ?_)
        refine wp_call_ex (f := 30) (by kernel_rfl) (ex1e (cR2.at f4)) (fun v_ q21 hX_ => ?_)
        obtain ⟨rfl, hb_⟩ := hX_
        replace rp0 := keep hb_ rp0
        replace rp1 := keep hb_ rp1
        replace rw := keep hb_ rw
        replace rA := keep hb_ rA
        replace f4 := f4.below hb_
        replace hw := Below.after hw hb_
        clear hb_
        refine hK_ _ _ (rw) ?_
        simp only [Act.put, List.getElem_toArray, List.getElem_cons_succ, List.getElem_cons_zero, List.setIfInBounds_toArray, List.set_cons_succ, List.set_cons_zero]
        clear hK_
        refine wpAnyH_take (i := 5) (v := ?v14) rfl (by kernel_rfl) (by kernel_rfl) (by kernel_rfl) (fun _ _ _ h => h) (Or.inl ⟨by rfl, ?y14⟩) (rw) ?r14
        case y14 =>
          intro w_ hS_
          go_simp
          try with_reducible rfl
        simp only [Act.put, List.getElem_toArray, List.getElem_cons_succ, List.getElem_cons_zero, List.setIfInBounds_toArray, List.set_cons_succ, List.set_cons_zero]
        refine wpAnyH_take (i := 6) (v := ?v15) rfl (by kernel_rfl) (by kernel_rfl) (by kernel_rfl) (fun _ _ _ h => h) (Or.inl ⟨by rfl, ?y15⟩) (rw) ?r15
        case y15 =>
          intro w_ hS_
          go_simp
          try with_reducible rfl
        simp only [Act.put, List.getElem_toArray, List.getElem_cons_succ, List.getElem_cons_zero, List.setIfInBounds_toArray, List.set_cons_succ, List.set_cons_zero]
        refine wpAnyH_take (i := 7) (v := ?v16) rfl (by kernel_rfl) (by kernel_rfl) (by kernel_rfl) (fun _ _ _ h => h) (Or.inl ⟨by rfl, ?y16⟩) (rw) ?r16
        case y16 =>
          intro w_ hS_
          go_simp
          try with_reducible rfl
        simp only [Act.put, List.getElem_toArray, List.getElem_cons_succ, List.getElem_cons_zero, List.setIfInBounds_toArray, List.set_cons_succ, List.set_cons_zero]
        refine eH_one (k := 9) (fuel := 1) (by kernel_rfl) rfl (by kernel_rfl) (fun K_ hK_ => ?_)
        refine wp_store_row 26 _ _ rfl (g18) s2 rfl rfl 26 _ rA hs2.info (hs2.fits rfl) hs2.one ?_
        replace rp0 := (setRow_other q21 (g18) (w.heap.size) s2 (by omega)).trans rp0
        replace rp1 := (setRow_other q21 (g18) (w.heap.size + 1) s2 (by omega)).trans rp1
        replace rw := (setRow_other q21 (g18) (gw) s2 (by omega)).trans rw
        replace hw := below_setRow hw (show w.heap.size ≤ g18 by omega) s2
        replace f4 := f4.setRow (show 1 < g18 by omega) s2
        clear rA
        refine hK_ _ _ (rw) ?_
        simp only [Act.put]
        clear hK_
        generalize q21.setRow (g18) s2 = q22 at *
        refine wpAnyH_take (i := 10) (v := ?v17) rfl (by kernel_rfl) (by kernel_rfl) (by kernel_rfl) (fun _ _ _ h => h) (Or.inl ⟨by rfl, ?y17⟩) (rw) ?r17
        case y17 =>
          intro w_ hS_
          go_simp
          try with_reducible rfl
        simp only [Act.put, List.getElem_toArray, List.getElem_cons_succ, List.getElem_cons_zero, List.setIfInBounds_toArray, List.set_cons_succ, List.set_cons_zero]
        refine wpAnyH_done (by kernel_rfl) ?_ _
        refine NoPanic.normal ?_
        exact hT_ g18 q22 ⟨rp0, rp1, rw, hw, f4⟩
    · refine e_world_op (.pointer (some ⟨wd.heap.size, 0, none⟩)) (wd.alloc (.cells #[.int .u64 0, .int .u64 0, .int .u64 0, .int .u64 0, .int .u64 0] 26)) (by kernel_rfl) ?_
      have hb_ : Below wd.heap.size wd (wd.alloc (.cells #[.int .u64 0, .int .u64 0, .int .u64 0, .int .u64 0, .int .u64 0] 26)) := (Below.refl _ _).alloc (Nat.le_refl _) _
      have sz_g24 : w.heap.size ≤ wd.heap.size := hw.size
      have lt_rp0_g24 := lt_of_row rp0
      have lt_rp1_g24 := lt_of_row rp1
      have lt_rw_g24 := lt_of_row rw
      have rA := hp1_0 wd (.cells #[.int .u64 0, .int .u64 0, .int .u64 0, .int .u64 0, .int .u64 0] 26)
      replace rp0 := keep hb_ rp0
      replace rp1 := keep hb_ rp1
      replace rw := keep hb_ rw
      replace f4 := f4.below hb_
      replace hw := Below.after hw hb_
      clear hb_
      refine hK_ _ _ (rw) ?_
      simp only [Act.put, List.getElem_toArray, List.getElem_cons_succ, List.getElem_cons_zero, List.setIfInBounds_toArray, List.set_cons_succ, List.set_cons_zero]
      clear hK_
      generalize wd.alloc (.cells #[.int .u64 0, .int .u64 0, .int .u64 0, .int .u64 0, .int .u64 0] 26) = q23 at *
      generalize wd.heap.size = g24 at *
      refine eH_one (k := 1) (fuel := 8) (by kernel_rfl) rfl (by kernel_rfl) (fun K_ hK_ => ?_)
      refine wp_call_ex (f := 17) (by kernel_rfl) (ex1e (cSm.at _)) (fun v_ q25 hX_ => ?_)
      obtain ⟨rfl, hb_⟩ := hX_
      replace rp0 := keep hb_ rp0
      replace rp1 := keep hb_ rp1
      replace rw := keep hb_ rw
      replace rA := keep hb_ rA
      replace f4 := f4.below hb_
      replace hw := Below.after hw hb_
      clear hb_
      refine hK_ _ _ (rw) ?_
      simp only [Act.put, List.getElem_toArray, List.getElem_cons_succ, List.getElem_cons_zero, List.setIfInBounds_toArray, List.set_cons_succ, List.set_cons_zero]
      clear hK_
      refine eH_one (k := 2) (fuel := 7) (by kernel_rfl) rfl (by kernel_rfl) (fun K_ hK_ => ?_)
      refine wp_call_ex (f := 32) (by kernel_rfl) (ex1e (cI.at _)) (fun v_ q26 hX_ => ?_)
      obtain ⟨rfl, hb_⟩ := hX_
      replace rp0 := keep hb_ rp0
      replace rp1 := keep hb_ rp1
      replace rw := keep hb_ rw
      replace rA := keep hb_ rA
      replace f4 := f4.below hb_
      replace hw := Below.after hw hb_
      clear hb_
      refine hK_ _ _ (rw) ?_
      simp only [Act.put, List.getElem_toArray, List.getElem_cons_succ, List.getElem_cons_zero, List.setIfInBounds_toArray, List.set_cons_succ, List.set_cons_zero]
      clear hK_
      refine eH_one (k := 3) (fuel := 6) (by kernel_rfl) rfl (by kernel_rfl) (fun K_ hK_ => ?_)
      refine wp_call_ex (f := 31) (by kernel_rfl) (ex1e (cM.at _)) (fun v_ q27 hX_ => ?_)
      obtain ⟨rfl, hb_⟩ := hX_
      replace rp0 := keep hb_ rp0
      replace rp1 := keep hb_ rp1
      replace rw := keep hb_ rw
      replace rA := keep hb_ rA
      replace f4 := f4.below hb_
      replace hw := Below.after hw hb_
      clear hb_
      refine hK_ _ _ (rw) ?_
      simp only [Act.put, List.getElem_toArray, List.getElem_cons_succ, List.getElem_cons_zero, List.setIfInBounds_toArray, List.set_cons_succ, List.set_cons_zero]
      clear hK_
      refine eH_one (k := 4) (fuel := 5) (by kernel_rfl) rfl (by kernel_rfl) (fun K_ hK_ => ?_)
      refine wp_call_ex (f := 30) (by kernel_rfl) (ex1e (cR2.at f4)) (fun v_ q28 hX_ => ?_)
      obtain ⟨rfl, hb_⟩ := hX_
      replace rp0 := keep hb_ rp0
      replace rp1 := keep hb_ rp1
      replace rw := keep hb_ rw
      replace rA := keep hb_ rA
      replace f4 := f4.below hb_
      replace hw := Below.after hw hb_
      clear hb_
      refine hK_ _ _ (rw) ?_
      simp only [Act.put, List.getElem_toArray, List.getElem_cons_succ, List.getElem_cons_zero, List.setIfInBounds_toArray, List.set_cons_succ, List.set_cons_zero]
      clear hK_
      refine wpAnyH_take (i := 5) (v := ?v18) rfl (by kernel_rfl) (by kernel_rfl) (by kernel_rfl) (fun _ _ _ h => h) (Or.inl ⟨by rfl, ?y18⟩) (rw) ?r18
      case y18 =>
        intro w_ hS_
        go_simp
        try with_reducible rfl
      simp only [Act.put, List.getElem_toArray, List.getElem_cons_succ, List.getElem_cons_zero, List.setIfInBounds_toArray, List.set_cons_succ, List.set_cons_zero]
      refine wpAnyH_take (i := 6) (v := ?v19) rfl (by kernel_rfl) (by kernel_rfl) (by kernel_rfl) (fun _ _ _ h => h) (Or.inl ⟨by rfl, ?y19⟩) (rw) ?r19
      case y19 =>
        intro w_ hS_
        go_simp
        try with_reducible rfl
      simp only [Act.put, List.getElem_toArray, List.getElem_cons_succ, List.getElem_cons_zero, List.setIfInBounds_toArray, List.set_cons_succ, List.set_cons_zero]
      refine wpAnyH_take (i := 7) (v := ?v20) rfl (by kernel_rfl) (by kernel_rfl) (by kernel_rfl) (fun _ _ _ h => h) (Or.inl ⟨by rfl, ?y20⟩) (rw) ?r20
      case y20 =>
        intro w_ hS_
        go_simp
        try with_reducible rfl
      simp only [Act.put, List.getElem_toArray, List.getElem_cons_succ, List.getElem_cons_zero, List.setIfInBounds_toArray, List.set_cons_succ, List.set_cons_zero]
      refine eH_one (k := 9) (fuel := 1) (by kernel_rfl) rfl (by kernel_rfl) (fun K_ hK_ => ?_)
      refine wp_store_row 26 _ _ rfl (g24) s2 rfl rfl 26 _ rA hs2.info (hs2.fits rfl) hs2.one ?_
      replace rp0 := (setRow_other q28 (g24) (w.heap.size) s2 (by omega)).trans rp0
      replace rp1 := (setRow_other q28 (g24) (w.heap.size + 1) s2 (by omega)).trans rp1
      replace rw := (setRow_other q28 (g24) (gw) s2 (by omega)).trans rw
      replace hw := below_setRow hw (show w.heap.size ≤ g24 by omega) s2
      replace f4 := f4.setRow (show 1 < g24 by omega) s2
      clear rA
      refine hK_ _ _ (rw) ?_
      simp only [Act.put]
      clear hK_
      generalize q28.setRow (g24) s2 = q29 at *
      refine wpAnyH_take (i := 10) (v := ?v21) rfl (by kernel_rfl) (by kernel_rfl) (by kernel_rfl) (fun _ _ _ h => h) (Or.inl ⟨by rfl, ?y21⟩) (rw) ?r21
      case y21 =>
        intro w_ hS_
        go_simp
        try with_reducible rfl
      simp only [Act.put, List.getElem_toArray, List.getElem_cons_succ, List.getElem_cons_zero, List.setIfInBounds_toArray, List.set_cons_succ, List.set_cons_zero]
      refine wpAnyH_done (by kernel_rfl) ?_ _
      refine NoPanic.normal ?_
      exact hT_ g24 q29 ⟨rp0, rp1, rw, hw, f4⟩
  clear rp0 rp1 rw hw f4
  intro g_ wt hW_
  obtain ⟨rp0, rp1, rw, hw, f4⟩ := id hW_
  clear hW_
  rcases hHZ with rfl | rfl
  · cases O
    · cases H
      · go_wp2_with (first | (refine wpList_load_want rfl 34 _ rfl (w.heap.size) rfl 34 k (0, 0) _ rp0 Tryd.underlying34 rfl hk.info ?_) | (refine wpList_load_want rfl 34 _ rfl (w.heap.size + 1) rfl 34 u (0, 0) _ rp1 Tryd.underlying34 rfl hu.info ?_) | (refine wpList_load_want rfl 26 _ rfl (gw) rfl 26 wr (0, 0) _ rw Tryd.underlying26 rfl hwr.info ?_) | fail)
        refine (cO.at f4).mono ?_
        rintro e_ v11 ⟨rfl, hb⟩
        replace rp0 := keep hb rp0
        replace rp1 := keep hb rp1
        replace rw := keep hb rw
        replace hw := Below.after hw hb
        replace f4 := f4.below hb
        clear hb
        go_wp2_with (first | (refine wpList_load_want rfl 34 _ rfl (w.heap.size) rfl 34 k (0, 0) _ rp0 Tryd.underlying34 rfl hk.info ?_) | (refine wpList_load_want rfl 34 _ rfl (w.heap.size + 1) rfl 34 u (0, 0) _ rp1 Tryd.underlying34 rfl hu.info ?_) | (refine wpList_load_want rfl 26 _ rfl (gw) rfl 26 wr (0, 0) _ rw Tryd.underlying26 rfl hwr.info ?_) | fail)
        refine (cZ.at _).mono ?_
        rintro e_ v12 ⟨rfl, hb⟩
        replace rp0 := keep hb rp0
        replace rp1 := keep hb rp1
        replace rw := keep hb rw
        replace hw := Below.after hw hb
        replace f4 := f4.below hb
        clear hb
        go_wp2_with (first | (refine wpList_load_want rfl 34 _ rfl (w.heap.size) rfl 34 k (0, 0) _ rp0 Tryd.underlying34 rfl hk.info ?_) | (refine wpList_load_want rfl 34 _ rfl (w.heap.size + 1) rfl 34 u (0, 0) _ rp1 Tryd.underlying34 rfl hu.info ?_) | (refine wpList_load_want rfl 26 _ rfl (gw) rfl 26 wr (0, 0) _ rw Tryd.underlying26 rfl hwr.info ?_) | fail)
        refine (cS.at f4.1).mono ?_
        rintro e_ v13 ⟨rfl, hb⟩
        replace rp0 := keep hb rp0
        replace rp1 := keep hb rp1
        replace rw := keep hb rw
        replace hw := Below.after hw hb
        replace f4 := f4.below hb
        clear hb
        go_wp2_with (first | (refine wpList_store_row rfl 34 _ _ rfl (v13.heap.size) ky rfl rfl 34 #[.int .u8 0, .int .u8 0, .int .u8 0, .int .u8 0, .int .u8 0, .int .u8 0, .int .u8 0, .int .u8 0, .int .u8 0, .int .u8 0, .int .u8 0, .int .u8 0, .int .u8 0, .int .u8 0, .int .u8 0, .int .u8 0, .int .u8 0, .int .u8 0, .int .u8 0, .int .u8 0, .int .u8 0, .int .u8 0, .int .u8 0, .int .u8 0, .int .u8 0, .int .u8 0, .int .u8 0, .int .u8 0, .int .u8 0, .int .u8 0, .int .u8 0, .int .u8 0] (hp1_0 v13 _) hY.info (key_zero.size.trans hY.size.symm) hY.one ?_; rw [setRow_alloc_new _ _ _ _ _ _ (by simp)]) | fail | fail)
        have rx : (v13.alloc (.cells ky 34)).heap[v13.heap.size]? = some (.cells ky 34 (0, 0)) := hp1_0 v13 _
        have hb : Below v13.heap.size v13 (v13.alloc (.cells ky 34)) := (Below.refl _ _).alloc (Nat.le_refl _) _
        generalize (v13.alloc (.cells ky 34)) = v14 at *
        have ygx_rp0 := lt_of_row rp0
        have ygx_rp1 := lt_of_row rp1
        have ygx_rw := lt_of_row rw
        have ygx := hw.size
        replace rp0 := keep hb rp0
        replace rp1 := keep hb rp1
        replace rw := keep hb rw
        replace hw := Below.after hw hb
        replace f4 := f4.below hb
        clear hb
        generalize v13.heap.size = gx at *
        try simp only [Act.put]
        by_cases h0 : Y = 0
        · rw [decide_eq_true h0] at heq
          clear h0 hside
          have Hrx := keepr rx
          have Hrp1 := keepr rp1
          refine wp_region_quiet_below (by kernel_rfl) (by kernel_rfl) ?_
          refine wpQuiet_load_want rfl 34 _ rfl (gx) rfl 34 ky (0, 0) _ Hrx.out Tryd.underlying34 rfl hY.info ?_
          simp only [Act.put, List.setIfInBounds_toArray, List.set_cons_succ, List.set_cons_zero]
          refine wpQuiet_build rfl 34 _ rfl [] rfl #[.int .u8 0, .int .u8 0, .int .u8 0, .int .u8 0, .int .u8 0, .int .u8 0, .int .u8 0, .int .u8 0, .int .u8 0, .int .u8 0, .int .u8 0, .int .u8 0, .int .u8 0, .int .u8 0, .int .u8 0, .int .u8 0, .int .u8 0, .int .u8 0, .int .u8 0, .int .u8 0, .int .u8 0, .int .u8 0, .int .u8 0, .int .u8 0, .int .u8 0, .int .u8 0, .int .u8 0, .int .u8 0, .int .u8 0, .int .u8 0, .int .u8 0, .int .u8 0] built0 ?_
          simp only [Act.put, List.setIfInBounds_toArray, List.set_cons_succ, List.set_cons_zero]
          go_big_quiet_step (fail)
          go_big_quiet_step (fail)
          go_big_quiet_step (fail)
          go_big_quiet_step (fail)
          go_big_quiet_step (fail)
          go_big_quiet_step (fail)
          go_big_quiet_step (fail)
          go_big_quiet_step (fail)
          go_big_quiet_step (fail)
          refine wpQuiet_nil ?_
          rintro _ ⟨p, rfl⟩
          have hb := below_regrown v14 p.d p.os
          generalize grow (redrawn v14 p.d) p.os = wz at *
          replace hw := Below.after hw hb
          clear hb
          go_wp2
          go_ret
          exact ⟨by simp, hw⟩
        · rw [decide_eq_false h0] at heq
          obtain rfl := hside.resolve_left h0
          clear h0 hside
          have Hrx := keepr rx
          have Hrp1 := keepr rp1
          refine wp_region_quiet_below (by kernel_rfl) (by kernel_rfl) ?_
          refine wpQuiet_load_want rfl 34 _ rfl (gx) rfl 34 ky (0, 0) _ Hrx.out Tryd.underlying34 rfl hY.info ?_
          simp only [Act.put, List.setIfInBounds_toArray, List.set_cons_succ, List.set_cons_zero]
          refine wpQuiet_build rfl 34 _ rfl [] rfl #[.int .u8 0, .int .u8 0, .int .u8 0, .int .u8 0, .int .u8 0, .int .u8 0, .int .u8 0, .int .u8 0, .int .u8 0, .int .u8 0, .int .u8 0, .int .u8 0, .int .u8 0, .int .u8 0, .int .u8 0, .int .u8 0, .int .u8 0, .int .u8 0, .int .u8 0, .int .u8 0, .int .u8 0, .int .u8 0, .int .u8 0, .int .u8 0, .int .u8 0, .int .u8 0, .int .u8 0, .int .u8 0, .int .u8 0, .int .u8 0, .int .u8 0, .int .u8 0] built0 ?_
          simp only [Act.put, List.setIfInBounds_toArray, List.set_cons_succ, List.set_cons_zero]
          go_big_quiet_step (fail)
          go_big_quiet_step (fail)
          refine wpQuiet_load_want rfl 34 _ rfl (gx) rfl 34 ky (0, 0) _ Hrx.out Tryd.underlying34 rfl hY.info ?_
          simp only [Act.put, List.setIfInBounds_toArray, List.set_cons_succ, List.set_cons_zero]
          go_big_quiet_step (exact cOS.re f4)
          refine wpQuiet_load_want rfl 34 _ rfl (w.heap.size + 1) rfl 34 u (0, 0) _ Hrp1.out Tryd.underlying34 rfl hu.info ?_
          simp only [Act.put, List.setIfInBounds_toArray, List.set_cons_succ, List.set_cons_zero]
          go_big_quiet_step (exact cO.re f4)
          go_big_quiet_step (fail)
          go_big_quiet_step (fail)
          go_big_quiet_step (fail)
          refine wpQuiet_nil ?_
          rintro _ ⟨p, rfl⟩
          have hb := below_regrown v14 p.d p.os
          generalize grow (redrawn v14 p.d) p.os = wz at *
          replace hw := Below.after hw hb
          clear hb
          go_wp2
          go_ret
          exact ⟨by simp, hw⟩
      · go_wp2_with (first | (refine wpList_load_want rfl 34 _ rfl (w.heap.size) rfl 34 k (0, 0) _ rp0 Tryd.underlying34 rfl hk.info ?_) | (refine wpList_load_want rfl 34 _ rfl (w.heap.size + 1) rfl 34 u (0, 0) _ rp1 Tryd.underlying34 rfl hu.info ?_) | (refine wpList_load_want rfl 26 _ rfl (gw) rfl 26 wr (0, 0) _ rw Tryd.underlying26 rfl hwr.info ?_) | fail)
        refine (cO.at f4).mono ?_
        rintro e_ v15 ⟨rfl, hb⟩
        replace rp0 := keep hb rp0
        replace rp1 := keep hb rp1
        replace rw := keep hb rw
        replace hw := Below.after hw hb
        replace f4 := f4.below hb
        clear hb
        go_wp2_with (first | (refine wpList_load_want rfl 34 _ rfl (w.heap.size) rfl 34 k (0, 0) _ rp0 Tryd.underlying34 rfl hk.info ?_) | (refine wpList_load_want rfl 34 _ rfl (w.heap.size + 1) rfl 34 u (0, 0) _ rp1 Tryd.underlying34 rfl hu.info ?_) | (refine wpList_load_want rfl 26 _ rfl (gw) rfl 26 wr (0, 0) _ rw Tryd.underlying26 rfl hwr.info ?_) | fail)
        refine (cS.at f4.1).mono ?_
        rintro e_ v16 ⟨rfl, hb⟩
        replace rp0 := keep hb rp0
        replace rp1 := keep hb rp1
        replace rw := keep hb rw
        replace hw := Below.after hw hb
        replace f4 := f4.below hb
        clear hb
        go_wp2_with (first | (refine wpList_store_row rfl 34 _ _ rfl (v16.heap.size) ky rfl rfl 34 #[.int .u8 0, .int .u8 0, .int .u8 0, .int .u8 0, .int .u8 0, .int .u8 0, .int .u8 0, .int .u8 0, .int .u8 0, .int .u8 0, .int .u8 0, .int .u8 0, .int .u8 0, .int .u8 0, .int .u8 0, .int .u8 0, .int .u8 0, .int .u8 0, .int .u8 0, .int .u8 0, .int .u8 0, .int .u8 0, .int .u8 0, .int .u8 0, .int .u8 0, .int .u8 0, .int .u8 0, .int .u8 0, .int .u8 0, .int .u8 0, .int .u8 0, .int .u8 0] (hp1_0 v16 _) hY.info (key_zero.size.trans hY.size.symm) hY.one ?_; rw [setRow_alloc_new _ _ _ _ _ _ (by simp)]) | fail | fail)
        have rx : (v16.alloc (.cells ky 34)).heap[v16.heap.size]? = some (.cells ky 34 (0, 0)) := hp1_0 v16 _
        have hb : Below v16.heap.size v16 (v16.alloc (.cells ky 34)) := (Below.refl _ _).alloc (Nat.le_refl _) _
        generalize (v16.alloc (.cells ky 34)) = v17 at *
        have ygx_rp0 := lt_of_row rp0
        have ygx_rp1 := lt_of_row rp1
        have ygx_rw := lt_of_row rw
        have ygx := hw.size
        replace rp0 := keep hb rp0
        replace rp1 := keep hb rp1
        replace rw := keep hb rw
        replace hw := Below.after hw hb
        replace f4 := f4.below hb
        clear hb
        generalize v16.heap.size = gx at *
        try simp only [Act.put]
        by_cases h0 : Y = 0
        · rw [decide_eq_true h0] at heq
          clear h0 hside
          have Hrx := keepr rx
          have Hrp1 := keepr rp1
          refine wp_region_quiet_below (by kernel_rfl) (by kernel_rfl) ?_
          refine wpQuiet_load_want rfl 34 _ rfl (gx) rfl 34 ky (0, 0) _ Hrx.out Tryd.underlying34 rfl hY.info ?_
          simp only [Act.put, List.setIfInBounds_toArray, List.set_cons_succ, List.set_cons_zero]
          refine wpQuiet_build rfl 34 _ rfl [] rfl #[.int .u8 0, .int .u8 0, .int .u8 0, .int .u8 0, .int .u8 0, .int .u8 0, .int .u8 0, .int .u8 0, .int .u8 0, .int .u8 0, .int .u8 0, .int .u8 0, .int .u8 0, .int .u8 0, .int .u8 0, .int .u8 0, .int .u8 0, .int .u8 0, .int .u8 0, .int .u8 0, .int .u8 0, .int .u8 0, .int .u8 0, .int .u8 0, .int .u8 0, .int .u8 0, .int .u8 0, .int .u8 0, .int .u8 0, .int .u8 0, .int .u8 0, .int .u8 0] built0 ?_
          simp only [Act.put, List.setIfInBounds_toArray, List.set_cons_succ, List.set_cons_zero]
          go_big_quiet_step (fail)
          go_big_quiet_step (fail)
          go_big_quiet_step (fail)
          go_big_quiet_step (fail)
          go_big_quiet_step (fail)
          go_big_quiet_step (fail)
          go_big_quiet_step (fail)
          go_big_quiet_step (fail)
          go_big_quiet_step (fail)
          refine wpQuiet_nil ?_
          rintro _ ⟨p, rfl⟩
          have hb := below_regrown v17 p.d p.os
          generalize grow (redrawn v17 p.d) p.os = wz at *
          replace hw := Below.after hw hb
          clear hb
          go_wp2
          go_ret
          exact ⟨by simp, hw⟩
        · rw [decide_eq_false h0] at heq
          obtain rfl := hside.resolve_left h0
          clear h0 hside
          have Hrx := keepr rx
          have Hrp1 := keepr rp1
          refine wp_region_quiet_below (by kernel_rfl) (by kernel_rfl) ?_
          refine wpQuiet_load_want rfl 34 _ rfl (gx) rfl 34 ky (0, 0) _ Hrx.out Tryd.underlying34 rfl hY.info ?_
          simp only [Act.put, List.setIfInBounds_toArray, List.set_cons_succ, List.set_cons_zero]
          refine wpQuiet_build rfl 34 _ rfl [] rfl #[.int .u8 0, .int .u8 0, .int .u8 0, .int .u8 0, .int .u8 0, .int .u8 0, .int .u8 0, .int .u8 0, .int .u8 0, .int .u8 0, .int .u8 0, .int .u8 0, .int .u8 0, .int .u8 0, .int .u8 0, .int .u8 0, .int .u8 0, .int .u8 0, .int .u8 0, .int .u8 0, .int .u8 0, .int .u8 0, .int .u8 0, .int .u8 0, .int .u8 0, .int .u8 0, .int .u8 0, .int .u8 0, .int .u8 0, .int .u8 0, .int .u8 0, .int .u8 0] built0 ?_
          simp only [Act.put, List.setIfInBounds_toArray, List.set_cons_succ, List.set_cons_zero]
          go_big_quiet_step (fail)
          go_big_quiet_step (fail)
          refine wpQuiet_load_want rfl 34 _ rfl (gx) rfl 34 ky (0, 0) _ Hrx.out Tryd.underlying34 rfl hY.info ?_
          simp only [Act.put, List.setIfInBounds_toArray, List.set_cons_succ, List.set_cons_zero]
          go_big_quiet_step (exact cOS.re f4)
          refine wpQuiet_load_want rfl 34 _ rfl (w.heap.size + 1) rfl 34 u (0, 0) _ Hrp1.out Tryd.underlying34 rfl hu.info ?_
          simp only [Act.put, List.setIfInBounds_toArray, List.set_cons_succ, List.set_cons_zero]
          go_big_quiet_step (exact cO.re f4)
          go_big_quiet_step (fail)
          go_big_quiet_step (fail)
          go_big_quiet_step (fail)
          refine wpQuiet_nil ?_
          rintro _ ⟨p, rfl⟩
          have hb := below_regrown v17 p.d p.os
          generalize grow (redrawn v17 p.d) p.os = wz at *
          replace hw := Below.after hw hb
          clear hb
          go_wp2
          go_ret
          exact ⟨by simp, hw⟩
    · cases H
      · go_wp2_with (first | (refine wpList_load_want rfl 34 _ rfl (w.heap.size) rfl 34 k (0, 0) _ rp0 Tryd.underlying34 rfl hk.info ?_) | (refine wpList_load_want rfl 34 _ rfl (w.heap.size + 1) rfl 34 u (0, 0) _ rp1 Tryd.underlying34 rfl hu.info ?_) | (refine wpList_load_want rfl 26 _ rfl (gw) rfl 26 wr (0, 0) _ rw Tryd.underlying26 rfl hwr.info ?_) | fail)
        refine (cO.at f4).mono ?_
        rintro e_ v18 ⟨rfl, hb⟩
        replace rp0 := keep hb rp0
        replace rp1 := keep hb rp1
        replace rw := keep hb rw
        replace hw := Below.after hw hb
        replace f4 := f4.below hb
        clear hb
        go_wp2_with (first | (refine wpList_load_want rfl 34 _ rfl (w.heap.size) rfl 34 k (0, 0) _ rp0 Tryd.underlying34 rfl hk.info ?_) | (refine wpList_load_want rfl 34 _ rfl (w.heap.size + 1) rfl 34 u (0, 0) _ rp1 Tryd.underlying34 rfl hu.info ?_) | (refine wpList_load_want rfl 26 _ rfl (gw) rfl 26 wr (0, 0) _ rw Tryd.underlying26 rfl hwr.info ?_) | fail)
        refine (cS.at f4.1).mono ?_
        rintro e_ v19 ⟨rfl, hb⟩
        replace rp0 := keep hb rp0
        replace rp1 := keep hb rp1
        replace rw := keep hb rw
        replace hw := Below.after hw hb
        replace f4 := f4.below hb
        clear hb
        go_wp2_with (first | (refine wpList_store_row rfl 34 _ _ rfl (v19.heap.size) ky rfl rfl 34 #[.int .u8 0, .int .u8 0, .int .u8 0, .int .u8 0, .int .u8 0, .int .u8 0, .int .u8 0, .int .u8 0, .int .u8 0, .int .u8 0, .int .u8 0, .int .u8 0, .int .u8 0, .int .u8 0, .int .u8 0, .int .u8 0, .int .u8 0, .int .u8 0, .int .u8 0, .int .u8 0, .int .u8 0, .int .u8 0, .int .u8 0, .int .u8 0, .int .u8 0, .int .u8 0, .int .u8 0, .int .u8 0, .int .u8 0, .int .u8 0, .int .u8 0, .int .u8 0] (hp1_0 v19 _) hY.info (key_zero.size.trans hY.size.symm) hY.one ?_; rw [setRow_alloc_new _ _ _ _ _ _ (by simp)]) | fail | fail)
        have rx : (v19.alloc (.cells ky 34)).heap[v19.heap.size]? = some (.cells ky 34 (0, 0)) := hp1_0 v19 _
        have hb : Below v19.heap.size v19 (v19.alloc (.cells ky 34)) := (Below.refl _ _).alloc (Nat.le_refl _) _
        generalize (v19.alloc (.cells ky 34)) = v20 at *
        have ygx_rp0 := lt_of_row rp0
        have ygx_rp1 := lt_of_row rp1
        have ygx_rw := lt_of_row rw
        have ygx := hw.size
        replace rp0 := keep hb rp0
        replace rp1 := keep hb rp1
        replace rw := keep hb rw
        replace hw := Below.after hw hb
        replace f4 := f4.below hb
        clear hb
        generalize v19.heap.size = gx at *
        try simp only [Act.put]
        by_cases h0 : Y = 0
        · rw [decide_eq_true h0] at heq
          clear h0 hside
          have Hrx := keepr rx
          have Hrp1 := keepr rp1
          refine wp_region_quiet_below (by kernel_rfl) (by kernel_rfl) ?_
          refine wpQuiet_load_want rfl 34 _ rfl (gx) rfl 34 ky (0, 0) _ Hrx.out Tryd.underlying34 rfl hY.info ?_
          simp only [Act.put, List.setIfInBounds_toArray, List.set_cons_succ, List.set_cons_zero]
          refine wpQuiet_build rfl 34 _ rfl [] rfl #[.int .u8 0, .int .u8 0, .int .u8 0, .int .u8 0, .int .u8 0, .int .u8 0, .int .u8 0, .int .u8 0, .int .u8 0, .int .u8 0, .int .u8 0, .int .u8 0, .int .u8 0, .int .u8 0, .int .u8 0, .int .u8 0, .int .u8 0, .int .u8 0, .int .u8 0, .int .u8 0, .int .u8 0, .int .u8 0, .int .u8 0, .int .u8 0, .int .u8 0, .int .u8 0, .int .u8 0, .int .u8 0, .int .u8 0, .int .u8 0, .int .u8 0, .int .u8 0] built0 ?_
          simp only [Act.put, List.setIfInBounds_toArray, List.set_cons_succ, List.set_cons_zero]
          go_big_quiet_step (fail)
          go_big_quiet_step (fail)
          go_big_quiet_step (fail)
          go_big_quiet_step (fail)
          go_big_quiet_step (fail)
          go_big_quiet_step (fail)
          go_big_quiet_step (fail)
          go_big_quiet_step (fail)
          go_big_quiet_step (fail)
          refine wpQuiet_nil ?_
          rintro _ ⟨p, rfl⟩
          have hb := below_regrown v20 p.d p.os
          generalize grow (redrawn v20 p.d) p.os = wz at *
          replace hw := Below.after hw hb
          clear hb
          go_wp2
          go_ret
          exact ⟨by simp, hw⟩
        · rw [decide_eq_false h0] at heq
          obtain rfl := hside.resolve_left h0
          clear h0 hside
          have Hrx := keepr rx
          have Hrp1 := keepr rp1
          refine wp_region_quiet_below (by kernel_rfl) (by kernel_rfl) ?_
          refine wpQuiet_load_want rfl 34 _ rfl (gx) rfl 34 ky (0, 0) _ Hrx.out Tryd.underlying34 rfl hY.info ?_
          simp only [Act.put, List.setIfInBounds_toArray, List.set_cons_succ, List.set_cons_zero]
          refine wpQuiet_build rfl 34 _ rfl [] rfl #[.int .u8 0, .int .u8 0, .int .u8 0, .int .u8 0, .int .u8 0, .int .u8 0, .int .u8 0, .int .u8 0, .int .u8 0, .int .u8 0, .int .u8 0, .int .u8 0, .int .u8 0, .int .u8 0, .int .u8 0, .int .u8 0, .int .u8 0, .int .u8 0, .int .u8 0, .int .u8 0, .int .u8 0, .int .u8 0, .int .u8 0, .int .u8 0, .int .u8 0, .int .u8 0, .int .u8 0, .int .u8 0, .int .u8 0, .int .u8 0, .int .u8 0, .int .u8 0] built0 ?_
          simp only [Act.put, List.setIfInBounds_toArray, List.set_cons_succ, List.set_cons_zero]
          go_big_quiet_step (fail)
          go_big_quiet_step (fail)
          refine wpQuiet_load_want rfl 34 _ rfl (gx) rfl 34 ky (0, 0) _ Hrx.out Tryd.underlying34 rfl hY.info ?_
          simp only [Act.put, List.setIfInBounds_toArray, List.set_cons_succ, List.set_cons_zero]
          go_big_quiet_step (exact cOS.re f4)
          refine wpQuiet_load_want rfl 34 _ rfl (w.heap.size + 1) rfl 34 u (0, 0) _ Hrp1.out Tryd.underlying34 rfl hu.info ?_
          simp only [Act.put, List.setIfInBounds_toArray, List.set_cons_succ, List.set_cons_zero]
          go_big_quiet_step (exact cO.re f4)
          go_big_quiet_step (fail)
          go_big_quiet_step (fail)
          go_big_quiet_step (fail)
          refine wpQuiet_nil ?_
          rintro _ ⟨p, rfl⟩
          have hb := below_regrown v20 p.d p.os
          generalize grow (redrawn v20 p.d) p.os = wz at *
          replace hw := Below.after hw hb
          clear hb
          go_wp2
          go_ret
          exact ⟨by simp, hw⟩
      · go_wp2_with (first | (refine wpList_load_want rfl 34 _ rfl (w.heap.size) rfl 34 k (0, 0) _ rp0 Tryd.underlying34 rfl hk.info ?_) | (refine wpList_load_want rfl 34 _ rfl (w.heap.size + 1) rfl 34 u (0, 0) _ rp1 Tryd.underlying34 rfl hu.info ?_) | (refine wpList_load_want rfl 26 _ rfl (gw) rfl 26 wr (0, 0) _ rw Tryd.underlying26 rfl hwr.info ?_) | fail)
        refine (cO.at f4).mono ?_
        rintro e_ v21 ⟨rfl, hb⟩
        replace rp0 := keep hb rp0
        replace rp1 := keep hb rp1
        replace rw := keep hb rw
        replace hw := Below.after hw hb
        replace f4 := f4.below hb
        clear hb
        go_wp2_with (first | (refine wpList_load_want rfl 34 _ rfl (w.heap.size) rfl 34 k (0, 0) _ rp0 Tryd.underlying34 rfl hk.info ?_) | (refine wpList_load_want rfl 34 _ rfl (w.heap.size + 1) rfl 34 u (0, 0) _ rp1 Tryd.underlying34 rfl hu.info ?_) | (refine wpList_load_want rfl 26 _ rfl (gw) rfl 26 wr (0, 0) _ rw Tryd.underlying26 rfl hwr.info ?_) | fail)
        refine (cZ.at _).mono ?_
        rintro e_ v22 ⟨rfl, hb⟩
        replace rp0 := keep hb rp0
        replace rp1 := keep hb rp1
        replace rw := keep hb rw
        replace hw := Below.after hw hb
        replace f4 := f4.below hb
        clear hb
        go_wp2_with (first | (refine wpList_load_want rfl 34 _ rfl (w.heap.size) rfl 34 k (0, 0) _ rp0 Tryd.underlying34 rfl hk.info ?_) | (refine wpList_load_want rfl 34 _ rfl (w.heap.size + 1) rfl 34 u (0, 0) _ rp1 Tryd.underlying34 rfl hu.info ?_) | (refine wpList_load_want rfl 26 _ rfl (gw) rfl 26 wr (0, 0) _ rw Tryd.underlying26 rfl hwr.info ?_) | fail)
        refine (cS.at f4.1).mono ?_
        rintro e_ v23 ⟨rfl, hb⟩
        replace rp0 := keep hb rp0
        replace rp1 := keep hb rp1
        replace rw := keep hb rw
        replace hw := Below.after hw hb
        replace f4 := f4.below hb
        clear hb
        go_wp2_with (first | (refine wpList_store_row rfl 34 _ _ rfl (v23.heap.size) ky rfl rfl 34 #[.int .u8 0, .int .u8 0, .int .u8 0, .int .u8 0, .int .u8 0, .int .u8 0, .int .u8 0, .int .u8 0, .int .u8 0, .int .u8 0, .int .u8 0, .int .u8 0, .int .u8 0, .int .u8 0, .int .u8 0, .int .u8 0, .int .u8 0, .int .u8 0, .int .u8 0, .int .u8 0, .int .u8 0, .int .u8 0, .int .u8 0, .int .u8 0, .int .u8 0, .int .u8 0, .int .u8 0, .int .u8 0, .int .u8 0, .int .u8 0, .int .u8 0, .int .u8 0] (hp1_0 v23 _) hY.info (key_zero.size.trans hY.size.symm) hY.one ?_; rw [setRow_alloc_new _ _ _ _ _ _ (by simp)]) | fail | fail)
        have rx : (v23.alloc (.cells ky 34)).heap[v23.heap.size]? = some (.cells ky 34 (0, 0)) := hp1_0 v23 _
        have hb : Below v23.heap.size v23 (v23.alloc (.cells ky 34)) := (Below.refl _ _).alloc (Nat.le_refl _) _
        generalize (v23.alloc (.cells ky 34)) = v24 at *
        have ygx_rp0 := lt_of_row rp0
        have ygx_rp1 := lt_of_row rp1
        have ygx_rw := lt_of_row rw
        have ygx := hw.size
        replace rp0 := keep hb rp0
        replace rp1 := keep hb rp1
        replace rw := keep hb rw
        replace hw := Below.after hw hb
        replace f4 := f4.below hb
        clear hb
        generalize v23.heap.size = gx at *
        try simp only [Act.put]
        by_cases h0 : Y = 0
        · rw [decide_eq_true h0] at heq
          clear h0 hside
          have Hrx := keepr rx
          have Hrp1 := keepr rp1
          refine wp_region_quiet_below (by kernel_rfl) (by kernel_rfl) ?_
          refine wpQuiet_load_want rfl 34 _ rfl (gx) rfl 34 ky (0, 0) _ Hrx.out Tryd.underlying34 rfl hY.info ?_
          simp only [Act.put, List.setIfInBounds_toArray, List.set_cons_succ, List.set_cons_zero]
          refine wpQuiet_build rfl 34 _ rfl [] rfl #[.int .u8 0, .int .u8 0, .int .u8 0, .int .u8 0, .int .u8 0, .int .u8 0, .int .u8 0, .int .u8 0, .int .u8 0, .int .u8 0, .int .u8 0, .int .u8 0, .int .u8 0, .int .u8 0, .int .u8 0, .int .u8 0, .int .u8 0, .int .u8 0, .int .u8 0, .int .u8 0, .int .u8 0, .int .u8 0, .int .u8 0, .int .u8 0, .int .u8 0, .int .u8 0, .int .u8 0, .int .u8 0, .int .u8 0, .int .u8 0, .int .u8 0, .int .u8 0] built0 ?_
          simp only [Act.put, List.setIfInBounds_toArray, List.set_cons_succ, List.set_cons_zero]
          go_big_quiet_step (fail)
          go_big_quiet_step (fail)
          go_big_quiet_step (fail)
          go_big_quiet_step (fail)
          go_big_quiet_step (fail)
          go_big_quiet_step (fail)
          go_big_quiet_step (fail)
          go_big_quiet_step (fail)
          go_big_quiet_step (fail)
          refine wpQuiet_nil ?_
          rintro _ ⟨p, rfl⟩
          have hb := below_regrown v24 p.d p.os
          generalize grow (redrawn v24 p.d) p.os = wz at *
          replace hw := Below.after hw hb
          clear hb
          go_wp2
          go_ret
          exact ⟨by simp, hw⟩
        · rw [decide_eq_false h0] at heq
          obtain rfl := hside.resolve_left h0
          clear h0 hside
          have Hrx := keepr rx
          have Hrp1 := keepr rp1
          refine wp_region_quiet_below (by kernel_rfl) (by kernel_rfl) ?_
          refine wpQuiet_load_want rfl 34 _ rfl (gx) rfl 34 ky (0, 0) _ Hrx.out Tryd.underlying34 rfl hY.info ?_
          simp only [Act.put, List.setIfInBounds_toArray, List.set_cons_succ, List.set_cons_zero]
          refine wpQuiet_build rfl 34 _ rfl [] rfl #[.int .u8 0, .int .u8 0, .int .u8 0, .int .u8 0, .int .u8 0, .int .u8 0, .int .u8 0, .int .u8 0, .int .u8 0, .int .u8 0, .int .u8 0, .int .u8 0, .int .u8 0, .int .u8 0, .int .u8 0, .int .u8 0, .int .u8 0, .int .u8 0, .int .u8 0, .int .u8 0, .int .u8 0, .int .u8 0, .int .u8 0, .int .u8 0, .int .u8 0, .int .u8 0, .int .u8 0, .int .u8 0, .int .u8 0, .int .u8 0, .int .u8 0, .int .u8 0] built0 ?_
          simp only [Act.put, List.setIfInBounds_toArray, List.set_cons_succ, List.set_cons_zero]
          go_big_quiet_step (fail)
          go_big_quiet_step (fail)
          refine wpQuiet_load_want rfl 34 _ rfl (gx) rfl 34 ky (0, 0) _ Hrx.out Tryd.underlying34 rfl hY.info ?_
          simp only [Act.put, List.setIfInBounds_toArray, List.set_cons_succ, List.set_cons_zero]
          go_big_quiet_step (exact cOS.re f4)
          refine wpQuiet_load_want rfl 34 _ rfl (w.heap.size + 1) rfl 34 u (0, 0) _ Hrp1.out Tryd.underlying34 rfl hu.info ?_
          simp only [Act.put, List.setIfInBounds_toArray, List.set_cons_succ, List.set_cons_zero]
          go_big_quiet_step (exact cO.re f4)
          go_big_quiet_step (fail)
          go_big_quiet_step (fail)
          go_big_quiet_step (fail)
          refine wpQuiet_nil ?_
          rintro _ ⟨p, rfl⟩
          have hb := below_regrown v24 p.d p.os
          generalize grow (redrawn v24 p.d) p.os = wz at *
          replace hw := Below.after hw hb
          clear hb
          go_wp2
          go_ret
          exact ⟨by simp, hw⟩
  · cases O
    · go_wp2_with (first | (refine wpList_load_want rfl 34 _ rfl (w.heap.size) rfl 34 k (0, 0) _ rp0 Tryd.underlying34 rfl hk.info ?_) | (refine wpList_load_want rfl 34 _ rfl (w.heap.size + 1) rfl 34 u (0, 0) _ rp1 Tryd.underlying34 rfl hu.info ?_) | (refine wpList_load_want rfl 26 _ rfl (gw) rfl 26 wr (0, 0) _ rw Tryd.underlying26 rfl hwr.info ?_) | fail)
      refine (cO.at f4).mono ?_
      rintro e_ v25 ⟨rfl, hb⟩
      replace rp0 := keep hb rp0
      replace rp1 := keep hb rp1
      replace rw := keep hb rw
      replace hw := Below.after hw hb
      replace f4 := f4.below hb
      clear hb
      go_wp2_with (first | (refine wpList_load_want rfl 34 _ rfl (w.heap.size) rfl 34 k (0, 0) _ rp0 Tryd.underlying34 rfl hk.info ?_) | (refine wpList_load_want rfl 34 _ rfl (w.heap.size + 1) rfl 34 u (0, 0) _ rp1 Tryd.underlying34 rfl hu.info ?_) | (refine wpList_load_want rfl 26 _ rfl (gw) rfl 26 wr (0, 0) _ rw Tryd.underlying26 rfl hwr.info ?_) | fail)
      refine (cS.at f4.1).mono ?_
      rintro e_ v26 ⟨rfl, hb⟩
      replace rp0 := keep hb rp0
      replace rp1 := keep hb rp1
      replace rw := keep hb rw
      replace hw := Below.after hw hb
      replace f4 := f4.below hb
      clear hb
      go_wp2_with (first | (refine wpList_store_row rfl 34 _ _ rfl (v26.heap.size) ky rfl rfl 34 #[.int .u8 0, .int .u8 0, .int .u8 0, .int .u8 0, .int .u8 0, .int .u8 0, .int .u8 0, .int .u8 0, .int .u8 0, .int .u8 0, .int .u8 0, .int .u8 0, .int .u8 0, .int .u8 0, .int .u8 0, .int .u8 0, .int .u8 0, .int .u8 0, .int .u8 0, .int .u8 0, .int .u8 0, .int .u8 0, .int .u8 0, .int .u8 0, .int .u8 0, .int .u8 0, .int .u8 0, .int .u8 0, .int .u8 0, .int .u8 0, .int .u8 0, .int .u8 0] (hp1_0 v26 _) hY.info (key_zero.size.trans hY.size.symm) hY.one ?_; rw [setRow_alloc_new _ _ _ _ _ _ (by simp)]) | fail | fail)
      have rx : (v26.alloc (.cells ky 34)).heap[v26.heap.size]? = some (.cells ky 34 (0, 0)) := hp1_0 v26 _
      have hb : Below v26.heap.size v26 (v26.alloc (.cells ky 34)) := (Below.refl _ _).alloc (Nat.le_refl _) _
      generalize (v26.alloc (.cells ky 34)) = v27 at *
      have ygx_rp0 := lt_of_row rp0
      have ygx_rp1 := lt_of_row rp1
      have ygx_rw := lt_of_row rw
      have ygx := hw.size
      replace rp0 := keep hb rp0
      replace rp1 := keep hb rp1
      replace rw := keep hb rw
      replace hw := Below.after hw hb
      replace f4 := f4.below hb
      clear hb
      generalize v26.heap.size = gx at *
      try simp only [Act.put]
      by_cases h0 : Y = 0
      · rw [decide_eq_true h0] at heq
        clear h0 hside
        have Hrx := keepr rx
        have Hrp1 := keepr rp1
        refine wp_region_quiet_below (by kernel_rfl) (by kernel_rfl) ?_
        refine wpQuiet_load_want rfl 34 _ rfl (gx) rfl 34 ky (0, 0) _ Hrx.out Tryd.underlying34 rfl hY.info ?_
        simp only [Act.put, List.setIfInBounds_toArray, List.set_cons_succ, List.set_cons_zero]
        refine wpQuiet_build rfl 34 _ rfl [] rfl #[.int .u8 0, .int .u8 0, .int .u8 0, .int .u8 0, .int .u8 0, .int .u8 0, .int .u8 0, .int .u8 0, .int .u8 0, .int .u8 0, .int .u8 0, .int .u8 0, .int .u8 0, .int .u8 0, .int .u8 0, .int .u8 0, .int .u8 0, .int .u8 0, .int .u8 0, .int .u8 0, .int .u8 0, .int .u8 0, .int .u8 0, .int .u8 0, .int .u8 0, .int .u8 0, .int .u8 0, .int .u8 0, .int .u8 0, .int .u8 0, .int .u8 0, .int .u8 0] built0 ?_
        simp only [Act.put, List.setIfInBounds_toArray, List.set_cons_succ, List.set_cons_zero]
        go_big_quiet_step (fail)
        go_big_quiet_step (fail)
        go_big_quiet_step (fail)
        go_big_quiet_step (fail)
        go_big_quiet_step (fail)
        go_big_quiet_step (fail)
        go_big_quiet_step (fail)
        go_big_quiet_step (fail)
        go_big_quiet_step (fail)
        refine wpQuiet_nil ?_
        rintro _ ⟨p, rfl⟩
        have hb := below_regrown v27 p.d p.os
        generalize grow (redrawn v27 p.d) p.os = wz at *
        replace hw := Below.after hw hb
        clear hb
        go_wp2
        go_ret
        exact ⟨by simp, hw⟩
      · rw [decide_eq_false h0] at heq
        obtain rfl := hside.resolve_left h0
        clear h0 hside
        have Hrx := keepr rx
        have Hrp1 := keepr rp1
        refine wp_region_quiet_below (by kernel_rfl) (by kernel_rfl) ?_
        refine wpQuiet_load_want rfl 34 _ rfl (gx) rfl 34 ky (0, 0) _ Hrx.out Tryd.underlying34 rfl hY.info ?_
        simp only [Act.put, List.setIfInBounds_toArray, List.set_cons_succ, List.set_cons_zero]
        refine wpQuiet_build rfl 34 _ rfl [] rfl #[.int .u8 0, .int .u8 0, .int .u8 0, .int .u8 0, .int .u8 0, .int .u8 0, .int .u8 0, .int .u8 0, .int .u8 0, .int .u8 0, .int .u8 0, .int .u8 0, .int .u8 0, .int .u8 0, .int .u8 0, .int .u8 0, .int .u8 0, .int .u8 0, .int .u8 0, .int .u8 0, .int .u8 0, .int .u8 0, .int .u8 0, .int .u8 0, .int .u8 0, .int .u8 0, .int .u8 0, .int .u8 0, .int .u8 0, .int .u8 0, .int .u8 0, .int .u8 0] built0 ?_
        simp only [Act.put, List.setIfInBounds_toArray, List.set_cons_succ, List.set_cons_zero]
        go_big_quiet_step (fail)
        go_big_quiet_step (fail)
        refine wpQuiet_load_want rfl 34 _ rfl (gx) rfl 34 ky (0, 0) _ Hrx.out Tryd.underlying34 rfl hY.info ?_
        simp only [Act.put, List.setIfInBounds_toArray, List.set_cons_succ, List.set_cons_zero]
        go_big_quiet_step (exact cOS.re f4)
        refine wpQuiet_load_want rfl 34 _ rfl (w.heap.size + 1) rfl 34 u (0, 0) _ Hrp1.out Tryd.underlying34 rfl hu.info ?_
        simp only [Act.put, List.setIfInBounds_toArray, List.set_cons_succ, List.set_cons_zero]
        go_big_quiet_step (exact cO.re f4)
        go_big_quiet_step (fail)
        go_big_quiet_step (fail)
        go_big_quiet_step (fail)
        refine wpQuiet_nil ?_
        rintro _ ⟨p, rfl⟩
        have hb := below_regrown v27 p.d p.os
        generalize grow (redrawn v27 p.d) p.os = wz at *
        replace hw := Below.after hw hb
        clear hb
        go_wp2
        go_ret
        exact ⟨by simp, hw⟩
    · go_wp2_with (first | (refine wpList_load_want rfl 34 _ rfl (w.heap.size) rfl 34 k (0, 0) _ rp0 Tryd.underlying34 rfl hk.info ?_) | (refine wpList_load_want rfl 34 _ rfl (w.heap.size + 1) rfl 34 u (0, 0) _ rp1 Tryd.underlying34 rfl hu.info ?_) | (refine wpList_load_want rfl 26 _ rfl (gw) rfl 26 wr (0, 0) _ rw Tryd.underlying26 rfl hwr.info ?_) | fail)
      refine (cO.at f4).mono ?_
      rintro e_ v28 ⟨rfl, hb⟩
      replace rp0 := keep hb rp0
      replace rp1 := keep hb rp1
      replace rw := keep hb rw
      replace hw := Below.after hw hb
      replace f4 := f4.below hb
      clear hb
      go_wp2_with (first | (refine wpList_load_want rfl 34 _ rfl (w.heap.size) rfl 34 k (0, 0) _ rp0 Tryd.underlying34 rfl hk.info ?_) | (refine wpList_load_want rfl 34 _ rfl (w.heap.size + 1) rfl 34 u (0, 0) _ rp1 Tryd.underlying34 rfl hu.info ?_) | (refine wpList_load_want rfl 26 _ rfl (gw) rfl 26 wr (0, 0) _ rw Tryd.underlying26 rfl hwr.info ?_) | fail)
      refine (cS.at f4.1).mono ?_
      rintro e_ v29 ⟨rfl, hb⟩
      replace rp0 := keep hb rp0
      replace rp1 := keep hb rp1
      replace rw := keep hb rw
      replace hw := Below.after hw hb
      replace f4 := f4.below hb
      clear hb
      go_wp2_with (first | (refine wpList_store_row rfl 34 _ _ rfl (v29.heap.size) ky rfl rfl 34 #[.int .u8 0, .int .u8 0, .int .u8 0, .int .u8 0, .int .u8 0, .int .u8 0, .int .u8 0, .int .u8 0, .int .u8 0, .int .u8 0, .int .u8 0, .int .u8 0, .int .u8 0, .int .u8 0, .int .u8 0, .int .u8 0, .int .u8 0, .int .u8 0, .int .u8 0, .int .u8 0, .int .u8 0, .int .u8 0, .int .u8 0, .int .u8 0, .int .u8 0, .int .u8 0, .int .u8 0, .int .u8 0, .int .u8 0, .int .u8 0, .int .u8 0, .int .u8 0] (hp1_0 v29 _) hY.info (key_zero.size.trans hY.size.symm) hY.one ?_; rw [setRow_alloc_new _ _ _ _ _ _ (by simp)]) | fail | fail)
      have rx : (v29.alloc (.cells ky 34)).heap[v29.heap.size]? = some (.cells ky 34 (0, 0)) := hp1_0 v29 _
      have hb : Below v29.heap.size v29 (v29.alloc (.cells ky 34)) := (Below.refl _ _).alloc (Nat.le_refl _) _
      generalize (v29.alloc (.cells ky 34)) = v30 at *
      have ygx_rp0 := lt_of_row rp0
      have ygx_rp1 := lt_of_row rp1
      have ygx_rw := lt_of_row rw
      have ygx := hw.size
      replace rp0 := keep hb rp0
      replace rp1 := keep hb rp1
      replace rw := keep hb rw
      replace hw := Below.after hw hb
      replace f4 := f4.below hb
      clear hb
      generalize v29.heap.size = gx at *
      try simp only [Act.put]
      by_cases h0 : Y = 0
      · rw [decide_eq_true h0] at heq
        clear h0 hside
        have Hrx := keepr rx
        have Hrp1 := keepr rp1
        refine wp_region_quiet_below (by kernel_rfl) (by kernel_rfl) ?_
        refine wpQuiet_load_want rfl 34 _ rfl (gx) rfl 34 ky (0, 0) _ Hrx.out Tryd.underlying34 rfl hY.info ?_
        simp only [Act.put, List.setIfInBounds_toArray, List.set_cons_succ, List.set_cons_zero]
        refine wpQuiet_build rfl 34 _ rfl [] rfl #[.int .u8 0, .int .u8 0, .int .u8 0, .int .u8 0, .int .u8 0, .int .u8 0, .int .u8 0, .int .u8 0, .int .u8 0, .int .u8 0, .int .u8 0, .int .u8 0, .int .u8 0, .int .u8 0, .int .u8 0, .int .u8 0, .int .u8 0, .int .u8 0, .int .u8 0, .int .u8 0, .int .u8 0, .int .u8 0, .int .u8 0, .int .u8 0, .int .u8 0, .int .u8 0, .int .u8 0, .int .u8 0, .int .u8 0, .int .u8 0, .int .u8 0, .int .u8 0] built0 ?_
        simp only [Act.put, List.setIfInBounds_toArray, List.set_cons_succ, List.set_cons_zero]
        go_big_quiet_step (fail)
        go_big_quiet_step (fail)
        go_big_quiet_step (fail)
        go_big_quiet_step (fail)
        go_big_quiet_step (fail)
        go_big_quiet_step (fail)
        go_big_quiet_step (fail)
        go_big_quiet_step (fail)
        go_big_quiet_step (fail)
        refine wpQuiet_nil ?_
        rintro _ ⟨p, rfl⟩
        have hb := below_regrown v30 p.d p.os
        generalize grow (redrawn v30 p.d) p.os = wz at *
        replace hw := Below.after hw hb
        clear hb
        go_wp2
        go_ret
        exact ⟨by simp, hw⟩
      · rw [decide_eq_false h0] at heq
        obtain rfl := hside.resolve_left h0
        clear h0 hside
        have Hrx := keepr rx
        have Hrp1 := keepr rp1
        refine wp_region_quiet_below (by kernel_rfl) (by kernel_rfl) ?_
        refine wpQuiet_load_want rfl 34 _ rfl (gx) rfl 34 ky (0, 0) _ Hrx.out Tryd.underlying34 rfl hY.info ?_
        simp only [Act.put, List.setIfInBounds_toArray, List.set_cons_succ, List.set_cons_zero]
        refine wpQuiet_build rfl 34 _ rfl [] rfl #[.int .u8 0, .int .u8 0, .int .u8 0, .int .u8 0, .int .u8 0, .int .u8 0, .int .u8 0, .int .u8 0, .int .u8 0, .int .u8 0, .int .u8 0, .int .u8 0, .int .u8 0, .int .u8 0, .int .u8 0, .int .u8 0, .int .u8 0, .int .u8 0, .int .u8 0, .int .u8 0, .int .u8 0, .int .u8 0, .int .u8 0, .int .u8 0, .int .u8 0, .int .u8 0, .int .u8 0, .int .u8 0, .int .u8 0, .int .u8 0, .int .u8 0, .int .u8 0] built0 ?_
        simp only [Act.put, List.setIfInBounds_toArray, List.set_cons_succ, List.set_cons_zero]
        go_big_quiet_step (fail)
        go_big_quiet_step (fail)
        refine wpQuiet_load_want rfl 34 _ rfl (gx) rfl 34 ky (0, 0) _ Hrx.out Tryd.underlying34 rfl hY.info ?_
        simp only [Act.put, List.setIfInBounds_toArray, List.set_cons_succ, List.set_cons_zero]
        go_big_quiet_step (exact cOS.re f4)
        refine wpQuiet_load_want rfl 34 _ rfl (w.heap.size + 1) rfl 34 u (0, 0) _ Hrp1.out Tryd.underlying34 rfl hu.info ?_
        simp only [Act.put, List.setIfInBounds_toArray, List.set_cons_succ, List.set_cons_zero]
        go_big_quiet_step (exact cO.re f4)
        go_big_quiet_step (fail)
        go_big_quiet_step (fail)
        go_big_quiet_step (fail)
        refine wpQuiet_nil ?_
        rintro _ ⟨p, rfl⟩
        have hb := below_regrown v30 p.d p.os
        generalize grow (redrawn v30 p.d) p.os = wz at *
        replace hw := Below.after hw hb
        clear hb
        go_wp2
        go_ret
        exact ⟨by simp, hw⟩

end Go.Proofs.YtpconccafpcpnaaDoor

