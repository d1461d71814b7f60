import Derived.Test.YtpconccafpcpnaaDoorProg
import Derived.WalkKit
import Derived.WalkSpells
import Derived.WalkLawsBesides
import Derived.Lib.QuietBelow
import Derived.BigQuiet
import Derived.Test.YtpconccafpcpnaaDoorKa
import Derived.Test.YtpconccafpcpnaaDoorCb
import Derived.Test.YtpconccafpcpnaaDoorCg
namespace Go.Proofs.YtpconccafpcpnaaDoor
set_option maxRecDepth 100000
open Go.RowKit Go.Sort
attribute [local go_sem] setCell_drewN alloc_drewN


set_option maxRecDepth 100000 in
set_option maxHeartbeats 8000000 in
theorem a_scale {k u : Array Value} {K U : Int} (hk : KeyOf k K) (hu : KeyOf u U) : Gives4 19 #[.agg k, .agg u] (.agg (kb (scl K U))) := by
  have cC := a_clamp hk
  have hS : KeyOf (kb (clp K)) (clp K) := kb_key _ (clp_bd K).1 (Int.lt_trans (clp_bd K).2 (by decide))
  obtain ⟨xr, hx0, cF⟩ := a_from hu
  have hx : NumOf xr (num U) := hx0.congr (Int.emod_emod _ _).symm
  clear hx0
  obtain ⟨t, ht, cL⟩ := ladder_walk hx (clp K)
  have cB := a_bytes ht
  have eY : scn (clp K) (num U) % prm = scl K U := Int.emod_emod _ _
  rw [eY] at cB
  have hY : KeyOf (kb (scl K U)) (scl K U) := kb_key _ (scl_bd K U).1 (scl_bd K U).2
  clear eY
  have hz := key_zero
  have hmf : ∀ (fn : Fn) (first cap : Array Value) (w : World), (Instr.makeFunc fn first cap).run Tryd.prog w = .ok (.func fn first cap) w := fun _ _ _ _ => rfl
  generalize scl K U = Y at *
  generalize scn (clp K) (num U) = Y' at *
  generalize clp K = S at *
  generalize num U = X at *
  intro w hF
  go_enter Tryd.func19, Tryd.ntmps19
  go_wp2_with (first | (refine wpList_load_want rfl 34 _ rfl (w.heap.size) rfl 34 k (0, 0) _ (hp3_0 w _ _ _) Tryd.underlying34 rfl hk.info ?_) | (refine wpList_load_want rfl 34 _ rfl (w.heap.size + 1) rfl 34 u (0, 0) _ (hp3_1 w _ _ _) Tryd.underlying34 rfl hu.info ?_) | (refine wpList_load_want rfl 34 _ rfl (w.heap.size + 1 + 1) rfl 34 #[.int .u8 0, .int .u8 0, .int .u8 0, .int .u8 0, .int .u8 0, .int .u8 0, .int .u8 0, .int .u8 0, .int .u8 0, .int .u8 0, .int .u8 0, .int .u8 0, .int .u8 0, .int .u8 0, .int .u8 0, .int .u8 0, .int .u8 0, .int .u8 0, .int .u8 0, .int .u8 0, .int .u8 0, .int .u8 0, .int .u8 0, .int .u8 0, .int .u8 0, .int .u8 0, .int .u8 0, .int .u8 0, .int .u8 0, .int .u8 0, .int .u8 0, .int .u8 0] (0, 0) _ (hp3_2 w _ _ _) Tryd.underlying34 rfl hz.info ?_) | fail)
  have rp0 : (((w.alloc (.cells k 34)).alloc (.cells u 34)).alloc (.cells #[.int .u8 0, .int .u8 0, .int .u8 0, .int .u8 0, .int .u8 0, .int .u8 0, .int .u8 0, .int .u8 0, .int .u8 0, .int .u8 0, .int .u8 0, .int .u8 0, .int .u8 0, .int .u8 0, .int .u8 0, .int .u8 0, .int .u8 0, .int .u8 0, .int .u8 0, .int .u8 0, .int .u8 0, .int .u8 0, .int .u8 0, .int .u8 0, .int .u8 0, .int .u8 0, .int .u8 0, .int .u8 0, .int .u8 0, .int .u8 0, .int .u8 0, .int .u8 0] 34)).heap[w.heap.size]? = some (.cells k 34 (0, 0)) := hp3_0 w _ _ _
  have rp1 : (((w.alloc (.cells k 34)).alloc (.cells u 34)).alloc (.cells #[.int .u8 0, .int .u8 0, .int .u8 0, .int .u8 0, .int .u8 0, .int .u8 0, .int .u8 0, .int .u8 0, .int .u8 0, .int .u8 0, .int .u8 0, .int .u8 0, .int .u8 0, .int .u8 0, .int .u8 0, .int .u8 0, .int .u8 0, .int .u8 0, .int .u8 0, .int .u8 0, .int .u8 0, .int .u8 0, .int .u8 0, .int .u8 0, .int .u8 0, .int .u8 0, .int .u8 0, .int .u8 0, .int .u8 0, .int .u8 0, .int .u8 0, .int .u8 0] 34)).heap[w.heap.size + 1]? = some (.cells u 34 (0, 0)) := hp3_1 w _ _ _
  have rp2 : (((w.alloc (.cells k 34)).alloc (.cells u 34)).alloc (.cells #[.int .u8 0, .int .u8 0, .int .u8 0, .int .u8 0, .int .u8 0, .int .u8 0, .int .u8 0, .int .u8 0, .int .u8 0, .int .u8 0, .int .u8 0, .int .u8 0, .int .u8 0, .int .u8 0, .int .u8 0, .int .u8 0, .int .u8 0, .int .u8 0, .int .u8 0, .int .u8 0, .int .u8 0, .int .u8 0, .int .u8 0, .int .u8 0, .int .u8 0, .int .u8 0, .int .u8 0, .int .u8 0, .int .u8 0, .int .u8 0, .int .u8 0, .int .u8 0] 34)).heap[w.heap.size + 1 + 1]? = some (.cells #[.int .u8 0, .int .u8 0, .int .u8 0, .int .u8 0, .int .u8 0, .int .u8 0, .int .u8 0, .int .u8 0, .int .u8 0, .int .u8 0, .int .u8 0, .int .u8 0, .int .u8 0, .int .u8 0, .int .u8 0, .int .u8 0, .int .u8 0, .int .u8 0, .int .u8 0, .int .u8 0, .int .u8 0, .int .u8 0, .int .u8 0, .int .u8 0, .int .u8 0, .int .u8 0, .int .u8 0, .int .u8 0, .int .u8 0, .int .u8 0, .int .u8 0, .int .u8 0] 34 (0, 0)) := hp3_2 w _ _ _
  have hw : Below w.heap.size w (((w.alloc (.cells k 34)).alloc (.cells u 34)).alloc (.cells #[.int .u8 0, .int .u8 0, .int .u8 0, .int .u8 0, .int .u8 0, .int .u8 0, .int .u8 0, .int .u8 0, .int .u8 0, .int .u8 0, .int .u8 0, .int .u8 0, .int .u8 0, .int .u8 0, .int .u8 0, .int .u8 0, .int .u8 0, .int .u8 0, .int .u8 0, .int .u8 0, .int .u8 0, .int .u8 0, .int .u8 0, .int .u8 0, .int .u8 0, .int .u8 0, .int .u8 0, .int .u8 0, .int .u8 0, .int .u8 0, .int .u8 0, .int .u8 0] 34)) := ((((Below.refl _ _).alloc (Nat.le_refl _) _).alloc (by simp) _).alloc (by simp; omega) _)
  have hz0 := hF.1
  have f4 : Four (((w.alloc (.cells k 34)).alloc (.cells u 34)).alloc (.cells #[.int .u8 0, .int .u8 0, .int .u8 0, .int .u8 0, .int .u8 0, .int .u8 0, .int .u8 0, .int .u8 0, .int .u8 0, .int .u8 0, .int .u8 0, .int .u8 0, .int .u8 0, .int .u8 0, .int .u8 0, .int .u8 0, .int .u8 0, .int .u8 0, .int .u8 0, .int .u8 0, .int .u8 0, .int .u8 0, .int .u8 0, .int .u8 0, .int .u8 0, .int .u8 0, .int .u8 0, .int .u8 0, .int .u8 0, .int .u8 0, .int .u8 0, .int .u8 0] 34)) := (((hF.alloc _).alloc _).alloc _)
  generalize (((w.alloc (.cells k 34)).alloc (.cells u 34)).alloc (.cells #[.int .u8 0, .int .u8 0, .int .u8 0, .int .u8 0, .int .u8 0, .int .u8 0, .int .u8 0, .int .u8 0, .int .u8 0, .int .u8 0, .int .u8 0, .int .u8 0, .int .u8 0, .int .u8 0, .int .u8 0, .int .u8 0, .int .u8 0, .int .u8 0, .int .u8 0, .int .u8 0, .int .u8 0, .int .u8 0, .int .u8 0, .int .u8 0, .int .u8 0, .int .u8 0, .int .u8 0, .int .u8 0, .int .u8 0, .int .u8 0, .int .u8 0, .int .u8 0] 34)) = w0 at *
  refine (cC.at _).mono ?_
  rintro e w2 ⟨rfl, hb⟩
  replace rp0 := keep hb rp0
  replace rp1 := keep hb rp1
  replace rp2 := keep hb rp2
  replace hw := Below.after hw hb
  replace f4 := f4.below hb
  clear hb
  go_wp2_with (first | (refine wpList_store_row rfl 34 _ _ rfl (w2.heap.size) (kb S) rfl rfl 34 #[.int .u8 0, .int .u8 0, .int .u8 0, .int .u8 0, .int .u8 0, .int .u8 0, .int .u8 0, .int .u8 0, .int .u8 0, .int .u8 0, .int .u8 0, .int .u8 0, .int .u8 0, .int .u8 0, .int .u8 0, .int .u8 0, .int .u8 0, .int .u8 0, .int .u8 0, .int .u8 0, .int .u8 0, .int .u8 0, .int .u8 0, .int .u8 0, .int .u8 0, .int .u8 0, .int .u8 0, .int .u8 0, .int .u8 0, .int .u8 0, .int .u8 0, .int .u8 0] (hp1_0 w2 _) hS.info (hz.size.trans hS.size.symm) hS.one ?_; rw [setRow_alloc_new _ _ _ _ _ _ (by simp)]) | (refine wpList_load_want rfl 34 _ rfl (w2.heap.size) rfl 34 (kb S) (0, 0) _ (hp1_0 w2 _) Tryd.underlying34 rfl hS.info ?_) | (refine wpList_load_want rfl 34 _ rfl (w.heap.size) rfl 34 k (0, 0) _ (keep ((Below.refl _ _).alloc (Nat.le_refl _) _) rp0) Tryd.underlying34 rfl hk.info ?_) | (refine wpList_load_want rfl 34 _ rfl (w.heap.size + 1) rfl 34 u (0, 0) _ (keep ((Below.refl _ _).alloc (Nat.le_refl _) _) rp1) Tryd.underlying34 rfl hu.info ?_) | (refine wpList_load_want rfl 34 _ rfl (w.heap.size + 1 + 1) rfl 34 #[.int .u8 0, .int .u8 0, .int .u8 0, .int .u8 0, .int .u8 0, .int .u8 0, .int .u8 0, .int .u8 0, .int .u8 0, .int .u8 0, .int .u8 0, .int .u8 0, .int .u8 0, .int .u8 0, .int .u8 0, .int .u8 0, .int .u8 0, .int .u8 0, .int .u8 0, .int .u8 0, .int .u8 0, .int .u8 0, .int .u8 0, .int .u8 0, .int .u8 0, .int .u8 0, .int .u8 0, .int .u8 0, .int .u8 0, .int .u8 0, .int .u8 0, .int .u8 0] (0, 0) _ (keep ((Below.refl _ _).alloc (Nat.le_refl _) _) rp2) Tryd.underlying34 rfl hz.info ?_) | fail)
  have rl5 : (w2.alloc (.cells (kb S) 34)).heap[w2.heap.size]? = some (.cells (kb S) 34 (0, 0)) := hp1_0 w2 _
  have hb : Below w2.heap.size w2 (w2.alloc (.cells (kb S) 34)) := ((Below.refl _ _).alloc (Nat.le_refl _) _)
  generalize (w2.alloc (.cells (kb S) 34)) = wa at *
  have ygs_0 := lt_of_row rp0
  have ygs_1 := lt_of_row rp1
  have ygs_2 := lt_of_row rp2
  have ygs := hw.size
  have zgs := f4.1
  replace rp0 := keep hb rp0
  replace rp1 := keep hb rp1
  replace rp2 := keep hb rp2
  replace hw := Below.after hw hb
  replace f4 := f4.below hb
  clear hb
  generalize w2.heap.size = gs at *
  clear w2
  refine (cF.at _).mono ?_
  rintro e w4 ⟨rfl, hb⟩
  replace rp0 := keep hb rp0
  replace rp1 := keep hb rp1
  replace rp2 := keep hb rp2
  replace rl5 := keep hb rl5
  replace hw := Below.after hw hb
  replace f4 := f4.below hb
  clear hb
  go_wp2_with (first | fail)
  refine (cL _ gs f4 rl5).mono ?_
  rintro e wl ⟨rfl, hb⟩
  replace rp0 := keep hb rp0
  replace rp1 := keep hb rp1
  replace rp2 := keep hb rp2
  replace rl5 := keep hb rl5
  replace hw := Below.after hw hb
  replace f4 := f4.below hb
  clear hb
  go_wp2_with (first | (refine wpList_load_want rfl 34 _ rfl (w.heap.size) rfl 34 k (0, 0) _ rp0 Tryd.underlying34 rfl hk.info ?_) | (refine wpList_load_want rfl 34 _ rfl (w.heap.size + 1) rfl 34 u (0, 0) _ rp1 Tryd.underlying34 rfl hu.info ?_) | (refine wpList_load_want rfl 34 _ rfl (w.heap.size + 1 + 1) rfl 34 #[.int .u8 0, .int .u8 0, .int .u8 0, .int .u8 0, .int .u8 0, .int .u8 0, .int .u8 0, .int .u8 0, .int .u8 0, .int .u8 0, .int .u8 0, .int .u8 0, .int .u8 0, .int .u8 0, .int .u8 0, .int .u8 0, .int .u8 0, .int .u8 0, .int .u8 0, .int .u8 0, .int .u8 0, .int .u8 0, .int .u8 0, .int .u8 0, .int .u8 0, .int .u8 0, .int .u8 0, .int .u8 0, .int .u8 0, .int .u8 0, .int .u8 0, .int .u8 0] (0, 0) _ rp2 Tryd.underlying34 rfl hz.info ?_) | (refine wpList_load_want rfl 34 _ rfl (gs) rfl 34 (kb S) (0, 0) _ rl5 Tryd.underlying34 rfl hS.info ?_) | fail)
  refine (cB.at _).mono ?_
  rintro e w6 ⟨rfl, hb⟩
  replace rp0 := keep hb rp0
  replace rp1 := keep hb rp1
  replace rp2 := keep hb rp2
  replace rl5 := keep hb rl5
  replace hw := Below.after hw hb
  replace f4 := f4.below hb
  clear hb
  go_wp2_with (first | (refine wpList_store_row rfl 34 _ _ rfl (w.heap.size + 1 + 1) (kb Y) rfl rfl 34 _ rp2 hY.info (hz.size.trans hY.size.symm) hY.one ?_) | fail)
  exact bodyPost_ret (v := .agg (kb Y)) (results_cell_row Tryd.results19 _ _ (w.heap.size + 1 + 1) _ (kb Y) _ _ rfl (setRow_heap _ _ _ _ _ _ rp2) Tryd.underlying34 rfl hY.info) rfl ⟨rfl, below_setRow hw (by omega) _⟩

end Go.Proofs.YtpconccafpcpnaaDoor

