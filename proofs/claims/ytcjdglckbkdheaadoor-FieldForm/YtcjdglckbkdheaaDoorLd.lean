import Derived.Test.YtcjdglckbkdheaaDoorProg
import Derived.WalkKit
import Derived.WalkSpells
import Derived.WalkLawsBesides
import Derived.Lib.QuietBelow
import Derived.BigQuiet
import Derived.Test.YtcjdglckbkdheaaDoorKit
import Derived.Test.YtcjdglckbkdheaaDoorAc
import Derived.Test.YtcjdglckbkdheaaDoorAlloc3
namespace Go.Proofs.YtcjdglckbkdheaaDoor
open Go.RowKit Go.Sort
attribute [local go_sem] setCell_drewN alloc_drewN


set_option maxHeartbeats 2000000 in
theorem form_any {kp kq : Array Value} {N M : Int} (hp : KeyOf kp N) (hq : KeyOf kq M) (w : World) (h4 : Four w) :
    Calls Tryd.prog 8 #[.agg kp, .agg kq] w fun e w' => e = .returned (.bool true) ∧ Below w.heap.size w w' := by
  obtain ⟨ra, ha, ca⟩ := a_from hp
  obtain ⟨rb, hb, cb⟩ := a_from hq
  obtain ⟨rm, hm, cm⟩ := a_mul ha hb
  obtain ⟨rs, hs, cs⟩ := a_sub hm hb
  have lp := a_lives hp
  have lq := a_lives hq
  generalize N % 57896044618658097711785492504343953926634992332820282019728792003956564819968 * (M % 57896044618658097711785492504343953926634992332820282019728792003956564819968) - M % 57896044618658097711785492504343953926634992332820282019728792003956564819968 = x at *
  have cy := a_bytes hs
  obtain ⟨rf, hf, cf⟩ := a_from (kb_mod x)
  have e1 : x % prm % 57896044618658097711785492504343953926634992332820282019728792003956564819968 = x % prm := Int.emod_eq_of_lt (prm_bd x).1 (by unfold prm; omega)
  rw [e1] at hf
  have csa := a_same hf hs
  have e2 : decide (x % prm % prm = x % prm) = true := by simp
  rw [e2] at csa
  have cbe := a_below (kb_mod x)
  rw [e1, Int.emod_emod] at cbe
  have cod := a_odd hs
  have hi : ∀ W, (Instr.index 34 (.agg (kb (x % prm))) (.int .i64 0)).run Tryd.prog W = .ok (.int .u8 (byt (x % prm) 0)) W := fun W => by kernel_rfl
  have heq : ∀ W, (Op.equalIn 10000 34 (.agg (kb (x % prm))) (.agg (kb (x % prm)))).run Tryd.prog W = .ok true W := fun W => by rw [kb_equal_mod]; simp
  have hx := byt_bd (x % prm) 0
  clear e1 e2
  generalize x % prm = m at *
  generalize byt m 0 = z at *
  go_enter Tryd.func8, Tryd.ntmps8
  go_wp2
  have h4' := (h4.alloc (.cells kp 34)).alloc (.cells kq 34)
  have b1 : ∀ w1, Below ((w.alloc (.cells kp 34)).alloc (.cells kq 34)).heap.size ((w.alloc (.cells kp 34)).alloc (.cells kq 34)) w1 → ∀ W, (∃ p : Regrown, W = grow (redrawn w1 p.d) p.os) → W.heap[w.heap.size]? = some (.cells kp 34 (0, 0)) := by
    rintro w1 h1 _ ⟨p, rfl⟩
    exact ((below_regrown w1 p.d p.os).block _ (Nat.lt_of_lt_of_le (by simp; omega) h1.size)).trans ((h1.block _ (by simp; omega)).trans (hp2_0 w _ _))
  have b2 : ∀ w1, Below ((w.alloc (.cells kp 34)).alloc (.cells kq 34)).heap.size ((w.alloc (.cells kp 34)).alloc (.cells kq 34)) w1 → ∀ W, (∃ p : Regrown, W = grow (redrawn w1 p.d) p.os) → W.heap[w.heap.size + 1]? = some (.cells kq 34 (0, 0)) := by
    rintro w1 h1 _ ⟨p, rfl⟩
    exact ((below_regrown w1 p.d p.os).block _ (Nat.lt_of_lt_of_le (by simp) h1.size)).trans ((h1.block _ (by simp)).trans (hp2_1 w _ _))
  refine wp_region_alloc_ex 8 9 [5] (fun _ => .cells #[.int .u64 0, .int .u64 0, .int .u64 0, .int .u64 0, .int .u64 0] 26 (0, 0)) (by kernel_rfl) (by decide) (by decide) (by kernel_rfl) (by kernel_rfl) (by kernel_rfl) (by kernel_rfl) (by kernel_rfl) (by kernel_rfl) (by kernel_rfl) (by kernel_rfl) (by decide) (by decide) ?_ ?_
  · intro s l u
    obtain rfl : s = 8 := by omega
    exact ⟨_, _, rfl, rfl, rfl, rfl, fun a w => by kernel_rfl⟩
  · apply Exists.intro
    constructor
    · intro w1 h1
      have H1 := hide (b1 w1 h1); have H2 := hide (b2 w1 h1); have H4 := h4'.below h1
      dsimp only [List.take]
      refine wpQuiet_load_row rfl 34 _ rfl w.heap.size rfl 34 kp (0, 0) _ H1.out Tryd.underlying34 rfl hp.info ?_
      simp only [Act.put, List.setIfInBounds_toArray, List.set_cons_succ, List.set_cons_zero]
      go_big_quiet_step (exact ca.re)
      refine wpQuiet_load_row rfl 34 _ rfl (w.heap.size + 1) rfl 34 kq (0, 0) _ H2.out Tryd.underlying34 rfl hq.info ?_
      simp only [Act.put, List.setIfInBounds_toArray, List.set_cons_succ, List.set_cons_zero]
      go_big_quiet_step (exact cb.re)
      go_big_quiet_step (exact cm.re)
      refine wpQuiet_load_row rfl 34 _ rfl (w.heap.size + 1) rfl 34 kq (0, 0) _ H2.out Tryd.underlying34 rfl hq.info ?_
      simp only [Act.put, List.setIfInBounds_toArray, List.set_cons_succ, List.set_cons_zero]
      go_big_quiet_step (exact cb.re)
      go_big_quiet_step (exact cs.re H4)
      refine wpQuiet_nil ?_
      rfl
    · intro w1 g h1 h2 _
      obtain ⟨lg, rg⟩ := h2 5 (by simp)
      simp only [List.drop, puts, ptrs, List.map, List.foldl, Act.put, List.setIfInBounds_toArray, List.set_cons_succ, List.set_cons_zero]
      generalize g 5 = g5 at *
      have r1 : (w1.setRow g5 rs).heap[w.heap.size]? = some (.cells kp 34 (0, 0)) := (setRow_other _ _ _ _ (by simp at lg; omega)).trans ((h1.block _ (by simp; omega)).trans (hp2_0 w _ _))
      have r2 : (w1.setRow g5 rs).heap[w.heap.size + 1]? = some (.cells kq 34 (0, 0)) := (setRow_other _ _ _ _ (by simp at lg; omega)).trans ((h1.block _ (by simp)).trans (hp2_1 w _ _))
      have r3 : (w1.setRow g5 rs).heap[g5]? = some (.cells rs 26 (0, 0)) := setRow_heap _ _ _ _ _ _ rg
      have hbw : Below w.heap.size w (w1.setRow g5 rs) := below_setRow ((((Below.refl _ _).alloc (Nat.le_refl _) _).alloc (by simp) _).trans (h1.mono (by simp; omega))) (by simp at lg; omega) _
      have hsz : g5 < (w1.setRow g5 rs).heap.size := by rw [size_setRow]; exact (Array.getElem?_eq_some_iff.1 rg).1
      simp only [World.size_alloc] at lg
      go_wp2_with (first | (refine wpList_store_row rfl 26 _ _ rfl g5 rs rfl rfl 26 _ rg hs.info (hs.fits rfl) hs.one ?_) | fail)
      clear b1 b2 h1 h2 rg h4 h4' ca cb cm cs
      generalize w1.setRow g5 rs = w2 at *
      have H1 : Hid (∀ W, (∃ p : Regrown, W = grow (redrawn w2 p.d) p.os) → W.heap[w.heap.size]? = some (.cells kp 34 (0, 0))) := by
        rintro _ ⟨p, rfl⟩; exact ((below_regrown _ p.d p.os).block _ (by omega)).trans r1
      have H2 : Hid (∀ W, (∃ p : Regrown, W = grow (redrawn w2 p.d) p.os) → W.heap[w.heap.size + 1]? = some (.cells kq 34 (0, 0))) := by
        rintro _ ⟨p, rfl⟩; exact ((below_regrown _ p.d p.os).block _ (by omega)).trans r2
      have H3 : Hid (∀ W, (∃ p : Regrown, W = grow (redrawn w2 p.d) p.os) → W.heap[g5]? = some (.cells rs 26 (0, 0))) := by
        rintro _ ⟨p, rfl⟩; exact ((below_regrown _ p.d p.os).block _ (by omega)).trans r3
      clear r1 r2 r3
      refine wp_region_quiet_below (by kernel_rfl) (by kernel_rfl) ?_
      refine wpQuiet_load_row rfl 34 _ rfl (w.heap.size) rfl 34 kp (0, 0) _ H1.out Tryd.underlying34 rfl hp.info ?_
      simp only [Act.put, List.setIfInBounds_toArray, List.set_cons_succ, List.set_cons_zero]
      go_big_quiet_step (exact lp.re)
      go_big_quiet_step (fail)
      refine wpQuiet_load_want rfl 34 _ rfl (w.heap.size + 1) rfl 34 kq (0, 0) _ H2.out Tryd.underlying34 rfl hq.info ?_
      simp only [Act.put, List.setIfInBounds_toArray, List.set_cons_succ, List.set_cons_zero]
      go_big_quiet_step (exact lq.re)
      go_big_quiet_step (fail)
      go_big_quiet_step (fail)
      refine wpQuiet_load_want rfl 26 _ rfl g5 rfl 26 rs (0, 0) _ H3.out Tryd.underlying26 rfl hs.info ?_
      simp only [Act.put, List.setIfInBounds_toArray, List.set_cons_succ, List.set_cons_zero]
      go_big_quiet_step (exact cy.re)
      go_big_quiet_step (exact cf.re)
      refine wpQuiet_load_want rfl 26 _ rfl g5 rfl 26 rs (0, 0) _ H3.out Tryd.underlying26 rfl hs.info ?_
      simp only [Act.put, List.setIfInBounds_toArray, List.set_cons_succ, List.set_cons_zero]
      go_big_quiet_step (exact csa.re)
      go_big_quiet_step (fail)
      go_big_quiet_step (fail)
      refine wpQuiet_load_want rfl 26 _ rfl g5 rfl 26 rs (0, 0) _ H3.out Tryd.underlying26 rfl hs.info ?_
      simp only [Act.put, List.setIfInBounds_toArray, List.set_cons_succ, List.set_cons_zero]
      go_big_quiet_step (exact cy.re)
      go_big_quiet_step (exact cbe.re)
      refine wpQuiet_load_want rfl 26 _ rfl g5 rfl 26 rs (0, 0) _ H3.out Tryd.underlying26 rfl hs.info ?_
      simp only [Act.put, List.setIfInBounds_toArray, List.set_cons_succ, List.set_cons_zero]
      go_big_quiet_step (exact cy.re)
      go_big_quiet_step (fail)
      go_big_quiet_step (fail)
      go_big_quiet_step (fail)
      refine wpQuiet_load_want rfl 26 _ rfl g5 rfl 26 rs (0, 0) _ H3.out Tryd.underlying26 rfl hs.info ?_
      simp only [Act.put, List.setIfInBounds_toArray, List.set_cons_succ, List.set_cons_zero]
      go_big_quiet_step (exact cod.re)
      refine wpQuiet_load_want rfl 26 _ rfl g5 rfl 26 rs (0, 0) _ H3.out Tryd.underlying26 rfl hs.info ?_
      simp only [Act.put, List.setIfInBounds_toArray, List.set_cons_succ, List.set_cons_zero]
      go_big_quiet_step (exact cy.re)
      repeat (go_big_quiet_step (fail))
      refine wpQuiet_nil ?_
      rintro _ ⟨p, rfl⟩
      have hb := below_regrown w2 p.d p.os
      generalize grow (redrawn w2 p.d) p.os = W1 at *
      go_wp2
      go_ret
      exact ⟨rfl, hbw.trans (hb.mono (by omega))⟩

end Go.Proofs.YtcjdglckbkdheaaDoor

