import Derived.Test.YtkogejglfgghmacProg
import Derived.WalkKit
import Derived.WalkSpells
import Derived.WalkLawsBesides
import Derived.Lib.QuietBelow
import Derived.BigQuiet
import Derived.Test.YtkogejglfgghmacKit
import Derived.Test.YtkogejglfgghmacCb
import Derived.Test.YtkogejglfgghmacKeq
namespace Go.Proofs.Ytkogejglfgghmac
open Go.RowKit Go.Sort
attribute [local go_sem] setCell_drewN alloc_drewN


set_option maxRecDepth 100000 in
set_option maxHeartbeats 4000000 in
theorem clamps_any {k : Array Value} {K : Int} (hk : KeyOf k K) (w : World) :
    Calls Try.prog 3 #[.agg k] w fun e w' => e = .returned (.bool true) ∧ Below w.heap.size w w' := by
  have heq : ∀ (q : Int) W, (Op.equalIn 10000 23 (.agg (kb q)) (.agg (kb q))).run Try.prog W = .ok true W := fun q W => by
    have e : kb q = #[.int .u8 (byt q 0), .int .u8 (byt q 1), .int .u8 (byt q 2), .int .u8 (byt q 3), .int .u8 (byt q 4), .int .u8 (byt q 5), .int .u8 (byt q 6), .int .u8 (byt q 7), .int .u8 (byt q 8), .int .u8 (byt q 9), .int .u8 (byt q 10), .int .u8 (byt q 11), .int .u8 (byt q 12), .int .u8 (byt q 13), .int .u8 (byt q 14), .int .u8 (byt q 15), .int .u8 (byt q 16), .int .u8 (byt q 17), .int .u8 (byt q 18), .int .u8 (byt q 19), .int .u8 (byt q 20), .int .u8 (byt q 21), .int .u8 (byt q 22), .int .u8 (byt q 23), .int .u8 (byt q 24), .int .u8 (byt q 25), .int .u8 (byt q 26), .int .u8 (byt q 27), .int .u8 (byt q 28), .int .u8 (byt q 29), .int .u8 (byt q 30), .int .u8 (byt q 31)] := rfl
    rw [e, keys_equal]; simp
  have cA := a_clamp hk
  have cR := r_clamp hk
  generalize clp K = Y at *
  go_enter Try.func3, Try.ntmps3
  go_wp2
  have rp0 : (w.alloc (.cells k 23)).heap[w.heap.size]? = some (.cells k 23 (0, 0)) := hp1_0 w _
  have hw : Below w.heap.size w (w.alloc (.cells k 23)) := ((Below.refl _ _).alloc (Nat.le_refl _) _)
  generalize (w.alloc (.cells k 23)) = w0 at *
  have Hrp0 := keepr rp0
  refine wp_region_quiet_below (by kernel_rfl) (by kernel_rfl) ?_
  refine wpQuiet_load_row rfl 23 _ rfl (w.heap.size) rfl 23 k (0, 0) _ Hrp0.out Try.underlying23 rfl hk.info ?_
  simp only [Act.put, List.setIfInBounds_toArray, List.set_cons_succ, List.set_cons_zero]
  go_big_quiet_step (exact cA.re)
  refine wpQuiet_load_row rfl 23 _ rfl (w.heap.size) rfl 23 k (0, 0) _ Hrp0.out Try.underlying23 rfl hk.info ?_
  simp only [Act.put, List.setIfInBounds_toArray, List.set_cons_succ, List.set_cons_zero]
  go_big_quiet_step (exact cR.re)
  go_big_quiet_step (fail)
  go_big_quiet_step (fail)
  refine wpQuiet_nil ?_
  rintro _ ⟨p, rfl⟩
  have hb := below_regrown w0 p.d p.os
  generalize grow (redrawn w0 p.d) p.os = w1 at *
  replace rp0 := keep hb rp0
  replace hw := Below.after hw hb
  clear hb
  clear Hrp0
  go_wp2
  go_ret
  exact ⟨rfl, hw⟩

end Go.Proofs.Ytkogejglfgghmac

