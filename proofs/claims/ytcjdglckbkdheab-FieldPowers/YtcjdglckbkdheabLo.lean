import Derived.Test.YtcjdglckbkdheabProg
import Derived.WalkKit
import Derived.WalkSpells
import Derived.WalkLawsBesides
import Derived.Lib.QuietBelow
import Derived.BigQuiet
import Derived.Test.YtcjdglckbkdheabKit
import Derived.Test.YtcjdglckbkdheabLn
import Derived.Test.YtcjdglckbkdheabRp
import Derived.Test.YtcjdglckbkdheabPm
namespace Go.Proofs.Ytcjdglckbkdheab
open Go.RowKit Go.Sort
attribute [local go_sem] setCell_drewN alloc_drewN


theorem re_bys {f : FuncId} {a : Value} {bs : List Int} {v ev : Value} {w : World} {d : Nat} {os : Array Obj} (hB : Bys w ev bs) (c : ∀ (W : World) (e : Value), Bys W e bs → Calls Try.prog f #[a, e] W fun e w' => e = .returned v ∧ Below W.heap.size W w') : Calls Try.prog f #[a, ev] (grow (redrawn w d) os) fun e w'' => e = .returned v ∧ ∃ p : Regrown, w'' = grow (redrawn w p.d) p.os := Calls.regrown_of (c _ _ (hB.keep (below_regrown w d os)))
set_option maxHeartbeats 2000000 in
theorem powers_any {kp : Array Value} {Np : Int} (hkp : KeyOf kp Np) (bs : List Int) (hz : ∀ z ∈ bs, 0 ≤ z ∧ z < 256) (hl : bs.length + 32 ≤ 281474976710656) (w : World) (ev : Value) (hB : Bys w ev bs) (hnil : ∀ a l c, ev = .slice a l c → a = none → c = 0) :
    Calls Try.prog 5 #[.agg kp, ev] w fun e w' => e = .returned (.bool true) ∧ Below w.heap.size w w' := by
  obtain ⟨xA, hAn, cA⟩ := a_from hkp
  generalize heA : Np % 57896044618658097711785492504343953926634992332820282019728792003956564819968 = A at hAn
  obtain ⟨s, hs, cR⟩ := a_raised hAn bs hz hl
  have heq : ∀ (q : Int) W, (Op.equalIn 10000 23 (.agg (kb q)) (.agg (kb q))).run Try.prog W = .ok true W := fun q W => by
    have e : kb q = #[.int .u8 (byt q 0), .int .u8 (byt q 1), .int .u8 (byt q 2), .int .u8 (byt q 3), .int .u8 (byt q 4), .int .u8 (byt q 5), .int .u8 (byt q 6), .int .u8 (byt q 7), .int .u8 (byt q 8), .int .u8 (byt q 9), .int .u8 (byt q 10), .int .u8 (byt q 11), .int .u8 (byt q 12), .int .u8 (byt q 13), .int .u8 (byt q 14), .int .u8 (byt q 15), .int .u8 (byt q 16), .int .u8 (byt q 17), .int .u8 (byt q 18), .int .u8 (byt q 19), .int .u8 (byt q 20), .int .u8 (byt q 21), .int .u8 (byt q 22), .int .u8 (byt q 23), .int .u8 (byt q 24), .int .u8 (byt q 25), .int .u8 (byt q 26), .int .u8 (byt q 27), .int .u8 (byt q 28), .int .u8 (byt q 29), .int .u8 (byt q 30), .int .u8 (byt q 31)] := rfl
    rw [e, keys_equal]; simp
  have c4 := a_bytes hs
  have c5 := r_from hkp
  rw [heA] at c5
  have c6 := r_power (inP_mod A) bs
  rw [← int_pow_emod] at c6
  have c7 := r_bytes (A ^ bval bs % prm)
  clear heA
  go_enter Try.func5, Try.ntmps5
  go_wp2_with (first | (refine wpList_load_want rfl 23 _ rfl (w.heap.size) rfl 23 kp (0, 0) _ (hp1_0 w _) Try.underlying23 rfl hkp.info ?_) | fail)
  have rp0 : (w.alloc (.cells kp 23)).heap[w.heap.size]? = some (.cells kp 23 (0, 0)) := hp1_0 w _
  have hw : Below w.heap.size w (w.alloc (.cells kp 23)) := ((Below.refl _ _).alloc (Nat.le_refl _) _)
  generalize (w.alloc (.cells kp 23)) = w0 at *
  refine (cA.at _).mono ?_
  rintro e w2 ⟨rfl, hb⟩
  replace rp0 := keep hb rp0
  replace hw := Below.after hw hb
  clear hb
  go_wp2_with fail
  refine (cR _ _ (hB.keep hw) hnil).mono ?_
  rintro e w2 ⟨rfl, hb⟩
  replace rp0 := keep hb rp0
  replace hw := Below.after hw hb
  clear hb
  go_wp2_with (first | (refine wpList_store_row rfl 27 _ _ rfl (w2.heap.size) s rfl rfl 27 #[.int .u64 0, .int .u64 0, .int .u64 0, .int .u64 0, .int .u64 0] (hp1_0 w2 _) hs.info (hs.fits rfl) hs.one ?_; rw [setRow_alloc_new _ _ _ _ _ _ (by simp)]) | fail | fail)
  have rl5 : (w2.alloc (.cells s 27)).heap[w2.heap.size]? = some (.cells s 27 (0, 0)) := hp1_0 w2 _
  have hb : Below w2.heap.size w2 (w2.alloc (.cells s 27)) := ((Below.refl _ _).alloc (Nat.le_refl _) _)
  generalize (w2.alloc (.cells s 27)) = w3 at *
  have yg5_0 := lt_of_row rp0
  have yg5 := hw.size
  replace rp0 := keep hb rp0
  replace hw := Below.after hw hb
  clear hb
  generalize w2.heap.size = g5 at *
  clear w2
  have Hrp0 := keepr rp0
  have Hrl5 := keepr rl5
  refine wp_region_quiet_below (by kernel_rfl) (by kernel_rfl) ?_
  go_big_quiet_step (fail)
  go_big_quiet_step (fail)
  refine wpQuiet_load_want rfl 27 _ rfl (g5) rfl 27 s (0, 0) _ Hrl5.out Try.underlying27 rfl hs.info ?_
  simp only [Act.put, List.setIfInBounds_toArray, List.set_cons_succ, List.set_cons_zero]
  go_big_quiet_step (exact c4.re)
  refine wpQuiet_load_want rfl 23 _ rfl (w.heap.size) rfl 23 kp (0, 0) _ Hrp0.out Try.underlying23 rfl hkp.info ?_
  simp only [Act.put, List.setIfInBounds_toArray, List.set_cons_succ, List.set_cons_zero]
  go_big_quiet_step (exact c5.re)
  go_big_quiet_step (fail)
  go_big_quiet_step (exact re_bys (hB.keep hw) c6)
  go_big_quiet_step (exact c7.re)
  go_big_quiet_step (fail)
  go_big_quiet_step (fail)
  go_big_quiet_step (fail)
  refine wpQuiet_nil ?_
  rintro _ ⟨p, rfl⟩
  have hb := below_regrown w3 p.d p.os
  generalize grow (redrawn w3 p.d) p.os = w3 at *
  replace rp0 := keep hb rp0
  replace rl5 := keep hb rl5
  replace hw := Below.after hw hb
  clear hb
  clear Hrp0 Hrl5
  go_wp2
  go_ret
  exact ⟨rfl, hw⟩

end Go.Proofs.Ytcjdglckbkdheab

