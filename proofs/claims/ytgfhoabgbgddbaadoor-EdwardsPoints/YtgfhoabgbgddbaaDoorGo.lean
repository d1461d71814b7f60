import Derived.Test.YtgfhoabgbgddbaaDoorProg
import Derived.WalkKit
import Derived.WalkSpells
import Derived.WalkLawsBesides
import Derived.Lib.QuietBelow
import Derived.BigQuiet
import Derived.Test.YtgfhoabgbgddbaaDoorKa
import Derived.Test.YtgfhoabgbgddbaaDoorGb
namespace Go.Proofs.YtgfhoabgbgddbaaDoor
set_option maxRecDepth 100000
open Go.RowKit Go.Sort
attribute [local go_sem] setCell_drewN alloc_drewN


theorem and1 (x : Int) (h0 : 0 ≤ x) (h1 : x < 256) : bits .and .u8 x 1 = x % 2 := by
  rw [u8_and x 1 h0 h1 (by decide) (by decide)]
  have e : (1 : Int).toNat = 1 := by decide
  rw [e, nat_mask1]
  omega
set_option maxHeartbeats 1000000 in
theorem odd_any (a0 a1 a2 a3 a4 : Int) (la0 : 0 ≤ a0) (ua0 : a0 < 4503599627370496) (la1 : 0 ≤ a1) (ua1 : a1 < 4503599627370496) (la2 : 0 ≤ a2) (ua2 : a2 < 4503599627370496) (la3 : 0 ≤ a3) (ua3 : a3 < 4503599627370496) (la4 : 0 ≤ a4) (ua4 : a4 < 4503599627370496) (w : World) :
    Calls Tryd.prog 76 #[.agg #[.int .u64 a0, .int .u64 a1, .int .u64 a2, .int .u64 a3, .int .u64 a4]] w fun e w' => e = .returned (.bool (byt (v5 a0 a1 a2 a3 a4 % prm) 0 % 2 == 1)) ∧ Below w.heap.size w w' := by
  have c1 := fun W => bytes_any a0 a1 a2 a3 a4 la0 ua0 la1 ua1 la2 ua2 la3 ua3 la4 ua4 W
  generalize v5 a0 a1 a2 a3 a4 % prm = m at *
  have hi : ∀ W, (Instr.index 23 (.agg #[.int .u8 (byt (m) 0), .int .u8 (byt (m) 1), .int .u8 (byt (m) 2), .int .u8 (byt (m) 3), .int .u8 (byt (m) 4), .int .u8 (byt (m) 5), .int .u8 (byt (m) 6), .int .u8 (byt (m) 7), .int .u8 (byt (m) 8), .int .u8 (byt (m) 9), .int .u8 (byt (m) 10), .int .u8 (byt (m) 11), .int .u8 (byt (m) 12), .int .u8 (byt (m) 13), .int .u8 (byt (m) 14), .int .u8 (byt (m) 15), .int .u8 (byt (m) 16), .int .u8 (byt (m) 17), .int .u8 (byt (m) 18), .int .u8 (byt (m) 19), .int .u8 (byt (m) 20), .int .u8 (byt (m) 21), .int .u8 (byt (m) 22), .int .u8 (byt (m) 23), .int .u8 (byt (m) 24), .int .u8 (byt (m) 25), .int .u8 (byt (m) 26), .int .u8 (byt (m) 27), .int .u8 (byt (m) 28), .int .u8 (byt (m) 29), .int .u8 (byt (m) 30), .int .u8 (byt (m) 31)]) (.int .i64 0)).run Tryd.prog W = .ok (.int .u8 (byt m 0)) W := fun W => by kernel_rfl
  have ha := and1 (byt m 0) (byt_bd m 0).1 (byt_bd m 0).2
  have C1 := hide c1
  clear c1 la0 ua0 la1 ua1 la2 ua2 la3 ua3 la4 ua4
  go_enter Tryd.func76, Tryd.ntmps76
  go_wp2_with (first | (refine wpList_load_row rfl 27 _ rfl w.heap.size rfl 27 #[.int .u64 a0, .int .u64 a1, .int .u64 a2, .int .u64 a3, .int .u64 a4] (0, 0) _ (hp1_0 w _) Tryd.underlying27 rfl (by kernel_rfl) ?_) | fail)
  refine (C1.out _).mono ?_
  rintro e w1 ⟨rfl, hb⟩
  go_wp2
  go_ret
  exact ⟨rfl, ((Below.refl _ _).alloc (Nat.le_refl _) _).trans (hb.mono (by simp))⟩

end Go.Proofs.YtgfhoabgbgddbaaDoor

