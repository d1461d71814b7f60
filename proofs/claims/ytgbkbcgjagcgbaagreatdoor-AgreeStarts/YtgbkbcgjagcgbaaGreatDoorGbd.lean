import Derived.Test.YtgbkbcgjagcgbaaGreatDoorProg
import Derived.WalkKit
import Derived.WalkSpells
import Derived.WalkLawsBesides
import Derived.Lib.QuietBelow
import Derived.BigQuiet
import Derived.Test.YtgbkbcgjagcgbaaGreatDoorKa
import Derived.Test.YtgbkbcgjagcgbaaGreatDoorKeq
import Derived.Test.YtgbkbcgjagcgbaaGreatDoorFbc
import Derived.Test.YtgbkbcgjagcgbaaGreatDoorFa
import Derived.Test.YtgbkbcgjagcgbaaGreatDoorRff
namespace Go.Proofs.YtgbkbcgjagcgbaaGreatDoor.Lo
set_option maxRecDepth 100000
open Go.RowKit Go.Sort
attribute [local go_sem] setCell_drewN alloc_drewN
theorem valB_byt (m : Int) (h0 : 0 ≤ m) (h1 : m < 115792089237316195423570985008687907853269984665640564039457584007913129639936) : valB [byt (m) 0, byt (m) 1, byt (m) 2, byt (m) 3, byt (m) 4, byt (m) 5, byt (m) 6, byt (m) 7, byt (m) 8, byt (m) 9, byt (m) 10, byt (m) 11, byt (m) 12, byt (m) 13, byt (m) 14, byt (m) 15, byt (m) 16, byt (m) 17, byt (m) 18, byt (m) 19, byt (m) 20, byt (m) 21, byt (m) 22, byt (m) 23, byt (m) 24, byt (m) 25, byt (m) 26, byt (m) 27, byt (m) 28, byt (m) 29, byt (m) 30, byt (m) 31] = m := by
 simp only [valB, byt, Int.pow_zero, Int.pow_succ, Int.one_mul, Int.ediv_one]
 omega
theorem byts_inj (m k : Int) (h0 : 0 ≤ m) (h1 : m < 115792089237316195423570985008687907853269984665640564039457584007913129639936) (h2 : 0 ≤ k) (h3 : k < 115792089237316195423570985008687907853269984665640564039457584007913129639936) : ([byt (m) 0, byt (m) 1, byt (m) 2, byt (m) 3, byt (m) 4, byt (m) 5, byt (m) 6, byt (m) 7, byt (m) 8, byt (m) 9, byt (m) 10, byt (m) 11, byt (m) 12, byt (m) 13, byt (m) 14, byt (m) 15, byt (m) 16, byt (m) 17, byt (m) 18, byt (m) 19, byt (m) 20, byt (m) 21, byt (m) 22, byt (m) 23, byt (m) 24, byt (m) 25, byt (m) 26, byt (m) 27, byt (m) 28, byt (m) 29, byt (m) 30, byt (m) 31] = [byt (k) 0, byt (k) 1, byt (k) 2, byt (k) 3, byt (k) 4, byt (k) 5, byt (k) 6, byt (k) 7, byt (k) 8, byt (k) 9, byt (k) 10, byt (k) 11, byt (k) 12, byt (k) 13, byt (k) 14, byt (k) 15, byt (k) 16, byt (k) 17, byt (k) 18, byt (k) 19, byt (k) 20, byt (k) 21, byt (k) 22, byt (k) 23, byt (k) 24, byt (k) 25, byt (k) 26, byt (k) 27, byt (k) 28, byt (k) 29, byt (k) 30, byt (k) 31]) ↔ m = k := by
 constructor
 · intro h
   have e := congrArg valB h
   rw [valB_byt m h0 h1, valB_byt k h2 h3] at e
   exact e
 · rintro rfl; rfl
theorem keys_eq (m k : Int) (h0 : 0 ≤ m) (h1 : m < 115792089237316195423570985008687907853269984665640564039457584007913129639936) (h2 : 0 ≤ k) (h3 : k < 115792089237316195423570985008687907853269984665640564039457584007913129639936) (W : World) : (Op.equalIn 10000 23 (.agg #[.int .u8 (byt (m) 0), .int .u8 (byt (m) 1), .int .u8 (byt (m) 2), .int .u8 (byt (m) 3), .int .u8 (byt (m) 4), .int .u8 (byt (m) 5), .int .u8 (byt (m) 6), .int .u8 (byt (m) 7), .int .u8 (byt (m) 8), .int .u8 (byt (m) 9), .int .u8 (byt (m) 10), .int .u8 (byt (m) 11), .int .u8 (byt (m) 12), .int .u8 (byt (m) 13), .int .u8 (byt (m) 14), .int .u8 (byt (m) 15), .int .u8 (byt (m) 16), .int .u8 (byt (m) 17), .int .u8 (byt (m) 18), .int .u8 (byt (m) 19), .int .u8 (byt (m) 20), .int .u8 (byt (m) 21), .int .u8 (byt (m) 22), .int .u8 (byt (m) 23), .int .u8 (byt (m) 24), .int .u8 (byt (m) 25), .int .u8 (byt (m) 26), .int .u8 (byt (m) 27), .int .u8 (byt (m) 28), .int .u8 (byt (m) 29), .int .u8 (byt (m) 30), .int .u8 (byt (m) 31)]) (.agg #[.int .u8 (byt (k) 0), .int .u8 (byt (k) 1), .int .u8 (byt (k) 2), .int .u8 (byt (k) 3), .int .u8 (byt (k) 4), .int .u8 (byt (k) 5), .int .u8 (byt (k) 6), .int .u8 (byt (k) 7), .int .u8 (byt (k) 8), .int .u8 (byt (k) 9), .int .u8 (byt (k) 10), .int .u8 (byt (k) 11), .int .u8 (byt (k) 12), .int .u8 (byt (k) 13), .int .u8 (byt (k) 14), .int .u8 (byt (k) 15), .int .u8 (byt (k) 16), .int .u8 (byt (k) 17), .int .u8 (byt (k) 18), .int .u8 (byt (k) 19), .int .u8 (byt (k) 20), .int .u8 (byt (k) 21), .int .u8 (byt (k) 22), .int .u8 (byt (k) 23), .int .u8 (byt (k) 24), .int .u8 (byt (k) 25), .int .u8 (byt (k) 26), .int .u8 (byt (k) 27), .int .u8 (byt (k) 28), .int .u8 (byt (k) 29), .int .u8 (byt (k) 30), .int .u8 (byt (k) 31)])).run Tryz.prog W = .ok (decide (m = k)) W := by
 rw [keys_equal]
 exact congrArg (fun b => Result.ok b W) (decide_eq_decide.2 (byts_inj m k h0 h1 h2 h3))
end Go.Proofs.YtgbkbcgjagcgbaaGreatDoor.Lo
namespace Go.Proofs.YtgbkbcgjagcgbaaGreatDoor.Lo
set_option maxRecDepth 100000
open Go.RowKit Go.Sort
attribute [local go_sem] setCell_drewN alloc_drewN
end Go.Proofs.YtgbkbcgjagcgbaaGreatDoor.Lo
namespace Go.Proofs.YtgbkbcgjagcgbaaGreatDoor.Lo
set_option maxRecDepth 100000
open Go.RowKit Go.Sort
attribute [local go_sem] setCell_drewN alloc_drewN
end Go.Proofs.YtgbkbcgjagcgbaaGreatDoor.Lo
