import Derived.Test.YtcjdglckbkdheabPm
import Derived.Test.YtcjdglckbkdheabAe
import Derived.Test.YtcjdglckbkdheabGr
namespace Go.Proofs.Ytcjdglckbkdheab
open Go Go.RowKit Go.Sort
theorem a_same_c {r s : Array Value} {x y : Int} (h : NumOf r x) (g : NumOf s y) (e : x % prm = y % prm) : Gives 22 #[.agg r, .agg s] (.bool true) := by
  have := a_same h g
  rwa [decide_eq_true e] at this
theorem a_isZero_t {r : Array Value} {x : Int} (h : NumOf r x) (e : x % prm = 0) : Gives 19 #[.agg r] (.bool true) := by
  have := a_isZero h
  rwa [decide_eq_true e] at this
theorem a_isZero_f {r : Array Value} {x : Int} (h : NumOf r x) (e : x % prm ≠ 0) : Gives 19 #[.agg r] (.bool false) := by
  have := a_isZero h
  rwa [decide_eq_false e] at this
theorem kb_zero_eq (m : Int) (W : World) : (Op.equalIn 10000 23 (.agg (kb (m % prm))) (.agg (kb (0 % prm)))).run Try.prog W = .ok (decide (m % prm = 0 % prm)) W := kb_equal_mod m 0 W
theorem kb_zero_t {m : Int} (e : m % prm = 0) (W : World) : (Op.equalIn 10000 23 (.agg (kb (m % prm))) (.agg (kb 0))).run Try.prog W = .ok true W := by
  have := kb_zero_eq m W
  rwa [decide_eq_true (e.trans (by decide)), show (0 : Int) % prm = 0 by decide] at this
theorem kb_zero_f {m : Int} (e : m % prm ≠ 0) (W : World) : (Op.equalIn 10000 23 (.agg (kb (m % prm))) (.agg (kb 0))).run Try.prog W = .ok false W := by
  have := kb_zero_eq m W
  rwa [decide_eq_false (fun h => e (h.trans (by decide))), show (0 : Int) % prm = 0 by decide] at this
theorem bval_p2 : bval (((fillL 32).set 0 (237 - 2)).set 31 127) = 57896044618658097711785492504343953926634992332820282019728792003956564819947 := by decide +kernel
theorem bval_p0 : bval (((fillL 32).set 0 (237 - 0)).set 31 127) = 57896044618658097711785492504343953926634992332820282019728792003956564819949 := by decide +kernel
end Go.Proofs.Ytcjdglckbkdheab
