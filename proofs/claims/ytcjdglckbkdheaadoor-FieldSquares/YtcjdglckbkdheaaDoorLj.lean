import Derived.Test.YtcjdglckbkdheaaDoorGu
import Derived.Test.YtcjdglckbkdheaaDoorGt
namespace Go.Proofs.YtcjdglckbkdheaaDoor
open Go Go.RowKit Go.Sort
theorem a_same_c {r s : Array Value} {x y : Int} (h : NumOf r x) (g : NumOf s y) (e : x % prm = y % prm) : Gives 36 #[.agg r, .agg s] (.bool true) := by
  have := a_same h g
  rwa [decide_eq_true e] at this
theorem a_same_n {r s : Array Value} {x y : Int} (h : NumOf r x) (g : NumOf s y) (e : x % prm ≠ y % prm) : Gives 36 #[.agg r, .agg s] (.bool false) := by
  have := a_same h g
  rwa [decide_eq_false e] at this
theorem a_isZero_t {r : Array Value} {x : Int} (h : NumOf r x) (e : x % prm = 0) : Gives 37 #[.agg r] (.bool true) := by
  have := a_isZero h
  rwa [decide_eq_true e] at this
theorem a_isZero_f {r : Array Value} {x : Int} (h : NumOf r x) (e : x % prm ≠ 0) : Gives 37 #[.agg r] (.bool false) := by
  have := a_isZero h
  rwa [decide_eq_false e] at this
theorem bval_half : bval (((fillL 32).set 0 (246)).set 31 63) = 28948022309329048855892746252171976963317496166410141009864396001978282409974 := by decide +kernel
theorem rval_zero {x : Int} (h : rok x = false) : rval x % prm = 0 := by
  unfold rval
  rw [h]
  rfl
theorem rval_same_zero {x : Int} (h : x % prm = 0) : rval (x * x) % prm = x % prm := by
  have e := rval_sq (rok_sq x)
  have z : x * x % prm = 0 := (mul_zero_iff x x).2 (.inl h)
  rw [z] at e
  rcases (mul_zero_iff _ _).1 e with e | e <;> rw [e, h]
end Go.Proofs.YtcjdglckbkdheaaDoor
