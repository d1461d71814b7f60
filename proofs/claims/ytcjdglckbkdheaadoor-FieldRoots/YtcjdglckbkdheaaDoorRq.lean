import Derived.Test.YtcjdglckbkdheaaDoorRn
import Derived.Test.YtcjdglckbkdheaaDoorRp
import Derived.Test.YtcjdglckbkdheaaDoorRi
import Derived.Test.YtcjdglckbkdheaaDoorGu
namespace Go.Proofs.YtcjdglckbkdheaaDoor
open Go Go.RowKit Go.Sort
theorem bval_n252 : bval ((nl 252).set 0 (255 - (2 - 1))) = 7237005577332262213973186563042994240829374041602535252466099000494570602494 := by decide +kernel
theorem bval_n253 : bval ((nl 253).set 0 (255 - (5 - 1))) = 14474011154664524427946373126085988481658748083205070504932198000989141204987 := by decide +kernel
theorem bval_n255 : bval ((nl 255).set 0 (255 - (21 - 1))) = 57896044618658097711785492504343953926634992332820282019728792003956564819947 := by decide +kernel
theorem in_two : inP 2 := by unfold inP prm; decide
theorem in_uu : inP uu := by unfold inP prm uu; decide
theorem odd_dg (q : Int) : (dg q 0 % 2 == 1) = decide (q % 2 = 1) := by
  have e : dg q 0 % 2 = q % 2 := by
    simp only [dg, Int.pow_zero, Int.ediv_one]
    omega
  rw [e]
  by_cases h : q % 2 = 1
  · rw [decide_eq_true h, beq_iff_eq]; exact h
  · rw [decide_eq_false h, beq_eq_false_iff_ne]; exact h
end Go.Proofs.YtcjdglckbkdheaaDoor

