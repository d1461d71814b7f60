import Derived.Test.YtleeadbceljfbaaGreatDoorProg
import Derived.WalkKit
import Derived.WalkSpells
import Derived.WalkLawsBesides
import Derived.Lib.QuietBelow
import Derived.Laws.BitsAllLaws
import Derived.BigQuiet
import Derived.WalkMore
import Derived.Test.YtleeadbceljfbaaGreatDoorCKa
import Derived.Test.YtleeadbceljfbaaGreatDoorCQa6
namespace Go.Proofs.YtleeadbceljfbaaGreatDoor
set_option maxRecDepth 100000
open Go Go.RowKit Go.Sort
attribute [local go_sem] setCell_drewN alloc_drewN
def fagg (f : Fd) (u : Value) : Value := .agg #[.int .i64 f.no, .int .i64 f.ty, .int .u64 (f.num : Int), u]
theorem hd_or (a b : Nat) (ha : a ≤ 536870911) (hb : b < 8) : bits .or .u64 ((a : Int) * 8) (b : Int) = ((8 * a + b : Nat) : Int) := by
 have h := Nat.shiftLeft_add_eq_or_of_lt (i := 3) (b := b) (by omega) a
 rw [Nat.shiftLeft_eq] at h
 have h2 := u64_or_nat (a * 8) b (by omega) (by omega)
 rw [Int.natCast_mul] at h2
 rw [show (8 : Int) = ((8 : Nat) : Int) from rfl, h2, ← h]
 congr 1
 omega
set_option maxHeartbeats 1000000 in
theorem a_headOf (f : Fd) (u : Value) (h0 : 0 ≤ f.no) (h1 : f.no ≤ 536870911) (h2 : 0 ≤ f.ty) (h3 : f.ty < 8) : Gives 91 #[fagg f u] (.int .u64 (fhd f : Int)) := by
 intro w
 have e1 : bits .or .u64 (f.no * 8) f.ty = ((fhd f : Nat) : Int) := by
   have := hd_or f.no.toNat f.ty.toNat (by omega) (by omega)
   rw [Int.toNat_of_nonneg h0, Int.toNat_of_nonneg h2] at this
   exact this
 unfold fagg
 have R0 := hp1_0 w (.cells #[.int .i64 f.no, .int .i64 f.ty, .int .u64 (f.num : Int), u] 60)
 have hw : Below w.heap.size w (w.alloc (.cells #[.int .i64 f.no, .int .i64 f.ty, .int .u64 (f.num : Int), u] 60)) := (Below.refl _ _).alloc (Nat.le_refl _) _
 have c0 : (w.alloc (.cells #[.int .i64 f.no, .int .i64 f.ty, .int .u64 (f.num : Int), u] 60)).cell? ⟨w.heap.size, 0, none⟩ = some (.int .i64 f.no) := cell_of_row _ _ _ _ _ _ R0
 have c1 : (w.alloc (.cells #[.int .i64 f.no, .int .i64 f.ty, .int .u64 (f.num : Int), u] 60)).cell? ⟨w.heap.size, 1, none⟩ = some (.int .i64 f.ty) := cell_of_row _ _ _ _ _ _ R0
 have c2 : (w.alloc (.cells #[.int .i64 f.no, .int .i64 f.ty, .int .u64 (f.num : Int), u] 60)).cell? ⟨w.heap.size, 2, none⟩ = some (.int .u64 (f.num : Int)) := cell_of_row _ _ _ _ _ _ R0
 have c3 : (w.alloc (.cells #[.int .i64 f.no, .int .i64 f.ty, .int .u64 (f.num : Int), u] 60)).cell? ⟨w.heap.size, 3, none⟩ = some (u) := cell_of_row _ _ _ _ _ _ R0
 go_enter Tryz.func91, Tryz.ntmps91
 clear R0
 go_wp2_with (fail)
 go_ret
 refine ⟨?_, hw⟩
 rw [← e1]
 first | rfl | (congr 3; omega)
theorem tyq (t k : Int) : (t == k) = decide (t = k) := by
 by_cases h : t = k
 · rw [decide_eq_true h]; simpa using h
 · rw [decide_eq_false h]; simpa using h
set_option maxHeartbeats 2000000 in
theorem a_checkHead (f : Fd) (u : Value) (last : Int) : Gives 76 #[fagg f u, .int .i64 last] (.int .i64 (hck f last)) := by
 intro w
 unfold fagg hck
 by_cases h1 : f.no ≤ last
 · have d1 : decide (f.no ≤ last) = true := decide_eq_true h1
   rw [if_pos (.inl h1)]
   have R0 := hp1_0 w (.cells #[.int .i64 f.no, .int .i64 f.ty, .int .u64 (f.num : Int), u] 60)
   have hw : Below w.heap.size w (w.alloc (.cells #[.int .i64 f.no, .int .i64 f.ty, .int .u64 (f.num : Int), u] 60)) := (Below.refl _ _).alloc (Nat.le_refl _) _
   have c0 : (w.alloc (.cells #[.int .i64 f.no, .int .i64 f.ty, .int .u64 (f.num : Int), u] 60)).cell? ⟨w.heap.size, 0, none⟩ = some (.int .i64 f.no) := cell_of_row _ _ _ _ _ _ R0
   have c1 : (w.alloc (.cells #[.int .i64 f.no, .int .i64 f.ty, .int .u64 (f.num : Int), u] 60)).cell? ⟨w.heap.size, 1, none⟩ = some (.int .i64 f.ty) := cell_of_row _ _ _ _ _ _ R0
   have c2 : (w.alloc (.cells #[.int .i64 f.no, .int .i64 f.ty, .int .u64 (f.num : Int), u] 60)).cell? ⟨w.heap.size, 2, none⟩ = some (.int .u64 (f.num : Int)) := cell_of_row _ _ _ _ _ _ R0
   have c3 : (w.alloc (.cells #[.int .i64 f.no, .int .i64 f.ty, .int .u64 (f.num : Int), u] 60)).cell? ⟨w.heap.size, 3, none⟩ = some (u) := cell_of_row _ _ _ _ _ _ R0
   go_enter Tryz.func76, Tryz.ntmps76
   clear R0
   go_wp2_with (fail)
   go_ret
   exact ⟨rfl, hw⟩
 have d1 : decide (f.no ≤ last) = false := decide_eq_false h1
 by_cases h2 : 536870911 < f.no
 · have d2 : decide (f.no > 536870911) = true := decide_eq_true h2
   rw [if_pos (.inr h2)]
   have R0 := hp1_0 w (.cells #[.int .i64 f.no, .int .i64 f.ty, .int .u64 (f.num : Int), u] 60)
   have hw : Below w.heap.size w (w.alloc (.cells #[.int .i64 f.no, .int .i64 f.ty, .int .u64 (f.num : Int), u] 60)) := (Below.refl _ _).alloc (Nat.le_refl _) _
   have c0 : (w.alloc (.cells #[.int .i64 f.no, .int .i64 f.ty, .int .u64 (f.num : Int), u] 60)).cell? ⟨w.heap.size, 0, none⟩ = some (.int .i64 f.no) := cell_of_row _ _ _ _ _ _ R0
   have c1 : (w.alloc (.cells #[.int .i64 f.no, .int .i64 f.ty, .int .u64 (f.num : Int), u] 60)).cell? ⟨w.heap.size, 1, none⟩ = some (.int .i64 f.ty) := cell_of_row _ _ _ _ _ _ R0
   have c2 : (w.alloc (.cells #[.int .i64 f.no, .int .i64 f.ty, .int .u64 (f.num : Int), u] 60)).cell? ⟨w.heap.size, 2, none⟩ = some (.int .u64 (f.num : Int)) := cell_of_row _ _ _ _ _ _ R0
   have c3 : (w.alloc (.cells #[.int .i64 f.no, .int .i64 f.ty, .int .u64 (f.num : Int), u] 60)).cell? ⟨w.heap.size, 3, none⟩ = some (u) := cell_of_row _ _ _ _ _ _ R0
   go_enter Tryz.func76, Tryz.ntmps76
   clear R0
   go_wp2_with (fail)
   go_ret
   exact ⟨rfl, hw⟩
 have d2 : decide (f.no > 536870911) = false := decide_eq_false h2
 rw [if_neg (by omega)]
 by_cases t0 : f.ty = 0
 · rw [t0, if_pos (show known 0 from .inl rfl)]
   have R0 := hp1_0 w (.cells #[.int .i64 f.no, .int .i64 0, .int .u64 (f.num : Int), u] 60)
   have hw : Below w.heap.size w (w.alloc (.cells #[.int .i64 f.no, .int .i64 0, .int .u64 (f.num : Int), u] 60)) := (Below.refl _ _).alloc (Nat.le_refl _) _
   have c0 : (w.alloc (.cells #[.int .i64 f.no, .int .i64 0, .int .u64 (f.num : Int), u] 60)).cell? ⟨w.heap.size, 0, none⟩ = some (.int .i64 f.no) := cell_of_row _ _ _ _ _ _ R0
   have c1 : (w.alloc (.cells #[.int .i64 f.no, .int .i64 0, .int .u64 (f.num : Int), u] 60)).cell? ⟨w.heap.size, 1, none⟩ = some (.int .i64 0) := cell_of_row _ _ _ _ _ _ R0
   have c2 : (w.alloc (.cells #[.int .i64 f.no, .int .i64 0, .int .u64 (f.num : Int), u] 60)).cell? ⟨w.heap.size, 2, none⟩ = some (.int .u64 (f.num : Int)) := cell_of_row _ _ _ _ _ _ R0
   have c3 : (w.alloc (.cells #[.int .i64 f.no, .int .i64 0, .int .u64 (f.num : Int), u] 60)).cell? ⟨w.heap.size, 3, none⟩ = some (u) := cell_of_row _ _ _ _ _ _ R0
   go_enter Tryz.func76, Tryz.ntmps76
   clear R0 h1 h2
   go_wp2_with (fail)
   go_ret
   exact ⟨rfl, hw⟩
 by_cases t1 : f.ty = 1
 · rw [t1, if_pos (show known 1 from .inr (.inl rfl))]
   have R0 := hp1_0 w (.cells #[.int .i64 f.no, .int .i64 1, .int .u64 (f.num : Int), u] 60)
   have hw : Below w.heap.size w (w.alloc (.cells #[.int .i64 f.no, .int .i64 1, .int .u64 (f.num : Int), u] 60)) := (Below.refl _ _).alloc (Nat.le_refl _) _
   have c0 : (w.alloc (.cells #[.int .i64 f.no, .int .i64 1, .int .u64 (f.num : Int), u] 60)).cell? ⟨w.heap.size, 0, none⟩ = some (.int .i64 f.no) := cell_of_row _ _ _ _ _ _ R0
   have c1 : (w.alloc (.cells #[.int .i64 f.no, .int .i64 1, .int .u64 (f.num : Int), u] 60)).cell? ⟨w.heap.size, 1, none⟩ = some (.int .i64 1) := cell_of_row _ _ _ _ _ _ R0
   have c2 : (w.alloc (.cells #[.int .i64 f.no, .int .i64 1, .int .u64 (f.num : Int), u] 60)).cell? ⟨w.heap.size, 2, none⟩ = some (.int .u64 (f.num : Int)) := cell_of_row _ _ _ _ _ _ R0
   have c3 : (w.alloc (.cells #[.int .i64 f.no, .int .i64 1, .int .u64 (f.num : Int), u] 60)).cell? ⟨w.heap.size, 3, none⟩ = some (u) := cell_of_row _ _ _ _ _ _ R0
   go_enter Tryz.func76, Tryz.ntmps76
   clear R0 h1 h2
   go_wp2_with (fail)
   go_ret
   exact ⟨rfl, hw⟩
 by_cases t2 : f.ty = 2
 · rw [t2, if_pos (show known 2 from .inr (.inr (.inl rfl)))]
   have R0 := hp1_0 w (.cells #[.int .i64 f.no, .int .i64 2, .int .u64 (f.num : Int), u] 60)
   have hw : Below w.heap.size w (w.alloc (.cells #[.int .i64 f.no, .int .i64 2, .int .u64 (f.num : Int), u] 60)) := (Below.refl _ _).alloc (Nat.le_refl _) _
   have c0 : (w.alloc (.cells #[.int .i64 f.no, .int .i64 2, .int .u64 (f.num : Int), u] 60)).cell? ⟨w.heap.size, 0, none⟩ = some (.int .i64 f.no) := cell_of_row _ _ _ _ _ _ R0
   have c1 : (w.alloc (.cells #[.int .i64 f.no, .int .i64 2, .int .u64 (f.num : Int), u] 60)).cell? ⟨w.heap.size, 1, none⟩ = some (.int .i64 2) := cell_of_row _ _ _ _ _ _ R0
   have c2 : (w.alloc (.cells #[.int .i64 f.no, .int .i64 2, .int .u64 (f.num : Int), u] 60)).cell? ⟨w.heap.size, 2, none⟩ = some (.int .u64 (f.num : Int)) := cell_of_row _ _ _ _ _ _ R0
   have c3 : (w.alloc (.cells #[.int .i64 f.no, .int .i64 2, .int .u64 (f.num : Int), u] 60)).cell? ⟨w.heap.size, 3, none⟩ = some (u) := cell_of_row _ _ _ _ _ _ R0
   go_enter Tryz.func76, Tryz.ntmps76
   clear R0 h1 h2
   go_wp2_with (fail)
   go_ret
   exact ⟨rfl, hw⟩
 by_cases t5 : f.ty = 5
 · rw [t5, if_pos (show known 5 from .inr (.inr (.inr rfl)))]
   have R0 := hp1_0 w (.cells #[.int .i64 f.no, .int .i64 5, .int .u64 (f.num : Int), u] 60)
   have hw : Below w.heap.size w (w.alloc (.cells #[.int .i64 f.no, .int .i64 5, .int .u64 (f.num : Int), u] 60)) := (Below.refl _ _).alloc (Nat.le_refl _) _
   have c0 : (w.alloc (.cells #[.int .i64 f.no, .int .i64 5, .int .u64 (f.num : Int), u] 60)).cell? ⟨w.heap.size, 0, none⟩ = some (.int .i64 f.no) := cell_of_row _ _ _ _ _ _ R0
   have c1 : (w.alloc (.cells #[.int .i64 f.no, .int .i64 5, .int .u64 (f.num : Int), u] 60)).cell? ⟨w.heap.size, 1, none⟩ = some (.int .i64 5) := cell_of_row _ _ _ _ _ _ R0
   have c2 : (w.alloc (.cells #[.int .i64 f.no, .int .i64 5, .int .u64 (f.num : Int), u] 60)).cell? ⟨w.heap.size, 2, none⟩ = some (.int .u64 (f.num : Int)) := cell_of_row _ _ _ _ _ _ R0
   have c3 : (w.alloc (.cells #[.int .i64 f.no, .int .i64 5, .int .u64 (f.num : Int), u] 60)).cell? ⟨w.heap.size, 3, none⟩ = some (u) := cell_of_row _ _ _ _ _ _ R0
   go_enter Tryz.func76, Tryz.ntmps76
   clear R0 h1 h2
   go_wp2_with (fail)
   go_ret
   exact ⟨rfl, hw⟩
 have q0 : (f.ty == 0) = false := by simpa using t0
 have q1 : (f.ty == 1) = false := by simpa using t1
 have q2 : (f.ty == 2) = false := by simpa using t2
 have q5 : (f.ty == 5) = false := by simpa using t5
 rw [if_neg (show ¬ known f.ty by unfold known; omega)]
 clear t0 t1 t2 t5
 have R0 := hp1_0 w (.cells #[.int .i64 f.no, .int .i64 f.ty, .int .u64 (f.num : Int), u] 60)
 have hw : Below w.heap.size w (w.alloc (.cells #[.int .i64 f.no, .int .i64 f.ty, .int .u64 (f.num : Int), u] 60)) := (Below.refl _ _).alloc (Nat.le_refl _) _
 have c0 : (w.alloc (.cells #[.int .i64 f.no, .int .i64 f.ty, .int .u64 (f.num : Int), u] 60)).cell? ⟨w.heap.size, 0, none⟩ = some (.int .i64 f.no) := cell_of_row _ _ _ _ _ _ R0
 have c1 : (w.alloc (.cells #[.int .i64 f.no, .int .i64 f.ty, .int .u64 (f.num : Int), u] 60)).cell? ⟨w.heap.size, 1, none⟩ = some (.int .i64 f.ty) := cell_of_row _ _ _ _ _ _ R0
 have c2 : (w.alloc (.cells #[.int .i64 f.no, .int .i64 f.ty, .int .u64 (f.num : Int), u] 60)).cell? ⟨w.heap.size, 2, none⟩ = some (.int .u64 (f.num : Int)) := cell_of_row _ _ _ _ _ _ R0
 have c3 : (w.alloc (.cells #[.int .i64 f.no, .int .i64 f.ty, .int .u64 (f.num : Int), u] 60)).cell? ⟨w.heap.size, 3, none⟩ = some (u) := cell_of_row _ _ _ _ _ _ R0
 go_enter Tryz.func76, Tryz.ntmps76
 clear R0 h1 h2
 go_wp2_with (fail)
 go_ret
 exact ⟨rfl, hw⟩
theorem hck_cases (f : Fd) (last : Int) : hck f last = 0 ∨ hck f last = 71 ∨ hck f last = 72 := by
 unfold hck
 split
 · exact .inr (.inl rfl)
 · split
   · exact .inl rfl
   · exact .inr (.inr rfl)
set_option maxHeartbeats 4000000 in
theorem a_checkField (f : Fd) (ao : Option Addr) (cap : Nat) (last : Int) : Gives 83 #[fagg f (.slice ao f.dat.length cap), .int .i64 last] (.int .i64 (fck f last)) := by
 intro w
 obtain ⟨u, hu⟩ : ∃ u, Value.slice ao f.dat.length cap = u := ⟨_, rfl⟩
 have cH := a_checkHead f u last
 rw [hu]
 unfold fagg at *
 have R0 := hp1_0 w (.cells #[.int .i64 f.no, .int .i64 f.ty, .int .u64 (f.num : Int), u] 60)
 have hw : Below w.heap.size w (w.alloc (.cells #[.int .i64 f.no, .int .i64 f.ty, .int .u64 (f.num : Int), u] 60)) := (Below.refl _ _).alloc (Nat.le_refl _) _
 have c0 : (w.alloc (.cells #[.int .i64 f.no, .int .i64 f.ty, .int .u64 (f.num : Int), u] 60)).cell? ⟨w.heap.size, 0, none⟩ = some (.int .i64 f.no) := cell_of_row _ _ _ _ _ _ R0
 have c1 : (w.alloc (.cells #[.int .i64 f.no, .int .i64 f.ty, .int .u64 (f.num : Int), u] 60)).cell? ⟨w.heap.size, 1, none⟩ = some (.int .i64 f.ty) := cell_of_row _ _ _ _ _ _ R0
 have c2 : (w.alloc (.cells #[.int .i64 f.no, .int .i64 f.ty, .int .u64 (f.num : Int), u] 60)).cell? ⟨w.heap.size, 2, none⟩ = some (.int .u64 (f.num : Int)) := cell_of_row _ _ _ _ _ _ R0
 have c3 : (w.alloc (.cells #[.int .i64 f.no, .int .i64 f.ty, .int .u64 (f.num : Int), u] 60)).cell? ⟨w.heap.size, 3, none⟩ = some (u) := cell_of_row _ _ _ _ _ _ R0
 go_enter Tryz.func83, Tryz.ntmps83
 have cH0 := cH (w.alloc (.cells #[.int .i64 f.no, .int .i64 f.ty, .int .u64 (f.num : Int), u] 60))
 clear cH
 go_wp2_with (first | (refine wpList_load_want rfl 60 _ rfl (w.heap.size) rfl 60 #[.int .i64 f.no, .int .i64 f.ty, .int .u64 (f.num : Int), u] (0, 0) _ R0 Tryz.underlying60 rfl infoF ?_) | fail)
 generalize w.alloc (.cells #[.int .i64 f.no, .int .i64 f.ty, .int .u64 (f.num : Int), u] 60) = w0 at *
 refine cH0.mono ?_
 rintro e_ w1 ⟨rfl, hb⟩
 have l0 := lt_of_row R0
 replace hw := hw.trans (hb.mono hw.size)
 replace c1 := (hb.cell (p := ⟨w.heap.size, 1, none⟩) l0).trans c1
 replace c2 := (hb.cell (p := ⟨w.heap.size, 2, none⟩) l0).trans c2
 replace c3 := (hb.cell (p := ⟨w.heap.size, 3, none⟩) l0).trans c3
 clear hb R0 c0 cH0
 by_cases h0 : hck f last = 0
 · have hfk : fck f last = if fits f then 0 else 1 := by unfold fck; rw [h0]; rfl
   rw [h0]
   have hfk2 : fits f ↔ if f.ty = 2 then f.num = 0 else f.dat = [] ∧ (f.ty = 5 → f.num ≤ 4294967295) := Iff.rfl
   subst hu
   clear h0
   by_cases t2 : f.ty = 2
   · rw [t2] at c1
     rw [if_pos t2] at hfk2
     by_cases q : f.num = 0
     · rw [if_pos (hfk2.2 q)] at hfk
       clear hfk2
       replace hfk := hide hfk
       rw [q] at c2
       clear q t2
       go_wp2_with (fail)
       go_ret
       exact ⟨by rw [hfk.out]; rfl, hw⟩
     · rw [if_neg (fun h => q (hfk2.1 h))] at hfk
       clear hfk2
       replace hfk := hide hfk
       have d1 : decide ((f.num : Int) > 0) = true := by simp; omega
       have d2 : 0 < f.num := by omega
       clear t2
       go_wp2_with (fail)
       go_ret
       exact ⟨by rw [hfk.out]; rfl, hw⟩
   · rw [if_neg t2] at hfk2
     have q2 : (f.ty == 2) = false := by simpa using t2
     by_cases q : f.dat = []
     · have hl : f.dat.length = 0 := by rw [q]; rfl
       rw [hl] at c3
       by_cases t5 : f.ty = 5
       · rw [t5] at c1
         by_cases qn : f.num ≤ 4294967295
         · rw [if_pos (hfk2.2 ⟨q, fun _ => qn⟩)] at hfk
           clear hfk2
           replace hfk := hide hfk
           have d1 : decide ((f.num : Int) > 4294967295) = false := by simp; omega
           clear q2 t2 t5 q hl
           go_wp2_with (fail)
           go_ret
           exact ⟨by rw [hfk.out]; rfl, hw⟩
         · rw [if_neg (fun h => qn ((hfk2.1 h).2 t5))] at hfk
           clear hfk2
           replace hfk := hide hfk
           have d1 : decide ((f.num : Int) > 4294967295) = true := by simp; omega
           clear q2 t2 t5 q hl
           go_wp2_with (fail)
           go_ret
           exact ⟨by rw [hfk.out]; rfl, hw⟩
       · rw [if_pos (hfk2.2 ⟨q, fun h => absurd h t5⟩)] at hfk
         clear hfk2
         replace hfk := hide hfk
         have q5 : (f.ty == 5) = false := by simpa using t5
         clear t2 t5 q hl
         go_wp2_with (fail)
         go_ret
         exact ⟨by rw [hfk.out]; rfl, hw⟩
     · rw [if_neg (fun h => q (hfk2.1 h).1)] at hfk
       clear hfk2
       replace hfk := hide hfk
       have hl : 0 < f.dat.length := by
         rcases Nat.eq_zero_or_pos f.dat.length with h | h
         · exact absurd (List.eq_nil_of_length_eq_zero h) q
         · exact h
       have d1 : decide ((f.dat.length : Int) > 0) = true := by simp; omega
       clear q t2
       go_wp2_with (fail)
       go_ret
       exact ⟨by rw [hfk.out]; rfl, hw⟩
 · have hfk : Hid (fck f last = hck f last) := hide (by unfold fck; rw [if_pos h0])
   have he : (hck f last == 0) = false := by simpa using h0
   generalize hck f last = E at *
   clear h0
   go_wp2_with (fail)
   go_ret
   exact ⟨by rw [hfk.out]; rfl, hw⟩
theorem Fok.hd {f : Fd} (h1 : f.no ≤ 536870911) (h2 : f.ty < 8) : fhd f < 18446744073709551616 := by unfold fhd; omega
set_option maxHeartbeats 2000000 in
theorem a_sizeOfField (f : Fd) (ao : Option Addr) (cap : Nat) (hf : Fok f) (h0 : 0 ≤ f.no) (h1 : f.no ≤ 536870911) (hk : known f.ty) : Gives 84 #[fagg f (.slice ao f.dat.length cap)] (.int .i64 ((fby f).length : Int)) := by
 intro w
 have ht := known_lt hk
 obtain ⟨u, hu⟩ : ∃ u, Value.slice ao f.dat.length cap = u := ⟨_, rfl⟩
 have cH := a_headOf f u h0 h1 ht.1 ht.2
 have hhl := Fok.hd h1 ht.2
 have cS := a_size (fhd f) hhl
 have cN := a_size f.num hf.1
 have cI := a_sizeOfItem f.dat ao cap hf.2.1
 have hten := en_ten hhl
 have hten2 := en_ten hf.1
 have hit := itm_len f.dat
 have hten3 := en_ten (n := f.dat.length) (by have := hf.2.1; omega)
 have hl : (fby f).length = (en (fhd f)).length + (fvl f).length := by rw [fby, List.length_append]
 have hfd := hf.2.1
 have hvl : fvl f = if f.ty = 0 then en f.num else if f.ty = 1 then fx 8 f.num else if f.ty = 5 then fx 4 f.num else itm f.dat := rfl
 unfold known at hk
 rw [hu]
 unfold fagg at *
 have R0 := hp1_0 w (.cells #[.int .i64 f.no, .int .i64 f.ty, .int .u64 (f.num : Int), u] 60)
 have hw : Below w.heap.size w (w.alloc (.cells #[.int .i64 f.no, .int .i64 f.ty, .int .u64 (f.num : Int), u] 60)) := (Below.refl _ _).alloc (Nat.le_refl _) _
 have c0 : (w.alloc (.cells #[.int .i64 f.no, .int .i64 f.ty, .int .u64 (f.num : Int), u] 60)).cell? ⟨w.heap.size, 0, none⟩ = some (.int .i64 f.no) := cell_of_row _ _ _ _ _ _ R0
 have c1 : (w.alloc (.cells #[.int .i64 f.no, .int .i64 f.ty, .int .u64 (f.num : Int), u] 60)).cell? ⟨w.heap.size, 1, none⟩ = some (.int .i64 f.ty) := cell_of_row _ _ _ _ _ _ R0
 have c2 : (w.alloc (.cells #[.int .i64 f.no, .int .i64 f.ty, .int .u64 (f.num : Int), u] 60)).cell? ⟨w.heap.size, 2, none⟩ = some (.int .u64 (f.num : Int)) := cell_of_row _ _ _ _ _ _ R0
 have c3 : (w.alloc (.cells #[.int .i64 f.no, .int .i64 f.ty, .int .u64 (f.num : Int), u] 60)).cell? ⟨w.heap.size, 3, none⟩ = some (u) := cell_of_row _ _ _ _ _ _ R0
 go_enter Tryz.func84, Tryz.ntmps84
 have cH0 := cH (w.alloc (.cells #[.int .i64 f.no, .int .i64 f.ty, .int .u64 (f.num : Int), u] 60))
 clear cH
 go_wp2_with (first | (refine wpList_load_want rfl 60 _ rfl (w.heap.size) rfl 60 #[.int .i64 f.no, .int .i64 f.ty, .int .u64 (f.num : Int), u] (0, 0) _ R0 Tryz.underlying60 rfl infoF ?_) | fail)
 generalize w.alloc (.cells #[.int .i64 f.no, .int .i64 f.ty, .int .u64 (f.num : Int), u] 60) = w0 at *
 refine cH0.mono ?_
 rintro e_ w1 ⟨rfl, hb⟩
 have l0 := lt_of_row R0
 replace hw := hw.trans (hb.mono hw.size)
 replace c1 := (hb.cell (p := ⟨w.heap.size, 1, none⟩) l0).trans c1
 replace c2 := (hb.cell (p := ⟨w.heap.size, 2, none⟩) l0).trans c2
 replace c3 := (hb.cell (p := ⟨w.heap.size, 3, none⟩) l0).trans c3
 replace l0 : w.heap.size < w1.heap.size := Nat.lt_of_lt_of_le l0 hb.size
 clear hb R0 c0 cH0
 have cS1 := cS w1
 clear cS
 generalize hHl : (en (fhd f)).length = H at *
 generalize fhd f = FH at *
 go_wp2_with (fail)
 refine cS1.mono ?_
 rintro e_ w2 ⟨rfl, hb⟩
 replace hw := hw.trans (hb.mono hw.size)
 replace c1 := (hb.cell (p := ⟨w.heap.size, 1, none⟩) l0).trans c1
 replace c2 := (hb.cell (p := ⟨w.heap.size, 2, none⟩) l0).trans c2
 replace c3 := (hb.cell (p := ⟨w.heap.size, 3, none⟩) l0).trans c3
 clear hb cS1 hHl
 rcases hk with t | t | t | t
 · rw [t] at c1
   have hl2 : Hid ((fby f).length = H + (en f.num).length) := hide (by rw [hl, hvl, if_pos t])
   have cN2 := cN w2
   clear hl hvl cN cI t hit
   generalize (en f.num).length = N at *
   go_wp2_with (fail)
   refine cN2.mono ?_
   rintro e_ w3 ⟨rfl, hb⟩
   replace hw := hw.trans (hb.mono hw.size)
   clear hb cN2
   go_wp2_with (fail)
   go_ret
   exact ⟨by rw [hl2.out, Int.natCast_add]; rfl, hw⟩
 · rw [t] at c1
   have hl2 : Hid ((fby f).length = H + 8) := hide (by rw [hl, hvl, if_neg (by omega), if_pos t, fx_len])
   clear hl hvl cN cI t hit
   go_wp2_with (fail)
   go_ret
   exact ⟨by rw [hl2.out, Int.natCast_add]; rfl, hw⟩
 · rw [t] at c1
   have hl2 : Hid ((fby f).length = H + (itm f.dat).length) := hide (by rw [hl, hvl, if_neg (by omega), if_neg (by omega), if_neg (by omega)])
   have cN2 := cI w2
   rw [← hu] at c3
   have hnb : (itm f.dat).length ≤ 140737488351250 := by omega
   clear hl hvl cN cI t hu hit
   generalize (itm f.dat).length = N at *
   generalize f.dat.length = P at *
   go_wp2_with (fail)
   refine cN2.mono ?_
   rintro e_ w3 ⟨rfl, hb⟩
   replace hw := hw.trans (hb.mono hw.size)
   clear hb cN2
   go_wp2_with (fail)
   go_ret
   exact ⟨by rw [hl2.out, Int.natCast_add]; rfl, hw⟩
 · rw [t] at c1
   have hl2 : Hid ((fby f).length = H + 4) := hide (by rw [hl, hvl, if_neg (by omega), if_neg (by omega), if_pos t, fx_len])
   clear hl hvl cN cI t hit
   go_wp2_with (fail)
   go_ret
   exact ⟨by rw [hl2.out, Int.natCast_add]; rfl, hw⟩
set_option maxHeartbeats 4000000 in
theorem a_addField (d : List B) (f : Fd) (base : Nat) (w : World) (v : Value) (ao : Option Addr) (cap : Nat) (hO : Own w base v d) (hb0 : base ≤ w.heap.size) (hu : BysB w (.slice ao f.dat.length cap) f.dat) (hne : ∀ a, ao = some a → 0 < f.dat.length → v.ownBlock ≠ some a.block) (hf : Fok f) (h0 : 0 ≤ f.no) (h1 : f.no ≤ 536870911) (hk : known f.ty) (hl : d.length + (fby f).length ≤ 140737488355000) : Calls Tryz.prog 85 #[v, fagg f (.slice ao f.dat.length cap)] w fun e w' => ∃ x, e = .returned x ∧ (Own w' base x (d ++ fby f) ∧ Frm w w' v ∧ Nx w v x) ∧ Below base w w' := by
 have ht := known_lt hk
 have hhl := Fok.hd h1 ht.2
 have hten := en_ten hhl
 have hep := en_pos (fhd f)
 have hfl : (fby f).length = (en (fhd f)).length + (fvl f).length := by rw [fby, List.length_append]
 have hvl : fvl f = if f.ty = 0 then en f.num else if f.ty = 1 then fx 8 f.num else if f.ty = 5 then fx 4 f.num else itm f.dat := rfl
 have hfb : fby f = en (fhd f) ++ fvl f := rfl
 have hfd := hf.2.1
 have hnum := hf.1
 have hvb : v.ownBlock ≠ some w.heap.size := fun e => by have := own_high hO _ e; omega
 obtain ⟨u, hue⟩ : ∃ u, Value.slice ao f.dat.length cap = u := ⟨_, rfl⟩
 have cH := a_headOf f u h0 h1 ht.1 ht.2
 unfold known at hk
 rw [hue]
 unfold fagg at *
 have R0 := hp1_0 w (.cells #[.int .i64 f.no, .int .i64 f.ty, .int .u64 (f.num : Int), u] 60)
 have hw : Below w.heap.size w (w.alloc (.cells #[.int .i64 f.no, .int .i64 f.ty, .int .u64 (f.num : Int), u] 60)) := (Below.refl _ _).alloc (Nat.le_refl _) _
 have c0 : (w.alloc (.cells #[.int .i64 f.no, .int .i64 f.ty, .int .u64 (f.num : Int), u] 60)).cell? ⟨w.heap.size, 0, none⟩ = some (.int .i64 f.no) := cell_of_row _ _ _ _ _ _ R0
 have c1 : (w.alloc (.cells #[.int .i64 f.no, .int .i64 f.ty, .int .u64 (f.num : Int), u] 60)).cell? ⟨w.heap.size, 1, none⟩ = some (.int .i64 f.ty) := cell_of_row _ _ _ _ _ _ R0
 have c2 : (w.alloc (.cells #[.int .i64 f.no, .int .i64 f.ty, .int .u64 (f.num : Int), u] 60)).cell? ⟨w.heap.size, 2, none⟩ = some (.int .u64 (f.num : Int)) := cell_of_row _ _ _ _ _ _ R0
 have c3 : (w.alloc (.cells #[.int .i64 f.no, .int .i64 f.ty, .int .u64 (f.num : Int), u] 60)).cell? ⟨w.heap.size, 3, none⟩ = some (u) := cell_of_row _ _ _ _ _ _ R0
 go_enter Tryz.func85, Tryz.ntmps85
 have cH0 := cH (w.alloc (.cells #[.int .i64 f.no, .int .i64 f.ty, .int .u64 (f.num : Int), u] 60))
 have hwb : Below base w (w.alloc (.cells #[.int .i64 f.no, .int .i64 f.ty, .int .u64 (f.num : Int), u] 60)) := (Below.refl _ _).alloc hb0 _
 have hF := (Frm.refl w v).alloc (Nat.le_refl _) (.cells #[.int .i64 f.no, .int .i64 f.ty, .int .u64 (f.num : Int), u] 60)
 have hOa := own_alloc hO (.cells #[.int .i64 f.no, .int .i64 f.ty, .int .u64 (f.num : Int), u] 60)
 clear cH hO
 go_wp2_with (first | (refine wpList_load_want rfl 60 _ rfl (w.heap.size) rfl 60 #[.int .i64 f.no, .int .i64 f.ty, .int .u64 (f.num : Int), u] (0, 0) _ R0 Tryz.underlying60 rfl infoF ?_) | fail)
 generalize w.alloc (.cells #[.int .i64 f.no, .int .i64 f.ty, .int .u64 (f.num : Int), u] 60) = w0 at *
 refine cH0.mono ?_
 rintro e_ w1 ⟨rfl, hb⟩
 have l0 := lt_of_row R0
 replace hwb := hwb.trans (hb.mono (Nat.le_trans hb0 (Nat.le_of_lt l0)))
 replace hF := hF.below (Nat.le_of_lt l0) hb
 replace c1 := (hb.cell (p := ⟨w.heap.size, 1, none⟩) l0).trans c1
 replace c2 := (hb.cell (p := ⟨w.heap.size, 2, none⟩) l0).trans c2
 replace c3 := (hb.cell (p := ⟨w.heap.size, 3, none⟩) l0).trans c3
 replace hOa := hOa.keep hb
 replace l0 : w.heap.size < w1.heap.size := Nat.lt_of_lt_of_le l0 hb.size
 clear hb R0 c0 cH0
 have cN := a_addNumberN d (fhd f) hhl base w1 v hOa (by omega) (by omega)
 generalize hE : en (fhd f) = E at *
 generalize fhd f = FH at *
 go_wp2_with (fail)
 refine cN.mono ?_
 rintro e_ w2 ⟨v2, rfl, ⟨hO2, hF2, hN2⟩, hb⟩
 have s2 := hb.size
 replace hwb := hwb.trans hb
 replace hF := hF.trans (Nat.le_of_lt l0) (Nx.refl _ _) hF2
 replace hN2 : Nx w v v2 := (Nx.refl w v).trans (Nat.le_of_lt l0) hN2
 replace c1 := (hF2.cell (o := 1) l0 hvb).trans c1
 replace c2 := (hF2.cell (o := 2) l0 hvb).trans c2
 replace c3 := (hF2.cell (o := 3) l0 hvb).trans c3
 clear hb cN hOa hF2
 have hD : d ++ fby f = (d ++ E) ++ fvl f := by rw [hfb, List.append_assoc]
 replace hD := hide hD
 have hDl : (d ++ E).length = d.length + E.length := List.length_append
 rcases hk with t | t | t | t
 · rw [t] at c1
   rw [if_pos t] at hvl
   rw [hvl] at hD
   have hlv : (en f.num).length = (fvl f).length := by rw [hvl]
   have cX := a_addNumberN (d ++ E) f.num hnum base w2 v2 hO2 (by omega) (by have := en_ten hnum; omega)
   clear hvl hfb hfl hlv hDl t hu
   generalize d ++ E = D at *
   generalize hZ : en f.num = Z at *
   go_wp2_with (fail)
   refine cX.mono ?_
   rintro e_ w3 ⟨v3, rfl, ⟨hO3, hF3, hN3⟩, hb⟩
   replace hwb := hwb.trans hb
   replace hF := hF.trans (by omega) hN2 hF3
   have hN := hN2.trans (by omega) hN3
   clear hb cX
   go_wp2_with (fail)
   go_ret
   exact ⟨v3, rfl, ⟨by rw [hD.out]; exact hO3, hF, hN⟩, hwb⟩
 · rw [t] at c1
   rw [if_neg (by omega), if_pos t] at hvl
   rw [hvl] at hD
   have hlv : (fx 8 f.num).length = (fvl f).length := by rw [hvl]
   have cX := a_addFixedN (d ++ E) f.num 8 (by omega) base w2 v2 hO2 (by omega) (by rw [fx_len] at hlv; omega)
   clear hvl hfb hfl hlv hDl t hu
   generalize d ++ E = D at *
   generalize hZ : fx 8 f.num = Z at *
   go_wp2_with (fail)
   refine cX.mono ?_
   rintro e_ w3 ⟨v3, rfl, ⟨hO3, hF3, hN3⟩, hb⟩
   replace hwb := hwb.trans hb
   replace hF := hF.trans (by omega) hN2 hF3
   have hN := hN2.trans (by omega) hN3
   clear hb cX
   go_wp2_with (fail)
   go_ret
   exact ⟨v3, rfl, ⟨by rw [hD.out]; exact hO3, hF, hN⟩, hwb⟩
 · rw [t] at c1
   rw [if_neg (by omega), if_neg (by omega), if_neg (by omega)] at hvl
   rw [hvl] at hD
   have hlv : (itm f.dat).length = (fvl f).length := by rw [hvl]
   have hun : ∀ V, Frm w2 V v2 → w2.heap.size ≤ V.heap.size → BysB V u f.dat := fun V hV hs => by
     have hFV : Frm w V v := hF.trans (by omega) hN2 hV
     refine hFV.bys (by omega) (by rw [← hue]; exact hu) (fun a l c e hl => ?_)
     rw [← hue] at e
     cases e
     exact hne a rfl hl
   have hu2 := hun w2 (Frm.refl _ _) (Nat.le_refl _)
   have cX := a_addItemN (d ++ E) f.dat base w2 v2 u hO2 hu2 hun (by omega) (by omega)
   clear hvl hfb hfl hlv hDl t hu hun hu2
   generalize d ++ E = D at *
   generalize hZ : itm f.dat = Z at *
   go_wp2_with (fail)
   refine cX.mono ?_
   rintro e_ w3 ⟨v3, rfl, ⟨hO3, hF3, hN3⟩, hb⟩
   replace hwb := hwb.trans hb
   replace hF := hF.trans (by omega) hN2 hF3
   have hN := hN2.trans (by omega) hN3
   clear hb cX
   go_wp2_with (fail)
   go_ret
   exact ⟨v3, rfl, ⟨by rw [hD.out]; exact hO3, hF, hN⟩, hwb⟩
 · rw [t] at c1
   rw [if_neg (by omega), if_neg (by omega), if_pos t] at hvl
   rw [hvl] at hD
   have hlv : (fx 4 f.num).length = (fvl f).length := by rw [hvl]
   have cX := a_addFixedN (d ++ E) f.num 4 (by omega) base w2 v2 hO2 (by omega) (by rw [fx_len] at hlv; omega)
   clear hvl hfb hfl hlv hDl t hu
   generalize d ++ E = D at *
   generalize hZ : fx 4 f.num = Z at *
   go_wp2_with (fail)
   refine cX.mono ?_
   rintro e_ w3 ⟨v3, rfl, ⟨hO3, hF3, hN3⟩, hb⟩
   replace hwb := hwb.trans hb
   replace hF := hF.trans (by omega) hN2 hF3
   have hN := hN2.trans (by omega) hN3
   clear hb cX
   go_wp2_with (fail)
   go_ret
   exact ⟨v3, rfl, ⟨by rw [hD.out]; exact hO3, hF, hN⟩, hwb⟩
end Go.Proofs.YtleeadbceljfbaaGreatDoor
