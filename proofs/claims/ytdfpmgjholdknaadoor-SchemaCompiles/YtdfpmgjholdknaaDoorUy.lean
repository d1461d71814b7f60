import Derived.Test.YtdfpmgjholdknaaDoorUx
namespace Go.Proofs.YtdfpmgjholdknaaDoor
set_option maxRecDepth 100000
open Go Go.RowKit Go.Sort
attribute [local go_sem] setCell_drewN alloc_drewN
@[local go_sem] theorem run_store_flt {P : Program} {w : World} {a : Addr} {m : Mode} (k : FloatKind) (b : Nat) : (store a (.float k b) m).run P w = stored P w a (.float k b) m := run_store P w a _ m rfl
/-- A box. -/
def Bx (W : World) (g : Nat) (c : Array Value) : Prop := ∃ T, W.heap[g]? = some (.cells c T (0, 0))
theorem Bx.keep {W V : World} {g : Nat} {c : Array Value} (h : Bx W g c) (hb : Below W.heap.size W V) : Bx V g c := by
  obtain ⟨T, h⟩ := h
  exact ⟨T, Go.Proofs.YtdfpmgjholdknaaDoor.keep hb h⟩
theorem Bx.other {W : World} {g k : Nat} {c : Array Value} {o : Nat} {v : Value} (h : Bx W g c) (hk : g ≠ k) : Bx (W.setCell ⟨k, o, none⟩ v) g c := by
  obtain ⟨T, h⟩ := h
  exact ⟨T, (heap_setCell_other W _ g v hk).trans h⟩
theorem Bx.five {W : World} {g k : Nat} {c : Array Value} {o0 o1 o2 o3 o4 : Nat} {v0 v1 v2 v3 v4 : Value} (h : Bx W g c) (hk : g ≠ k) : Bx (((((W.setCell ⟨k, o0, none⟩ v0).setCell ⟨k, o1, none⟩ v1).setCell ⟨k, o2, none⟩ v2).setCell ⟨k, o3, none⟩ v3).setCell ⟨k, o4, none⟩ v4) g c := ((((h.other hk).other hk).other hk).other hk).other hk
theorem ta_numbers (c : Value) (W : World) : (Instr.typeAssert (.iface 79 c) 61 79 true).run Tryd.prog W = .ok (.tuple #[c, .bool true]) W := by kernel_rfl
theorem ta_floats_numbers (c : Value) (W : World) : (Instr.typeAssert (.iface 89 c) 61 79 true).run Tryd.prog W = .ok (.tuple #[.agg #[.int .i64 0, .int .u64 0, .int .u64 0], .bool false]) W := by kernel_rfl
theorem ta_floats (c : Value) (W : World) : (Instr.typeAssert (.iface 89 c) 61 89 true).run Tryd.prog W = .ok (.tuple #[c, .bool true]) W := by kernel_rfl
theorem ta_octets_numbers (c : Value) (W : World) : (Instr.typeAssert (.iface 92 c) 61 79 true).run Tryd.prog W = .ok (.tuple #[.agg #[.int .i64 0, .int .u64 0, .int .u64 0], .bool false]) W := by kernel_rfl
theorem ta_octets_floats (c : Value) (W : World) : (Instr.typeAssert (.iface 92 c) 61 89 true).run Tryd.prog W = .ok (.tuple #[.agg #[.float .f64 0], .bool false]) W := by kernel_rfl
theorem ta_octets (c : Value) (W : World) : (Instr.typeAssert (.iface 92 c) 61 92 true).run Tryd.prog W = .ok (.tuple #[c, .bool true]) W := by kernel_rfl
theorem ta_message_numbers (c : Value) (W : World) : (Instr.typeAssert (.iface 35 c) 61 79 true).run Tryd.prog W = .ok (.tuple #[.agg #[.int .i64 0, .int .u64 0, .int .u64 0], .bool false]) W := by kernel_rfl
theorem ta_message_floats (c : Value) (W : World) : (Instr.typeAssert (.iface 35 c) 61 89 true).run Tryd.prog W = .ok (.tuple #[.agg #[.float .f64 0], .bool false]) W := by kernel_rfl
theorem ta_message_octets (c : Value) (W : World) : (Instr.typeAssert (.iface 35 c) 61 92 true).run Tryd.prog W = .ok (.tuple #[.agg #[.int .u64 0, .int .u64 0, .bool false], .bool false]) W := by kernel_rfl
theorem ta_message (c : Value) (W : World) : (Instr.typeAssert (.iface 35 c) 61 35 true).run Tryd.prog W = .ok (.tuple #[c, .bool true]) W := by kernel_rfl
theorem ta_lists_numbers (c : Value) (W : World) : (Instr.typeAssert (.iface 96 c) 61 79 true).run Tryd.prog W = .ok (.tuple #[.agg #[.int .i64 0, .int .u64 0, .int .u64 0], .bool false]) W := by kernel_rfl
theorem ta_lists_floats (c : Value) (W : World) : (Instr.typeAssert (.iface 96 c) 61 89 true).run Tryd.prog W = .ok (.tuple #[.agg #[.float .f64 0], .bool false]) W := by kernel_rfl
theorem ta_lists_octets (c : Value) (W : World) : (Instr.typeAssert (.iface 96 c) 61 92 true).run Tryd.prog W = .ok (.tuple #[.agg #[.int .u64 0, .int .u64 0, .bool false], .bool false]) W := by kernel_rfl
theorem ta_lists_message (c : Value) (W : World) : (Instr.typeAssert (.iface 96 c) 61 35 true).run Tryd.prog W = .ok (.tuple #[.slice none 0 0, .bool false]) W := by kernel_rfl
theorem ta_lists (c : Value) (W : World) : (Instr.typeAssert (.iface 96 c) 61 96 true).run Tryd.prog W = .ok (.tuple #[c, .bool true]) W := by kernel_rfl
set_option maxRecDepth 100000 in
set_option maxHeartbeats 4000000 in
theorem a_ready_num (no wt : Int) (l m : Int) (w : World) : Calls Tryd.prog 21 #[.agg #[.int .i64 no, .iface 79 (.agg #[.int .i64 wt, .int .u64 l, .int .u64 m])]] w fun e w' => e = .returned (.agg #[.int .i64 no, .int .i64 wt, (.func (.func 43) #[] #[.pointer (some ⟨(w.heap.size + 1 + 1 + 1) + 1 + 1 + 1 + 1, 0, none⟩), .pointer (some ⟨(w.heap.size + 1 + 1 + 1), 0, none⟩), .pointer (some ⟨(w.heap.size + 1 + 1 + 1) + 1 + 1, 0, none⟩)] : Value), (.func (.func 45) #[] #[.pointer (some ⟨(w.heap.size + 1 + 1 + 1), 0, none⟩), .pointer (some ⟨(w.heap.size + 1 + 1 + 1) + 1, 0, none⟩)] : Value), (.func (.func 46) #[] #[.pointer (some ⟨(w.heap.size + 1 + 1 + 1) + 1 + 1, 0, none⟩)] : Value)]) ∧ Below w.heap.size w w' ∧ Bx w' (w.heap.size + 1 + 1) #[.int .i64 wt, .int .u64 l, .int .u64 m] ∧ Bx w' (w.heap.size + 1 + 1 + 1) #[.int .i64 no] ∧ Bx w' ((w.heap.size + 1 + 1 + 1) + 1) #[.int .i64 wt] ∧ Bx w' ((w.heap.size + 1 + 1 + 1) + 1 + 1) #[.func (.func 31) #[] #[.pointer (some ⟨w.heap.size + 1 + 1, 0, none⟩)]] ∧ Bx w' ((w.heap.size + 1 + 1 + 1) + 1 + 1 + 1 + 1) #[.bool ((wt : Int) == 2)] := by
  have hsz : (((w.alloc (.cells #[.int .i64 no, .iface 79 (.agg #[.int .i64 wt, .int .u64 l, .int .u64 m])] 63)).alloc (.cells #[.int .i64 0, .int .i64 0, .nilFunc, .nilFunc, .nilFunc] 70)).alloc (.cells #[.int .i64 wt, .int .u64 l, .int .u64 m] 79)).heap.size = (w.heap.size + 1 + 1 + 1) := by simp
  have cP := a_plain no wt 31 #[.pointer (some ⟨w.heap.size + 1 + 1, 0, none⟩)] (((w.alloc (.cells #[.int .i64 no, .iface 79 (.agg #[.int .i64 wt, .int .u64 l, .int .u64 m])] 63)).alloc (.cells #[.int .i64 0, .int .i64 0, .nilFunc, .nilFunc, .nilFunc] 70)).alloc (.cells #[.int .i64 wt, .int .u64 l, .int .u64 m] 79))
  rw [hsz] at cP
  have q1 := xp3_1 w (.cells #[.int .i64 no, .iface 79 (.agg #[.int .i64 wt, .int .u64 l, .int .u64 m])] 63) (.cells #[.int .i64 0, .int .i64 0, .nilFunc, .nilFunc, .nilFunc] 70) (.cells #[.int .i64 wt, .int .u64 l, .int .u64 m] 79)
  have q2 := xp3_2 w (.cells #[.int .i64 no, .iface 79 (.agg #[.int .i64 wt, .int .u64 l, .int .u64 m])] 63) (.cells #[.int .i64 0, .int .i64 0, .nilFunc, .nilFunc, .nilFunc] 70) (.cells #[.int .i64 wt, .int .u64 l, .int .u64 m] 79)
  have hb := xb3 w (.cells #[.int .i64 no, .iface 79 (.agg #[.int .i64 wt, .int .u64 l, .int .u64 m])] 63) (.cells #[.int .i64 0, .int .i64 0, .nilFunc, .nilFunc, .nilFunc] 70) (.cells #[.int .i64 wt, .int .u64 l, .int .u64 m] 79)
  have t0 := ta_numbers (.agg #[.int .i64 wt, .int .u64 l, .int .u64 m])
  have A0 := hide hsz
  have A1 := hide q1
  have A2 := hide q2
  have A3 := hide hb
  clear hsz q1 q2 hb
  go_enter Tryd.func21, Tryd.ntmps21
  go_wp2_with (fail)
  generalize (((w.alloc (.cells #[.int .i64 no, .iface 79 (.agg #[.int .i64 wt, .int .u64 l, .int .u64 m])] 63)).alloc (.cells #[.int .i64 0, .int .i64 0, .nilFunc, .nilFunc, .nilFunc] 70)).alloc (.cells #[.int .i64 wt, .int .u64 l, .int .u64 m] 79)) = w3 at *
  refine cP.mono ?_
  rintro e_ w4 ⟨rfl, hb4, b0, b1, b2, b4⟩
  have hb4' : Below w3.heap.size w3 w4 := by rw [A0.out]; exact hb4
  have r1 := keep hb4' A1.out
  have r2 := keep hb4' A2.out
  have hB := Below.after A3.out hb4'
  have n0 : w4.cell? ⟨w.heap.size + 1, 0, none⟩ = some (.int .i64 0) := cell_of_row _ _ _ _ _ _ r1
  have n1 : w4.cell? ⟨w.heap.size + 1, 1, none⟩ = some (.int .i64 0) := cell_of_row _ _ _ _ _ _ r1
  have n2 : w4.cell? ⟨w.heap.size + 1, 2, none⟩ = some .nilFunc := cell_of_row _ _ _ _ _ _ r1
  have n3 : w4.cell? ⟨w.heap.size + 1, 3, none⟩ = some .nilFunc := cell_of_row _ _ _ _ _ _ r1
  have n4 : w4.cell? ⟨w.heap.size + 1, 4, none⟩ = some .nilFunc := cell_of_row _ _ _ _ _ _ r1
  have z0 : w4.frozen? ⟨w.heap.size + 1, 0, none⟩ = false := by simp [World.frozen?, r1]
  have z1 : w4.frozen? ⟨w.heap.size + 1, 1, none⟩ = false := by simp [World.frozen?, r1]
  have z2 : w4.frozen? ⟨w.heap.size + 1, 2, none⟩ = false := by simp [World.frozen?, r1]
  have z3 : w4.frozen? ⟨w.heap.size + 1, 3, none⟩ = false := by simp [World.frozen?, r1]
  have z4 : w4.frozen? ⟨w.heap.size + 1, 4, none⟩ = false := by simp [World.frozen?, r1]
  have A4 := hide r1
  have A5 := hide r2
  have A6 := hide hB
  have A7 := hide b0
  have A8 := hide b1
  have A9 := hide b2
  have AA := hide b4
  clear r1 r2 hB b0 b1 b2 b4 hb4 hb4' cP A0 A1 A2 A3
  go_wp2_with (fail)
  have HR := heap_setCell_same _ (w.heap.size + 1) 4 _ _ ((.func (.func 46) #[] #[.pointer (some ⟨(w.heap.size + 1 + 1 + 1) + 1 + 1, 0, none⟩)] : Value)) (heap_setCell_same _ (w.heap.size + 1) 3 _ _ ((.func (.func 45) #[] #[.pointer (some ⟨(w.heap.size + 1 + 1 + 1), 0, none⟩), .pointer (some ⟨(w.heap.size + 1 + 1 + 1) + 1, 0, none⟩)] : Value)) (heap_setCell_same _ (w.heap.size + 1) 2 _ _ ((.func (.func 43) #[] #[.pointer (some ⟨(w.heap.size + 1 + 1 + 1) + 1 + 1 + 1 + 1, 0, none⟩), .pointer (some ⟨(w.heap.size + 1 + 1 + 1), 0, none⟩), .pointer (some ⟨(w.heap.size + 1 + 1 + 1) + 1 + 1, 0, none⟩)] : Value)) (heap_setCell_same _ (w.heap.size + 1) 1 _ _ (.int .i64 wt) (heap_setCell_same w4 (w.heap.size + 1) 0 _ _ (.int .i64 no) A4.out))))
  exact bodyPost_ret (v := .agg #[.int .i64 no, .int .i64 wt, (.func (.func 43) #[] #[.pointer (some ⟨(w.heap.size + 1 + 1 + 1) + 1 + 1 + 1 + 1, 0, none⟩), .pointer (some ⟨(w.heap.size + 1 + 1 + 1), 0, none⟩), .pointer (some ⟨(w.heap.size + 1 + 1 + 1) + 1 + 1, 0, none⟩)] : Value), (.func (.func 45) #[] #[.pointer (some ⟨(w.heap.size + 1 + 1 + 1), 0, none⟩), .pointer (some ⟨(w.heap.size + 1 + 1 + 1) + 1, 0, none⟩)] : Value), (.func (.func 46) #[] #[.pointer (some ⟨(w.heap.size + 1 + 1 + 1) + 1 + 1, 0, none⟩)] : Value)]) (results_cell_row Tryd.results21 _ _ (w.heap.size + 1) _ #[.int .i64 no, .int .i64 wt, (.func (.func 43) #[] #[.pointer (some ⟨(w.heap.size + 1 + 1 + 1) + 1 + 1 + 1 + 1, 0, none⟩), .pointer (some ⟨(w.heap.size + 1 + 1 + 1), 0, none⟩), .pointer (some ⟨(w.heap.size + 1 + 1 + 1) + 1 + 1, 0, none⟩)] : Value), (.func (.func 45) #[] #[.pointer (some ⟨(w.heap.size + 1 + 1 + 1), 0, none⟩), .pointer (some ⟨(w.heap.size + 1 + 1 + 1) + 1, 0, none⟩)] : Value), (.func (.func 46) #[] #[.pointer (some ⟨(w.heap.size + 1 + 1 + 1) + 1 + 1, 0, none⟩)] : Value)] _ _ rfl HR Tryd.underlying70 rfl infoSt) rfl ⟨rfl, (((((A6.out.setCell (by show w.heap.size ≤ w.heap.size + 1; omega) _).setCell (by show w.heap.size ≤ w.heap.size + 1; omega) _).setCell (by show w.heap.size ≤ w.heap.size + 1; omega) _).setCell (by show w.heap.size ≤ w.heap.size + 1; omega) _).setCell (by show w.heap.size ≤ w.heap.size + 1; omega) _),
    Bx.five ⟨_, A5.out⟩ (by omega), Bx.five A7.out (by omega), Bx.five A8.out (by omega), Bx.five A9.out (by omega), Bx.five AA.out (by omega)⟩
set_option maxRecDepth 100000 in
set_option maxHeartbeats 4000000 in
theorem a_ready_flt (no : Int) (x : Nat) (w : World) : Calls Tryd.prog 21 #[.agg #[.int .i64 no, .iface 89 (.agg #[.float .f64 x])]] w fun e w' => e = .returned (.agg #[.int .i64 no, .int .i64 1, (.func (.func 43) #[] #[.pointer (some ⟨(w.heap.size + 1 + 1 + 1) + 1 + 1 + 1 + 1, 0, none⟩), .pointer (some ⟨(w.heap.size + 1 + 1 + 1), 0, none⟩), .pointer (some ⟨(w.heap.size + 1 + 1 + 1) + 1 + 1, 0, none⟩)] : Value), (.func (.func 45) #[] #[.pointer (some ⟨(w.heap.size + 1 + 1 + 1), 0, none⟩), .pointer (some ⟨(w.heap.size + 1 + 1 + 1) + 1, 0, none⟩)] : Value), (.func (.func 46) #[] #[.pointer (some ⟨(w.heap.size + 1 + 1 + 1) + 1 + 1, 0, none⟩)] : Value)]) ∧ Below w.heap.size w w' ∧ Bx w' (w.heap.size + 1 + 1) #[.float .f64 x] ∧ Bx w' (w.heap.size + 1 + 1 + 1) #[.int .i64 no] ∧ Bx w' ((w.heap.size + 1 + 1 + 1) + 1) #[.int .i64 1] ∧ Bx w' ((w.heap.size + 1 + 1 + 1) + 1 + 1) #[.func (.func 33) #[] #[.pointer (some ⟨w.heap.size + 1 + 1, 0, none⟩)]] ∧ Bx w' ((w.heap.size + 1 + 1 + 1) + 1 + 1 + 1 + 1) #[.bool ((1 : Int) == 2)] := by
  have hsz : (((w.alloc (.cells #[.int .i64 no, .iface 89 (.agg #[.float .f64 x])] 63)).alloc (.cells #[.int .i64 0, .int .i64 0, .nilFunc, .nilFunc, .nilFunc] 70)).alloc (.cells #[.float .f64 x] 89)).heap.size = (w.heap.size + 1 + 1 + 1) := by simp
  have cP := a_plain no 1 33 #[.pointer (some ⟨w.heap.size + 1 + 1, 0, none⟩)] (((w.alloc (.cells #[.int .i64 no, .iface 89 (.agg #[.float .f64 x])] 63)).alloc (.cells #[.int .i64 0, .int .i64 0, .nilFunc, .nilFunc, .nilFunc] 70)).alloc (.cells #[.float .f64 x] 89))
  rw [hsz] at cP
  have q1 := xp3_1 w (.cells #[.int .i64 no, .iface 89 (.agg #[.float .f64 x])] 63) (.cells #[.int .i64 0, .int .i64 0, .nilFunc, .nilFunc, .nilFunc] 70) (.cells #[.float .f64 x] 89)
  have q2 := xp3_2 w (.cells #[.int .i64 no, .iface 89 (.agg #[.float .f64 x])] 63) (.cells #[.int .i64 0, .int .i64 0, .nilFunc, .nilFunc, .nilFunc] 70) (.cells #[.float .f64 x] 89)
  have hb := xb3 w (.cells #[.int .i64 no, .iface 89 (.agg #[.float .f64 x])] 63) (.cells #[.int .i64 0, .int .i64 0, .nilFunc, .nilFunc, .nilFunc] 70) (.cells #[.float .f64 x] 89)
  have t0 := ta_floats_numbers (.agg #[.float .f64 x])
  have t1 := ta_floats (.agg #[.float .f64 x])
  have A0 := hide hsz
  have A1 := hide q1
  have A2 := hide q2
  have A3 := hide hb
  clear hsz q1 q2 hb
  go_enter Tryd.func21, Tryd.ntmps21
  go_wp2_with (fail)
  generalize (((w.alloc (.cells #[.int .i64 no, .iface 89 (.agg #[.float .f64 x])] 63)).alloc (.cells #[.int .i64 0, .int .i64 0, .nilFunc, .nilFunc, .nilFunc] 70)).alloc (.cells #[.float .f64 x] 89)) = w3 at *
  refine cP.mono ?_
  rintro e_ w4 ⟨rfl, hb4, b0, b1, b2, b4⟩
  have hb4' : Below w3.heap.size w3 w4 := by rw [A0.out]; exact hb4
  have r1 := keep hb4' A1.out
  have r2 := keep hb4' A2.out
  have hB := Below.after A3.out hb4'
  have n0 : w4.cell? ⟨w.heap.size + 1, 0, none⟩ = some (.int .i64 0) := cell_of_row _ _ _ _ _ _ r1
  have n1 : w4.cell? ⟨w.heap.size + 1, 1, none⟩ = some (.int .i64 0) := cell_of_row _ _ _ _ _ _ r1
  have n2 : w4.cell? ⟨w.heap.size + 1, 2, none⟩ = some .nilFunc := cell_of_row _ _ _ _ _ _ r1
  have n3 : w4.cell? ⟨w.heap.size + 1, 3, none⟩ = some .nilFunc := cell_of_row _ _ _ _ _ _ r1
  have n4 : w4.cell? ⟨w.heap.size + 1, 4, none⟩ = some .nilFunc := cell_of_row _ _ _ _ _ _ r1
  have z0 : w4.frozen? ⟨w.heap.size + 1, 0, none⟩ = false := by simp [World.frozen?, r1]
  have z1 : w4.frozen? ⟨w.heap.size + 1, 1, none⟩ = false := by simp [World.frozen?, r1]
  have z2 : w4.frozen? ⟨w.heap.size + 1, 2, none⟩ = false := by simp [World.frozen?, r1]
  have z3 : w4.frozen? ⟨w.heap.size + 1, 3, none⟩ = false := by simp [World.frozen?, r1]
  have z4 : w4.frozen? ⟨w.heap.size + 1, 4, none⟩ = false := by simp [World.frozen?, r1]
  have A4 := hide r1
  have A5 := hide r2
  have A6 := hide hB
  have A7 := hide b0
  have A8 := hide b1
  have A9 := hide b2
  have AA := hide b4
  clear r1 r2 hB b0 b1 b2 b4 hb4 hb4' cP A0 A1 A2 A3
  go_wp2_with (fail)
  have HR := heap_setCell_same _ (w.heap.size + 1) 4 _ _ ((.func (.func 46) #[] #[.pointer (some ⟨(w.heap.size + 1 + 1 + 1) + 1 + 1, 0, none⟩)] : Value)) (heap_setCell_same _ (w.heap.size + 1) 3 _ _ ((.func (.func 45) #[] #[.pointer (some ⟨(w.heap.size + 1 + 1 + 1), 0, none⟩), .pointer (some ⟨(w.heap.size + 1 + 1 + 1) + 1, 0, none⟩)] : Value)) (heap_setCell_same _ (w.heap.size + 1) 2 _ _ ((.func (.func 43) #[] #[.pointer (some ⟨(w.heap.size + 1 + 1 + 1) + 1 + 1 + 1 + 1, 0, none⟩), .pointer (some ⟨(w.heap.size + 1 + 1 + 1), 0, none⟩), .pointer (some ⟨(w.heap.size + 1 + 1 + 1) + 1 + 1, 0, none⟩)] : Value)) (heap_setCell_same _ (w.heap.size + 1) 1 _ _ (.int .i64 1) (heap_setCell_same w4 (w.heap.size + 1) 0 _ _ (.int .i64 no) A4.out))))
  exact bodyPost_ret (v := .agg #[.int .i64 no, .int .i64 1, (.func (.func 43) #[] #[.pointer (some ⟨(w.heap.size + 1 + 1 + 1) + 1 + 1 + 1 + 1, 0, none⟩), .pointer (some ⟨(w.heap.size + 1 + 1 + 1), 0, none⟩), .pointer (some ⟨(w.heap.size + 1 + 1 + 1) + 1 + 1, 0, none⟩)] : Value), (.func (.func 45) #[] #[.pointer (some ⟨(w.heap.size + 1 + 1 + 1), 0, none⟩), .pointer (some ⟨(w.heap.size + 1 + 1 + 1) + 1, 0, none⟩)] : Value), (.func (.func 46) #[] #[.pointer (some ⟨(w.heap.size + 1 + 1 + 1) + 1 + 1, 0, none⟩)] : Value)]) (results_cell_row Tryd.results21 _ _ (w.heap.size + 1) _ #[.int .i64 no, .int .i64 1, (.func (.func 43) #[] #[.pointer (some ⟨(w.heap.size + 1 + 1 + 1) + 1 + 1 + 1 + 1, 0, none⟩), .pointer (some ⟨(w.heap.size + 1 + 1 + 1), 0, none⟩), .pointer (some ⟨(w.heap.size + 1 + 1 + 1) + 1 + 1, 0, none⟩)] : Value), (.func (.func 45) #[] #[.pointer (some ⟨(w.heap.size + 1 + 1 + 1), 0, none⟩), .pointer (some ⟨(w.heap.size + 1 + 1 + 1) + 1, 0, none⟩)] : Value), (.func (.func 46) #[] #[.pointer (some ⟨(w.heap.size + 1 + 1 + 1) + 1 + 1, 0, none⟩)] : Value)] _ _ rfl HR Tryd.underlying70 rfl infoSt) rfl ⟨rfl, (((((A6.out.setCell (by show w.heap.size ≤ w.heap.size + 1; omega) _).setCell (by show w.heap.size ≤ w.heap.size + 1; omega) _).setCell (by show w.heap.size ≤ w.heap.size + 1; omega) _).setCell (by show w.heap.size ≤ w.heap.size + 1; omega) _).setCell (by show w.heap.size ≤ w.heap.size + 1; omega) _),
    Bx.five ⟨_, A5.out⟩ (by omega), Bx.five A7.out (by omega), Bx.five A8.out (by omega), Bx.five A9.out (by omega), Bx.five AA.out (by omega)⟩
set_option maxRecDepth 100000 in
set_option maxHeartbeats 4000000 in
theorem a_ready_oct (no : Int) (l m : Int) (b : Bool) (w : World) : Calls Tryd.prog 21 #[.agg #[.int .i64 no, .iface 92 (.agg #[.int .u64 l, .int .u64 m, .bool b])]] w fun e w' => e = .returned (.agg #[.int .i64 no, .int .i64 2, (.func (.func 43) #[] #[.pointer (some ⟨(w.heap.size + 1 + 1 + 1) + 1 + 1 + 1 + 1, 0, none⟩), .pointer (some ⟨(w.heap.size + 1 + 1 + 1), 0, none⟩), .pointer (some ⟨(w.heap.size + 1 + 1 + 1) + 1 + 1, 0, none⟩)] : Value), (.func (.func 45) #[] #[.pointer (some ⟨(w.heap.size + 1 + 1 + 1), 0, none⟩), .pointer (some ⟨(w.heap.size + 1 + 1 + 1) + 1, 0, none⟩)] : Value), (.func (.func 46) #[] #[.pointer (some ⟨(w.heap.size + 1 + 1 + 1) + 1 + 1, 0, none⟩)] : Value)]) ∧ Below w.heap.size w w' ∧ Bx w' (w.heap.size + 1 + 1) #[.int .u64 l, .int .u64 m, .bool b] ∧ Bx w' (w.heap.size + 1 + 1 + 1) #[.int .i64 no] ∧ Bx w' ((w.heap.size + 1 + 1 + 1) + 1) #[.int .i64 2] ∧ Bx w' ((w.heap.size + 1 + 1 + 1) + 1 + 1) #[.func (.func 35) #[] #[.pointer (some ⟨w.heap.size + 1 + 1, 0, none⟩)]] ∧ Bx w' ((w.heap.size + 1 + 1 + 1) + 1 + 1 + 1 + 1) #[.bool ((2 : Int) == 2)] := by
  have hsz : (((w.alloc (.cells #[.int .i64 no, .iface 92 (.agg #[.int .u64 l, .int .u64 m, .bool b])] 63)).alloc (.cells #[.int .i64 0, .int .i64 0, .nilFunc, .nilFunc, .nilFunc] 70)).alloc (.cells #[.int .u64 l, .int .u64 m, .bool b] 92)).heap.size = (w.heap.size + 1 + 1 + 1) := by simp
  have cP := a_plain no 2 35 #[.pointer (some ⟨w.heap.size + 1 + 1, 0, none⟩)] (((w.alloc (.cells #[.int .i64 no, .iface 92 (.agg #[.int .u64 l, .int .u64 m, .bool b])] 63)).alloc (.cells #[.int .i64 0, .int .i64 0, .nilFunc, .nilFunc, .nilFunc] 70)).alloc (.cells #[.int .u64 l, .int .u64 m, .bool b] 92))
  rw [hsz] at cP
  have q1 := xp3_1 w (.cells #[.int .i64 no, .iface 92 (.agg #[.int .u64 l, .int .u64 m, .bool b])] 63) (.cells #[.int .i64 0, .int .i64 0, .nilFunc, .nilFunc, .nilFunc] 70) (.cells #[.int .u64 l, .int .u64 m, .bool b] 92)
  have q2 := xp3_2 w (.cells #[.int .i64 no, .iface 92 (.agg #[.int .u64 l, .int .u64 m, .bool b])] 63) (.cells #[.int .i64 0, .int .i64 0, .nilFunc, .nilFunc, .nilFunc] 70) (.cells #[.int .u64 l, .int .u64 m, .bool b] 92)
  have hb := xb3 w (.cells #[.int .i64 no, .iface 92 (.agg #[.int .u64 l, .int .u64 m, .bool b])] 63) (.cells #[.int .i64 0, .int .i64 0, .nilFunc, .nilFunc, .nilFunc] 70) (.cells #[.int .u64 l, .int .u64 m, .bool b] 92)
  have t0 := ta_octets_numbers (.agg #[.int .u64 l, .int .u64 m, .bool b])
  have t1 := ta_octets_floats (.agg #[.int .u64 l, .int .u64 m, .bool b])
  have t2 := ta_octets (.agg #[.int .u64 l, .int .u64 m, .bool b])
  have A0 := hide hsz
  have A1 := hide q1
  have A2 := hide q2
  have A3 := hide hb
  clear hsz q1 q2 hb
  go_enter Tryd.func21, Tryd.ntmps21
  go_wp2_with (fail)
  generalize (((w.alloc (.cells #[.int .i64 no, .iface 92 (.agg #[.int .u64 l, .int .u64 m, .bool b])] 63)).alloc (.cells #[.int .i64 0, .int .i64 0, .nilFunc, .nilFunc, .nilFunc] 70)).alloc (.cells #[.int .u64 l, .int .u64 m, .bool b] 92)) = w3 at *
  refine cP.mono ?_
  rintro e_ w4 ⟨rfl, hb4, b0, b1, b2, b4⟩
  have hb4' : Below w3.heap.size w3 w4 := by rw [A0.out]; exact hb4
  have r1 := keep hb4' A1.out
  have r2 := keep hb4' A2.out
  have hB := Below.after A3.out hb4'
  have n0 : w4.cell? ⟨w.heap.size + 1, 0, none⟩ = some (.int .i64 0) := cell_of_row _ _ _ _ _ _ r1
  have n1 : w4.cell? ⟨w.heap.size + 1, 1, none⟩ = some (.int .i64 0) := cell_of_row _ _ _ _ _ _ r1
  have n2 : w4.cell? ⟨w.heap.size + 1, 2, none⟩ = some .nilFunc := cell_of_row _ _ _ _ _ _ r1
  have n3 : w4.cell? ⟨w.heap.size + 1, 3, none⟩ = some .nilFunc := cell_of_row _ _ _ _ _ _ r1
  have n4 : w4.cell? ⟨w.heap.size + 1, 4, none⟩ = some .nilFunc := cell_of_row _ _ _ _ _ _ r1
  have z0 : w4.frozen? ⟨w.heap.size + 1, 0, none⟩ = false := by simp [World.frozen?, r1]
  have z1 : w4.frozen? ⟨w.heap.size + 1, 1, none⟩ = false := by simp [World.frozen?, r1]
  have z2 : w4.frozen? ⟨w.heap.size + 1, 2, none⟩ = false := by simp [World.frozen?, r1]
  have z3 : w4.frozen? ⟨w.heap.size + 1, 3, none⟩ = false := by simp [World.frozen?, r1]
  have z4 : w4.frozen? ⟨w.heap.size + 1, 4, none⟩ = false := by simp [World.frozen?, r1]
  have A4 := hide r1
  have A5 := hide r2
  have A6 := hide hB
  have A7 := hide b0
  have A8 := hide b1
  have A9 := hide b2
  have AA := hide b4
  clear r1 r2 hB b0 b1 b2 b4 hb4 hb4' cP A0 A1 A2 A3
  go_wp2_with (fail)
  have HR := heap_setCell_same _ (w.heap.size + 1) 4 _ _ ((.func (.func 46) #[] #[.pointer (some ⟨(w.heap.size + 1 + 1 + 1) + 1 + 1, 0, none⟩)] : Value)) (heap_setCell_same _ (w.heap.size + 1) 3 _ _ ((.func (.func 45) #[] #[.pointer (some ⟨(w.heap.size + 1 + 1 + 1), 0, none⟩), .pointer (some ⟨(w.heap.size + 1 + 1 + 1) + 1, 0, none⟩)] : Value)) (heap_setCell_same _ (w.heap.size + 1) 2 _ _ ((.func (.func 43) #[] #[.pointer (some ⟨(w.heap.size + 1 + 1 + 1) + 1 + 1 + 1 + 1, 0, none⟩), .pointer (some ⟨(w.heap.size + 1 + 1 + 1), 0, none⟩), .pointer (some ⟨(w.heap.size + 1 + 1 + 1) + 1 + 1, 0, none⟩)] : Value)) (heap_setCell_same _ (w.heap.size + 1) 1 _ _ (.int .i64 2) (heap_setCell_same w4 (w.heap.size + 1) 0 _ _ (.int .i64 no) A4.out))))
  exact bodyPost_ret (v := .agg #[.int .i64 no, .int .i64 2, (.func (.func 43) #[] #[.pointer (some ⟨(w.heap.size + 1 + 1 + 1) + 1 + 1 + 1 + 1, 0, none⟩), .pointer (some ⟨(w.heap.size + 1 + 1 + 1), 0, none⟩), .pointer (some ⟨(w.heap.size + 1 + 1 + 1) + 1 + 1, 0, none⟩)] : Value), (.func (.func 45) #[] #[.pointer (some ⟨(w.heap.size + 1 + 1 + 1), 0, none⟩), .pointer (some ⟨(w.heap.size + 1 + 1 + 1) + 1, 0, none⟩)] : Value), (.func (.func 46) #[] #[.pointer (some ⟨(w.heap.size + 1 + 1 + 1) + 1 + 1, 0, none⟩)] : Value)]) (results_cell_row Tryd.results21 _ _ (w.heap.size + 1) _ #[.int .i64 no, .int .i64 2, (.func (.func 43) #[] #[.pointer (some ⟨(w.heap.size + 1 + 1 + 1) + 1 + 1 + 1 + 1, 0, none⟩), .pointer (some ⟨(w.heap.size + 1 + 1 + 1), 0, none⟩), .pointer (some ⟨(w.heap.size + 1 + 1 + 1) + 1 + 1, 0, none⟩)] : Value), (.func (.func 45) #[] #[.pointer (some ⟨(w.heap.size + 1 + 1 + 1), 0, none⟩), .pointer (some ⟨(w.heap.size + 1 + 1 + 1) + 1, 0, none⟩)] : Value), (.func (.func 46) #[] #[.pointer (some ⟨(w.heap.size + 1 + 1 + 1) + 1 + 1, 0, none⟩)] : Value)] _ _ rfl HR Tryd.underlying70 rfl infoSt) rfl ⟨rfl, (((((A6.out.setCell (by show w.heap.size ≤ w.heap.size + 1; omega) _).setCell (by show w.heap.size ≤ w.heap.size + 1; omega) _).setCell (by show w.heap.size ≤ w.heap.size + 1; omega) _).setCell (by show w.heap.size ≤ w.heap.size + 1; omega) _).setCell (by show w.heap.size ≤ w.heap.size + 1; omega) _),
    Bx.five ⟨_, A5.out⟩ (by omega), Bx.five A7.out (by omega), Bx.five A8.out (by omega), Bx.five A9.out (by omega), Bx.five AA.out (by omega)⟩
end Go.Proofs.YtdfpmgjholdknaaDoor
