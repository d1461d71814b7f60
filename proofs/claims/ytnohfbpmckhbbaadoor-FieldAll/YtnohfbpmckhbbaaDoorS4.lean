import Derived.Test.YtnohfbpmckhbbaaDoorProg
import Derived.WalkKit
import Derived.WalkSpells
import Derived.WalkLawsBesides
import Derived.Lib.QuietBelow
import Derived.BigQuiet
import Derived.Test.YtnohfbpmckhbbaaDoorS0
import Derived.Test.YtnohfbpmckhbbaaDoorS1
import Derived.Test.YtnohfbpmckhbbaaDoorS2
import Derived.Test.YtnohfbpmckhbbaaDoorS3
import Derived.OrdersHeld
import Derived.Deep.MidRow
import Derived.Deep.RegionHeld3
import Derived.Laws.BitsAllLaws
import Derived.ChangeSame
namespace Go.Proofs.YtnohfbpmckhbbaaDoor
set_option maxRecDepth 100000
open Go.RowKit Go.Sort
attribute [local go_sem] setCell_drewN alloc_drewN


/-- The cells of a number of package field that stands for x. -/
def NumOf (r : Array Value) (x : Int) : Prop := ∃ a0 a1 a2 a3 a4 : Int, r = #[.int .u64 a0, .int .u64 a1, .int .u64 a2, .int .u64 a3, .int .u64 a4] ∧ ((0 ≤ a0 ∧ a0 < 4503599627370496) ∧ (0 ≤ a1 ∧ a1 < 4503599627370496) ∧ (0 ≤ a2 ∧ a2 < 4503599627370496) ∧ (0 ≤ a3 ∧ a3 < 4503599627370496) ∧ (0 ≤ a4 ∧ a4 < 4503599627370496)) ∧ v5 a0 a1 a2 a3 a4 % prm = x % prm
/-- The cells of a key whose bytes come to N. -/
def KeyOf (r : Array Value) (N : Int) : Prop := ∃ k0 k1 k2 k3 k4 k5 k6 k7 k8 k9 k10 k11 k12 k13 k14 k15 k16 k17 k18 k19 k20 k21 k22 k23 k24 k25 k26 k27 k28 k29 k30 k31 : Int, r = #[.int .u8 k0, .int .u8 k1, .int .u8 k2, .int .u8 k3, .int .u8 k4, .int .u8 k5, .int .u8 k6, .int .u8 k7, .int .u8 k8, .int .u8 k9, .int .u8 k10, .int .u8 k11, .int .u8 k12, .int .u8 k13, .int .u8 k14, .int .u8 k15, .int .u8 k16, .int .u8 k17, .int .u8 k18, .int .u8 k19, .int .u8 k20, .int .u8 k21, .int .u8 k22, .int .u8 k23, .int .u8 k24, .int .u8 k25, .int .u8 k26, .int .u8 k27, .int .u8 k28, .int .u8 k29, .int .u8 k30, .int .u8 k31] ∧ ((0 ≤ k0 ∧ k0 < 256) ∧ (0 ≤ k1 ∧ k1 < 256) ∧ (0 ≤ k2 ∧ k2 < 256) ∧ (0 ≤ k3 ∧ k3 < 256) ∧ (0 ≤ k4 ∧ k4 < 256) ∧ (0 ≤ k5 ∧ k5 < 256) ∧ (0 ≤ k6 ∧ k6 < 256) ∧ (0 ≤ k7 ∧ k7 < 256) ∧ (0 ≤ k8 ∧ k8 < 256) ∧ (0 ≤ k9 ∧ k9 < 256) ∧ (0 ≤ k10 ∧ k10 < 256) ∧ (0 ≤ k11 ∧ k11 < 256) ∧ (0 ≤ k12 ∧ k12 < 256) ∧ (0 ≤ k13 ∧ k13 < 256) ∧ (0 ≤ k14 ∧ k14 < 256) ∧ (0 ≤ k15 ∧ k15 < 256) ∧ (0 ≤ k16 ∧ k16 < 256) ∧ (0 ≤ k17 ∧ k17 < 256) ∧ (0 ≤ k18 ∧ k18 < 256) ∧ (0 ≤ k19 ∧ k19 < 256) ∧ (0 ≤ k20 ∧ k20 < 256) ∧ (0 ≤ k21 ∧ k21 < 256) ∧ (0 ≤ k22 ∧ k22 < 256) ∧ (0 ≤ k23 ∧ k23 < 256) ∧ (0 ≤ k24 ∧ k24 < 256) ∧ (0 ≤ k25 ∧ k25 < 256) ∧ (0 ≤ k26 ∧ k26 < 256) ∧ (0 ≤ k27 ∧ k27 < 256) ∧ (0 ≤ k28 ∧ k28 < 256) ∧ (0 ≤ k29 ∧ k29 < 256) ∧ (0 ≤ k30 ∧ k30 < 256) ∧ (0 ≤ k31 ∧ k31 < 256)) ∧ kv k0 k1 k2 k3 k4 k5 k6 k7 k8 k9 k10 k11 k12 k13 k14 k15 k16 k17 k18 k19 k20 k21 k22 k23 k24 k25 k26 k27 k28 k29 k30 k31 = N
/-- The key of a number. -/
def kb (m : Int) : Array Value := #[.int .u8 (byt m 0), .int .u8 (byt m 1), .int .u8 (byt m 2), .int .u8 (byt m 3), .int .u8 (byt m 4), .int .u8 (byt m 5), .int .u8 (byt m 6), .int .u8 (byt m 7), .int .u8 (byt m 8), .int .u8 (byt m 9), .int .u8 (byt m 10), .int .u8 (byt m 11), .int .u8 (byt m 12), .int .u8 (byt m 13), .int .u8 (byt m 14), .int .u8 (byt m 15), .int .u8 (byt m 16), .int .u8 (byt m 17), .int .u8 (byt m 18), .int .u8 (byt m 19), .int .u8 (byt m 20), .int .u8 (byt m 21), .int .u8 (byt m 22), .int .u8 (byt m 23), .int .u8 (byt m 24), .int .u8 (byt m 25), .int .u8 (byt m 26), .int .u8 (byt m 27), .int .u8 (byt m 28), .int .u8 (byt m 29), .int .u8 (byt m 30), .int .u8 (byt m 31)]
/-- In whatever world it is called, a function answers v and leaves what was there. -/
def Gives (f : FuncId) (args : Array Value) (v : Value) : Prop := ∀ W, Calls Tryd.prog f args W fun e w' => e = .returned v ∧ Below W.heap.size W w'
theorem Gives.at {f : FuncId} {args : Array Value} {v : Value} (h : Gives f args v) (W : World) : Calls Tryd.prog f args W fun e w' => e = .returned v ∧ Below W.heap.size W w' := h W
theorem Gives.re {f : FuncId} {args : Array Value} {v : Value} (h : Gives f args v) {w : World} {d : Nat} {os : Array Obj} : Calls Tryd.prog f args (grow (redrawn w d) os) fun e w'' => e = .returned v ∧ ∃ p : Regrown, w'' = grow (redrawn w p.d) p.os := Calls.regrown_of (h _)

theorem NumOf.congr {r : Array Value} {x y : Int} (h : NumOf r x) (e : x % prm = y % prm) : NumOf r y := by
  obtain ⟨a0, a1, a2, a3, a4, rfl, ⟨h0, h1, h2, h3, h4⟩, ha⟩ := h
  exact ⟨a0, a1, a2, a3, a4, rfl, ⟨h0, h1, h2, h3, h4⟩, ha.trans e⟩
theorem NumOf.size {r : Array Value} {x : Int} (h : NumOf r x) : r.size = 5 := by
  obtain ⟨a0, a1, a2, a3, a4, rfl, ⟨h0, h1, h2, h3, h4⟩, ha⟩ := h
  rfl
theorem KeyOf.size {r : Array Value} {x : Int} (h : KeyOf r x) : r.size = 32 := by
  obtain ⟨k0, k1, k2, k3, k4, k5, k6, k7, k8, k9, k10, k11, k12, k13, k14, k15, k16, k17, k18, k19, k20, k21, k22, k23, k24, k25, k26, k27, k28, k29, k30, k31, rfl, _⟩ := h
  rfl
theorem NumOf.one {r : Array Value} {x : Int} (h : NumOf r x) : r.all (·.oneCell') = true := by
  obtain ⟨a0, a1, a2, a3, a4, rfl, ⟨h0, h1, h2, h3, h4⟩, ha⟩ := h
  kernel_rfl
theorem KeyOf.one {r : Array Value} {x : Int} (h : KeyOf r x) : r.all (·.oneCell') = true := by
  obtain ⟨k0, k1, k2, k3, k4, k5, k6, k7, k8, k9, k10, k11, k12, k13, k14, k15, k16, k17, k18, k19, k20, k21, k22, k23, k24, k25, k26, k27, k28, k29, k30, k31, rfl, _⟩ := h
  kernel_rfl
theorem NumOf.fits {r s : Array Value} {x : Int} (h : NumOf r x) (hs : s.size = 5) : s.size = r.size := hs.trans h.size.symm
theorem num_info : (Tryd.prog.info? 26).map (·.size) = some 5 := by kernel_rfl
theorem key_info : (Tryd.prog.info? 34).map (·.size) = some 32 := by kernel_rfl
theorem NumOf.info {r : Array Value} {x : Int} (h : NumOf r x) : (Tryd.prog.info? 26).map (·.size) = some r.size := by rw [h.size]; exact num_info
theorem KeyOf.info {r : Array Value} {x : Int} (h : KeyOf r x) : (Tryd.prog.info? 34).map (·.size) = some r.size := by rw [h.size]; exact key_info
theorem kb_one (m : Int) : (kb m).all (·.oneCell') = true := by kernel_rfl
theorem kb_size (m : Int) : (kb m).size = 32 := rfl
theorem kb_info (m : Int) : (Tryd.prog.info? 34).map (·.size) = some (kb m).size := key_info
theorem kb_key (m : Int) (h0 : 0 ≤ m) (h1 : m < 115792089237316195423570985008687907853269984665640564039457584007913129639936) : KeyOf (kb m) m :=
  ⟨_, _, _, _, _, _, _, _, _, _, _, _, _, _, _, _, _, _, _, _, _, _, _, _, _, _, _, _, _, _, _, _, rfl, ⟨byt_bd m 0, byt_bd m 1, byt_bd m 2, byt_bd m 3, byt_bd m 4, byt_bd m 5, byt_bd m 6, byt_bd m 7, byt_bd m 8, byt_bd m 9, byt_bd m 10, byt_bd m 11, byt_bd m 12, byt_bd m 13, byt_bd m 14, byt_bd m 15, byt_bd m 16, byt_bd m 17, byt_bd m 18, byt_bd m 19, byt_bd m 20, byt_bd m 21, byt_bd m 22, byt_bd m 23, byt_bd m 24, byt_bd m 25, byt_bd m 26, byt_bd m 27, byt_bd m 28, byt_bd m 29, byt_bd m 30, byt_bd m 31⟩, valB_byt m h0 h1⟩
theorem kb_mod (m : Int) : KeyOf (kb (m % prm)) (m % prm) := kb_key _ (prm_bd m).1 (prm_bd m).2
theorem KeyOf.bd {r : Array Value} {N : Int} (h : KeyOf r N) : 0 ≤ N ∧ N < 115792089237316195423570985008687907853269984665640564039457584007913129639936 := by
  obtain ⟨k0, k1, k2, k3, k4, k5, k6, k7, k8, k9, k10, k11, k12, k13, k14, k15, k16, k17, k18, k19, k20, k21, k22, k23, k24, k25, k26, k27, k28, k29, k30, k31, rfl, ⟨h0, h1, h2, h3, h4, h5, h6, h7, h8, h9, h10, h11, h12, h13, h14, h15, h16, h17, h18, h19, h20, h21, h22, h23, h24, h25, h26, h27, h28, h29, h30, h31⟩, rfl⟩ := h
  simp only [kv, valB]
  omega
theorem kb_equal (m n : Int) (h0 : 0 ≤ m) (h1 : m < 115792089237316195423570985008687907853269984665640564039457584007913129639936) (h2 : 0 ≤ n) (h3 : n < 115792089237316195423570985008687907853269984665640564039457584007913129639936) (W : World) : (Op.equalIn 10000 34 (.agg (kb m)) (.agg (kb n))).run Tryd.prog W = .ok (decide (m = n)) W := keys_eq m n h0 h1 h2 h3 W
theorem kb_equal_mod (m n : Int) (W : World) : (Op.equalIn 10000 34 (.agg (kb (m % prm))) (.agg (kb (n % prm)))).run Tryd.prog W = .ok (decide (m % prm = n % prm)) W := kb_equal _ _ (prm_bd m).1 (prm_bd m).2 (prm_bd n).1 (prm_bd n).2 W
theorem num_zero : NumOf #[.int .u64 0, .int .u64 0, .int .u64 0, .int .u64 0, .int .u64 0] 0 := ⟨0, 0, 0, 0, 0, rfl, by decide, by decide⟩
theorem num_one : NumOf #[.int .u64 1, .int .u64 0, .int .u64 0, .int .u64 0, .int .u64 0] 1 := ⟨1, 0, 0, 0, 0, rfl, by decide, by decide⟩

theorem a_from {k : Array Value} {N : Int} (h : KeyOf k N) : ∃ r, NumOf r (N % 57896044618658097711785492504343953926634992332820282019728792003956564819968) ∧ Gives 14 #[.agg k] (.agg r) := by
  obtain ⟨k0, k1, k2, k3, k4, k5, k6, k7, k8, k9, k10, k11, k12, k13, k14, k15, k16, k17, k18, k19, k20, k21, k22, k23, k24, k25, k26, k27, k28, k29, k30, k31, rfl, ⟨h0, h1, h2, h3, h4, h5, h6, h7, h8, h9, h10, h11, h12, h13, h14, h15, h16, h17, h18, h19, h20, h21, h22, h23, h24, h25, h26, h27, h28, h29, h30, h31⟩, rfl⟩ := h
  refine ⟨_, ⟨_, _, _, _, _, rfl, ?_, ?_⟩, fun W => from_any k0 k1 k2 k3 k4 k5 k6 k7 k8 k9 k10 k11 k12 k13 k14 k15 k16 k17 k18 k19 k20 k21 k22 k23 k24 k25 k26 k27 k28 k29 k30 k31 h0.1 h0.2 h1.1 h1.2 h2.1 h2.2 h3.1 h3.2 h4.1 h4.2 h5.1 h5.2 h6.1 h6.2 h7.1 h7.2 h8.1 h8.2 h9.1 h9.2 h10.1 h10.2 h11.1 h11.2 h12.1 h12.2 h13.1 h13.2 h14.1 h14.2 h15.1 h15.2 h16.1 h16.2 h17.1 h17.2 h18.1 h18.2 h19.1 h19.2 h20.1 h20.2 h21.1 h21.2 h22.1 h22.2 h23.1 h23.2 h24.1 h24.2 h25.1 h25.2 h26.1 h26.2 h27.1 h27.2 h28.1 h28.2 h29.1 h29.2 h30.1 h30.2 h31.1 h31.2 W⟩
  · have q0 := lb_bd (kv k0 k1 k2 k3 k4 k5 k6 k7 k8 k9 k10 k11 k12 k13 k14 k15 k16 k17 k18 k19 k20 k21 k22 k23 k24 k25 k26 k27 k28 k29 k30 k31) 0; have q1 := lb_bd (kv k0 k1 k2 k3 k4 k5 k6 k7 k8 k9 k10 k11 k12 k13 k14 k15 k16 k17 k18 k19 k20 k21 k22 k23 k24 k25 k26 k27 k28 k29 k30 k31) 1; have q2 := lb_bd (kv k0 k1 k2 k3 k4 k5 k6 k7 k8 k9 k10 k11 k12 k13 k14 k15 k16 k17 k18 k19 k20 k21 k22 k23 k24 k25 k26 k27 k28 k29 k30 k31) 2; have q3 := lb_bd (kv k0 k1 k2 k3 k4 k5 k6 k7 k8 k9 k10 k11 k12 k13 k14 k15 k16 k17 k18 k19 k20 k21 k22 k23 k24 k25 k26 k27 k28 k29 k30 k31) 3; have q4 := lb_bd (kv k0 k1 k2 k3 k4 k5 k6 k7 k8 k9 k10 k11 k12 k13 k14 k15 k16 k17 k18 k19 k20 k21 k22 k23 k24 k25 k26 k27 k28 k29 k30 k31) 4
    omega
  · rw [v5_lb_mod]
theorem a_bytes {r : Array Value} {x : Int} (h : NumOf r x) : Gives 10 #[.agg r] (.agg (kb (x % prm))) := by
  obtain ⟨a0, a1, a2, a3, a4, rfl, ⟨h0, h1, h2, h3, h4⟩, ha⟩ := h
  intro W
  rw [← ha]
  exact bytes_any a0 a1 a2 a3 a4 h0.1 h0.2 h1.1 h1.2 h2.1 h2.2 h3.1 h3.2 h4.1 h4.2 W
theorem mm (c d x y : Int) : (c * x) * (d * y) = (c * d) * (x * y) := by rw [Int.mul_assoc, Int.mul_left_comm x, ← Int.mul_assoc]
theorem v5_flat (a0 a1 a2 a3 a4 : Int) : v5 a0 a1 a2 a3 a4 = a0 + 2251799813685248 * a1 + 5070602400912917605986812821504 * a2 + 11417981541647679048466287755595961091061972992 * a3 + 25711008708143844408671393477458601640355247900524685364822016 * a4 := by unfold v5; omega
theorem mul5 (a0 a1 a2 a3 a4 b0 b1 b2 b3 b4 : Int) : v5 (a0 * b0 + (19 * a1) * b4 + (19 * a2) * b3 + (19 * a3) * b2 + (19 * a4) * b1) (a0 * b1 + a1 * b0 + (19 * a2) * b4 + (19 * a3) * b3 + (19 * a4) * b2) (a0 * b2 + a1 * b1 + a2 * b0 + (19 * a3) * b4 + (19 * a4) * b3) (a0 * b3 + a1 * b2 + a2 * b1 + a3 * b0 + (19 * a4) * b4) (a0 * b4 + a1 * b3 + a2 * b2 + a3 * b1 + a4 * b0) = v5 a0 a1 a2 a3 a4 * v5 b0 b1 b2 b3 b4 - prm * (1 * (a1 * b4) + 1 * (a2 * b3) + 2251799813685248 * (a2 * b4) + 1 * (a3 * b2) + 2251799813685248 * (a3 * b3) + 5070602400912917605986812821504 * (a3 * b4) + 1 * (a4 * b1) + 2251799813685248 * (a4 * b2) + 5070602400912917605986812821504 * (a4 * b3) + 11417981541647679048466287755595961091061972992 * (a4 * b4)) := by
  have e01 : a0 * (2251799813685248 * b1) = 2251799813685248 * (a0 * b1) := Int.mul_left_comm _ _ _
  have e02 : a0 * (5070602400912917605986812821504 * b2) = 5070602400912917605986812821504 * (a0 * b2) := Int.mul_left_comm _ _ _
  have e03 : a0 * (11417981541647679048466287755595961091061972992 * b3) = 11417981541647679048466287755595961091061972992 * (a0 * b3) := Int.mul_left_comm _ _ _
  have e04 : a0 * (25711008708143844408671393477458601640355247900524685364822016 * b4) = 25711008708143844408671393477458601640355247900524685364822016 * (a0 * b4) := Int.mul_left_comm _ _ _
  have e10 : 2251799813685248 * a1 * b0 = 2251799813685248 * (a1 * b0) := Int.mul_assoc _ _ _
  have e11 : 2251799813685248 * a1 * (2251799813685248 * b1) = 5070602400912917605986812821504 * (a1 * b1) := by rw [Int.mul_assoc, Int.mul_left_comm a1, ← Int.mul_assoc]; rfl
  have e12 : 2251799813685248 * a1 * (5070602400912917605986812821504 * b2) = 11417981541647679048466287755595961091061972992 * (a1 * b2) := by rw [Int.mul_assoc, Int.mul_left_comm a1, ← Int.mul_assoc]; rfl
  have e13 : 2251799813685248 * a1 * (11417981541647679048466287755595961091061972992 * b3) = 25711008708143844408671393477458601640355247900524685364822016 * (a1 * b3) := by rw [Int.mul_assoc, Int.mul_left_comm a1, ← Int.mul_assoc]; rfl
  have e14 : 2251799813685248 * a1 * (25711008708143844408671393477458601640355247900524685364822016 * b4) = 57896044618658097711785492504343953926634992332820282019728792003956564819968 * (a1 * b4) := by rw [Int.mul_assoc, Int.mul_left_comm a1, ← Int.mul_assoc]; rfl
  have e20 : 5070602400912917605986812821504 * a2 * b0 = 5070602400912917605986812821504 * (a2 * b0) := Int.mul_assoc _ _ _
  have e21 : 5070602400912917605986812821504 * a2 * (2251799813685248 * b1) = 11417981541647679048466287755595961091061972992 * (a2 * b1) := by rw [Int.mul_assoc, Int.mul_left_comm a2, ← Int.mul_assoc]; rfl
  have e22 : 5070602400912917605986812821504 * a2 * (5070602400912917605986812821504 * b2) = 25711008708143844408671393477458601640355247900524685364822016 * (a2 * b2) := by rw [Int.mul_assoc, Int.mul_left_comm a2, ← Int.mul_assoc]; rfl
  have e23 : 5070602400912917605986812821504 * a2 * (11417981541647679048466287755595961091061972992 * b3) = 57896044618658097711785492504343953926634992332820282019728792003956564819968 * (a2 * b3) := by rw [Int.mul_assoc, Int.mul_left_comm a2, ← Int.mul_assoc]; rfl
  have e24 : 5070602400912917605986812821504 * a2 * (25711008708143844408671393477458601640355247900524685364822016 * b4) = 130370302485407109521180524058200202307293977194619920040712988758680403184853549195737432064 * (a2 * b4) := by rw [Int.mul_assoc, Int.mul_left_comm a2, ← Int.mul_assoc]; rfl
  have e30 : 11417981541647679048466287755595961091061972992 * a3 * b0 = 11417981541647679048466287755595961091061972992 * (a3 * b0) := Int.mul_assoc _ _ _
  have e31 : 11417981541647679048466287755595961091061972992 * a3 * (2251799813685248 * b1) = 25711008708143844408671393477458601640355247900524685364822016 * (a3 * b1) := by rw [Int.mul_assoc, Int.mul_left_comm a3, ← Int.mul_assoc]; rfl
  have e32 : 11417981541647679048466287755595961091061972992 * a3 * (5070602400912917605986812821504 * b2) = 57896044618658097711785492504343953926634992332820282019728792003956564819968 * (a3 * b2) := by rw [Int.mul_assoc, Int.mul_left_comm a3, ← Int.mul_assoc]; rfl
  have e33 : 11417981541647679048466287755595961091061972992 * a3 * (11417981541647679048466287755595961091061972992 * b3) = 130370302485407109521180524058200202307293977194619920040712988758680403184853549195737432064 * (a3 * b3) := by rw [Int.mul_assoc, Int.mul_left_comm a3, ← Int.mul_assoc]; rfl
  have e34 : 11417981541647679048466287755595961091061972992 * a3 * (25711008708143844408671393477458601640355247900524685364822016 * b4) = 293567822846729153486185074598667128421960318613539983838411371441526128139326055432962374798096087878991872 * (a3 * b4) := by rw [Int.mul_assoc, Int.mul_left_comm a3, ← Int.mul_assoc]; rfl
  have e40 : 25711008708143844408671393477458601640355247900524685364822016 * a4 * b0 = 25711008708143844408671393477458601640355247900524685364822016 * (a4 * b0) := Int.mul_assoc _ _ _
  have e41 : 25711008708143844408671393477458601640355247900524685364822016 * a4 * (2251799813685248 * b1) = 57896044618658097711785492504343953926634992332820282019728792003956564819968 * (a4 * b1) := by rw [Int.mul_assoc, Int.mul_left_comm a4, ← Int.mul_assoc]; rfl
  have e42 : 25711008708143844408671393477458601640355247900524685364822016 * a4 * (5070602400912917605986812821504 * b2) = 130370302485407109521180524058200202307293977194619920040712988758680403184853549195737432064 * (a4 * b2) := by rw [Int.mul_assoc, Int.mul_left_comm a4, ← Int.mul_assoc]; rfl
  have e43 : 25711008708143844408671393477458601640355247900524685364822016 * a4 * (11417981541647679048466287755595961091061972992 * b3) = 293567822846729153486185074598667128421960318613539983838411371441526128139326055432962374798096087878991872 * (a4 * b3) := by rw [Int.mul_assoc, Int.mul_left_comm a4, ← Int.mul_assoc]; rfl
  have e44 : 25711008708143844408671393477458601640355247900524685364822016 * a4 * (25711008708143844408671393477458601640355247900524685364822016 * b4) = 661055968790248598951915308032771039828404682964281219284648795274405791236311345825189210439715284847591212025023358304256 * (a4 * b4) := by rw [Int.mul_assoc, Int.mul_left_comm a4, ← Int.mul_assoc]; rfl
  simp only [v5_flat, prm, Int.mul_add, Int.add_mul, e01, e02, e03, e04, e10, e11, e12, e13, e14, e20, e21, e22, e23, e24, e30, e31, e32, e33, e34, e40, e41, e42, e43, e44]
  simp only [Int.mul_assoc]
  omega
theorem sq5 (a0 a1 a2 a3 a4 : Int) : v5 (a0 * a0 + (2 * a1) * (19 * a4) + (2 * a2) * (19 * a3)) ((2 * a0) * a1 + (2 * a2) * (19 * a4) + a3 * (19 * a3)) ((2 * a0) * a2 + a1 * a1 + (2 * a3) * (19 * a4)) ((2 * a0) * a3 + (2 * a1) * a2 + a4 * (19 * a4)) ((2 * a0) * a4 + (2 * a1) * a3 + a2 * a2) = v5 a0 a1 a2 a3 a4 * v5 a0 a1 a2 a3 a4 - prm * (1 * (a1 * a4) + 1 * (a2 * a3) + 2251799813685248 * (a2 * a4) + 1 * (a3 * a2) + 2251799813685248 * (a3 * a3) + 5070602400912917605986812821504 * (a3 * a4) + 1 * (a4 * a1) + 2251799813685248 * (a4 * a2) + 5070602400912917605986812821504 * (a4 * a3) + 11417981541647679048466287755595961091061972992 * (a4 * a4)) := by
  have e01 : a0 * (2251799813685248 * a1) = 2251799813685248 * (a0 * a1) := Int.mul_left_comm _ _ _
  have e02 : a0 * (5070602400912917605986812821504 * a2) = 5070602400912917605986812821504 * (a0 * a2) := Int.mul_left_comm _ _ _
  have e03 : a0 * (11417981541647679048466287755595961091061972992 * a3) = 11417981541647679048466287755595961091061972992 * (a0 * a3) := Int.mul_left_comm _ _ _
  have e04 : a0 * (25711008708143844408671393477458601640355247900524685364822016 * a4) = 25711008708143844408671393477458601640355247900524685364822016 * (a0 * a4) := Int.mul_left_comm _ _ _
  have e10 : 2251799813685248 * a1 * a0 = 2251799813685248 * (a1 * a0) := Int.mul_assoc _ _ _
  have e11 : 2251799813685248 * a1 * (2251799813685248 * a1) = 5070602400912917605986812821504 * (a1 * a1) := by rw [Int.mul_assoc, Int.mul_left_comm a1, ← Int.mul_assoc]; rfl
  have e12 : 2251799813685248 * a1 * (5070602400912917605986812821504 * a2) = 11417981541647679048466287755595961091061972992 * (a1 * a2) := by rw [Int.mul_assoc, Int.mul_left_comm a1, ← Int.mul_assoc]; rfl
  have e13 : 2251799813685248 * a1 * (11417981541647679048466287755595961091061972992 * a3) = 25711008708143844408671393477458601640355247900524685364822016 * (a1 * a3) := by rw [Int.mul_assoc, Int.mul_left_comm a1, ← Int.mul_assoc]; rfl
  have e14 : 2251799813685248 * a1 * (25711008708143844408671393477458601640355247900524685364822016 * a4) = 57896044618658097711785492504343953926634992332820282019728792003956564819968 * (a1 * a4) := by rw [Int.mul_assoc, Int.mul_left_comm a1, ← Int.mul_assoc]; rfl
  have e20 : 5070602400912917605986812821504 * a2 * a0 = 5070602400912917605986812821504 * (a2 * a0) := Int.mul_assoc _ _ _
  have e21 : 5070602400912917605986812821504 * a2 * (2251799813685248 * a1) = 11417981541647679048466287755595961091061972992 * (a2 * a1) := by rw [Int.mul_assoc, Int.mul_left_comm a2, ← Int.mul_assoc]; rfl
  have e22 : 5070602400912917605986812821504 * a2 * (5070602400912917605986812821504 * a2) = 25711008708143844408671393477458601640355247900524685364822016 * (a2 * a2) := by rw [Int.mul_assoc, Int.mul_left_comm a2, ← Int.mul_assoc]; rfl
  have e23 : 5070602400912917605986812821504 * a2 * (11417981541647679048466287755595961091061972992 * a3) = 57896044618658097711785492504343953926634992332820282019728792003956564819968 * (a2 * a3) := by rw [Int.mul_assoc, Int.mul_left_comm a2, ← Int.mul_assoc]; rfl
  have e24 : 5070602400912917605986812821504 * a2 * (25711008708143844408671393477458601640355247900524685364822016 * a4) = 130370302485407109521180524058200202307293977194619920040712988758680403184853549195737432064 * (a2 * a4) := by rw [Int.mul_assoc, Int.mul_left_comm a2, ← Int.mul_assoc]; rfl
  have e30 : 11417981541647679048466287755595961091061972992 * a3 * a0 = 11417981541647679048466287755595961091061972992 * (a3 * a0) := Int.mul_assoc _ _ _
  have e31 : 11417981541647679048466287755595961091061972992 * a3 * (2251799813685248 * a1) = 25711008708143844408671393477458601640355247900524685364822016 * (a3 * a1) := by rw [Int.mul_assoc, Int.mul_left_comm a3, ← Int.mul_assoc]; rfl
  have e32 : 11417981541647679048466287755595961091061972992 * a3 * (5070602400912917605986812821504 * a2) = 57896044618658097711785492504343953926634992332820282019728792003956564819968 * (a3 * a2) := by rw [Int.mul_assoc, Int.mul_left_comm a3, ← Int.mul_assoc]; rfl
  have e33 : 11417981541647679048466287755595961091061972992 * a3 * (11417981541647679048466287755595961091061972992 * a3) = 130370302485407109521180524058200202307293977194619920040712988758680403184853549195737432064 * (a3 * a3) := by rw [Int.mul_assoc, Int.mul_left_comm a3, ← Int.mul_assoc]; rfl
  have e34 : 11417981541647679048466287755595961091061972992 * a3 * (25711008708143844408671393477458601640355247900524685364822016 * a4) = 293567822846729153486185074598667128421960318613539983838411371441526128139326055432962374798096087878991872 * (a3 * a4) := by rw [Int.mul_assoc, Int.mul_left_comm a3, ← Int.mul_assoc]; rfl
  have e40 : 25711008708143844408671393477458601640355247900524685364822016 * a4 * a0 = 25711008708143844408671393477458601640355247900524685364822016 * (a4 * a0) := Int.mul_assoc _ _ _
  have e41 : 25711008708143844408671393477458601640355247900524685364822016 * a4 * (2251799813685248 * a1) = 57896044618658097711785492504343953926634992332820282019728792003956564819968 * (a4 * a1) := by rw [Int.mul_assoc, Int.mul_left_comm a4, ← Int.mul_assoc]; rfl
  have e42 : 25711008708143844408671393477458601640355247900524685364822016 * a4 * (5070602400912917605986812821504 * a2) = 130370302485407109521180524058200202307293977194619920040712988758680403184853549195737432064 * (a4 * a2) := by rw [Int.mul_assoc, Int.mul_left_comm a4, ← Int.mul_assoc]; rfl
  have e43 : 25711008708143844408671393477458601640355247900524685364822016 * a4 * (11417981541647679048466287755595961091061972992 * a3) = 293567822846729153486185074598667128421960318613539983838411371441526128139326055432962374798096087878991872 * (a4 * a3) := by rw [Int.mul_assoc, Int.mul_left_comm a4, ← Int.mul_assoc]; rfl
  have e44 : 25711008708143844408671393477458601640355247900524685364822016 * a4 * (25711008708143844408671393477458601640355247900524685364822016 * a4) = 661055968790248598951915308032771039828404682964281219284648795274405791236311345825189210439715284847591212025023358304256 * (a4 * a4) := by rw [Int.mul_assoc, Int.mul_left_comm a4, ← Int.mul_assoc]; rfl
  simp only [v5_flat, prm, Int.mul_add, Int.add_mul, e01, e02, e03, e04, e10, e11, e12, e13, e14, e20, e21, e22, e23, e24, e30, e31, e32, e33, e34, e40, e41, e42, e43, e44]
  have c10 : a1 * a0 = a0 * a1 := Int.mul_comm _ _; have c20 : a2 * a0 = a0 * a2 := Int.mul_comm _ _; have c21 : a2 * a1 = a1 * a2 := Int.mul_comm _ _; have c30 : a3 * a0 = a0 * a3 := Int.mul_comm _ _; have c31 : a3 * a1 = a1 * a3 := Int.mul_comm _ _; have c32 : a3 * a2 = a2 * a3 := Int.mul_comm _ _; have c40 : a4 * a0 = a0 * a4 := Int.mul_comm _ _; have c41 : a4 * a1 = a1 * a4 := Int.mul_comm _ _; have c42 : a4 * a2 = a2 * a4 := Int.mul_comm _ _; have c43 : a4 * a3 = a3 * a4 := Int.mul_comm _ _
  have : (2 * a1) * (19 * a4) = 38 * (a1 * a4) := mm 2 19 _ _; have : (2 * a2) * (19 * a3) = 38 * (a2 * a3) := mm 2 19 _ _; have : (2 * a0) * a1 = 2 * (a0 * a1) := Int.mul_assoc _ _ _; have : (2 * a2) * (19 * a4) = 38 * (a2 * a4) := mm 2 19 _ _; have : a3 * (19 * a3) = 19 * (a3 * a3) := Int.mul_left_comm _ _ _; have : (2 * a0) * a2 = 2 * (a0 * a2) := Int.mul_assoc _ _ _; have : (2 * a3) * (19 * a4) = 38 * (a3 * a4) := mm 2 19 _ _; have : (2 * a0) * a3 = 2 * (a0 * a3) := Int.mul_assoc _ _ _; have : (2 * a1) * a2 = 2 * (a1 * a2) := Int.mul_assoc _ _ _; have : a4 * (19 * a4) = 19 * (a4 * a4) := Int.mul_left_comm _ _ _; have : (2 * a0) * a4 = 2 * (a0 * a4) := Int.mul_assoc _ _ _; have : (2 * a1) * a3 = 2 * (a1 * a3) := Int.mul_assoc _ _ _
  omega
theorem a_mul {r s : Array Value} {x y : Int} (h : NumOf r x) (g : NumOf s y) : ∃ t, NumOf t (x * y) ∧ Gives 18 #[.agg r, .agg s] (.agg t) := by
  obtain ⟨a0, a1, a2, a3, a4, rfl, ⟨h0, h1, h2, h3, h4⟩, ha⟩ := h
  obtain ⟨b0, b1, b2, b3, b4, rfl, ⟨g0, g1, g2, g3, g4⟩, hb⟩ := g
  refine ⟨_, ⟨_, _, _, _, _, rfl, jn_bd _ _ _ _ _ ?_ ?_ ?_ ?_ ?_ ?_ ?_ ?_ ?_ ?_, ?_⟩, fun W => mul_any a0 a1 a2 a3 a4 b0 b1 b2 b3 b4 h0.1 h0.2 h1.1 h1.2 h2.1 h2.2 h3.1 h3.2 h4.1 h4.2 g0.1 g0.2 g1.1 g1.2 g2.1 g2.2 g3.1 g3.2 g4.1 g4.2 W⟩
  rotate_right
  · rw [jn_val, mul5, Int.sub_mul_emod_self_left, Int.mul_emod, ha, hb, ← Int.mul_emod]
  all_goals (
    have q := fun (x y : Int) (h1 : 0 ≤ x) (h2 : x < 4503599627370496) (h3 : 0 ≤ y) (h4 : y < 4503599627370496) => mul_bd x y 4503599627370495 4503599627370495 h1 (by omega) h3 (by omega)
    have q00 := q a0 b0 h0.1 h0.2 g0.1 g0.2; have q01 := q a0 b1 h0.1 h0.2 g1.1 g1.2; have q02 := q a0 b2 h0.1 h0.2 g2.1 g2.2; have q03 := q a0 b3 h0.1 h0.2 g3.1 g3.2; have q04 := q a0 b4 h0.1 h0.2 g4.1 g4.2; have q10 := q a1 b0 h1.1 h1.2 g0.1 g0.2; have q11 := q a1 b1 h1.1 h1.2 g1.1 g1.2; have q12 := q a1 b2 h1.1 h1.2 g2.1 g2.2; have q13 := q a1 b3 h1.1 h1.2 g3.1 g3.2; have q14 := q a1 b4 h1.1 h1.2 g4.1 g4.2; have q20 := q a2 b0 h2.1 h2.2 g0.1 g0.2; have q21 := q a2 b1 h2.1 h2.2 g1.1 g1.2; have q22 := q a2 b2 h2.1 h2.2 g2.1 g2.2; have q23 := q a2 b3 h2.1 h2.2 g3.1 g3.2; have q24 := q a2 b4 h2.1 h2.2 g4.1 g4.2; have q30 := q a3 b0 h3.1 h3.2 g0.1 g0.2; have q31 := q a3 b1 h3.1 h3.2 g1.1 g1.2; have q32 := q a3 b2 h3.1 h3.2 g2.1 g2.2; have q33 := q a3 b3 h3.1 h3.2 g3.1 g3.2; have q34 := q a3 b4 h3.1 h3.2 g4.1 g4.2; have q40 := q a4 b0 h4.1 h4.2 g0.1 g0.2; have q41 := q a4 b1 h4.1 h4.2 g1.1 g1.2; have q42 := q a4 b2 h4.1 h4.2 g2.1 g2.2; have q43 := q a4 b3 h4.1 h4.2 g3.1 g3.2; have q44 := q a4 b4 h4.1 h4.2 g4.1 g4.2
    clear ha hb
    try simp only [Int.mul_assoc]
    omega)
theorem a_square {r : Array Value} {x : Int} (h : NumOf r x) : ∃ t, NumOf t (x * x) ∧ Gives 19 #[.agg r] (.agg t) := by
  obtain ⟨a0, a1, a2, a3, a4, rfl, ⟨h0, h1, h2, h3, h4⟩, ha⟩ := h
  refine ⟨_, ⟨_, _, _, _, _, rfl, jn_bd _ _ _ _ _ ?_ ?_ ?_ ?_ ?_ ?_ ?_ ?_ ?_ ?_, ?_⟩, fun W => square_any a0 a1 a2 a3 a4 h0.1 h0.2 h1.1 h1.2 h2.1 h2.2 h3.1 h3.2 h4.1 h4.2 W⟩
  rotate_right
  · rw [jn_val, sq5, Int.sub_mul_emod_self_left, Int.mul_emod, ha, ← Int.mul_emod]
  all_goals (
    have q := fun (x y : Int) (h1 : 0 ≤ x) (h2 : x < 4503599627370496) (h3 : 0 ≤ y) (h4 : y < 4503599627370496) => mul_bd x y 4503599627370495 4503599627370495 h1 (by omega) h3 (by omega)
    have q00 := q a0 a0 h0.1 h0.2 h0.1 h0.2; have q01 := q a0 a1 h0.1 h0.2 h1.1 h1.2; have q02 := q a0 a2 h0.1 h0.2 h2.1 h2.2; have q03 := q a0 a3 h0.1 h0.2 h3.1 h3.2; have q04 := q a0 a4 h0.1 h0.2 h4.1 h4.2; have q10 := q a1 a0 h1.1 h1.2 h0.1 h0.2; have q11 := q a1 a1 h1.1 h1.2 h1.1 h1.2; have q12 := q a1 a2 h1.1 h1.2 h2.1 h2.2; have q13 := q a1 a3 h1.1 h1.2 h3.1 h3.2; have q14 := q a1 a4 h1.1 h1.2 h4.1 h4.2; have q20 := q a2 a0 h2.1 h2.2 h0.1 h0.2; have q21 := q a2 a1 h2.1 h2.2 h1.1 h1.2; have q22 := q a2 a2 h2.1 h2.2 h2.1 h2.2; have q23 := q a2 a3 h2.1 h2.2 h3.1 h3.2; have q24 := q a2 a4 h2.1 h2.2 h4.1 h4.2; have q30 := q a3 a0 h3.1 h3.2 h0.1 h0.2; have q31 := q a3 a1 h3.1 h3.2 h1.1 h1.2; have q32 := q a3 a2 h3.1 h3.2 h2.1 h2.2; have q33 := q a3 a3 h3.1 h3.2 h3.1 h3.2; have q34 := q a3 a4 h3.1 h3.2 h4.1 h4.2; have q40 := q a4 a0 h4.1 h4.2 h0.1 h0.2; have q41 := q a4 a1 h4.1 h4.2 h1.1 h1.2; have q42 := q a4 a2 h4.1 h4.2 h2.1 h2.2; have q43 := q a4 a3 h4.1 h4.2 h3.1 h3.2; have q44 := q a4 a4 h4.1 h4.2 h4.1 h4.2
    clear ha
    have : (2 * a1) * (19 * a4) = 38 * (a1 * a4) := mm 2 19 _ _; have : (2 * a2) * (19 * a3) = 38 * (a2 * a3) := mm 2 19 _ _; have : (2 * a0) * a1 = 2 * (a0 * a1) := Int.mul_assoc _ _ _; have : (2 * a2) * (19 * a4) = 38 * (a2 * a4) := mm 2 19 _ _; have : a3 * (19 * a3) = 19 * (a3 * a3) := Int.mul_left_comm _ _ _; have : (2 * a0) * a2 = 2 * (a0 * a2) := Int.mul_assoc _ _ _; have : (2 * a3) * (19 * a4) = 38 * (a3 * a4) := mm 2 19 _ _; have : (2 * a0) * a3 = 2 * (a0 * a3) := Int.mul_assoc _ _ _; have : (2 * a1) * a2 = 2 * (a1 * a2) := Int.mul_assoc _ _ _; have : a4 * (19 * a4) = 19 * (a4 * a4) := Int.mul_left_comm _ _ _; have : (2 * a0) * a4 = 2 * (a0 * a4) := Int.mul_assoc _ _ _; have : (2 * a1) * a3 = 2 * (a1 * a3) := Int.mul_assoc _ _ _
    omega)
theorem a_times {r : Array Value} {x : Int} (h : NumOf r x) (m : Int) (l : 0 ≤ m) (u : m < 4294967296) : ∃ t, NumOf t (x * m) ∧ Gives 20 #[.agg r, .int .u32 m] (.agg t) := by
  obtain ⟨a0, a1, a2, a3, a4, rfl, ⟨h0, h1, h2, h3, h4⟩, ha⟩ := h
  refine ⟨_, ⟨_, _, _, _, _, rfl, jn_bd _ _ _ _ _ ?_ ?_ ?_ ?_ ?_ ?_ ?_ ?_ ?_ ?_, ?_⟩, fun W => times_any a0 a1 a2 a3 a4 m h0.1 h0.2 h1.1 h1.2 h2.1 h2.2 h3.1 h3.2 h4.1 h4.2 l u W⟩
  rotate_right
  · have e : v5 (a0 * m) (a1 * m) (a2 * m) (a3 * m) (a4 * m) = v5 a0 a1 a2 a3 a4 * m := by simp only [v5, Int.add_mul, Int.mul_assoc]
    rw [jn_val, e, Int.mul_emod, ha, ← Int.mul_emod]
  all_goals (
    have p0 := mul_bd a0 m 4503599627370496 4294967296 h0.1 (Int.le_of_lt h0.2) l (Int.le_of_lt u); have p1 := mul_bd a1 m 4503599627370496 4294967296 h1.1 (Int.le_of_lt h1.2) l (Int.le_of_lt u); have p2 := mul_bd a2 m 4503599627370496 4294967296 h2.1 (Int.le_of_lt h2.2) l (Int.le_of_lt u); have p3 := mul_bd a3 m 4503599627370496 4294967296 h3.1 (Int.le_of_lt h3.2) l (Int.le_of_lt u); have p4 := mul_bd a4 m 4503599627370496 4294967296 h4.1 (Int.le_of_lt h4.2) l (Int.le_of_lt u)
    omega)
theorem a_small (x : Int) (l : 0 ≤ x) (u : x < 18446744073709551616) : ∃ t, NumOf t x ∧ Gives 12 #[.int .u64 x] (.agg t) :=
  ⟨_, ⟨_, _, _, _, _, rfl, by omega, by rw [small_val]⟩, fun W => small_any x l u W⟩
theorem a_equal {r s : Array Value} {x y : Int} (h : NumOf r x) (g : NumOf s y) : Gives 34 #[.agg r, .agg s] (.bool (decide (x % prm = y % prm))) := by
  obtain ⟨a0, a1, a2, a3, a4, rfl, ⟨h0, h1, h2, h3, h4⟩, ha⟩ := h
  obtain ⟨b0, b1, b2, b3, b4, rfl, ⟨g0, g1, g2, g3, g4⟩, hb⟩ := g
  intro W
  rw [← ha, ← hb]
  exact equal_any a0 a1 a2 a3 a4 b0 b1 b2 b3 b4 h0.1 h0.2 h1.1 h1.2 h2.1 h2.2 h3.1 h3.2 h4.1 h4.2 g0.1 g0.2 g1.1 g1.2 g2.1 g2.2 g3.1 g3.2 g4.1 g4.2 W
theorem a_isZero {r : Array Value} {x : Int} (h : NumOf r x) : Gives 36 #[.agg r] (.bool (decide (x % prm = 0))) := by
  obtain ⟨a0, a1, a2, a3, a4, rfl, ⟨h0, h1, h2, h3, h4⟩, ha⟩ := h
  intro W
  rw [← ha]
  exact isZero_any a0 a1 a2 a3 a4 h0.1 h0.2 h1.1 h1.2 h2.1 h2.2 h3.1 h3.2 h4.1 h4.2 W
end Go.Proofs.YtnohfbpmckhbbaaDoor


namespace Go.Proofs.YtnohfbpmckhbbaaDoor
set_option maxRecDepth 100000
open Go.RowKit Go.Sort
attribute [local go_sem] setCell_drewN alloc_drewN


theorem and1 (x : Int) (h0 : 0 ≤ x) (h1 : x < 256) : bits .and .u8 x 1 = x % 2 := by
  rw [u8_and x 1 h0 h1 (by decide) (by decide)]
  have e : (1 : Int).toNat = 1 := by decide
  rw [e, nat_mask1]
  omega
set_option maxHeartbeats 1000000 in
theorem odd_any (a0 a1 a2 a3 a4 : Int) (la0 : 0 ≤ a0) (ua0 : a0 < 4503599627370496) (la1 : 0 ≤ a1) (ua1 : a1 < 4503599627370496) (la2 : 0 ≤ a2) (ua2 : a2 < 4503599627370496) (la3 : 0 ≤ a3) (ua3 : a3 < 4503599627370496) (la4 : 0 ≤ a4) (ua4 : a4 < 4503599627370496) (w : World) :
    Calls Tryd.prog 38 #[.agg #[.int .u64 a0, .int .u64 a1, .int .u64 a2, .int .u64 a3, .int .u64 a4]] w fun e w' => e = .returned (.bool (byt (v5 a0 a1 a2 a3 a4 % prm) 0 % 2 == 1)) ∧ Below w.heap.size w w' := by
  have c1 := fun W => bytes_any a0 a1 a2 a3 a4 la0 ua0 la1 ua1 la2 ua2 la3 ua3 la4 ua4 W
  generalize v5 a0 a1 a2 a3 a4 % prm = m at *
  have hi : ∀ W, (Instr.index 34 (.agg #[.int .u8 (byt (m) 0), .int .u8 (byt (m) 1), .int .u8 (byt (m) 2), .int .u8 (byt (m) 3), .int .u8 (byt (m) 4), .int .u8 (byt (m) 5), .int .u8 (byt (m) 6), .int .u8 (byt (m) 7), .int .u8 (byt (m) 8), .int .u8 (byt (m) 9), .int .u8 (byt (m) 10), .int .u8 (byt (m) 11), .int .u8 (byt (m) 12), .int .u8 (byt (m) 13), .int .u8 (byt (m) 14), .int .u8 (byt (m) 15), .int .u8 (byt (m) 16), .int .u8 (byt (m) 17), .int .u8 (byt (m) 18), .int .u8 (byt (m) 19), .int .u8 (byt (m) 20), .int .u8 (byt (m) 21), .int .u8 (byt (m) 22), .int .u8 (byt (m) 23), .int .u8 (byt (m) 24), .int .u8 (byt (m) 25), .int .u8 (byt (m) 26), .int .u8 (byt (m) 27), .int .u8 (byt (m) 28), .int .u8 (byt (m) 29), .int .u8 (byt (m) 30), .int .u8 (byt (m) 31)]) (.int .i64 0)).run Tryd.prog W = .ok (.int .u8 (byt m 0)) W := fun W => by kernel_rfl
  have ha := and1 (byt m 0) (byt_bd m 0).1 (byt_bd m 0).2
  have C1 := hide c1
  clear c1 la0 ua0 la1 ua1 la2 ua2 la3 ua3 la4 ua4
  go_enter Tryd.func38, Tryd.ntmps38
  go_wp2_with (first | (refine wpList_load_row rfl 26 _ rfl w.heap.size rfl 26 #[.int .u64 a0, .int .u64 a1, .int .u64 a2, .int .u64 a3, .int .u64 a4] (0, 0) _ (hp1_0 w _) Tryd.underlying26 rfl (by kernel_rfl) ?_) | fail)
  refine (C1.out _).mono ?_
  rintro e w1 ⟨rfl, hb⟩
  go_wp2
  go_ret
  exact ⟨rfl, ((Below.refl _ _).alloc (Nat.le_refl _) _).trans (hb.mono (by simp))⟩

end Go.Proofs.YtnohfbpmckhbbaaDoor


namespace Go.Proofs.YtnohfbpmckhbbaaDoor
set_option maxRecDepth 100000
open Go.RowKit Go.Sort
attribute [local go_sem] setCell_drewN alloc_drewN


/-- The same where the package's variable holds what it was laid with. -/
def Gives4 (f : FuncId) (args : Array Value) (v : Value) : Prop := ∀ W, Four W → Calls Tryd.prog f args W fun e w' => e = .returned v ∧ Below W.heap.size W w'
theorem Gives4.at {f : FuncId} {args : Array Value} {v : Value} (h : Gives4 f args v) {W : World} (hW : Four W) : Calls Tryd.prog f args W fun e w' => e = .returned v ∧ Below W.heap.size W w' := h W hW
theorem Gives4.re {f : FuncId} {args : Array Value} {v : Value} (h : Gives4 f args v) {w : World} {d : Nat} {os : Array Obj} (hw : Four w) : Calls Tryd.prog f args (grow (redrawn w d) os) fun e w'' => e = .returned v ∧ ∃ p : Regrown, w'' = grow (redrawn w p.d) p.os := Calls.regrown_of (h _ (hw.below (below_regrown w d os)))
theorem Four.alloc {w : World} (h : Four w) (o : Obj) : Four (w.alloc o) := h.below ((Below.refl _ _).alloc (Nat.le_refl _) _)

theorem a_add {r s : Array Value} {x y : Int} (h : NumOf r x) (g : NumOf s y) : ∃ t, NumOf t (x + y) ∧ Gives 15 #[.agg r, .agg s] (.agg t) := by
  obtain ⟨a0, a1, a2, a3, a4, rfl, ⟨h0, h1, h2, h3, h4⟩, ha⟩ := h
  obtain ⟨b0, b1, b2, b3, b4, rfl, ⟨g0, g1, g2, g3, g4⟩, hb⟩ := g
  refine ⟨_, ⟨_, _, _, _, _, rfl, nr_bd _ ?_ ?_, ?_⟩, fun W => add_any a0 a1 a2 a3 a4 b0 b1 b2 b3 b4 h0.1 h0.2 h1.1 h1.2 h2.1 h2.2 h3.1 h3.2 h4.1 h4.2 g0.1 g0.2 g1.1 g1.2 g2.1 g2.2 g3.1 g3.2 g4.1 g4.2 W⟩
  rotate_right
  · rw [nr_val, Int.add_emod, ha, hb, ← Int.add_emod]
  all_goals (clear ha hb; simp only [v5]; omega)
theorem a_sub {r s : Array Value} {x y : Int} (h : NumOf r x) (g : NumOf s y) : ∃ t, NumOf t (x - y) ∧ Gives4 16 #[.agg r, .agg s] (.agg t) := by
  obtain ⟨a0, a1, a2, a3, a4, rfl, ⟨h0, h1, h2, h3, h4⟩, ha⟩ := h
  obtain ⟨b0, b1, b2, b3, b4, rfl, ⟨g0, g1, g2, g3, g4⟩, hb⟩ := g
  refine ⟨_, ⟨_, _, _, _, _, rfl, nr_bd _ ?_ ?_, ?_⟩, fun W hW => sub_any a0 a1 a2 a3 a4 b0 b1 b2 b3 b4 h0.1 h0.2 h1.1 h1.2 h2.1 h2.2 h3.1 h3.2 h4.1 h4.2 g0.1 g0.2 g1.1 g1.2 g2.1 g2.2 g3.1 g3.2 g4.1 g4.2 W hW⟩
  rotate_right
  · have e : v5 a0 a1 a2 a3 a4 + 231584178474632390847141970017375815706539969331281128078915168015826259279796 - v5 b0 b1 b2 b3 b4 = v5 a0 a1 a2 a3 a4 - v5 b0 b1 b2 b3 b4 - prm * (-4) := by unfold prm; omega
    rw [nr_val, e, Int.sub_mul_emod_self_left, Int.sub_emod, ha, hb, ← Int.sub_emod]
  all_goals (clear ha hb; simp only [v5]; omega)
theorem a_odd {r : Array Value} {x : Int} (h : NumOf r x) : Gives 38 #[.agg r] (.bool (byt (x % prm) 0 % 2 == 1)) := by
  obtain ⟨a0, a1, a2, a3, a4, rfl, ⟨h0, h1, h2, h3, h4⟩, ha⟩ := h
  intro W
  rw [← ha]
  exact odd_any a0 a1 a2 a3 a4 h0.1 h0.2 h1.1 h1.2 h2.1 h2.2 h3.1 h3.2 h4.1 h4.2 W
set_option maxHeartbeats 1000000 in
theorem a_neg {r : Array Value} {x : Int} (h : NumOf r x) : ∃ t, NumOf t (-x) ∧ Gives4 17 #[.agg r] (.agg t) := by
  obtain ⟨t, ht, c⟩ := a_sub num_zero h
  refine ⟨t, ht.congr (by rw [Int.zero_sub]), fun w hw => ?_⟩
  go_enter Tryd.func17, Tryd.ntmps17
  go_wp2_with (first | (refine wpList_load_row rfl 26 _ rfl w.heap.size rfl 26 r (0, 0) _ (hp2_0 w _ _) Tryd.underlying26 rfl h.info ?_) | fail)
  refine (c.at ((hw.alloc _).alloc _)).mono ?_
  rintro e w1 ⟨rfl, hb⟩
  have rZ : w1.heap[w.heap.size + 1]? = some (.cells #[.int .u64 0, .int .u64 0, .int .u64 0, .int .u64 0, .int .u64 0] 26 (0, 0)) := (hb.block _ (by simp)).trans (hp2_1 w _ _)
  have hbw : Below w.heap.size w w1 := (((Below.refl _ _).alloc (Nat.le_refl _) _).alloc (by simp) _).trans (hb.mono (by simp; omega))
  clear hb
  go_wp2_with (first | (refine wpList_store_row rfl 26 _ _ rfl (w.heap.size + 1) t rfl rfl 26 _ rZ ht.info (ht.fits rfl) ht.one ?_) | fail)
  exact bodyPost_ret (v := .agg t) (results_cell_row Tryd.results17 _ _ (w.heap.size + 1) _ t _ _ rfl (setRow_heap _ _ _ _ _ _ rZ) Tryd.underlying26 rfl ht.info) rfl ⟨rfl, below_setRow hbw (by omega) _⟩

end Go.Proofs.YtnohfbpmckhbbaaDoor


namespace Go.Proofs.YtnohfbpmckhbbaaDoor
set_option maxRecDepth 100000
open Go.RowKit Go.Sort
attribute [local go_sem] setCell_drewN alloc_drewN


theorem Four.belowN {w w' : World} {n : Nat} (h : Four w) (hn : 0 < n) (hb : Below n w w') : Four w' := by
  obtain ⟨h0, k0, k1, k2, k3, k4⟩ := h
  exact ⟨Nat.lt_of_lt_of_le h0 hb.size, (hb.cell (p := ⟨0, 0, none⟩) hn).trans k0, (hb.cell (p := ⟨0, 1, none⟩) hn).trans k1, (hb.cell (p := ⟨0, 2, none⟩) hn).trans k2, (hb.cell (p := ⟨0, 3, none⟩) hn).trans k3, (hb.cell (p := ⟨0, 4, none⟩) hn).trans k4⟩
theorem Four.setRow {w : World} {g : Nat} (h : Four w) (hg : 0 < g) (cs : Array Value) : Four (w.setRow g cs) :=
  h.belowN (n := 1) (by decide) (below_setRow (Below.refl _ _) hg cs)

end Go.Proofs.YtnohfbpmckhbbaaDoor


namespace Go.Proofs.YtnohfbpmckhbbaaDoor
set_option maxRecDepth 100000
open Go.RowKit Go.Sort
attribute [local go_sem] setCell_drewN alloc_drewN


/-- What lies in a block stays behind a callee that leaves what was there. -/
theorem keep {w W : World} (hb : Below w.heap.size w W) {g : Nat} {o : Obj} (h : w.heap[g]? = some o) : W.heap[g]? = some o :=
  (hb.block _ (Array.getElem?_eq_some_iff.1 h).1).trans h
theorem keepr {w : World} {g : Nat} {o : Obj} (h : w.heap[g]? = some o) : Hid (∀ W, (∃ p : Regrown, W = grow (redrawn w p.d) p.os) → W.heap[g]? = some o) := by
  rintro _ ⟨p, rfl⟩; exact keep (below_regrown w p.d p.os) h
theorem lt_of_row {w : World} {g : Nat} {o : Obj} (h : w.heap[g]? = some o) : g < w.heap.size := (Array.getElem?_eq_some_iff.1 h).1
theorem Below.after {w w1 w2 : World} (h : Below w.heap.size w w1) (hb : Below w1.heap.size w1 w2) : Below w.heap.size w w2 := h.trans (hb.mono h.size)
/-- A whole row read in an ordered region, under a guard that says yes. -/
theorem wpList_load_want {P : Program} {ops : Array Oper} {rest : List Oper} {o : Oper} {a : Act} {w : World} {Q : Exit → Act → World → Prop} (hw : Region.wanted o (yielded ops a.tmps) = true) (ty : TypeId) (x : Operand) (ho : o.op = .load ty x)
    (g : Nat) (hx : a.eval x = .pointer (some ⟨g, 0, none⟩)) (t : TypeId) (cs : Array Value) (fr : Nat × Nat) (d : TypeDesc) (hg : w.heap[g]? = some (.cells cs t fr))
    (hu : P.underlying ty = some d) (hd : (match d with | .struct _ | .array _ _ => true | _ => false) = true) (hi : (P.info? ty).map (·.size) = some cs.size)
    (h : wpList P ops Q rest (a.put o.dst (.agg cs)) w) : wpList P ops Q (o :: rest) a w :=
  BigFrame.wpList_want hw fun _ hK => wp_load_row ty x ho g hx t cs fr d hg hu hd hi (hK _ _ h)
theorem a_isZero_eq {r : Array Value} {x : Int} (h : NumOf r x) (e : x = 0) : Gives 36 #[.agg r] (.bool true) := by
  have := a_isZero h
  rwa [e, decide_eq_true (by decide)] at this

end Go.Proofs.YtnohfbpmckhbbaaDoor


namespace Go.Proofs.YtnohfbpmckhbbaaDoor
set_option maxRecDepth 100000
open Go.RowKit Go.Sort
attribute [local go_sem] setCell_drewN alloc_drewN


/-- What Square answers, whatever the cells. -/
noncomputable def nextSq (r : Array Value) : Array Value := open Classical in if h : ∃ x, NumOf r x then Classical.choose (a_square (Classical.choose_spec h)) else r
theorem num_inj {r : Array Value} {x y : Int} (h : NumOf r x) (g : NumOf r y) : x % prm = y % prm := by
  obtain ⟨a0, a1, a2, a3, a4, e, _, ha⟩ := h
  obtain ⟨b0, b1, b2, b3, b4, e', _, hb⟩ := g
  rw [e] at e'
  simp only [Array.mk.injEq, List.cons.injEq, Value.int.injEq] at e'
  obtain ⟨⟨_, rfl⟩, ⟨_, rfl⟩, ⟨_, rfl⟩, ⟨_, rfl⟩, ⟨_, rfl⟩, _⟩ := e'
  rw [← ha, ← hb]
theorem nextSq_spec {r : Array Value} {x : Int} (h : NumOf r x) : NumOf (nextSq r) (x * x) ∧ Gives 19 #[.agg r] (.agg (nextSq r)) := by
  have hx : ∃ x, NumOf r x := ⟨x, h⟩
  have e : nextSq r = Classical.choose (a_square (Classical.choose_spec hx)) := by unfold nextSq; exact dif_pos hx
  have sp := Classical.choose_spec (a_square (Classical.choose_spec hx))
  rw [← e] at sp
  refine ⟨sp.1.congr ?_, sp.2⟩
  have i := num_inj (Classical.choose_spec hx) h
  rw [Int.mul_emod, i, ← Int.mul_emod]
noncomputable def sqs (r : Array Value) : Nat → Array Value
  | 0 => r
  | k + 1 => nextSq (sqs r k)
theorem sqs_spec {r : Array Value} {x : Int} (h : NumOf r x) : ∀ k, NumOf (sqs r k) (x ^ (2 ^ k))
  | 0 => by rw [Nat.pow_zero, Int.pow_succ, Int.pow_zero, Int.one_mul]; exact h
  | k + 1 => by
    have := (nextSq_spec (sqs_spec h k)).1
    rw [← Int.pow_add, show 2 ^ k + 2 ^ k = 2 ^ (k + 1) by rw [Nat.pow_succ]; omega] at this
    exact this
set_option maxHeartbeats 2000000 in
theorem a_squares {r : Array Value} {x : Int} (h : NumOf r x) (t : Nat) (ht : t < 1000) : ∃ s, NumOf s (x ^ (2 ^ t)) ∧ Gives 51 #[.agg r, .int .i64 t] (.agg s) := by
  refine ⟨sqs r t, sqs_spec h t, fun w => ?_⟩
  go_enter Tryd.func51, Tryd.ntmps51
  go_wp2
  go_loopw [6] (fun i wr => ∃ k : Nat, k ≤ t ∧ i = .int .i64 k ∧ wr.heap[w.heap.size]? = some (.cells (sqs r k) 26 (0, 0)) ∧ wr.heap[w.heap.size + 1]? = some (.cells #[.int .u64 0, .int .u64 0, .int .u64 0, .int .u64 0, .int .u64 0] 26 (0, 0)) ∧ Below w.heap.size w wr) (fun i _ => t - (intOf i).toNat)
  case atStart => exact ⟨0, by omega, rfl, hp2_0 w _ _, hp2_1 w _ _, ((Below.refl _ _).alloc (Nat.le_refl _) _).alloc (by simp) _⟩
  case round =>
    obtain ⟨k, hk, rfl, r0, r1, hw⟩ := hrel
    have hn := sqs_spec h k
    by_cases hlt : k < t
    · have hd : decide ((k : Int) < (t : Int)) = true := by simp; omega
      have hs : NumOf (sqs r (k + 1)) _ ∧ Gives 19 #[.agg (sqs r k)] (.agg (sqs r (k + 1))) := nextSq_spec hn
      obtain ⟨hs, c⟩ := hs
      go_wp2_with (first | (refine wpList_load_want rfl 26 _ rfl (w.heap.size) rfl 26 (sqs r k) (0, 0) _ r0 Tryd.underlying26 rfl hn.info ?_) | fail)
      refine (c.at _).mono ?_
      rintro e w1 ⟨rfl, hb⟩
      replace r0 := keep hb r0
      replace r1 := keep hb r1
      replace hw := Below.after hw hb
      clear hb
      go_wp2_with (first | (refine wpList_store_row rfl 26 _ _ rfl (w.heap.size) (sqs r (k + 1)) rfl rfl 26 _ r0 hs.info (hn.size.trans hs.size.symm) hs.one ?_) | fail)
      go_roundw
      case rel => exact ⟨k + 1, by omega, by go_num, setRow_heap _ _ _ _ _ _ r0, (setRow_other _ _ _ _ (by omega)).trans r1, below_setRow hw (Nat.le_refl _) _⟩
      case measure => simp [intOf]; omega
    · obtain rfl : k = t := by omega
      have hd : decide ((k : Int) < (k : Int)) = false := by simp
      go_wp2_with (first | (refine wpList_load_want rfl 26 _ rfl (w.heap.size) rfl 26 (sqs r k) (0, 0) _ r0 Tryd.underlying26 rfl hn.info ?_) | (refine wpList_store_row rfl 26 _ _ rfl (w.heap.size + 1) (sqs r k) rfl rfl 26 _ r1 hn.info (hn.fits rfl) hn.one ?_) | fail)
      exact bodyPost_ret (v := .agg (sqs r k)) (results_cell_row Tryd.results51 _ _ (w.heap.size + 1) _ (sqs r k) _ _ rfl (setRow_heap _ _ _ _ _ _ r1) Tryd.underlying26 rfl hn.info) rfl ⟨rfl, below_setRow hw (by omega) _⟩


theorem p_squares {r : Array Value} {x : Int} {e : Nat} (h : NumOf r (x ^ e)) (t : Nat) (ht : t < 1000) (k : Nat) (hk : k = e * 2 ^ t) : ∃ s, NumOf s (x ^ k) ∧ Gives 51 #[.agg r, .int .i64 t] (.agg s) := by
  obtain ⟨s, hs, c⟩ := a_squares h t ht
  rw [← Int.pow_mul, ← hk] at hs
  exact ⟨s, hs, c⟩
theorem p_square {r : Array Value} {x : Int} {e : Nat} (h : NumOf r (x ^ e)) (k : Nat) (hk : k = e + e) : ∃ s, NumOf s (x ^ k) ∧ Gives 19 #[.agg r] (.agg s) := by
  obtain ⟨s, hs, c⟩ := a_square h
  rw [← Int.pow_add, ← hk] at hs
  exact ⟨s, hs, c⟩
theorem p_mul {r s : Array Value} {x : Int} {e f : Nat} (h : NumOf r (x ^ e)) (g : NumOf s (x ^ f)) (k : Nat) (hk : k = e + f) : ∃ t, NumOf t (x ^ k) ∧ Gives 18 #[.agg r, .agg s] (.agg t) := by
  obtain ⟨s, hs, c⟩ := a_mul h g
  rw [← Int.pow_add, ← hk] at hs
  exact ⟨s, hs, c⟩

end Go.Proofs.YtnohfbpmckhbbaaDoor


namespace Go.Proofs.YtnohfbpmckhbbaaDoor
set_option maxRecDepth 100000
open Go.RowKit Go.Sort
attribute [local go_sem] setCell_drewN alloc_drewN


section
variable {P : Program} {ops : Array Oper} {Q : Exit → Act → World → Prop} {md : Region.Mode} {S : World → Prop}
/-- The one operation that may come up, where S is kept. -/
theorem wpAnyH_one {k : Nat} {o : Oper} {fuel : Nat} {listed : Array Bool} {a : Act} {w : World} (hr : Region.ready md ops listed = [k]) (hi : ops[k]? = some o) (hw : Region.wanted o (yielded ops a.tmps) = true)
    (h : ∀ K : Act → World → Prop, (∀ a' w', S w' → wpAnyH P md ops Q S fuel (listed.setIfInBounds k true) a' w' → K a' w') → o.wp P a w K Q) : wpAnyH P md ops Q S (fuel + 1) listed a w := by
  refine wpAnyH_all hr (by simp) (fun i hi' => ?_)
  obtain rfl : i = k := by simpa using hi'
  unfold wpOp
  simp only [hi, hw, if_true]
  exact .inl (h _ (fun a' w' hS hn => ⟨hS, hn⟩))
/-- Either of two operations may come up. -/
theorem wpAnyH_two {j k : Nat} {oj ok : Oper} {fuel : Nat} {listed : Array Bool} {a : Act} {w : World} (hr : Region.ready md ops listed = [j, k]) (hj : ops[j]? = some oj) (hk : ops[k]? = some ok) (wj : Region.wanted oj (yielded ops a.tmps) = true) (wk : Region.wanted ok (yielded ops a.tmps) = true)
    (h1 : ∀ K : Act → World → Prop, (∀ a' w', S w' → wpAnyH P md ops Q S fuel (listed.setIfInBounds j true) a' w' → K a' w') → oj.wp P a w K Q)
    (h2 : ∀ K : Act → World → Prop, (∀ a' w', S w' → wpAnyH P md ops Q S fuel (listed.setIfInBounds k true) a' w' → K a' w') → ok.wp P a w K Q) : wpAnyH P md ops Q S (fuel + 1) listed a w := by
  refine wpAnyH_all hr (by simp) (fun i hi' => ?_)
  obtain rfl | rfl : i = j ∨ i = k := by simpa using hi'
  · unfold wpOp
    simp only [hj, wj, if_true]
    exact .inl (h1 _ (fun a' w' hS hn => ⟨hS, hn⟩))
  · unfold wpOp
    simp only [hk, wk, if_true]
    exact .inl (h2 _ (fun a' w' hS hn => ⟨hS, hn⟩))
/-- A part of a row, as it is read. -/
theorem run_load_part {o : Oper} {a : Act} {w : World} (ty : TypeId) (x : Operand) (ho : o.op = .load ty x) (g off : Nat) (hx : a.eval x = .pointer (some ⟨g, off, none⟩)) (t : TypeId) (cs : Array Value) (fr : Nat × Nat) (part : Array Value) (d : TypeDesc) (hg : w.heap[g]? = some (.cells cs t fr)) (hp : cs.extract off (off + part.size) = part)
    (hu : P.underlying ty = some d) (hd : d.isRow = true) (hi : (P.info? ty).map (·.size) = some part.size) : (execOp a.eval o).run P w = .ok (.value (.agg part)) w := by
  have hr := World.rangeAt_of_block hg off part.size
  rw [hp] at hr
  have hl := run_loadVar_mid (P := P) w g off ty part.toList d hr hu hd (by simpa using hi)
  unfold execOp
  simp only [ho, hx, Instr.loadAt, Instr.sureAddr, Sem.run_bind, Sem.run_pure, Result.andThen_ok, hl]
end
theorem all_rowc (cs : Array Value) : cs.extract 0 (0 + cs.size) = cs := by simp
theorem exRc {f : FuncId} {args : Array Value} {w : World} {v : Value} {Bp : World → Prop} (h : Calls Tryd.prog f args w fun e w' => e = .returned v ∧ Bp w') : Calls Tryd.prog f args w fun e w' => ∃ v', e = .returned v' ∧ v' = v ∧ Bp w' := h.mono fun _ _ ⟨a, b⟩ => ⟨v, a, rfl, b⟩
set_option maxRecDepth 100000 in
set_option maxHeartbeats 4000000 in
theorem p_climb {r : Array Value} {x : Int} (h : NumOf r (x ^ 1)) : ∃ s t, NumOf s (x ^ 1809251394333065553493296640760748560207343510400633813116524750123642650623) ∧ NumOf t (x ^ 11) ∧ Gives 50 #[.agg r] (.tuple #[.agg s, .agg t]) := by
  obtain ⟨x1, h1, c1⟩ := p_square h 2 (by decide)
  obtain ⟨x4, h4, c4⟩ := p_squares h1 2 (by decide) 8 (by decide)
  obtain ⟨x5, h5, c5⟩ := p_mul h4 h 9 (by decide)
  obtain ⟨x8, h8, c8⟩ := p_mul h5 h1 11 (by decide)
  obtain ⟨x11, h11, c11⟩ := p_square h8 22 (by decide)
  obtain ⟨x12, h12, c12⟩ := p_mul h11 h5 31 (by decide)
  obtain ⟨x16, h16, c16⟩ := p_squares h12 5 (by decide) 992 (by decide)
  obtain ⟨x17, h17, c17⟩ := p_mul h16 h12 1023 (by decide)
  obtain ⟨x21, h21, c21⟩ := p_squares h17 10 (by decide) 1047552 (by decide)
  obtain ⟨x22, h22, c22⟩ := p_mul h21 h17 1048575 (by decide)
  obtain ⟨x26, h26, c26⟩ := p_squares h22 20 (by decide) 1099510579200 (by decide)
  obtain ⟨x27, h27, c27⟩ := p_mul h26 h22 1099511627775 (by decide)
  obtain ⟨x31, h31, c31⟩ := p_squares h27 10 (by decide) 1125899906841600 (by decide)
  obtain ⟨x32, h32, c32⟩ := p_mul h31 h17 1125899906842623 (by decide)
  obtain ⟨x36, h36, c36⟩ := p_squares h32 50 (by decide) 1267650600228228275596796362752 (by decide)
  obtain ⟨x37, h37, c37⟩ := p_mul h36 h32 1267650600228229401496703205375 (by decide)
  obtain ⟨x41, h41, c41⟩ := p_squares h37 100 (by decide) 1606938044258990275541962092339894951921974764381296132096000 (by decide)
  obtain ⟨x42, h42, c42⟩ := p_mul h41 h37 1606938044258990275541962092341162602522202993782792835301375 (by decide)
  obtain ⟨x46, h46, c46⟩ := p_squares h42 50 (by decide) 1809251394333065553493296640760748560207343510400633813116523624223735808000 (by decide)
  obtain ⟨x48, h48, c48⟩ := p_mul h46 h32 1809251394333065553493296640760748560207343510400633813116524750123642650623 (by decide)
  refine ⟨x48, x8, h48, h8, fun w => ?_⟩
  go_enter Tryd.func50, Tryd.ntmps50
  go_wp2_with (first | (refine wpList_load_want rfl 26 _ rfl (w.heap.size) rfl 26 r (0, 0) _ (hp3_0 w _ _ _) Tryd.underlying26 rfl h.info ?_) | (refine wpList_load_want rfl 26 _ rfl (w.heap.size + 1) rfl 26 #[.int .u64 0, .int .u64 0, .int .u64 0, .int .u64 0, .int .u64 0] (0, 0) _ (hp3_1 w _ _ _) Tryd.underlying26 rfl num_zero.info ?_) | (refine wpList_load_want rfl 26 _ rfl (w.heap.size + 1 + 1) rfl 26 #[.int .u64 0, .int .u64 0, .int .u64 0, .int .u64 0, .int .u64 0] (0, 0) _ (hp3_2 w _ _ _) Tryd.underlying26 rfl num_zero.info ?_) | fail)
  have rp0 : (((w.alloc (.cells r 26)).alloc (.cells #[.int .u64 0, .int .u64 0, .int .u64 0, .int .u64 0, .int .u64 0] 26)).alloc (.cells #[.int .u64 0, .int .u64 0, .int .u64 0, .int .u64 0, .int .u64 0] 26)).heap[w.heap.size]? = some (.cells r 26 (0, 0)) := hp3_0 w _ _ _
  have rp1 : (((w.alloc (.cells r 26)).alloc (.cells #[.int .u64 0, .int .u64 0, .int .u64 0, .int .u64 0, .int .u64 0] 26)).alloc (.cells #[.int .u64 0, .int .u64 0, .int .u64 0, .int .u64 0, .int .u64 0] 26)).heap[w.heap.size + 1]? = some (.cells #[.int .u64 0, .int .u64 0, .int .u64 0, .int .u64 0, .int .u64 0] 26 (0, 0)) := hp3_1 w _ _ _
  have rp2 : (((w.alloc (.cells r 26)).alloc (.cells #[.int .u64 0, .int .u64 0, .int .u64 0, .int .u64 0, .int .u64 0] 26)).alloc (.cells #[.int .u64 0, .int .u64 0, .int .u64 0, .int .u64 0, .int .u64 0] 26)).heap[w.heap.size + 1 + 1]? = some (.cells #[.int .u64 0, .int .u64 0, .int .u64 0, .int .u64 0, .int .u64 0] 26 (0, 0)) := hp3_2 w _ _ _
  have hw : Below w.heap.size w (((w.alloc (.cells r 26)).alloc (.cells #[.int .u64 0, .int .u64 0, .int .u64 0, .int .u64 0, .int .u64 0] 26)).alloc (.cells #[.int .u64 0, .int .u64 0, .int .u64 0, .int .u64 0, .int .u64 0] 26)) := ((((Below.refl _ _).alloc (Nat.le_refl _) _).alloc (by simp) _).alloc (by simp; omega) _)
  generalize (((w.alloc (.cells r 26)).alloc (.cells #[.int .u64 0, .int .u64 0, .int .u64 0, .int .u64 0, .int .u64 0] 26)).alloc (.cells #[.int .u64 0, .int .u64 0, .int .u64 0, .int .u64 0, .int .u64 0] 26)) = w0 at *
  refine (c1.at _).mono ?_
  rintro e w2 ⟨rfl, hb⟩
  replace rp0 := keep hb rp0
  replace rp1 := keep hb rp1
  replace rp2 := keep hb rp2
  replace hw := Below.after hw hb
  clear hb
  go_wp2_with (first | (refine wpList_store_row rfl 26 _ _ rfl (w2.heap.size) x1 rfl rfl 26 #[.int .u64 0, .int .u64 0, .int .u64 0, .int .u64 0, .int .u64 0] (hp1_0 w2 _) h1.info (h1.fits rfl) h1.one ?_; rw [setRow_alloc_new _ _ _ _ _ _ (by simp)]) | fail | fail)
  have rl4 : (w2.alloc (.cells x1 26)).heap[w2.heap.size]? = some (.cells x1 26 (0, 0)) := hp1_0 w2 _
  have hb : Below w2.heap.size w2 (w2.alloc (.cells x1 26)) := ((Below.refl _ _).alloc (Nat.le_refl _) _)
  generalize (w2.alloc (.cells x1 26)) = wa at *
  have yg4_0 := lt_of_row rp0
  have yg4_1 := lt_of_row rp1
  have yg4_2 := lt_of_row rp2
  have yg4 := hw.size
  replace rp0 := keep hb rp0
  replace rp1 := keep hb rp1
  replace rp2 := keep hb rp2
  replace hw := Below.after hw hb
  clear hb
  generalize w2.heap.size = g4 at *
  clear w2
  refine wp_region_alloc_ex 4 5 [5] (fun _ => .cells #[.int .u64 0, .int .u64 0, .int .u64 0, .int .u64 0, .int .u64 0] 26 (0, 0)) (by kernel_rfl) (by decide) (by decide) (by kernel_rfl) (by kernel_rfl) (by kernel_rfl) (by kernel_rfl) (by kernel_rfl) (by kernel_rfl) (by kernel_rfl) (by kernel_rfl) (by decide) (by decide) ?_ ?_
  · intro s l u
    rcases (by omega : s = 4) with rfl <;> exact ⟨_, _, rfl, rfl, rfl, rfl, fun a w => by kernel_rfl⟩
  apply Exists.intro
  constructor
  · intro v3 hb
    have Hrp0 := keepr (keep hb rp0)
    have Hrp1 := keepr (keep hb rp1)
    have Hrp2 := keepr (keep hb rp2)
    have Hrl4 := keepr (keep hb rl4)
    skip
    clear hb; dsimp only [List.take]
    refine wpQuiet_load_row rfl 26 _ rfl (g4) rfl 26 x1 (0, 0) _ Hrl4.out Tryd.underlying26 rfl h1.info ?_
    simp only [Act.put, List.setIfInBounds_toArray, List.set_cons_succ, List.set_cons_zero]
    go_big_quiet_step (exact c4.re)
    refine wpQuiet_load_row rfl 26 _ rfl (w.heap.size) rfl 26 r (0, 0) _ Hrp0.out Tryd.underlying26 rfl h.info ?_
    simp only [Act.put, List.setIfInBounds_toArray, List.set_cons_succ, List.set_cons_zero]
    go_big_quiet_step (exact c5.re)
    refine wpQuiet_nil ?_
    rfl
  intro w6 g hb hg hd
  obtain ⟨lg5, rg5⟩ := hg 5 (by simp)
  replace rg5 : w6.heap[g 5]? = some (.cells #[.int .u64 0, .int .u64 0, .int .u64 0, .int .u64 0, .int .u64 0] 26 (0, 0)) := rg5
  simp only [List.drop, puts, ptrs, List.map, List.foldl, Act.put, List.setIfInBounds_toArray, List.set_cons_succ, List.set_cons_zero]
  clear hg hd
  generalize g 5 = g5 at *
  have lrp0 := lt_of_row rp0
  have lrp1 := lt_of_row rp1
  have lrp2 := lt_of_row rp2
  have lrl4 := lt_of_row rl4
  have hs := hw.size
  replace rp0 := keep hb rp0
  replace rp1 := keep hb rp1
  replace rp2 := keep hb rp2
  replace rl4 := keep hb rl4
  replace hw := Below.after hw hb
  clear hb
  refine wpList_store_row rfl 26 _ _ rfl g5 x5 rfl rfl 26 _ rg5 h5.info (h5.fits rfl) h5.one ?_
  simp only [Act.put]
  replace rp0 := (setRow_other w6 g5 (w.heap.size) x5 (by omega)).trans rp0
  replace rp1 := (setRow_other w6 g5 (w.heap.size + 1) x5 (by omega)).trans rp1
  replace rp2 := (setRow_other w6 g5 (w.heap.size + 1 + 1) x5 (by omega)).trans rp2
  replace rl4 := (setRow_other w6 g5 (g4) x5 (by omega)).trans rl4
  replace rg5 := setRow_heap w6 g5 _ x5 _ _ rg5
  replace hw := below_setRow hw (show w.heap.size ≤ g5 by omega) x5
  generalize w6.setRow g5 x5 = w7 at *
  have yg5_0 : w.heap.size < g5 := by omega
  have yg5_1 : w.heap.size + 1 < g5 := by omega
  have yg5_2 : w.heap.size + 1 + 1 < g5 := by omega
  have yg5_3 : g4 < g5 := by omega
  have yg5 : w.heap.size ≤ g5 := by omega
  clear hs lrp0 lrp1 lrp2 lrl4 lg5
  skip
  go_wp2_with (first | (refine wpList_load_want rfl 26 _ rfl (w.heap.size) rfl 26 r (0, 0) _ rp0 Tryd.underlying26 rfl h.info ?_) | (refine wpList_load_want rfl 26 _ rfl (w.heap.size + 1) rfl 26 #[.int .u64 0, .int .u64 0, .int .u64 0, .int .u64 0, .int .u64 0] (0, 0) _ rp1 Tryd.underlying26 rfl num_zero.info ?_) | (refine wpList_load_want rfl 26 _ rfl (w.heap.size + 1 + 1) rfl 26 #[.int .u64 0, .int .u64 0, .int .u64 0, .int .u64 0, .int .u64 0] (0, 0) _ rp2 Tryd.underlying26 rfl num_zero.info ?_) | (refine wpList_load_want rfl 26 _ rfl (g4) rfl 26 x1 (0, 0) _ rl4 Tryd.underlying26 rfl h1.info ?_) | (refine wpList_load_want rfl 26 _ rfl (g5) rfl 26 x5 (0, 0) _ rg5 Tryd.underlying26 rfl h5.info ?_) | fail)
  refine (c8.at _).mono ?_
  rintro e w9 ⟨rfl, hb⟩
  replace rp0 := keep hb rp0
  replace rp1 := keep hb rp1
  replace rp2 := keep hb rp2
  replace rl4 := keep hb rl4
  replace rg5 := keep hb rg5
  replace hw := Below.after hw hb
  clear hb
  go_wp2_with (first | (refine wpList_store_row rfl 26 _ _ rfl (w.heap.size + 1 + 1) x8 rfl rfl 26 _ rp2 h8.info (num_zero.size.trans h8.size.symm) h8.one ?_) | fail)
  replace rp0 := (setRow_other w9 (w.heap.size + 1 + 1) (w.heap.size) x8 (by first | assumption | omega)).trans rp0
  replace rp1 := (setRow_other w9 (w.heap.size + 1 + 1) (w.heap.size + 1) x8 (by first | assumption | omega)).trans rp1
  replace rl4 := (setRow_other w9 (w.heap.size + 1 + 1) (g4) x8 (by first | assumption | omega)).trans rl4
  replace rg5 := (setRow_other w9 (w.heap.size + 1 + 1) (g5) x8 (by first | assumption | omega)).trans rg5
  replace rp2 := setRow_heap w9 (w.heap.size + 1 + 1) _ x8 _ _ rp2
  replace hw := below_setRow hw (show w.heap.size ≤ w.heap.size + 1 + 1 by first | assumption | omega) x8
  generalize w9.setRow (w.heap.size + 1 + 1) x8 = wb at *
  refine wp_region_alloc_ex 4 5 [6] (fun _ => .cells #[.int .u64 0, .int .u64 0, .int .u64 0, .int .u64 0, .int .u64 0] 26 (0, 0)) (by kernel_rfl) (by decide) (by decide) (by kernel_rfl) (by kernel_rfl) (by kernel_rfl) (by kernel_rfl) (by kernel_rfl) (by kernel_rfl) (by kernel_rfl) (by kernel_rfl) (by decide) (by decide) ?_ ?_
  · intro s l u
    rcases (by omega : s = 4) with rfl <;> exact ⟨_, _, rfl, rfl, rfl, rfl, fun a w => by kernel_rfl⟩
  apply Exists.intro
  constructor
  · intro v10 hb
    have Hrp0 := keepr (keep hb rp0)
    have Hrp1 := keepr (keep hb rp1)
    have Hrp2 := keepr (keep hb rp2)
    have Hrl4 := keepr (keep hb rl4)
    have Hrg5 := keepr (keep hb rg5)
    skip
    clear hb; dsimp only [List.take]
    refine wpQuiet_load_row rfl 26 _ rfl (w.heap.size + 1 + 1) rfl 26 x8 (0, 0) _ Hrp2.out Tryd.underlying26 rfl h8.info ?_
    simp only [Act.put, List.setIfInBounds_toArray, List.set_cons_succ, List.set_cons_zero]
    go_big_quiet_step (exact c11.re)
    refine wpQuiet_load_row rfl 26 _ rfl (g5) rfl 26 x5 (0, 0) _ Hrg5.out Tryd.underlying26 rfl h5.info ?_
    simp only [Act.put, List.setIfInBounds_toArray, List.set_cons_succ, List.set_cons_zero]
    go_big_quiet_step (exact c12.re)
    refine wpQuiet_nil ?_
    rfl
  intro w13 g hb hg hd
  obtain ⟨lg6, rg6⟩ := hg 6 (by simp)
  replace rg6 : w13.heap[g 6]? = some (.cells #[.int .u64 0, .int .u64 0, .int .u64 0, .int .u64 0, .int .u64 0] 26 (0, 0)) := rg6
  simp only [List.drop, puts, ptrs, List.map, List.foldl, Act.put, List.setIfInBounds_toArray, List.set_cons_succ, List.set_cons_zero]
  clear hg hd
  generalize g 6 = g6 at *
  have lrp0 := lt_of_row rp0
  have lrp1 := lt_of_row rp1
  have lrp2 := lt_of_row rp2
  have lrl4 := lt_of_row rl4
  have lrg5 := lt_of_row rg5
  have hs := hw.size
  replace rp0 := keep hb rp0
  replace rp1 := keep hb rp1
  replace rp2 := keep hb rp2
  replace rl4 := keep hb rl4
  replace rg5 := keep hb rg5
  replace hw := Below.after hw hb
  clear hb
  refine wpList_store_row rfl 26 _ _ rfl g6 x12 rfl rfl 26 _ rg6 h12.info (h12.fits rfl) h12.one ?_
  simp only [Act.put]
  replace rp0 := (setRow_other w13 g6 (w.heap.size) x12 (by omega)).trans rp0
  replace rp1 := (setRow_other w13 g6 (w.heap.size + 1) x12 (by omega)).trans rp1
  replace rp2 := (setRow_other w13 g6 (w.heap.size + 1 + 1) x12 (by omega)).trans rp2
  replace rl4 := (setRow_other w13 g6 (g4) x12 (by omega)).trans rl4
  replace rg5 := (setRow_other w13 g6 (g5) x12 (by omega)).trans rg5
  replace rg6 := setRow_heap w13 g6 _ x12 _ _ rg6
  replace hw := below_setRow hw (show w.heap.size ≤ g6 by omega) x12
  generalize w13.setRow g6 x12 = w14 at *
  have yg6_0 : w.heap.size < g6 := by omega
  have yg6_1 : w.heap.size + 1 < g6 := by omega
  have yg6_2 : w.heap.size + 1 + 1 < g6 := by omega
  have yg6_3 : g4 < g6 := by omega
  have yg6_4 : g5 < g6 := by omega
  have yg6 : w.heap.size ≤ g6 := by omega
  clear hs lrp0 lrp1 lrp2 lrl4 lrg5 lg6
  go_wp2
  refine wp_region_alloc_ex 4 5 [7] (fun _ => .cells #[.int .u64 0, .int .u64 0, .int .u64 0, .int .u64 0, .int .u64 0] 26 (0, 0)) (by kernel_rfl) (by decide) (by decide) (by kernel_rfl) (by kernel_rfl) (by kernel_rfl) (by kernel_rfl) (by kernel_rfl) (by kernel_rfl) (by kernel_rfl) (by kernel_rfl) (by decide) (by decide) ?_ ?_
  · intro s l u
    rcases (by omega : s = 4) with rfl <;> exact ⟨_, _, rfl, rfl, rfl, rfl, fun a w => by kernel_rfl⟩
  apply Exists.intro
  constructor
  · intro v15 hb
    have Hrp0 := keepr (keep hb rp0)
    have Hrp1 := keepr (keep hb rp1)
    have Hrp2 := keepr (keep hb rp2)
    have Hrl4 := keepr (keep hb rl4)
    have Hrg5 := keepr (keep hb rg5)
    have Hrg6 := keepr (keep hb rg6)
    skip
    clear hb; dsimp only [List.take]
    refine wpQuiet_load_row rfl 26 _ rfl (g6) rfl 26 x12 (0, 0) _ Hrg6.out Tryd.underlying26 rfl h12.info ?_
    simp only [Act.put, List.setIfInBounds_toArray, List.set_cons_succ, List.set_cons_zero]
    go_big_quiet_step (exact c16.re)
    refine wpQuiet_load_row rfl 26 _ rfl (g6) rfl 26 x12 (0, 0) _ Hrg6.out Tryd.underlying26 rfl h12.info ?_
    simp only [Act.put, List.setIfInBounds_toArray, List.set_cons_succ, List.set_cons_zero]
    go_big_quiet_step (exact c17.re)
    refine wpQuiet_nil ?_
    rfl
  intro w18 g hb hg hd
  obtain ⟨lg7, rg7⟩ := hg 7 (by simp)
  replace rg7 : w18.heap[g 7]? = some (.cells #[.int .u64 0, .int .u64 0, .int .u64 0, .int .u64 0, .int .u64 0] 26 (0, 0)) := rg7
  simp only [List.drop, puts, ptrs, List.map, List.foldl, Act.put, List.setIfInBounds_toArray, List.set_cons_succ, List.set_cons_zero]
  clear hg hd
  generalize g 7 = g7 at *
  have lrp0 := lt_of_row rp0
  have lrp1 := lt_of_row rp1
  have lrp2 := lt_of_row rp2
  have lrl4 := lt_of_row rl4
  have lrg5 := lt_of_row rg5
  have lrg6 := lt_of_row rg6
  have hs := hw.size
  replace rp0 := keep hb rp0
  replace rp1 := keep hb rp1
  replace rp2 := keep hb rp2
  replace rl4 := keep hb rl4
  replace rg5 := keep hb rg5
  replace rg6 := keep hb rg6
  replace hw := Below.after hw hb
  clear hb
  refine wpList_store_row rfl 26 _ _ rfl g7 x17 rfl rfl 26 _ rg7 h17.info (h17.fits rfl) h17.one ?_
  simp only [Act.put]
  replace rp0 := (setRow_other w18 g7 (w.heap.size) x17 (by omega)).trans rp0
  replace rp1 := (setRow_other w18 g7 (w.heap.size + 1) x17 (by omega)).trans rp1
  replace rp2 := (setRow_other w18 g7 (w.heap.size + 1 + 1) x17 (by omega)).trans rp2
  replace rl4 := (setRow_other w18 g7 (g4) x17 (by omega)).trans rl4
  replace rg5 := (setRow_other w18 g7 (g5) x17 (by omega)).trans rg5
  replace rg6 := (setRow_other w18 g7 (g6) x17 (by omega)).trans rg6
  replace rg7 := setRow_heap w18 g7 _ x17 _ _ rg7
  replace hw := below_setRow hw (show w.heap.size ≤ g7 by omega) x17
  generalize w18.setRow g7 x17 = w19 at *
  have yg7_0 : w.heap.size < g7 := by omega
  have yg7_1 : w.heap.size + 1 < g7 := by omega
  have yg7_2 : w.heap.size + 1 + 1 < g7 := by omega
  have yg7_3 : g4 < g7 := by omega
  have yg7_4 : g5 < g7 := by omega
  have yg7_5 : g6 < g7 := by omega
  have yg7 : w.heap.size ≤ g7 := by omega
  clear hs lrp0 lrp1 lrp2 lrl4 lrg5 lrg6 lg7
  go_wp2
  refine wp_region_alloc_ex 4 5 [8] (fun _ => .cells #[.int .u64 0, .int .u64 0, .int .u64 0, .int .u64 0, .int .u64 0] 26 (0, 0)) (by kernel_rfl) (by decide) (by decide) (by kernel_rfl) (by kernel_rfl) (by kernel_rfl) (by kernel_rfl) (by kernel_rfl) (by kernel_rfl) (by kernel_rfl) (by kernel_rfl) (by decide) (by decide) ?_ ?_
  · intro s l u
    rcases (by omega : s = 4) with rfl <;> exact ⟨_, _, rfl, rfl, rfl, rfl, fun a w => by kernel_rfl⟩
  apply Exists.intro
  constructor
  · intro v20 hb
    have Hrp0 := keepr (keep hb rp0)
    have Hrp1 := keepr (keep hb rp1)
    have Hrp2 := keepr (keep hb rp2)
    have Hrl4 := keepr (keep hb rl4)
    have Hrg5 := keepr (keep hb rg5)
    have Hrg6 := keepr (keep hb rg6)
    have Hrg7 := keepr (keep hb rg7)
    skip
    clear hb; dsimp only [List.take]
    refine wpQuiet_load_row rfl 26 _ rfl (g7) rfl 26 x17 (0, 0) _ Hrg7.out Tryd.underlying26 rfl h17.info ?_
    simp only [Act.put, List.setIfInBounds_toArray, List.set_cons_succ, List.set_cons_zero]
    go_big_quiet_step (exact c21.re)
    refine wpQuiet_load_row rfl 26 _ rfl (g7) rfl 26 x17 (0, 0) _ Hrg7.out Tryd.underlying26 rfl h17.info ?_
    simp only [Act.put, List.setIfInBounds_toArray, List.set_cons_succ, List.set_cons_zero]
    go_big_quiet_step (exact c22.re)
    refine wpQuiet_nil ?_
    rfl
  intro w23 g hb hg hd
  obtain ⟨lg8, rg8⟩ := hg 8 (by simp)
  replace rg8 : w23.heap[g 8]? = some (.cells #[.int .u64 0, .int .u64 0, .int .u64 0, .int .u64 0, .int .u64 0] 26 (0, 0)) := rg8
  simp only [List.drop, puts, ptrs, List.map, List.foldl, Act.put, List.setIfInBounds_toArray, List.set_cons_succ, List.set_cons_zero]
  clear hg hd
  generalize g 8 = g8 at *
  have lrp0 := lt_of_row rp0
  have lrp1 := lt_of_row rp1
  have lrp2 := lt_of_row rp2
  have lrl4 := lt_of_row rl4
  have lrg5 := lt_of_row rg5
  have lrg6 := lt_of_row rg6
  have lrg7 := lt_of_row rg7
  have hs := hw.size
  replace rp0 := keep hb rp0
  replace rp1 := keep hb rp1
  replace rp2 := keep hb rp2
  replace rl4 := keep hb rl4
  replace rg5 := keep hb rg5
  replace rg6 := keep hb rg6
  replace rg7 := keep hb rg7
  replace hw := Below.after hw hb
  clear hb
  refine wpList_store_row rfl 26 _ _ rfl g8 x22 rfl rfl 26 _ rg8 h22.info (h22.fits rfl) h22.one ?_
  simp only [Act.put]
  replace rp0 := (setRow_other w23 g8 (w.heap.size) x22 (by omega)).trans rp0
  replace rp1 := (setRow_other w23 g8 (w.heap.size + 1) x22 (by omega)).trans rp1
  replace rp2 := (setRow_other w23 g8 (w.heap.size + 1 + 1) x22 (by omega)).trans rp2
  replace rl4 := (setRow_other w23 g8 (g4) x22 (by omega)).trans rl4
  replace rg5 := (setRow_other w23 g8 (g5) x22 (by omega)).trans rg5
  replace rg6 := (setRow_other w23 g8 (g6) x22 (by omega)).trans rg6
  replace rg7 := (setRow_other w23 g8 (g7) x22 (by omega)).trans rg7
  replace rg8 := setRow_heap w23 g8 _ x22 _ _ rg8
  replace hw := below_setRow hw (show w.heap.size ≤ g8 by omega) x22
  generalize w23.setRow g8 x22 = w24 at *
  have yg8_0 : w.heap.size < g8 := by omega
  have yg8_1 : w.heap.size + 1 < g8 := by omega
  have yg8_2 : w.heap.size + 1 + 1 < g8 := by omega
  have yg8_3 : g4 < g8 := by omega
  have yg8_4 : g5 < g8 := by omega
  have yg8_5 : g6 < g8 := by omega
  have yg8_6 : g7 < g8 := by omega
  have yg8 : w.heap.size ≤ g8 := by omega
  clear hs lrp0 lrp1 lrp2 lrl4 lrg5 lrg6 lrg7 lg8
  go_wp2
  refine wp_region_alloc_ex 4 5 [9] (fun _ => .cells #[.int .u64 0, .int .u64 0, .int .u64 0, .int .u64 0, .int .u64 0] 26 (0, 0)) (by kernel_rfl) (by decide) (by decide) (by kernel_rfl) (by kernel_rfl) (by kernel_rfl) (by kernel_rfl) (by kernel_rfl) (by kernel_rfl) (by kernel_rfl) (by kernel_rfl) (by decide) (by decide) ?_ ?_
  · intro s l u
    rcases (by omega : s = 4) with rfl <;> exact ⟨_, _, rfl, rfl, rfl, rfl, fun a w => by kernel_rfl⟩
  apply Exists.intro
  constructor
  · intro v25 hb
    have Hrp0 := keepr (keep hb rp0)
    have Hrp1 := keepr (keep hb rp1)
    have Hrp2 := keepr (keep hb rp2)
    have Hrl4 := keepr (keep hb rl4)
    have Hrg5 := keepr (keep hb rg5)
    have Hrg6 := keepr (keep hb rg6)
    have Hrg7 := keepr (keep hb rg7)
    have Hrg8 := keepr (keep hb rg8)
    skip
    clear hb; dsimp only [List.take]
    refine wpQuiet_load_row rfl 26 _ rfl (g8) rfl 26 x22 (0, 0) _ Hrg8.out Tryd.underlying26 rfl h22.info ?_
    simp only [Act.put, List.setIfInBounds_toArray, List.set_cons_succ, List.set_cons_zero]
    go_big_quiet_step (exact c26.re)
    refine wpQuiet_load_row rfl 26 _ rfl (g8) rfl 26 x22 (0, 0) _ Hrg8.out Tryd.underlying26 rfl h22.info ?_
    simp only [Act.put, List.setIfInBounds_toArray, List.set_cons_succ, List.set_cons_zero]
    go_big_quiet_step (exact c27.re)
    refine wpQuiet_nil ?_
    rfl
  intro w28 g hb hg hd
  obtain ⟨lg9, rg9⟩ := hg 9 (by simp)
  replace rg9 : w28.heap[g 9]? = some (.cells #[.int .u64 0, .int .u64 0, .int .u64 0, .int .u64 0, .int .u64 0] 26 (0, 0)) := rg9
  simp only [List.drop, puts, ptrs, List.map, List.foldl, Act.put, List.setIfInBounds_toArray, List.set_cons_succ, List.set_cons_zero]
  clear hg hd
  generalize g 9 = g9 at *
  have lrp0 := lt_of_row rp0
  have lrp1 := lt_of_row rp1
  have lrp2 := lt_of_row rp2
  have lrl4 := lt_of_row rl4
  have lrg5 := lt_of_row rg5
  have lrg6 := lt_of_row rg6
  have lrg7 := lt_of_row rg7
  have lrg8 := lt_of_row rg8
  have hs := hw.size
  replace rp0 := keep hb rp0
  replace rp1 := keep hb rp1
  replace rp2 := keep hb rp2
  replace rl4 := keep hb rl4
  replace rg5 := keep hb rg5
  replace rg6 := keep hb rg6
  replace rg7 := keep hb rg7
  replace rg8 := keep hb rg8
  replace hw := Below.after hw hb
  clear hb
  refine wpList_store_row rfl 26 _ _ rfl g9 x27 rfl rfl 26 _ rg9 h27.info (h27.fits rfl) h27.one ?_
  simp only [Act.put]
  replace rp0 := (setRow_other w28 g9 (w.heap.size) x27 (by omega)).trans rp0
  replace rp1 := (setRow_other w28 g9 (w.heap.size + 1) x27 (by omega)).trans rp1
  replace rp2 := (setRow_other w28 g9 (w.heap.size + 1 + 1) x27 (by omega)).trans rp2
  replace rl4 := (setRow_other w28 g9 (g4) x27 (by omega)).trans rl4
  replace rg5 := (setRow_other w28 g9 (g5) x27 (by omega)).trans rg5
  replace rg6 := (setRow_other w28 g9 (g6) x27 (by omega)).trans rg6
  replace rg7 := (setRow_other w28 g9 (g7) x27 (by omega)).trans rg7
  replace rg8 := (setRow_other w28 g9 (g8) x27 (by omega)).trans rg8
  replace rg9 := setRow_heap w28 g9 _ x27 _ _ rg9
  replace hw := below_setRow hw (show w.heap.size ≤ g9 by omega) x27
  generalize w28.setRow g9 x27 = w29 at *
  have yg9_0 : w.heap.size < g9 := by omega
  have yg9_1 : w.heap.size + 1 < g9 := by omega
  have yg9_2 : w.heap.size + 1 + 1 < g9 := by omega
  have yg9_3 : g4 < g9 := by omega
  have yg9_4 : g5 < g9 := by omega
  have yg9_5 : g6 < g9 := by omega
  have yg9_6 : g7 < g9 := by omega
  have yg9_7 : g8 < g9 := by omega
  have yg9 : w.heap.size ≤ g9 := by omega
  clear hs lrp0 lrp1 lrp2 lrl4 lrg5 lrg6 lrg7 lrg8 lg9
  go_wp2
  refine wp_region_alloc_ex 4 5 [10] (fun _ => .cells #[.int .u64 0, .int .u64 0, .int .u64 0, .int .u64 0, .int .u64 0] 26 (0, 0)) (by kernel_rfl) (by decide) (by decide) (by kernel_rfl) (by kernel_rfl) (by kernel_rfl) (by kernel_rfl) (by kernel_rfl) (by kernel_rfl) (by kernel_rfl) (by kernel_rfl) (by decide) (by decide) ?_ ?_
  · intro s l u
    rcases (by omega : s = 4) with rfl <;> exact ⟨_, _, rfl, rfl, rfl, rfl, fun a w => by kernel_rfl⟩
  apply Exists.intro
  constructor
  · intro v30 hb
    have Hrp0 := keepr (keep hb rp0)
    have Hrp1 := keepr (keep hb rp1)
    have Hrp2 := keepr (keep hb rp2)
    have Hrl4 := keepr (keep hb rl4)
    have Hrg5 := keepr (keep hb rg5)
    have Hrg6 := keepr (keep hb rg6)
    have Hrg7 := keepr (keep hb rg7)
    have Hrg8 := keepr (keep hb rg8)
    have Hrg9 := keepr (keep hb rg9)
    skip
    clear hb; dsimp only [List.take]
    refine wpQuiet_load_row rfl 26 _ rfl (g9) rfl 26 x27 (0, 0) _ Hrg9.out Tryd.underlying26 rfl h27.info ?_
    simp only [Act.put, List.setIfInBounds_toArray, List.set_cons_succ, List.set_cons_zero]
    go_big_quiet_step (exact c31.re)
    refine wpQuiet_load_row rfl 26 _ rfl (g7) rfl 26 x17 (0, 0) _ Hrg7.out Tryd.underlying26 rfl h17.info ?_
    simp only [Act.put, List.setIfInBounds_toArray, List.set_cons_succ, List.set_cons_zero]
    go_big_quiet_step (exact c32.re)
    refine wpQuiet_nil ?_
    rfl
  intro w33 g hb hg hd
  obtain ⟨lg10, rg10⟩ := hg 10 (by simp)
  replace rg10 : w33.heap[g 10]? = some (.cells #[.int .u64 0, .int .u64 0, .int .u64 0, .int .u64 0, .int .u64 0] 26 (0, 0)) := rg10
  simp only [List.drop, puts, ptrs, List.map, List.foldl, Act.put, List.setIfInBounds_toArray, List.set_cons_succ, List.set_cons_zero]
  clear hg hd
  generalize g 10 = g10 at *
  have lrp0 := lt_of_row rp0
  have lrp1 := lt_of_row rp1
  have lrp2 := lt_of_row rp2
  have lrl4 := lt_of_row rl4
  have lrg5 := lt_of_row rg5
  have lrg6 := lt_of_row rg6
  have lrg7 := lt_of_row rg7
  have lrg8 := lt_of_row rg8
  have lrg9 := lt_of_row rg9
  have hs := hw.size
  replace rp0 := keep hb rp0
  replace rp1 := keep hb rp1
  replace rp2 := keep hb rp2
  replace rl4 := keep hb rl4
  replace rg5 := keep hb rg5
  replace rg6 := keep hb rg6
  replace rg7 := keep hb rg7
  replace rg8 := keep hb rg8
  replace rg9 := keep hb rg9
  replace hw := Below.after hw hb
  clear hb
  refine wpList_store_row rfl 26 _ _ rfl g10 x32 rfl rfl 26 _ rg10 h32.info (h32.fits rfl) h32.one ?_
  simp only [Act.put]
  replace rp0 := (setRow_other w33 g10 (w.heap.size) x32 (by omega)).trans rp0
  replace rp1 := (setRow_other w33 g10 (w.heap.size + 1) x32 (by omega)).trans rp1
  replace rp2 := (setRow_other w33 g10 (w.heap.size + 1 + 1) x32 (by omega)).trans rp2
  replace rl4 := (setRow_other w33 g10 (g4) x32 (by omega)).trans rl4
  replace rg5 := (setRow_other w33 g10 (g5) x32 (by omega)).trans rg5
  replace rg6 := (setRow_other w33 g10 (g6) x32 (by omega)).trans rg6
  replace rg7 := (setRow_other w33 g10 (g7) x32 (by omega)).trans rg7
  replace rg8 := (setRow_other w33 g10 (g8) x32 (by omega)).trans rg8
  replace rg9 := (setRow_other w33 g10 (g9) x32 (by omega)).trans rg9
  replace rg10 := setRow_heap w33 g10 _ x32 _ _ rg10
  replace hw := below_setRow hw (show w.heap.size ≤ g10 by omega) x32
  generalize w33.setRow g10 x32 = w34 at *
  have yg10_0 : w.heap.size < g10 := by omega
  have yg10_1 : w.heap.size + 1 < g10 := by omega
  have yg10_2 : w.heap.size + 1 + 1 < g10 := by omega
  have yg10_3 : g4 < g10 := by omega
  have yg10_4 : g5 < g10 := by omega
  have yg10_5 : g6 < g10 := by omega
  have yg10_6 : g7 < g10 := by omega
  have yg10_7 : g8 < g10 := by omega
  have yg10_8 : g9 < g10 := by omega
  have yg10 : w.heap.size ≤ g10 := by omega
  clear hs lrp0 lrp1 lrp2 lrl4 lrg5 lrg6 lrg7 lrg8 lrg9 lg10
  go_wp2
  refine wp_region_alloc_ex 4 5 [11] (fun _ => .cells #[.int .u64 0, .int .u64 0, .int .u64 0, .int .u64 0, .int .u64 0] 26 (0, 0)) (by kernel_rfl) (by decide) (by decide) (by kernel_rfl) (by kernel_rfl) (by kernel_rfl) (by kernel_rfl) (by kernel_rfl) (by kernel_rfl) (by kernel_rfl) (by kernel_rfl) (by decide) (by decide) ?_ ?_
  · intro s l u
    rcases (by omega : s = 4) with rfl <;> exact ⟨_, _, rfl, rfl, rfl, rfl, fun a w => by kernel_rfl⟩
  apply Exists.intro
  constructor
  · intro v35 hb
    have Hrp0 := keepr (keep hb rp0)
    have Hrp1 := keepr (keep hb rp1)
    have Hrp2 := keepr (keep hb rp2)
    have Hrl4 := keepr (keep hb rl4)
    have Hrg5 := keepr (keep hb rg5)
    have Hrg6 := keepr (keep hb rg6)
    have Hrg7 := keepr (keep hb rg7)
    have Hrg8 := keepr (keep hb rg8)
    have Hrg9 := keepr (keep hb rg9)
    have Hrg10 := keepr (keep hb rg10)
    skip
    clear hb; dsimp only [List.take]
    refine wpQuiet_load_row rfl 26 _ rfl (g10) rfl 26 x32 (0, 0) _ Hrg10.out Tryd.underlying26 rfl h32.info ?_
    simp only [Act.put, List.setIfInBounds_toArray, List.set_cons_succ, List.set_cons_zero]
    go_big_quiet_step (exact c36.re)
    refine wpQuiet_load_row rfl 26 _ rfl (g10) rfl 26 x32 (0, 0) _ Hrg10.out Tryd.underlying26 rfl h32.info ?_
    simp only [Act.put, List.setIfInBounds_toArray, List.set_cons_succ, List.set_cons_zero]
    go_big_quiet_step (exact c37.re)
    refine wpQuiet_nil ?_
    rfl
  intro w38 g hb hg hd
  obtain ⟨lg11, rg11⟩ := hg 11 (by simp)
  replace rg11 : w38.heap[g 11]? = some (.cells #[.int .u64 0, .int .u64 0, .int .u64 0, .int .u64 0, .int .u64 0] 26 (0, 0)) := rg11
  simp only [List.drop, puts, ptrs, List.map, List.foldl, Act.put, List.setIfInBounds_toArray, List.set_cons_succ, List.set_cons_zero]
  clear hg hd
  generalize g 11 = g11 at *
  have lrp0 := lt_of_row rp0
  have lrp1 := lt_of_row rp1
  have lrp2 := lt_of_row rp2
  have lrl4 := lt_of_row rl4
  have lrg5 := lt_of_row rg5
  have lrg6 := lt_of_row rg6
  have lrg7 := lt_of_row rg7
  have lrg8 := lt_of_row rg8
  have lrg9 := lt_of_row rg9
  have lrg10 := lt_of_row rg10
  have hs := hw.size
  replace rp0 := keep hb rp0
  replace rp1 := keep hb rp1
  replace rp2 := keep hb rp2
  replace rl4 := keep hb rl4
  replace rg5 := keep hb rg5
  replace rg6 := keep hb rg6
  replace rg7 := keep hb rg7
  replace rg8 := keep hb rg8
  replace rg9 := keep hb rg9
  replace rg10 := keep hb rg10
  replace hw := Below.after hw hb
  clear hb
  refine wpList_store_row rfl 26 _ _ rfl g11 x37 rfl rfl 26 _ rg11 h37.info (h37.fits rfl) h37.one ?_
  simp only [Act.put]
  replace rp0 := (setRow_other w38 g11 (w.heap.size) x37 (by omega)).trans rp0
  replace rp1 := (setRow_other w38 g11 (w.heap.size + 1) x37 (by omega)).trans rp1
  replace rp2 := (setRow_other w38 g11 (w.heap.size + 1 + 1) x37 (by omega)).trans rp2
  replace rl4 := (setRow_other w38 g11 (g4) x37 (by omega)).trans rl4
  replace rg5 := (setRow_other w38 g11 (g5) x37 (by omega)).trans rg5
  replace rg6 := (setRow_other w38 g11 (g6) x37 (by omega)).trans rg6
  replace rg7 := (setRow_other w38 g11 (g7) x37 (by omega)).trans rg7
  replace rg8 := (setRow_other w38 g11 (g8) x37 (by omega)).trans rg8
  replace rg9 := (setRow_other w38 g11 (g9) x37 (by omega)).trans rg9
  replace rg10 := (setRow_other w38 g11 (g10) x37 (by omega)).trans rg10
  replace rg11 := setRow_heap w38 g11 _ x37 _ _ rg11
  replace hw := below_setRow hw (show w.heap.size ≤ g11 by omega) x37
  generalize w38.setRow g11 x37 = w39 at *
  have yg11_0 : w.heap.size < g11 := by omega
  have yg11_1 : w.heap.size + 1 < g11 := by omega
  have yg11_2 : w.heap.size + 1 + 1 < g11 := by omega
  have yg11_3 : g4 < g11 := by omega
  have yg11_4 : g5 < g11 := by omega
  have yg11_5 : g6 < g11 := by omega
  have yg11_6 : g7 < g11 := by omega
  have yg11_7 : g8 < g11 := by omega
  have yg11_8 : g9 < g11 := by omega
  have yg11_9 : g10 < g11 := by omega
  have yg11 : w.heap.size ≤ g11 := by omega
  clear hs lrp0 lrp1 lrp2 lrl4 lrg5 lrg6 lrg7 lrg8 lrg9 lrg10 lg11
  go_wp2
  refine wp_region_alloc_ex 4 5 [12] (fun _ => .cells #[.int .u64 0, .int .u64 0, .int .u64 0, .int .u64 0, .int .u64 0] 26 (0, 0)) (by kernel_rfl) (by decide) (by decide) (by kernel_rfl) (by kernel_rfl) (by kernel_rfl) (by kernel_rfl) (by kernel_rfl) (by kernel_rfl) (by kernel_rfl) (by kernel_rfl) (by decide) (by decide) ?_ ?_
  · intro s l u
    rcases (by omega : s = 4) with rfl <;> exact ⟨_, _, rfl, rfl, rfl, rfl, fun a w => by kernel_rfl⟩
  apply Exists.intro
  constructor
  · intro v40 hb
    have Hrp0 := keepr (keep hb rp0)
    have Hrp1 := keepr (keep hb rp1)
    have Hrp2 := keepr (keep hb rp2)
    have Hrl4 := keepr (keep hb rl4)
    have Hrg5 := keepr (keep hb rg5)
    have Hrg6 := keepr (keep hb rg6)
    have Hrg7 := keepr (keep hb rg7)
    have Hrg8 := keepr (keep hb rg8)
    have Hrg9 := keepr (keep hb rg9)
    have Hrg10 := keepr (keep hb rg10)
    have Hrg11 := keepr (keep hb rg11)
    skip
    clear hb; dsimp only [List.take]
    refine wpQuiet_load_row rfl 26 _ rfl (g11) rfl 26 x37 (0, 0) _ Hrg11.out Tryd.underlying26 rfl h37.info ?_
    simp only [Act.put, List.setIfInBounds_toArray, List.set_cons_succ, List.set_cons_zero]
    go_big_quiet_step (exact c41.re)
    refine wpQuiet_load_row rfl 26 _ rfl (g11) rfl 26 x37 (0, 0) _ Hrg11.out Tryd.underlying26 rfl h37.info ?_
    simp only [Act.put, List.setIfInBounds_toArray, List.set_cons_succ, List.set_cons_zero]
    go_big_quiet_step (exact c42.re)
    refine wpQuiet_nil ?_
    rfl
  intro w43 g hb hg hd
  obtain ⟨lg12, rg12⟩ := hg 12 (by simp)
  replace rg12 : w43.heap[g 12]? = some (.cells #[.int .u64 0, .int .u64 0, .int .u64 0, .int .u64 0, .int .u64 0] 26 (0, 0)) := rg12
  simp only [List.drop, puts, ptrs, List.map, List.foldl, Act.put, List.setIfInBounds_toArray, List.set_cons_succ, List.set_cons_zero]
  clear hg hd
  generalize g 12 = g12 at *
  have lrp0 := lt_of_row rp0
  have lrp1 := lt_of_row rp1
  have lrp2 := lt_of_row rp2
  have lrl4 := lt_of_row rl4
  have lrg5 := lt_of_row rg5
  have lrg6 := lt_of_row rg6
  have lrg7 := lt_of_row rg7
  have lrg8 := lt_of_row rg8
  have lrg9 := lt_of_row rg9
  have lrg10 := lt_of_row rg10
  have lrg11 := lt_of_row rg11
  have hs := hw.size
  replace rp0 := keep hb rp0
  replace rp1 := keep hb rp1
  replace rp2 := keep hb rp2
  replace rl4 := keep hb rl4
  replace rg5 := keep hb rg5
  replace rg6 := keep hb rg6
  replace rg7 := keep hb rg7
  replace rg8 := keep hb rg8
  replace rg9 := keep hb rg9
  replace rg10 := keep hb rg10
  replace rg11 := keep hb rg11
  replace hw := Below.after hw hb
  clear hb
  refine wpList_store_row rfl 26 _ _ rfl g12 x42 rfl rfl 26 _ rg12 h42.info (h42.fits rfl) h42.one ?_
  simp only [Act.put]
  replace rp0 := (setRow_other w43 g12 (w.heap.size) x42 (by omega)).trans rp0
  replace rp1 := (setRow_other w43 g12 (w.heap.size + 1) x42 (by omega)).trans rp1
  replace rp2 := (setRow_other w43 g12 (w.heap.size + 1 + 1) x42 (by omega)).trans rp2
  replace rl4 := (setRow_other w43 g12 (g4) x42 (by omega)).trans rl4
  replace rg5 := (setRow_other w43 g12 (g5) x42 (by omega)).trans rg5
  replace rg6 := (setRow_other w43 g12 (g6) x42 (by omega)).trans rg6
  replace rg7 := (setRow_other w43 g12 (g7) x42 (by omega)).trans rg7
  replace rg8 := (setRow_other w43 g12 (g8) x42 (by omega)).trans rg8
  replace rg9 := (setRow_other w43 g12 (g9) x42 (by omega)).trans rg9
  replace rg10 := (setRow_other w43 g12 (g10) x42 (by omega)).trans rg10
  replace rg11 := (setRow_other w43 g12 (g11) x42 (by omega)).trans rg11
  replace rg12 := setRow_heap w43 g12 _ x42 _ _ rg12
  replace hw := below_setRow hw (show w.heap.size ≤ g12 by omega) x42
  generalize w43.setRow g12 x42 = w44 at *
  have yg12_0 : w.heap.size < g12 := by omega
  have yg12_1 : w.heap.size + 1 < g12 := by omega
  have yg12_2 : w.heap.size + 1 + 1 < g12 := by omega
  have yg12_3 : g4 < g12 := by omega
  have yg12_4 : g5 < g12 := by omega
  have yg12_5 : g6 < g12 := by omega
  have yg12_6 : g7 < g12 := by omega
  have yg12_7 : g8 < g12 := by omega
  have yg12_8 : g9 < g12 := by omega
  have yg12_9 : g10 < g12 := by omega
  have yg12_10 : g11 < g12 := by omega
  have yg12 : w.heap.size ≤ g12 := by omega
  clear hs lrp0 lrp1 lrp2 lrl4 lrg5 lrg6 lrg7 lrg8 lrg9 lrg10 lrg11 lg12
  go_wp2
  have hbd : Below w44.heap.size w44 w44.drew := ⟨rfl, rfl, rfl, Nat.le_refl _, fun _ _ => rfl⟩
  replace rp1 := keep hbd rp1
  replace rp2 := keep hbd rp2
  replace rg10 := keep hbd rg10
  replace rg12 := keep hbd rg12
  replace hw := Below.after hw hbd
  clear hbd
  refine wp_region_noPanic ?_
  refine wp_region_held (S := fun W => W.heap[g12]? = some (.cells x42 26 (0, 0)) ∧ W.heap[g10]? = some (.cells x32 26 (0, 0)) ∧ W.heap[w.heap.size + 1 + 1]? = some (.cells x8 26 (0, 0))) (by kernel_rfl) ?_
  change wpAnyH _ _ _ _ _ _ _ _ (World.drew _)
  generalize w44.drew = w45 at *
  refine wpAnyH_take (i := 0) (v := .agg x42) rfl (by kernel_rfl) (by kernel_rfl) (by kernel_rfl) (fun _ _ _ h => h) (Or.inl ⟨by rfl, ?y1⟩) (⟨rg12, rg10, rp2⟩) ?r1
  case y1 =>
    intro w_ hS_
    simp only [List.getElem_toArray, List.getElem_cons_zero]
    exact run_load_part 26 _ (by rfl) (g12) 0 (by rfl) 26 x42 (0, 0) x42 _ (hS_.1) (all_rowc _) Tryd.underlying26 rfl h42.info
  simp only [Act.put, List.getElem_toArray, List.getElem_cons_zero, List.setIfInBounds_toArray, List.set_cons_succ, List.set_cons_zero]
  refine wpAnyH_take (i := 2) (v := .agg x32) rfl (by kernel_rfl) (by kernel_rfl) (by kernel_rfl) (fun _ _ _ h => h) (Or.inl ⟨by rfl, ?y2⟩) (⟨rg12, rg10, rp2⟩) ?r2
  case y2 =>
    intro w_ hS_
    simp only [List.getElem_toArray, List.getElem_cons_succ, List.getElem_cons_zero]
    exact run_load_part 26 _ (by rfl) (g10) 0 (by rfl) 26 x32 (0, 0) x32 _ (hS_.2.1) (all_rowc _) Tryd.underlying26 rfl h32.info
  simp only [Act.put, List.getElem_toArray, List.getElem_cons_succ, List.getElem_cons_zero, List.setIfInBounds_toArray, List.set_cons_succ, List.set_cons_zero]
  refine wpAnyH_take (i := 4) (v := .agg x8) rfl (by kernel_rfl) (by kernel_rfl) (by kernel_rfl) (fun _ _ _ h => h) (Or.inl ⟨by rfl, ?y3⟩) (⟨rg12, rg10, rp2⟩) ?r3
  case y3 =>
    intro w_ hS_
    simp only [List.getElem_toArray, List.getElem_cons_succ, List.getElem_cons_zero]
    exact run_load_part 26 _ (by rfl) (w.heap.size + 1 + 1) 0 (by rfl) 26 x8 (0, 0) x8 _ (hS_.2.2) (all_rowc _) Tryd.underlying26 rfl h8.info
  simp only [Act.put, List.getElem_toArray, List.getElem_cons_succ, List.getElem_cons_zero, List.setIfInBounds_toArray, List.set_cons_succ, List.set_cons_zero]
  refine wpAnyH_one (k := 1) (fuel := 3) (by kernel_rfl) rfl (by kernel_rfl) (fun K_ hK_ => ?_)
  refine wp_call_ex (f := 51) (by kernel_rfl) (exRc (c46.at w45)) (fun v_ q1 hX_ => ?_)
  obtain ⟨rfl, hb_⟩ := hX_
  replace rp1 := keep hb_ rp1
  replace rp2 := keep hb_ rp2
  replace rg10 := keep hb_ rg10
  replace rg12 := keep hb_ rg12
  replace hw := Below.after hw hb_
  clear hb_
  refine hK_ _ _ (⟨rg12, rg10, rp2⟩) ?_
  simp only [Act.put, List.getElem_toArray, List.getElem_cons_succ, List.getElem_cons_zero, List.setIfInBounds_toArray, List.set_cons_succ, List.set_cons_zero]
  clear hK_
  refine wpAnyH_one (k := 3) (fuel := 2) (by kernel_rfl) rfl (by kernel_rfl) (fun K_ hK_ => ?_)
  refine wp_call_ex (f := 18) (by kernel_rfl) (exRc (c48.at q1)) (fun v_ q2 hX_ => ?_)
  obtain ⟨rfl, hb_⟩ := hX_
  replace rp1 := keep hb_ rp1
  replace rp2 := keep hb_ rp2
  replace rg10 := keep hb_ rg10
  replace rg12 := keep hb_ rg12
  replace hw := Below.after hw hb_
  clear hb_
  refine hK_ _ _ (⟨rg12, rg10, rp2⟩) ?_
  simp only [Act.put, List.getElem_toArray, List.getElem_cons_succ, List.getElem_cons_zero, List.setIfInBounds_toArray, List.set_cons_succ, List.set_cons_zero]
  clear hK_
  refine wpAnyH_one (k := 5) (fuel := 1) (by kernel_rfl) rfl (by kernel_rfl) (fun K_ hK_ => ?_)
  refine wp_store_row 26 _ _ rfl (w.heap.size + 1) x48 rfl rfl 26 _ rp1 h48.info (h48.fits rfl) h48.one ?_
  replace rp2 := (setRow_other q2 (w.heap.size + 1) (w.heap.size + 1 + 1) x48 (by omega)).trans rp2
  replace rg10 := (setRow_other q2 (w.heap.size + 1) (g10) x48 (by omega)).trans rg10
  replace rg12 := (setRow_other q2 (w.heap.size + 1) (g12) x48 (by omega)).trans rg12
  replace rp1 := setRow_heap q2 (w.heap.size + 1) _ x48 _ _ rp1
  replace hw := below_setRow hw (show w.heap.size ≤ w.heap.size + 1 by omega) x48
  refine hK_ _ _ (⟨rg12, rg10, rp2⟩) ?_
  simp only [Act.put]
  clear hK_
  generalize q2.setRow (w.heap.size + 1) x48 = q3 at *
  refine wpAnyH_one (k := 6) (fuel := 0) (by kernel_rfl) rfl (by kernel_rfl) (fun K_ hK_ => ?_)
  refine wp_store_row 26 _ _ rfl (w.heap.size + 1 + 1) x8 rfl rfl 26 _ rp2 h8.info (h8.size.trans h8.size.symm) h8.one ?_
  replace rp1 := (setRow_other q3 (w.heap.size + 1 + 1) (w.heap.size + 1) x8 (by omega)).trans rp1
  replace rg10 := (setRow_other q3 (w.heap.size + 1 + 1) (g10) x8 (by omega)).trans rg10
  replace rg12 := (setRow_other q3 (w.heap.size + 1 + 1) (g12) x8 (by omega)).trans rg12
  replace rp2 := setRow_heap q3 (w.heap.size + 1 + 1) _ x8 _ _ rp2
  replace hw := below_setRow hw (show w.heap.size ≤ w.heap.size + 1 + 1 by omega) x8
  refine hK_ _ _ (⟨rg12, rg10, rp2⟩) ?_
  simp only [Act.put]
  clear hK_
  generalize q3.setRow (w.heap.size + 1 + 1) x8 = q4 at *
  refine wpAnyH_done (by kernel_rfl) ?_ _
  refine NoPanic.normal ?_
  go_wp2
  exact bodyPost_ret (v := .tuple #[.agg x48, .agg x8]) (results_rows2 Tryd.results50 _ _ (w.heap.size + 1) (w.heap.size + 1 + 1) _ _ x48 x8 _ _ _ _ rfl rp1 rfl rp2 Tryd.underlying26 rfl h48.info Tryd.underlying26 rfl h8.info) rfl ⟨rfl, hw⟩
theorem a_climb {r : Array Value} {x : Int} (h : NumOf r x) : ∃ s t, NumOf s (x ^ 1809251394333065553493296640760748560207343510400633813116524750123642650623) ∧ NumOf t (x ^ 11) ∧ Gives 50 #[.agg r] (.tuple #[.agg s, .agg t]) := p_climb (by rw [Int.pow_succ, Int.pow_zero, Int.one_mul]; exact h)

end Go.Proofs.YtnohfbpmckhbbaaDoor


namespace Go.Proofs.YtnohfbpmckhbbaaDoor
set_option maxRecDepth 100000
open Go.RowKit Go.Sort
attribute [local go_sem] setCell_drewN alloc_drewN


set_option maxHeartbeats 2000000 in
theorem a_invert {r : Array Value} {x : Int} (h : NumOf r x) : ∃ s, NumOf s (x ^ 57896044618658097711785492504343953926634992332820282019728792003956564819947) ∧ Gives 22 #[.agg r] (.agg s) := by
  obtain ⟨xa, xb, ha, hb, c1⟩ := a_climb h
  obtain ⟨x3, h3, c3⟩ := p_squares ha 5 (by decide) 57896044618658097711785492504343953926634992332820282019728792003956564819936 (by decide)
  obtain ⟨x4, h4, c4⟩ := p_mul h3 hb 57896044618658097711785492504343953926634992332820282019728792003956564819947 (by decide)
  refine ⟨x4, h4, fun w => ?_⟩
  go_enter Tryd.func22, Tryd.ntmps22
  go_wp2_with (first | (refine wpList_load_want rfl 26 _ rfl (w.heap.size) rfl 26 r (0, 0) _ (hp2_0 w _ _) Tryd.underlying26 rfl h.info ?_) | (refine wpList_load_want rfl 26 _ rfl (w.heap.size + 1) rfl 26 #[.int .u64 0, .int .u64 0, .int .u64 0, .int .u64 0, .int .u64 0] (0, 0) _ (hp2_1 w _ _) Tryd.underlying26 rfl num_zero.info ?_) | fail)
  have rp0 : ((w.alloc (.cells r 26)).alloc (.cells #[.int .u64 0, .int .u64 0, .int .u64 0, .int .u64 0, .int .u64 0] 26)).heap[w.heap.size]? = some (.cells r 26 (0, 0)) := hp2_0 w _ _
  have rp1 : ((w.alloc (.cells r 26)).alloc (.cells #[.int .u64 0, .int .u64 0, .int .u64 0, .int .u64 0, .int .u64 0] 26)).heap[w.heap.size + 1]? = some (.cells #[.int .u64 0, .int .u64 0, .int .u64 0, .int .u64 0, .int .u64 0] 26 (0, 0)) := hp2_1 w _ _
  have hw : Below w.heap.size w ((w.alloc (.cells r 26)).alloc (.cells #[.int .u64 0, .int .u64 0, .int .u64 0, .int .u64 0, .int .u64 0] 26)) := (((Below.refl _ _).alloc (Nat.le_refl _) _).alloc (by simp) _)
  generalize ((w.alloc (.cells r 26)).alloc (.cells #[.int .u64 0, .int .u64 0, .int .u64 0, .int .u64 0, .int .u64 0] 26)) = w0 at *
  refine (c1.at _).mono ?_
  rintro e w2 ⟨rfl, hb⟩
  replace rp0 := keep hb rp0
  replace rp1 := keep hb rp1
  replace hw := Below.after hw hb
  clear hb
  go_wp2_with (first | (refine wpList_store_row rfl 26 _ _ rfl (w2.heap.size) xa rfl rfl 26 #[.int .u64 0, .int .u64 0, .int .u64 0, .int .u64 0, .int .u64 0] (hp2_0 w2 _ _) ha.info (ha.fits rfl) ha.one ?_; rw [setRow_alloc_old _ _ _ _ (by simp), setRow_alloc_new _ _ _ _ _ _ (by simp)]) | (refine wpList_store_row rfl 26 _ _ rfl (w2.heap.size + 1) xb rfl rfl 26 #[.int .u64 0, .int .u64 0, .int .u64 0, .int .u64 0, .int .u64 0] (hp2_1 w2 _ _) hb.info (hb.fits rfl) hb.one ?_; rw [setRow_alloc_new _ _ _ _ _ _ (by simp)]) | fail | fail)
  have rl3 : ((w2.alloc (.cells xa 26)).alloc (.cells xb 26)).heap[w2.heap.size]? = some (.cells xa 26 (0, 0)) := hp2_0 w2 _ _
  have rl4 : ((w2.alloc (.cells xa 26)).alloc (.cells xb 26)).heap[w2.heap.size + 1]? = some (.cells xb 26 (0, 0)) := hp2_1 w2 _ _
  have hb : Below w2.heap.size w2 ((w2.alloc (.cells xa 26)).alloc (.cells xb 26)) := (((Below.refl _ _).alloc (Nat.le_refl _) _).alloc (by simp) _)
  generalize ((w2.alloc (.cells xa 26)).alloc (.cells xb 26)) = wa at *
  have yg3_0 := lt_of_row rp0
  have yg3_1 := lt_of_row rp1
  have yg3 := hw.size
  replace rp0 := keep hb rp0
  replace rp1 := keep hb rp1
  replace hw := Below.after hw hb
  clear hb
  generalize w2.heap.size = g3 at *
  clear w2
  have Hrp0 := keepr rp0
  have Hrp1 := keepr rp1
  have Hrl3 := keepr rl3
  have Hrl4 := keepr rl4
  refine wp_region_tail (C := fun w' => ∃ p : Regrown, w' = grow (redrawn wa p.d) p.os) 4 _ rfl rfl rfl (by kernel_rfl) (by kernel_rfl) (by kernel_rfl) (by kernel_rfl) ⟨⟨wa.drawn + 1, #[]⟩, by rw [grow_empty]; rfl⟩ ?_
  dsimp only [List.set, idle]
  refine wpQuiet_load_row rfl 26 _ rfl (g3) rfl 26 xa (0, 0) _ Hrl3.out Tryd.underlying26 rfl ha.info ?_
  simp only [Act.put, List.setIfInBounds_toArray, List.set_cons_succ, List.set_cons_zero]
  go_big_quiet_step (exact c3.re)
  refine wpQuiet_load_row rfl 26 _ rfl (g3 + 1) rfl 26 xb (0, 0) _ Hrl4.out Tryd.underlying26 rfl hb.info ?_
  simp only [Act.put, List.setIfInBounds_toArray, List.set_cons_succ, List.set_cons_zero]
  go_big_quiet_step (exact c4.re)
  refine wpQuiet_idle rfl rfl rfl ?_
  rintro _ ⟨p, rfl⟩
  have hb := below_regrown wa p.d p.os
  generalize grow (redrawn wa p.d) p.os = w5 at *
  replace rp0 := keep hb rp0
  replace rp1 := keep hb rp1
  replace rl3 := keep hb rl3
  replace rl4 := keep hb rl4
  replace hw := Below.after hw hb
  clear hb
  clear Hrp0 Hrp1 Hrl3 Hrl4
  go_wp2_with (first | (refine wpList_store_row rfl 26 _ _ rfl (w.heap.size + 1) x4 rfl rfl 26 _ rp1 h4.info (h4.fits rfl) h4.one ?_) | fail)
  exact bodyPost_ret (v := .agg x4) (results_cell_row Tryd.results22 _ _ (w.heap.size + 1) _ x4 _ _ rfl (setRow_heap _ _ _ _ _ _ rp1) Tryd.underlying26 rfl h4.info) rfl ⟨rfl, below_setRow hw (by omega) _⟩

end Go.Proofs.YtnohfbpmckhbbaaDoor


namespace Go.Proofs.YtnohfbpmckhbbaaDoor
set_option maxRecDepth 100000
open Go.RowKit Go.Sort
attribute [local go_sem] setCell_drewN alloc_drewN


theorem xor_bd (x y : Int) (h1 : 0 ≤ x) (h2 : x < 18446744073709551616) (h3 : 0 ≤ y) (h4 : y < 18446744073709551616) : 0 ≤ bits .xor .u64 x y ∧ bits .xor .u64 x y < 18446744073709551616 := by
  rw [u64_xor x y h1 h2 h3 h4]
  have := Nat.xor_lt_two_pow (n := 64) (x := x.toNat) (y := y.toNat) (by omega) (by omega)
  omega
theorem xor_back (x y : Int) (h1 : 0 ≤ x) (h2 : x < 18446744073709551616) (h3 : 0 ≤ y) (h4 : y < 18446744073709551616) : bits .xor .u64 x (bits .xor .u64 x y) = y := by
  obtain ⟨l, u⟩ := xor_bd x y h1 h2 h3 h4
  rw [u64_xor x _ h1 h2 l u, u64_xor x y h1 h2 h3 h4, Int.toNat_natCast, ← Nat.xor_assoc, Nat.xor_self, Nat.zero_xor]
  omega
theorem xor_back' (x y : Int) (h1 : 0 ≤ x) (h2 : x < 18446744073709551616) (h3 : 0 ≤ y) (h4 : y < 18446744073709551616) : bits .xor .u64 y (bits .xor .u64 x y) = x := by
  obtain ⟨l, u⟩ := xor_bd x y h1 h2 h3 h4
  rw [u64_xor y _ h3 h4 l u, u64_xor x y h1 h2 h3 h4, Int.toNat_natCast, Nat.xor_comm x.toNat, ← Nat.xor_assoc, Nat.xor_self, Nat.zero_xor]
  omega
theorem xor_none (x : Int) (h1 : 0 ≤ x) (h2 : x < 18446744073709551616) : bits .xor .u64 x 0 = x := by
  rw [u64_xor x 0 h1 h2 (by decide) (by decide), Int.toNat_zero, Nat.xor_zero]
  omega
theorem and_none (x : Int) (h1 : 0 ≤ x) (h2 : x < 18446744073709551616) : bits .and .u64 x 0 = 0 := by
  rw [u64_and x 0 h1 h2 (by decide) (by decide), Int.toNat_zero, Nat.and_zero]
  rfl
theorem and_all (x : Int) (h1 : 0 ≤ x) (h2 : x < 18446744073709551616) : bits .and .u64 x 18446744073709551615 = x := by
  rw [u64_and x 18446744073709551615 h1 h2 (by decide) (by decide)]
  have e : (18446744073709551615 : Int).toNat = 2 ^ 64 - 1 := by decide
  rw [e, Nat.and_two_pow_sub_one_eq_mod]
  omega


set_option maxHeartbeats 4000000 in
theorem a_swap {r s : Array Value} {x y : Int} (h : NumOf r x) (g : NumOf s y) (on : Bool) : Gives 5 #[.agg r, .agg s, .bool on] (.tuple #[.agg (if on then s else r), .agg (if on then r else s)]) := by
  have hA := h; have hB := g
  obtain ⟨a0, a1, a2, a3, a4, rfl, ⟨h0, h1, h2, h3, h4⟩, ha⟩ := h
  obtain ⟨b0, b1, b2, b3, b4, rfl, ⟨g0, g1, g2, g3, g4⟩, hb⟩ := g
  intro w
  cases on
  · have e0 : bits .and .u64 (bits .xor .u64 a0 b0) 0 = 0 := and_none _ (xor_bd a0 b0 h0.1 (by omega) g0.1 (by omega)).1 (xor_bd a0 b0 h0.1 (by omega) g0.1 (by omega)).2
    have i0 := xor_none a0 h0.1 (by omega)
    have j0 := xor_none b0 g0.1 (by omega)
    have e1 : bits .and .u64 (bits .xor .u64 a1 b1) 0 = 0 := and_none _ (xor_bd a1 b1 h1.1 (by omega) g1.1 (by omega)).1 (xor_bd a1 b1 h1.1 (by omega) g1.1 (by omega)).2
    have i1 := xor_none a1 h1.1 (by omega)
    have j1 := xor_none b1 g1.1 (by omega)
    have e2 : bits .and .u64 (bits .xor .u64 a2 b2) 0 = 0 := and_none _ (xor_bd a2 b2 h2.1 (by omega) g2.1 (by omega)).1 (xor_bd a2 b2 h2.1 (by omega) g2.1 (by omega)).2
    have i2 := xor_none a2 h2.1 (by omega)
    have j2 := xor_none b2 g2.1 (by omega)
    have e3 : bits .and .u64 (bits .xor .u64 a3 b3) 0 = 0 := and_none _ (xor_bd a3 b3 h3.1 (by omega) g3.1 (by omega)).1 (xor_bd a3 b3 h3.1 (by omega) g3.1 (by omega)).2
    have i3 := xor_none a3 h3.1 (by omega)
    have j3 := xor_none b3 g3.1 (by omega)
    have e4 : bits .and .u64 (bits .xor .u64 a4 b4) 0 = 0 := and_none _ (xor_bd a4 b4 h4.1 (by omega) g4.1 (by omega)).1 (xor_bd a4 b4 h4.1 (by omega) g4.1 (by omega)).2
    have i4 := xor_none a4 h4.1 (by omega)
    have j4 := xor_none b4 g4.1 (by omega)
    clear h0 g0 h1 g1 h2 g2 h3 g3 h4 g4 ha hb
    go_enter Tryd.func5, Tryd.ntmps5
    go_wp2
    refine wp_loop_rounds 6 ?_
    rw [rounds_succ]
    go_wp2
    go_quiet (fail)
    go_wp2
    rw [rounds_succ]
    go_wp2
    go_quiet (fail)
    go_wp2
    rw [rounds_succ]
    go_wp2
    go_quiet (fail)
    go_wp2
    rw [rounds_succ]
    go_wp2
    go_quiet (fail)
    go_wp2
    rw [rounds_succ]
    go_wp2
    go_quiet (fail)
    go_wp2
    rw [rounds_succ]
    go_wp2
    have rp0 : ∀ k, (((((w.alloc (.cells #[.int .u64 a0, .int .u64 a1, .int .u64 a2, .int .u64 a3, .int .u64 a4] 26)).alloc (.cells #[.int .u64 b0, .int .u64 b1, .int .u64 b2, .int .u64 b3, .int .u64 b4] 26)).alloc (.cells #[.int .u64 0, .int .u64 0, .int .u64 0, .int .u64 0, .int .u64 0] 26)).alloc (.cells #[.int .u64 0, .int .u64 0, .int .u64 0, .int .u64 0, .int .u64 0] 26)).drewN k).heap[w.heap.size]? = some (.cells #[.int .u64 a0, .int .u64 a1, .int .u64 a2, .int .u64 a3, .int .u64 a4] 26 (0, 0)) := fun k => by rw [World.heap_drewN]; exact hp4_0 w _ _ _ _
    have rp1 : ∀ k, (((((w.alloc (.cells #[.int .u64 a0, .int .u64 a1, .int .u64 a2, .int .u64 a3, .int .u64 a4] 26)).alloc (.cells #[.int .u64 b0, .int .u64 b1, .int .u64 b2, .int .u64 b3, .int .u64 b4] 26)).alloc (.cells #[.int .u64 0, .int .u64 0, .int .u64 0, .int .u64 0, .int .u64 0] 26)).alloc (.cells #[.int .u64 0, .int .u64 0, .int .u64 0, .int .u64 0, .int .u64 0] 26)).drewN k).heap[w.heap.size + 1]? = some (.cells #[.int .u64 b0, .int .u64 b1, .int .u64 b2, .int .u64 b3, .int .u64 b4] 26 (0, 0)) := fun k => by rw [World.heap_drewN]; exact hp4_1 w _ _ _ _
    have rp2 : ∀ k, (((((w.alloc (.cells #[.int .u64 a0, .int .u64 a1, .int .u64 a2, .int .u64 a3, .int .u64 a4] 26)).alloc (.cells #[.int .u64 b0, .int .u64 b1, .int .u64 b2, .int .u64 b3, .int .u64 b4] 26)).alloc (.cells #[.int .u64 0, .int .u64 0, .int .u64 0, .int .u64 0, .int .u64 0] 26)).alloc (.cells #[.int .u64 0, .int .u64 0, .int .u64 0, .int .u64 0, .int .u64 0] 26)).drewN k).heap[w.heap.size + 1 + 1]? = some (.cells #[.int .u64 0, .int .u64 0, .int .u64 0, .int .u64 0, .int .u64 0] 26 (0, 0)) := fun k => by rw [World.heap_drewN]; exact hp4_2 w _ _ _ _
    have rp3 : ∀ k, (((((w.alloc (.cells #[.int .u64 a0, .int .u64 a1, .int .u64 a2, .int .u64 a3, .int .u64 a4] 26)).alloc (.cells #[.int .u64 b0, .int .u64 b1, .int .u64 b2, .int .u64 b3, .int .u64 b4] 26)).alloc (.cells #[.int .u64 0, .int .u64 0, .int .u64 0, .int .u64 0, .int .u64 0] 26)).alloc (.cells #[.int .u64 0, .int .u64 0, .int .u64 0, .int .u64 0, .int .u64 0] 26)).drewN k).heap[w.heap.size + 1 + 1 + 1]? = some (.cells #[.int .u64 0, .int .u64 0, .int .u64 0, .int .u64 0, .int .u64 0] 26 (0, 0)) := fun k => by rw [World.heap_drewN]; exact hp4_3 w _ _ _ _
    have hw : ∀ k, Below w.heap.size w (((((w.alloc (.cells #[.int .u64 a0, .int .u64 a1, .int .u64 a2, .int .u64 a3, .int .u64 a4] 26)).alloc (.cells #[.int .u64 b0, .int .u64 b1, .int .u64 b2, .int .u64 b3, .int .u64 b4] 26)).alloc (.cells #[.int .u64 0, .int .u64 0, .int .u64 0, .int .u64 0, .int .u64 0] 26)).alloc (.cells #[.int .u64 0, .int .u64 0, .int .u64 0, .int .u64 0, .int .u64 0] 26)).drewN k) := fun k => below_drN (((((Below.refl _ _).alloc (Nat.le_refl _) _).alloc (by simp) _).alloc (by simp; omega) _).alloc (by simp; omega) _) k
    refine wp_region_pair (by kernel_rfl) (by kernel_rfl) (by kernel_rfl) (by kernel_rfl) (by kernel_rfl) (by kernel_rfl) (by kernel_rfl) (by kernel_rfl) 26 26 _ _ _ _ 43 44 rfl rfl rfl rfl rfl rfl rfl rfl rfl rfl rfl rfl (w.heap.size) (w.heap.size + 1) (w.heap.size + 1 + 1) (w.heap.size + 1 + 1 + 1) #[.int .u64 a0, .int .u64 a1, .int .u64 a2, .int .u64 a3, .int .u64 a4] #[.int .u64 b0, .int .u64 b1, .int .u64 b2, .int .u64 b3, .int .u64 b4] #[.int .u64 0, .int .u64 0, .int .u64 0, .int .u64 0, .int .u64 0] #[.int .u64 0, .int .u64 0, .int .u64 0, .int .u64 0, .int .u64 0] 26 26 26 26 (0, 0) (0, 0) _ _ _ (rp0 _) (rp1 _) (rp2 _) (rp3 _) (by omega) (by omega) Tryd.underlying26 rfl hA.info rfl hA.one Tryd.underlying26 rfl hB.info rfl hB.one rfl rfl rfl rfl rfl rfl rfl rfl rfl rfl rfl rfl ?_
    intro w1 hb
    replace rp2 := keep hb (rp2 _)
    replace rp3 := keep hb (rp3 _)
    replace hw := Below.after (hw _) hb
    clear rp0 rp1 hb
    go_wp2
    exact bodyPost_ret (v := .tuple #[.agg #[.int .u64 a0, .int .u64 a1, .int .u64 a2, .int .u64 a3, .int .u64 a4], .agg #[.int .u64 b0, .int .u64 b1, .int .u64 b2, .int .u64 b3, .int .u64 b4]]) (results_rows2 Tryd.results5 _ _ (w.heap.size + 1 + 1) (w.heap.size + 1 + 1 + 1) _ _ #[.int .u64 a0, .int .u64 a1, .int .u64 a2, .int .u64 a3, .int .u64 a4] #[.int .u64 b0, .int .u64 b1, .int .u64 b2, .int .u64 b3, .int .u64 b4] _ _ _ _ rfl ((setRow_other _ (w.heap.size + 1 + 1 + 1) (w.heap.size + 1 + 1) _ (by omega)).trans (setRow_heap _ _ _ _ _ _ rp2)) rfl (setRow_heap _ _ _ _ _ _ ((setRow_other w1 (w.heap.size + 1 + 1) (w.heap.size + 1 + 1 + 1) _ (by omega)).trans rp3)) Tryd.underlying26 rfl hA.info Tryd.underlying26 rfl hB.info) rfl ⟨rfl, below_setRow (below_setRow hw (by omega) _) (by omega) _⟩
  · have e0 : bits .and .u64 (bits .xor .u64 a0 b0) 18446744073709551615 = bits .xor .u64 a0 b0 := and_all _ (xor_bd a0 b0 h0.1 (by omega) g0.1 (by omega)).1 (xor_bd a0 b0 h0.1 (by omega) g0.1 (by omega)).2
    have i0 := xor_back a0 b0 h0.1 (by omega) g0.1 (by omega)
    have j0 := xor_back' a0 b0 h0.1 (by omega) g0.1 (by omega)
    have e1 : bits .and .u64 (bits .xor .u64 a1 b1) 18446744073709551615 = bits .xor .u64 a1 b1 := and_all _ (xor_bd a1 b1 h1.1 (by omega) g1.1 (by omega)).1 (xor_bd a1 b1 h1.1 (by omega) g1.1 (by omega)).2
    have i1 := xor_back a1 b1 h1.1 (by omega) g1.1 (by omega)
    have j1 := xor_back' a1 b1 h1.1 (by omega) g1.1 (by omega)
    have e2 : bits .and .u64 (bits .xor .u64 a2 b2) 18446744073709551615 = bits .xor .u64 a2 b2 := and_all _ (xor_bd a2 b2 h2.1 (by omega) g2.1 (by omega)).1 (xor_bd a2 b2 h2.1 (by omega) g2.1 (by omega)).2
    have i2 := xor_back a2 b2 h2.1 (by omega) g2.1 (by omega)
    have j2 := xor_back' a2 b2 h2.1 (by omega) g2.1 (by omega)
    have e3 : bits .and .u64 (bits .xor .u64 a3 b3) 18446744073709551615 = bits .xor .u64 a3 b3 := and_all _ (xor_bd a3 b3 h3.1 (by omega) g3.1 (by omega)).1 (xor_bd a3 b3 h3.1 (by omega) g3.1 (by omega)).2
    have i3 := xor_back a3 b3 h3.1 (by omega) g3.1 (by omega)
    have j3 := xor_back' a3 b3 h3.1 (by omega) g3.1 (by omega)
    have e4 : bits .and .u64 (bits .xor .u64 a4 b4) 18446744073709551615 = bits .xor .u64 a4 b4 := and_all _ (xor_bd a4 b4 h4.1 (by omega) g4.1 (by omega)).1 (xor_bd a4 b4 h4.1 (by omega) g4.1 (by omega)).2
    have i4 := xor_back a4 b4 h4.1 (by omega) g4.1 (by omega)
    have j4 := xor_back' a4 b4 h4.1 (by omega) g4.1 (by omega)
    clear h0 g0 h1 g1 h2 g2 h3 g3 h4 g4 ha hb
    go_enter Tryd.func5, Tryd.ntmps5
    go_wp2
    refine wp_loop_rounds 6 ?_
    rw [rounds_succ]
    go_wp2
    go_quiet (fail)
    go_wp2
    rw [rounds_succ]
    go_wp2
    go_quiet (fail)
    go_wp2
    rw [rounds_succ]
    go_wp2
    go_quiet (fail)
    go_wp2
    rw [rounds_succ]
    go_wp2
    go_quiet (fail)
    go_wp2
    rw [rounds_succ]
    go_wp2
    go_quiet (fail)
    go_wp2
    rw [rounds_succ]
    go_wp2
    have rp0 : ∀ k, (((((w.alloc (.cells #[.int .u64 b0, .int .u64 b1, .int .u64 b2, .int .u64 b3, .int .u64 b4] 26)).alloc (.cells #[.int .u64 a0, .int .u64 a1, .int .u64 a2, .int .u64 a3, .int .u64 a4] 26)).alloc (.cells #[.int .u64 0, .int .u64 0, .int .u64 0, .int .u64 0, .int .u64 0] 26)).alloc (.cells #[.int .u64 0, .int .u64 0, .int .u64 0, .int .u64 0, .int .u64 0] 26)).drewN k).heap[w.heap.size]? = some (.cells #[.int .u64 b0, .int .u64 b1, .int .u64 b2, .int .u64 b3, .int .u64 b4] 26 (0, 0)) := fun k => by rw [World.heap_drewN]; exact hp4_0 w _ _ _ _
    have rp1 : ∀ k, (((((w.alloc (.cells #[.int .u64 b0, .int .u64 b1, .int .u64 b2, .int .u64 b3, .int .u64 b4] 26)).alloc (.cells #[.int .u64 a0, .int .u64 a1, .int .u64 a2, .int .u64 a3, .int .u64 a4] 26)).alloc (.cells #[.int .u64 0, .int .u64 0, .int .u64 0, .int .u64 0, .int .u64 0] 26)).alloc (.cells #[.int .u64 0, .int .u64 0, .int .u64 0, .int .u64 0, .int .u64 0] 26)).drewN k).heap[w.heap.size + 1]? = some (.cells #[.int .u64 a0, .int .u64 a1, .int .u64 a2, .int .u64 a3, .int .u64 a4] 26 (0, 0)) := fun k => by rw [World.heap_drewN]; exact hp4_1 w _ _ _ _
    have rp2 : ∀ k, (((((w.alloc (.cells #[.int .u64 b0, .int .u64 b1, .int .u64 b2, .int .u64 b3, .int .u64 b4] 26)).alloc (.cells #[.int .u64 a0, .int .u64 a1, .int .u64 a2, .int .u64 a3, .int .u64 a4] 26)).alloc (.cells #[.int .u64 0, .int .u64 0, .int .u64 0, .int .u64 0, .int .u64 0] 26)).alloc (.cells #[.int .u64 0, .int .u64 0, .int .u64 0, .int .u64 0, .int .u64 0] 26)).drewN k).heap[w.heap.size + 1 + 1]? = some (.cells #[.int .u64 0, .int .u64 0, .int .u64 0, .int .u64 0, .int .u64 0] 26 (0, 0)) := fun k => by rw [World.heap_drewN]; exact hp4_2 w _ _ _ _
    have rp3 : ∀ k, (((((w.alloc (.cells #[.int .u64 b0, .int .u64 b1, .int .u64 b2, .int .u64 b3, .int .u64 b4] 26)).alloc (.cells #[.int .u64 a0, .int .u64 a1, .int .u64 a2, .int .u64 a3, .int .u64 a4] 26)).alloc (.cells #[.int .u64 0, .int .u64 0, .int .u64 0, .int .u64 0, .int .u64 0] 26)).alloc (.cells #[.int .u64 0, .int .u64 0, .int .u64 0, .int .u64 0, .int .u64 0] 26)).drewN k).heap[w.heap.size + 1 + 1 + 1]? = some (.cells #[.int .u64 0, .int .u64 0, .int .u64 0, .int .u64 0, .int .u64 0] 26 (0, 0)) := fun k => by rw [World.heap_drewN]; exact hp4_3 w _ _ _ _
    have hw : ∀ k, Below w.heap.size w (((((w.alloc (.cells #[.int .u64 b0, .int .u64 b1, .int .u64 b2, .int .u64 b3, .int .u64 b4] 26)).alloc (.cells #[.int .u64 a0, .int .u64 a1, .int .u64 a2, .int .u64 a3, .int .u64 a4] 26)).alloc (.cells #[.int .u64 0, .int .u64 0, .int .u64 0, .int .u64 0, .int .u64 0] 26)).alloc (.cells #[.int .u64 0, .int .u64 0, .int .u64 0, .int .u64 0, .int .u64 0] 26)).drewN k) := fun k => below_drN (((((Below.refl _ _).alloc (Nat.le_refl _) _).alloc (by simp) _).alloc (by simp; omega) _).alloc (by simp; omega) _) k
    refine wp_region_pair (by kernel_rfl) (by kernel_rfl) (by kernel_rfl) (by kernel_rfl) (by kernel_rfl) (by kernel_rfl) (by kernel_rfl) (by kernel_rfl) 26 26 _ _ _ _ 43 44 rfl rfl rfl rfl rfl rfl rfl rfl rfl rfl rfl rfl (w.heap.size) (w.heap.size + 1) (w.heap.size + 1 + 1) (w.heap.size + 1 + 1 + 1) #[.int .u64 b0, .int .u64 b1, .int .u64 b2, .int .u64 b3, .int .u64 b4] #[.int .u64 a0, .int .u64 a1, .int .u64 a2, .int .u64 a3, .int .u64 a4] #[.int .u64 0, .int .u64 0, .int .u64 0, .int .u64 0, .int .u64 0] #[.int .u64 0, .int .u64 0, .int .u64 0, .int .u64 0, .int .u64 0] 26 26 26 26 (0, 0) (0, 0) _ _ _ (rp0 _) (rp1 _) (rp2 _) (rp3 _) (by omega) (by omega) Tryd.underlying26 rfl hB.info rfl hB.one Tryd.underlying26 rfl hA.info rfl hA.one rfl rfl rfl rfl rfl rfl rfl rfl rfl rfl rfl rfl ?_
    intro w1 hb
    replace rp2 := keep hb (rp2 _)
    replace rp3 := keep hb (rp3 _)
    replace hw := Below.after (hw _) hb
    clear rp0 rp1 hb
    go_wp2
    exact bodyPost_ret (v := .tuple #[.agg #[.int .u64 b0, .int .u64 b1, .int .u64 b2, .int .u64 b3, .int .u64 b4], .agg #[.int .u64 a0, .int .u64 a1, .int .u64 a2, .int .u64 a3, .int .u64 a4]]) (results_rows2 Tryd.results5 _ _ (w.heap.size + 1 + 1) (w.heap.size + 1 + 1 + 1) _ _ #[.int .u64 b0, .int .u64 b1, .int .u64 b2, .int .u64 b3, .int .u64 b4] #[.int .u64 a0, .int .u64 a1, .int .u64 a2, .int .u64 a3, .int .u64 a4] _ _ _ _ rfl ((setRow_other _ (w.heap.size + 1 + 1 + 1) (w.heap.size + 1 + 1) _ (by omega)).trans (setRow_heap _ _ _ _ _ _ rp2)) rfl (setRow_heap _ _ _ _ _ _ ((setRow_other w1 (w.heap.size + 1 + 1) (w.heap.size + 1 + 1 + 1) _ (by omega)).trans rp3)) Tryd.underlying26 rfl hB.info Tryd.underlying26 rfl hA.info) rfl ⟨rfl, below_setRow (below_setRow hw (by omega) _) (by omega) _⟩

end Go.Proofs.YtnohfbpmckhbbaaDoor


namespace Go.Proofs.YtnohfbpmckhbbaaDoor
set_option maxRecDepth 100000
open Go.RowKit Go.Sort
attribute [local go_sem] setCell_drewN alloc_drewN


/-- The cells of the package's number unit. -/
def ucells : Array Value := #[.int .u64 1718705420411056, .int .u64 234908883556509, .int .u64 2233514472574048, .int .u64 2117202627021982, .int .u64 765476049583133]
theorem unit_num : NumOf ucells uu := ⟨1718705420411056, 234908883556509, 2233514472574048, 2117202627021982, 765476049583133, rfl, by decide, by decide⟩
/-- What both package variables hold. -/
def Both (w : World) : Prop := Four w ∧ ∃ t fr, w.heap[1]? = some (.cells ucells t fr)
theorem Both.sz {w : World} (h : Both w) : 1 < w.heap.size := by
  obtain ⟨_, t, fr, hu⟩ := h
  exact (Array.getElem?_eq_some_iff.1 hu).1
theorem Both.belowN {w w' : World} {n : Nat} (h : Both w) (hn : 1 < n) (hb : Below n w w') : Both w' := by
  obtain ⟨h4, t, fr, hu⟩ := h
  exact ⟨h4.belowN (by omega) hb, t, fr, (hb.block 1 hn).trans hu⟩
theorem Both.below {w w' : World} (h : Both w) (hb : Below w.heap.size w w') : Both w' := h.belowN h.sz hb
theorem Both.alloc {w : World} (h : Both w) (o : Obj) : Both (w.alloc o) := h.below ((Below.refl _ _).alloc (Nat.le_refl _) _)
theorem Both.setRow {w : World} {g : Nat} (h : Both w) (hg : 1 < g) (cs : Array Value) : Both (w.setRow g cs) := h.belowN (n := 2) (by decide) (below_setRow (Below.refl _ _) hg cs)
def Gives5 (f : FuncId) (args : Array Value) (v : Value) : Prop := ∀ W, Both W → Calls Tryd.prog f args W fun e w' => e = .returned v ∧ Below W.heap.size W w'
theorem Gives5.at {f : FuncId} {args : Array Value} {v : Value} (h : Gives5 f args v) {W : World} (hW : Both W) : Calls Tryd.prog f args W fun e w' => e = .returned v ∧ Below W.heap.size W w' := h W hW
theorem Gives5.re {f : FuncId} {args : Array Value} {v : Value} (h : Gives5 f args v) {w : World} {d : Nat} {os : Array Obj} (hw : Both w) : Calls Tryd.prog f args (grow (redrawn w d) os) fun e w'' => e = .returned v ∧ ∃ p : Regrown, w'' = grow (redrawn w p.d) p.os := Calls.regrown_of (h _ (hw.below (below_regrown w d os)))
theorem odd_ev (x : Int) : (byt (x % prm) 0 % 2 == 1) = decide (x % prm % 2 = 1) := by
  have e : byt (x % prm) 0 % 2 = x % prm % 2 := by
    simp only [byt, Int.pow_zero, Int.ediv_one]
    omega
  rw [e]
  by_cases h : x % prm % 2 = 1
  · rw [decide_eq_true h, beq_iff_eq]; exact h
  · rw [decide_eq_false h, beq_eq_false_iff_ne]; exact h
theorem a_odd_ev {r : Array Value} {x : Int} (h : NumOf r x) : Gives 38 #[.agg r] (.bool (decide (x % prm % 2 = 1))) := by
  have := a_odd h
  rwa [odd_ev] at this
theorem a_swap_ev {r s : Array Value} {x : Int} (h : NumOf r x) (g : NumOf s (-x)) : ∃ p q y, NumOf p (ev x) ∧ NumOf q y ∧ Gives 5 #[.agg r, .agg s, .bool (decide (x % prm % 2 = 1))] (.tuple #[.agg p, .agg q]) := by
  have c := a_swap h g (decide (x % prm % 2 = 1))
  by_cases e : x % prm % 2 = 1
  · rw [decide_eq_true e] at c ⊢
    exact ⟨s, r, x, by unfold ev; rw [if_pos e]; exact g, h, c⟩
  · rw [decide_eq_false e] at c ⊢
    exact ⟨r, s, -x, by unfold ev; rw [if_neg e]; exact h, g, c⟩
/-- Two results: a row in a block, and a bool. -/
theorem results_row_slot {P : Program} {fn : Func} {p q : Tmp} {ty : TypeId} (h : fn.results = #[.cell p ty, .tmp q]) (tmps : Array Value) (w : World) (g : Nat) (t : TypeId) (cs : Array Value) (fr : Nat × Nat) (d : TypeDesc) (v : Value)
    (hp : tmps.getD p undef = .pointer (some ⟨g, 0, none⟩)) (hg : w.heap[g]? = some (.cells cs t fr)) (hq : tmps.getD q undef = v)
    (hu : P.underlying ty = some d) (hd : (match d with | .struct _ | .array _ _ => true | _ => false) = true) (hi : (P.info? ty).map (·.size) = some cs.size) :
    (results fn tmps).run P w = .ok (.tuple #[.agg cs, v]) w := by
  have hp' : tmps[p]?.getD undef = .pointer (some ⟨g, 0, none⟩) := by simpa using hp
  have hq' : tmps[q]?.getD undef = v := by simpa using hq
  simp [results, h, hp', hq', asAddr, run_loadVar_row w g t ty cs fr d hg hu hd hi]
theorem a_equal_t {r s : Array Value} {x y : Int} (h : NumOf r x) (g : NumOf s y) (e : x % prm = y % prm) : Gives 34 #[.agg r, .agg s] (.bool true) := by
  have := a_equal h g
  rwa [decide_eq_true e] at this
theorem a_equal_f {r s : Array Value} {x y : Int} (h : NumOf r x) (g : NumOf s y) (e : x % prm ≠ y % prm) : Gives 34 #[.agg r, .agg s] (.bool false) := by
  have := a_equal h g
  rwa [decide_eq_false e] at this

end Go.Proofs.YtnohfbpmckhbbaaDoor


namespace Go.Proofs.YtnohfbpmckhbbaaDoor
set_option maxRecDepth 100000
open Go.ChangeShapes Go.WideShapes Go.ChangeAt Go.WideMaps Go.WideElems Go.RowKit

theorem gUnit : Tryd.prog.globalNamed "pawl/field.unit" = some 1 := by kernel_rfl
theorem tUnit : (Tryd.prog.globals[1]?).map (·.type) = some 26 := by kernel_rfl
theorem cNum : Tryd.prog.cellsOf 26 = 5 := by kernel_rfl

/-- What the condition gives: the cells of both variables. -/
theorem both_of_laid {W : World} (h : laidMetH Tryd.prog [("pawl/field.fourfold", Rows.laid_pawl_field_fourfold), ("pawl/field.unit", Rows.laid_pawl_field_unit)] W) : Both W := by
  rw [MakeChecks.laidMetH_plain _ _ _ (by kernel_rfl)] at h
  obtain ⟨ps, ⟨g0, t0, cs0, f0, p0, q0, hg0, ht0, hv0, hd0, ⟨g1, t1, cs1, f1, p1, q1, hg1, ht1, hv1, hd1, _⟩, _⟩, _, _⟩ := h
  obtain rfl := Option.some.inj (gFour.symm.trans hg0)
  obtain rfl := Option.some.inj (tFour.symm.trans ht0)
  obtain rfl := row5_of Tryd.underlying24 Tryd.underlying23 c1 c5 hd0
  obtain rfl := Option.some.inj (gUnit.symm.trans hg1)
  obtain rfl := Option.some.inj (tUnit.symm.trans ht1)
  obtain ⟨y0, n, hx, hl, hy⟩ := trod_struct1 Tryd.underlying26 hd1
  have hx' : y0 = (.agg [.lit (.int .u64 1718705420411056), .lit (.int .u64 234908883556509), .lit (.int .u64 2233514472574048), .lit (.int .u64 2117202627021982), .lit (.int .u64 765476049583133)], y0.2) := by
    simp only [Rows.laid_pawl_field_unit, Prod.mk.injEq, DataW.agg.injEq, List.cons.injEq, and_true] at hx
    exact Prod.ext hx.1.symm rfl
  rw [hx'] at hy
  rw [cNum] at hl
  have e5 : (cs1.toList.drop 0).take 5 = cs1.toList := by rw [List.drop_zero, ← hl]; exact List.take_length
  have hy2 : DataW.trod (fun _ => ()) Tryd.prog W 0 (fun _ => true) false n 24 cs1.toList = some (.agg [.lit (.int .u64 1718705420411056), .lit (.int .u64 234908883556509), .lit (.int .u64 2233514472574048), .lit (.int .u64 2117202627021982), .lit (.int .u64 765476049583133)], y0.2) := by
    have hy' := hy
    rw [show Tryd.prog.cellsOf _ = 5 from c5, e5] at hy'
    exact hy'
  obtain rfl := row5_of Tryd.underlying24 Tryd.underlying23 c1 c5 hy2
  refine ⟨four_of_cells hv0, ?_⟩
  unfold World.var? at hv1
  rw [gUnit] at hv1
  simp only [Option.bind_some] at hv1
  split at hv1
  · rename_i cs t fr hh
    obtain rfl := Option.some.inj hv1
    exact ⟨t, fr, hh⟩
  · cases hv1
end Go.Proofs.YtnohfbpmckhbbaaDoor
