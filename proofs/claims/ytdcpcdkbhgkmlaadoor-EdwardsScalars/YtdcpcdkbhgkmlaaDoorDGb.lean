import Derived.Test.YtdcpcdkbhgkmlaaDoorProg
import Derived.WalkKit
import Derived.WalkSpells
import Derived.WalkLawsBesides
import Derived.Lib.QuietBelow
import Derived.BigQuiet
import Derived.Test.YtdcpcdkbhgkmlaaDoorDOpen
import Derived.Test.YtdcpcdkbhgkmlaaDoorDEa
import Derived.OrdersHeld
import Derived.Deep.MidRow
import Derived.Deep.RegionHeld3
import Derived.Laws.BitsAllLaws
namespace Go.Proofs.YtdcpcdkbhgkmlaaDoor
set_option maxRecDepth 100000
open Go.RowKit Go.Sort
attribute [local go_sem] setCell_drewN alloc_drewN
theorem valB_byt (m : Int) (h0 : 0 ≤ m) (h1 : m < 115792089237316195423570985008687907853269984665640564039457584007913129639936) : valB [byt (m) 0, byt (m) 1, byt (m) 2, byt (m) 3, byt (m) 4, byt (m) 5, byt (m) 6, byt (m) 7, byt (m) 8, byt (m) 9, byt (m) 10, byt (m) 11, byt (m) 12, byt (m) 13, byt (m) 14, byt (m) 15, byt (m) 16, byt (m) 17, byt (m) 18, byt (m) 19, byt (m) 20, byt (m) 21, byt (m) 22, byt (m) 23, byt (m) 24, byt (m) 25, byt (m) 26, byt (m) 27, byt (m) 28, byt (m) 29, byt (m) 30, byt (m) 31] = m := by
 simp only [valB, byt, Int.pow_zero, Int.pow_succ, Int.one_mul, Int.ediv_one]
 omega
theorem byts_inj (m k : Int) (h0 : 0 ≤ m) (h1 : m < 115792089237316195423570985008687907853269984665640564039457584007913129639936) (h2 : 0 ≤ k) (h3 : k < 115792089237316195423570985008687907853269984665640564039457584007913129639936) : ([byt (m) 0, byt (m) 1, byt (m) 2, byt (m) 3, byt (m) 4, byt (m) 5, byt (m) 6, byt (m) 7, byt (m) 8, byt (m) 9, byt (m) 10, byt (m) 11, byt (m) 12, byt (m) 13, byt (m) 14, byt (m) 15, byt (m) 16, byt (m) 17, byt (m) 18, byt (m) 19, byt (m) 20, byt (m) 21, byt (m) 22, byt (m) 23, byt (m) 24, byt (m) 25, byt (m) 26, byt (m) 27, byt (m) 28, byt (m) 29, byt (m) 30, byt (m) 31] = [byt (k) 0, byt (k) 1, byt (k) 2, byt (k) 3, byt (k) 4, byt (k) 5, byt (k) 6, byt (k) 7, byt (k) 8, byt (k) 9, byt (k) 10, byt (k) 11, byt (k) 12, byt (k) 13, byt (k) 14, byt (k) 15, byt (k) 16, byt (k) 17, byt (k) 18, byt (k) 19, byt (k) 20, byt (k) 21, byt (k) 22, byt (k) 23, byt (k) 24, byt (k) 25, byt (k) 26, byt (k) 27, byt (k) 28, byt (k) 29, byt (k) 30, byt (k) 31]) ↔ m = k := by
 constructor
 ·intro h
  have e := congrArg valB h
  rw [valB_byt m h0 h1, valB_byt k h2 h3] at e
  exact e
 ·rintro rfl; rfl
theorem keys_eq (m k : Int) (h0 : 0 ≤ m) (h1 : m < 115792089237316195423570985008687907853269984665640564039457584007913129639936) (h2 : 0 ≤ k) (h3 : k < 115792089237316195423570985008687907853269984665640564039457584007913129639936) (W : World) : (Op.equalIn 10000 23 (.agg #[.int .u8 (byt (m) 0), .int .u8 (byt (m) 1), .int .u8 (byt (m) 2), .int .u8 (byt (m) 3), .int .u8 (byt (m) 4), .int .u8 (byt (m) 5), .int .u8 (byt (m) 6), .int .u8 (byt (m) 7), .int .u8 (byt (m) 8), .int .u8 (byt (m) 9), .int .u8 (byt (m) 10), .int .u8 (byt (m) 11), .int .u8 (byt (m) 12), .int .u8 (byt (m) 13), .int .u8 (byt (m) 14), .int .u8 (byt (m) 15), .int .u8 (byt (m) 16), .int .u8 (byt (m) 17), .int .u8 (byt (m) 18), .int .u8 (byt (m) 19), .int .u8 (byt (m) 20), .int .u8 (byt (m) 21), .int .u8 (byt (m) 22), .int .u8 (byt (m) 23), .int .u8 (byt (m) 24), .int .u8 (byt (m) 25), .int .u8 (byt (m) 26), .int .u8 (byt (m) 27), .int .u8 (byt (m) 28), .int .u8 (byt (m) 29), .int .u8 (byt (m) 30), .int .u8 (byt (m) 31)]) (.agg #[.int .u8 (byt (k) 0), .int .u8 (byt (k) 1), .int .u8 (byt (k) 2), .int .u8 (byt (k) 3), .int .u8 (byt (k) 4), .int .u8 (byt (k) 5), .int .u8 (byt (k) 6), .int .u8 (byt (k) 7), .int .u8 (byt (k) 8), .int .u8 (byt (k) 9), .int .u8 (byt (k) 10), .int .u8 (byt (k) 11), .int .u8 (byt (k) 12), .int .u8 (byt (k) 13), .int .u8 (byt (k) 14), .int .u8 (byt (k) 15), .int .u8 (byt (k) 16), .int .u8 (byt (k) 17), .int .u8 (byt (k) 18), .int .u8 (byt (k) 19), .int .u8 (byt (k) 20), .int .u8 (byt (k) 21), .int .u8 (byt (k) 22), .int .u8 (byt (k) 23), .int .u8 (byt (k) 24), .int .u8 (byt (k) 25), .int .u8 (byt (k) 26), .int .u8 (byt (k) 27), .int .u8 (byt (k) 28), .int .u8 (byt (k) 29), .int .u8 (byt (k) 30), .int .u8 (byt (k) 31)])).run Tryd.prog W = .ok (decide (m = k)) W := by
 rw [keys_equal]
 exact congrArg (fun b => Result.ok b W) (decide_eq_decide.2 (byts_inj m k h0 h1 h2 h3))
end Go.Proofs.YtdcpcdkbhgkmlaaDoor
namespace Go.Proofs.YtdcpcdkbhgkmlaaDoor
set_option maxRecDepth 100000
open Go.RowKit Go.Sort
attribute [local go_sem] setCell_drewN alloc_drewN
def gl (l : List Int) (i : Nat) : Int := l.getD i 0
structure Row8 (g : Nat → Int) (D : Array Value) : Prop where
 cell : ∀ i, i < 32 → D[i]? = some (.int .u8 (g i))
theorem Row8.lit (b0 b1 b2 b3 b4 b5 b6 b7 b8 b9 b10 b11 b12 b13 b14 b15 b16 b17 b18 b19 b20 b21 b22 b23 b24 b25 b26 b27 b28 b29 b30 b31 : Int) : Row8 (gl [b0, b1, b2, b3, b4, b5, b6, b7, b8, b9, b10, b11, b12, b13, b14, b15, b16, b17, b18, b19, b20, b21, b22, b23, b24, b25, b26, b27, b28, b29, b30, b31]) #[.int .u8 b0, .int .u8 b1, .int .u8 b2, .int .u8 b3, .int .u8 b4, .int .u8 b5, .int .u8 b6, .int .u8 b7, .int .u8 b8, .int .u8 b9, .int .u8 b10, .int .u8 b11, .int .u8 b12, .int .u8 b13, .int .u8 b14, .int .u8 b15, .int .u8 b16, .int .u8 b17, .int .u8 b18, .int .u8 b19, .int .u8 b20, .int .u8 b21, .int .u8 b22, .int .u8 b23, .int .u8 b24, .int .u8 b25, .int .u8 b26, .int .u8 b27, .int .u8 b28, .int .u8 b29, .int .u8 b30, .int .u8 b31] := by
 refine ⟨fun i hi => ?_⟩
 rcases (by omega : i = 0 ∨ i = 1 ∨ i = 2 ∨ i = 3 ∨ i = 4 ∨ i = 5 ∨ i = 6 ∨ i = 7 ∨ i = 8 ∨ i = 9 ∨ i = 10 ∨ i = 11 ∨ i = 12 ∨ i = 13 ∨ i = 14 ∨ i = 15 ∨ i = 16 ∨ i = 17 ∨ i = 18 ∨ i = 19 ∨ i = 20 ∨ i = 21 ∨ i = 22 ∨ i = 23 ∨ i = 24 ∨ i = 25 ∨ i = 26 ∨ i = 27 ∨ i = 28 ∨ i = 29 ∨ i = 30 ∨ i = 31) with rfl | rfl | rfl | rfl | rfl | rfl | rfl | rfl | rfl | rfl | rfl | rfl | rfl | rfl | rfl | rfl | rfl | rfl | rfl | rfl | rfl | rfl | rfl | rfl | rfl | rfl | rfl | rfl | rfl | rfl | rfl | rfl <;> rfl
end Go.Proofs.YtdcpcdkbhgkmlaaDoor
namespace Go.Proofs.YtdcpcdkbhgkmlaaDoor
set_option maxRecDepth 100000
open Go.RowKit Go.Sort
attribute [local go_sem] setCell_drewN alloc_drewN
end Go.Proofs.YtdcpcdkbhgkmlaaDoor
namespace Go.Proofs.YtdcpcdkbhgkmlaaDoor
set_option maxRecDepth 100000
open Go.RowKit Go.Sort
attribute [local go_sem] setCell_drewN alloc_drewN
def NumOf (r : Array Value) (x : Int) : Prop := ∃ a0 a1 a2 a3 a4 : Int, r = #[.int .u64 a0, .int .u64 a1, .int .u64 a2, .int .u64 a3, .int .u64 a4] ∧ ((0 ≤ a0 ∧ a0 < 4503599627370496) ∧ (0 ≤ a1 ∧ a1 < 4503599627370496) ∧ (0 ≤ a2 ∧ a2 < 4503599627370496) ∧ (0 ≤ a3 ∧ a3 < 4503599627370496) ∧ (0 ≤ a4 ∧ a4 < 4503599627370496)) ∧ v5 a0 a1 a2 a3 a4 % prm = x % prm
def KeyOf (r : Array Value) (N : Int) : Prop := ∃ k0 k1 k2 k3 k4 k5 k6 k7 k8 k9 k10 k11 k12 k13 k14 k15 k16 k17 k18 k19 k20 k21 k22 k23 k24 k25 k26 k27 k28 k29 k30 k31 : Int, r = #[.int .u8 k0, .int .u8 k1, .int .u8 k2, .int .u8 k3, .int .u8 k4, .int .u8 k5, .int .u8 k6, .int .u8 k7, .int .u8 k8, .int .u8 k9, .int .u8 k10, .int .u8 k11, .int .u8 k12, .int .u8 k13, .int .u8 k14, .int .u8 k15, .int .u8 k16, .int .u8 k17, .int .u8 k18, .int .u8 k19, .int .u8 k20, .int .u8 k21, .int .u8 k22, .int .u8 k23, .int .u8 k24, .int .u8 k25, .int .u8 k26, .int .u8 k27, .int .u8 k28, .int .u8 k29, .int .u8 k30, .int .u8 k31] ∧ ((0 ≤ k0 ∧ k0 < 256) ∧ (0 ≤ k1 ∧ k1 < 256) ∧ (0 ≤ k2 ∧ k2 < 256) ∧ (0 ≤ k3 ∧ k3 < 256) ∧ (0 ≤ k4 ∧ k4 < 256) ∧ (0 ≤ k5 ∧ k5 < 256) ∧ (0 ≤ k6 ∧ k6 < 256) ∧ (0 ≤ k7 ∧ k7 < 256) ∧ (0 ≤ k8 ∧ k8 < 256) ∧ (0 ≤ k9 ∧ k9 < 256) ∧ (0 ≤ k10 ∧ k10 < 256) ∧ (0 ≤ k11 ∧ k11 < 256) ∧ (0 ≤ k12 ∧ k12 < 256) ∧ (0 ≤ k13 ∧ k13 < 256) ∧ (0 ≤ k14 ∧ k14 < 256) ∧ (0 ≤ k15 ∧ k15 < 256) ∧ (0 ≤ k16 ∧ k16 < 256) ∧ (0 ≤ k17 ∧ k17 < 256) ∧ (0 ≤ k18 ∧ k18 < 256) ∧ (0 ≤ k19 ∧ k19 < 256) ∧ (0 ≤ k20 ∧ k20 < 256) ∧ (0 ≤ k21 ∧ k21 < 256) ∧ (0 ≤ k22 ∧ k22 < 256) ∧ (0 ≤ k23 ∧ k23 < 256) ∧ (0 ≤ k24 ∧ k24 < 256) ∧ (0 ≤ k25 ∧ k25 < 256) ∧ (0 ≤ k26 ∧ k26 < 256) ∧ (0 ≤ k27 ∧ k27 < 256) ∧ (0 ≤ k28 ∧ k28 < 256) ∧ (0 ≤ k29 ∧ k29 < 256) ∧ (0 ≤ k30 ∧ k30 < 256) ∧ (0 ≤ k31 ∧ k31 < 256)) ∧ kv k0 k1 k2 k3 k4 k5 k6 k7 k8 k9 k10 k11 k12 k13 k14 k15 k16 k17 k18 k19 k20 k21 k22 k23 k24 k25 k26 k27 k28 k29 k30 k31 = N
def kb (m : Int) : Array Value := #[.int .u8 (byt m 0), .int .u8 (byt m 1), .int .u8 (byt m 2), .int .u8 (byt m 3), .int .u8 (byt m 4), .int .u8 (byt m 5), .int .u8 (byt m 6), .int .u8 (byt m 7), .int .u8 (byt m 8), .int .u8 (byt m 9), .int .u8 (byt m 10), .int .u8 (byt m 11), .int .u8 (byt m 12), .int .u8 (byt m 13), .int .u8 (byt m 14), .int .u8 (byt m 15), .int .u8 (byt m 16), .int .u8 (byt m 17), .int .u8 (byt m 18), .int .u8 (byt m 19), .int .u8 (byt m 20), .int .u8 (byt m 21), .int .u8 (byt m 22), .int .u8 (byt m 23), .int .u8 (byt m 24), .int .u8 (byt m 25), .int .u8 (byt m 26), .int .u8 (byt m 27), .int .u8 (byt m 28), .int .u8 (byt m 29), .int .u8 (byt m 30), .int .u8 (byt m 31)]
def Gives (f : FuncId) (args : Array Value) (v : Value) : Prop := ∀ W, Calls Tryd.prog f args W fun e w' => e = .returned v ∧ Below W.heap.size W w'
theorem Gives.at {f : FuncId} {args : Array Value} {v : Value} (h : Gives f args v) (W : World) : Calls Tryd.prog f args W fun e w' => e = .returned v ∧ Below W.heap.size W w' := h W
theorem Gives.re {f : FuncId} {args : Array Value} {v : Value} (h : Gives f args v) {w : World} {d : Nat} {os : Array Obj} : Calls Tryd.prog f args (grow (redrawn w d) os) fun e w'' => e = .returned v ∧ ∃ p : Regrown, w'' = grow (redrawn w p.d) p.os := Calls.regrown_of (h _)
theorem NumOf.congr {r : Array Value} {x y : Int} (h : NumOf r x) (e : x % prm = y % prm) : NumOf r y := by
 obtain ⟨a0, a1, a2, a3, a4, rfl, ⟨h0, h1, h2, h3, h4⟩, ha⟩ := h
 exact ⟨a0, a1, a2, a3, a4, rfl, ⟨h0, h1, h2, h3, h4⟩, ha.trans e⟩
theorem NumOf.size {r : Array Value} {x : Int} (h : NumOf r x) : r.size = 5 := by
 obtain ⟨a0, a1, a2, a3, a4, rfl, ⟨h0, h1, h2, h3, h4⟩, ha⟩ := h
 rfl
theorem KeyOf.size {r : Array Value} {x : Int} (h : KeyOf r x) : r.size = 32 := by
 obtain ⟨k0, k1, k2, k3, k4, k5, k6, k7, k8, k9, k10, k11, k12, k13, k14, k15, k16, k17, k18, k19, k20, k21, k22, k23, k24, k25, k26, k27, k28, k29, k30, k31, rfl, _⟩ := h
 rfl
theorem NumOf.one {r : Array Value} {x : Int} (h : NumOf r x) : r.all (·.oneCell') = true := by
 obtain ⟨a0, a1, a2, a3, a4, rfl, ⟨h0, h1, h2, h3, h4⟩, ha⟩ := h
 kernel_rfl
theorem KeyOf.one {r : Array Value} {x : Int} (h : KeyOf r x) : r.all (·.oneCell') = true := by
 obtain ⟨k0, k1, k2, k3, k4, k5, k6, k7, k8, k9, k10, k11, k12, k13, k14, k15, k16, k17, k18, k19, k20, k21, k22, k23, k24, k25, k26, k27, k28, k29, k30, k31, rfl, _⟩ := h
 kernel_rfl
theorem NumOf.fits {r s : Array Value} {x : Int} (h : NumOf r x) (hs : s.size = 5) : s.size = r.size := hs.trans h.size.symm
theorem num_info : (Tryd.prog.info? 28).map (·.size) = some 5 := by kernel_rfl
theorem key_info : (Tryd.prog.info? 23).map (·.size) = some 32 := by kernel_rfl
theorem NumOf.info {r : Array Value} {x : Int} (h : NumOf r x) : (Tryd.prog.info? 28).map (·.size) = some r.size := by rw [h.size]; exact num_info
theorem KeyOf.info {r : Array Value} {x : Int} (h : KeyOf r x) : (Tryd.prog.info? 23).map (·.size) = some r.size := by rw [h.size]; exact key_info
theorem kb_one (m : Int) : (kb m).all (·.oneCell') = true := by kernel_rfl
theorem kb_size (m : Int) : (kb m).size = 32 := rfl
theorem kb_info (m : Int) : (Tryd.prog.info? 23).map (·.size) = some (kb m).size := key_info
theorem kb_key (m : Int) (h0 : 0 ≤ m) (h1 : m < 115792089237316195423570985008687907853269984665640564039457584007913129639936) : KeyOf (kb m) m :=
 ⟨_, _, _, _, _, _, _, _, _, _, _, _, _, _, _, _, _, _, _, _, _, _, _, _, _, _, _, _, _, _, _, _, rfl, ⟨byt_bd m 0, byt_bd m 1, byt_bd m 2, byt_bd m 3, byt_bd m 4, byt_bd m 5, byt_bd m 6, byt_bd m 7, byt_bd m 8, byt_bd m 9, byt_bd m 10, byt_bd m 11, byt_bd m 12, byt_bd m 13, byt_bd m 14, byt_bd m 15, byt_bd m 16, byt_bd m 17, byt_bd m 18, byt_bd m 19, byt_bd m 20, byt_bd m 21, byt_bd m 22, byt_bd m 23, byt_bd m 24, byt_bd m 25, byt_bd m 26, byt_bd m 27, byt_bd m 28, byt_bd m 29, byt_bd m 30, byt_bd m 31⟩, valB_byt m h0 h1⟩
theorem KeyOf.bd {r : Array Value} {N : Int} (h : KeyOf r N) : 0 ≤ N ∧ N < 115792089237316195423570985008687907853269984665640564039457584007913129639936 := by
 obtain ⟨k0, k1, k2, k3, k4, k5, k6, k7, k8, k9, k10, k11, k12, k13, k14, k15, k16, k17, k18, k19, k20, k21, k22, k23, k24, k25, k26, k27, k28, k29, k30, k31, rfl, ⟨h0, h1, h2, h3, h4, h5, h6, h7, h8, h9, h10, h11, h12, h13, h14, h15, h16, h17, h18, h19, h20, h21, h22, h23, h24, h25, h26, h27, h28, h29, h30, h31⟩, rfl⟩ := h
 simp only [kv, valB]
 omega
theorem kb_equal (m n : Int) (h0 : 0 ≤ m) (h1 : m < 115792089237316195423570985008687907853269984665640564039457584007913129639936) (h2 : 0 ≤ n) (h3 : n < 115792089237316195423570985008687907853269984665640564039457584007913129639936) (W : World) : (Op.equalIn 10000 23 (.agg (kb m)) (.agg (kb n))).run Tryd.prog W = .ok (decide (m = n)) W := keys_eq m n h0 h1 h2 h3 W
end Go.Proofs.YtdcpcdkbhgkmlaaDoor
namespace Go.Proofs.YtdcpcdkbhgkmlaaDoor
set_option maxRecDepth 100000
open Go.RowKit Go.Sort
attribute [local go_sem] setCell_drewN alloc_drewN
def Four (w : World) : Prop := 3 < w.heap.size ∧ w.cell? ⟨3, 0, none⟩ = some (.int .u64 9007199254740916) ∧ w.cell? ⟨3, 1, none⟩ = some (.int .u64 9007199254740988) ∧ w.cell? ⟨3, 2, none⟩ = some (.int .u64 9007199254740988) ∧ w.cell? ⟨3, 3, none⟩ = some (.int .u64 9007199254740988) ∧ w.cell? ⟨3, 4, none⟩ = some (.int .u64 9007199254740988)
theorem Four.below {w w' : World} (h : Four w) (hb : Below w.heap.size w w') : Four w' := by
 obtain ⟨h0, k0, k1, k2, k3, k4⟩ := h
 exact ⟨Nat.lt_of_lt_of_le h0 hb.size, (hb.cell (p := ⟨3, 0, none⟩) h0).trans k0, (hb.cell (p := ⟨3, 1, none⟩) h0).trans k1, (hb.cell (p := ⟨3, 2, none⟩) h0).trans k2, (hb.cell (p := ⟨3, 3, none⟩) h0).trans k3, (hb.cell (p := ⟨3, 4, none⟩) h0).trans k4⟩
end Go.Proofs.YtdcpcdkbhgkmlaaDoor
namespace Go.Proofs.YtdcpcdkbhgkmlaaDoor
set_option maxRecDepth 100000
open Go.RowKit Go.Sort
attribute [local go_sem] setCell_drewN alloc_drewN
end Go.Proofs.YtdcpcdkbhgkmlaaDoor
namespace Go.Proofs.YtdcpcdkbhgkmlaaDoor
set_option maxRecDepth 100000
open Go.RowKit Go.Sort
attribute [local go_sem] setCell_drewN alloc_drewN
def Gives4 (f : FuncId) (args : Array Value) (v : Value) : Prop := ∀ W, Four W → Calls Tryd.prog f args W fun e w' => e = .returned v ∧ Below W.heap.size W w'
theorem Gives4.at {f : FuncId} {args : Array Value} {v : Value} (h : Gives4 f args v) {W : World} (hW : Four W) : Calls Tryd.prog f args W fun e w' => e = .returned v ∧ Below W.heap.size W w' := h W hW
theorem Gives4.re {f : FuncId} {args : Array Value} {v : Value} (h : Gives4 f args v) {w : World} {d : Nat} {os : Array Obj} (hw : Four w) : Calls Tryd.prog f args (grow (redrawn w d) os) fun e w'' => e = .returned v ∧ ∃ p : Regrown, w'' = grow (redrawn w p.d) p.os := Calls.regrown_of (h _ (hw.below (below_regrown w d os)))
theorem Four.alloc {w : World} (h : Four w) (o : Obj) : Four (w.alloc o) := h.below ((Below.refl _ _).alloc (Nat.le_refl _) _)
end Go.Proofs.YtdcpcdkbhgkmlaaDoor
namespace Go.Proofs.YtdcpcdkbhgkmlaaDoor
set_option maxRecDepth 100000
open Go.RowKit Go.Sort
attribute [local go_sem] setCell_drewN alloc_drewN
theorem Four.belowN {w w' : World} {n : Nat} (h : Four w) (hn : 3 < n) (hb : Below n w w') : Four w' := by
 obtain ⟨h0, k0, k1, k2, k3, k4⟩ := h
 exact ⟨Nat.lt_of_lt_of_le h0 hb.size, (hb.cell (p := ⟨3, 0, none⟩) hn).trans k0, (hb.cell (p := ⟨3, 1, none⟩) hn).trans k1, (hb.cell (p := ⟨3, 2, none⟩) hn).trans k2, (hb.cell (p := ⟨3, 3, none⟩) hn).trans k3, (hb.cell (p := ⟨3, 4, none⟩) hn).trans k4⟩
theorem Four.setRow {w : World} {g : Nat} (h : Four w) (hg : 3 < g) (cs : Array Value) : Four (w.setRow g cs) :=
 h.belowN (n := 4) (by decide) (below_setRow (Below.refl _ _) hg cs)
end Go.Proofs.YtdcpcdkbhgkmlaaDoor
namespace Go.Proofs.YtdcpcdkbhgkmlaaDoor
set_option maxRecDepth 100000
open Go.RowKit Go.Sort
attribute [local go_sem] setCell_drewN alloc_drewN
theorem keep {w W : World} (hb : Below w.heap.size w W) {g : Nat} {o : Obj} (h : w.heap[g]? = some o) : W.heap[g]? = some o :=
 (hb.block _ (Array.getElem?_eq_some_iff.1 h).1).trans h
theorem keepr {w : World} {g : Nat} {o : Obj} (h : w.heap[g]? = some o) : Hid (∀ W, (∃ p : Regrown, W = grow (redrawn w p.d) p.os) → W.heap[g]? = some o) := by
 rintro _ ⟨p, rfl⟩; exact keep (below_regrown w p.d p.os) h
theorem lt_of_row {w : World} {g : Nat} {o : Obj} (h : w.heap[g]? = some o) : g < w.heap.size := (Array.getElem?_eq_some_iff.1 h).1
theorem Below.after {w w1 w2 : World} (h : Below w.heap.size w w1) (hb : Below w1.heap.size w1 w2) : Below w.heap.size w w2 := h.trans (hb.mono h.size)
theorem wpList_load_want {P : Program} {ops : Array Oper} {rest : List Oper} {o : Oper} {a : Act} {w : World} {Q : Exit → Act → World → Prop} (hw : Region.wanted o (yielded ops a.tmps) = true) (ty : TypeId) (x : Operand) (ho : o.op = .load ty x)
 (g : Nat) (hx : a.eval x = .pointer (some ⟨g, 0, none⟩)) (t : TypeId) (cs : Array Value) (fr : Nat × Nat) (d : TypeDesc) (hg : w.heap[g]? = some (.cells cs t fr))
 (hu : P.underlying ty = some d) (hd : (match d with | .struct _ | .array _ _ => true | _ => false) = true) (hi : (P.info? ty).map (·.size) = some cs.size)
 (h : wpList P ops Q rest (a.put o.dst (.agg cs)) w) : wpList P ops Q (o :: rest) a w :=
 BigFrame.wpList_want hw fun _ hK => wp_load_row ty x ho g hx t cs fr d hg hu hd hi (hK _ _ h)
end Go.Proofs.YtdcpcdkbhgkmlaaDoor
namespace Go.Proofs.YtdcpcdkbhgkmlaaDoor
set_option maxRecDepth 100000
open Go.RowKit Go.Sort
attribute [local go_sem] setCell_drewN alloc_drewN
end Go.Proofs.YtdcpcdkbhgkmlaaDoor
namespace Go.Proofs.YtdcpcdkbhgkmlaaDoor
set_option maxRecDepth 100000
open Go.RowKit Go.Sort
attribute [local go_sem] setCell_drewN alloc_drewN
section
variable {P : Program} {ops : Array Oper} {Q : Exit → Act → World → Prop} {md : Region.Mode} {S : World → Prop}
end
end Go.Proofs.YtdcpcdkbhgkmlaaDoor
namespace Go.Proofs.YtdcpcdkbhgkmlaaDoor
set_option maxRecDepth 100000
open Go.RowKit Go.Sort
attribute [local go_sem] setCell_drewN alloc_drewN
end Go.Proofs.YtdcpcdkbhgkmlaaDoor
namespace Go.Proofs.YtdcpcdkbhgkmlaaDoor
set_option maxRecDepth 100000
open Go.RowKit Go.Sort
abbrev q20 : Array Value := #[.int .u64 0, .int .u64 0, .int .u64 0, .int .u64 0, .int .u64 0, .int .u64 0, .int .u64 0, .int .u64 0, .int .u64 0, .int .u64 0, .int .u64 0, .int .u64 0, .int .u64 0, .int .u64 0, .int .u64 0, .int .u64 0, .int .u64 0, .int .u64 0, .int .u64 0, .int .u64 0]
abbrev q32 : Array Value := #[.int .u8 0, .int .u8 0, .int .u8 0, .int .u8 0, .int .u8 0, .int .u8 0, .int .u8 0, .int .u8 0, .int .u8 0, .int .u8 0, .int .u8 0, .int .u8 0, .int .u8 0, .int .u8 0, .int .u8 0, .int .u8 0, .int .u8 0, .int .u8 0, .int .u8 0, .int .u8 0, .int .u8 0, .int .u8 0, .int .u8 0, .int .u8 0, .int .u8 0, .int .u8 0, .int .u8 0, .int .u8 0, .int .u8 0, .int .u8 0, .int .u8 0, .int .u8 0]
attribute [local go_sem] setCell_drewN alloc_drewN
theorem nums_size {a b c d : Array Value} (ha : a.size = 5) (hb : b.size = 5) (hc : c.size = 5) (hd : d.size = 5) : (r4 a b c d).size = 20 := by rw [r4_size, ha, hb, hc, hd]
theorem sp_ty : (Tryd.prog.info? 75).map (·.size) = some 20 := by kernel_rfl
theorem ad_ty : (Tryd.prog.info? 104).map (·.size) = some 20 := by kernel_rfl
theorem pt_ty : (Tryd.prog.info? 30).map (·.size) = some 20 := by kernel_rfl
def SpO (r : Array Value) (P : E1) : Prop := ∃ xr yr zr tr X Y Z T, r = r4 xr yr zr tr ∧ NumOf xr X ∧ NumOf yr Y ∧ NumOf zr Z ∧ NumOf tr T ∧ Sp P X Y Z T
theorem SpO.size {r : Array Value} {P : E1} (h : SpO r P) : r.size = 20 := by
 obtain ⟨xr, yr, zr, tr, X, Y, Z, T, rfl, hx, hy, hz, ht, _⟩ := h
 exact nums_size hx.size hy.size hz.size ht.size
theorem SpO.info {r : Array Value} {P : E1} (h : SpO r P) : (Tryd.prog.info? 75).map (·.size) = some r.size := by rw [h.size]; exact sp_ty
theorem SpO.one {r : Array Value} {P : E1} (h : SpO r P) : r.all (·.oneCell') = true := by
 obtain ⟨xr, yr, zr, tr, X, Y, Z, T, rfl, hx, hy, hz, ht, _⟩ := h
 exact r4_one hx.one hy.one hz.one ht.one
def AdO (r : Array Value) (P : E1) : Prop := ∃ xr yr zr tr X Y Z T, r = r4 xr yr zr tr ∧ NumOf xr ((Y - X) * 121666) ∧ NumOf yr ((Y + X) * 121666) ∧ NumOf zr (Z * 243332) ∧ NumOf tr (T * 243330) ∧ Sp P X Y Z T
theorem AdO.size {r : Array Value} {P : E1} (h : AdO r P) : r.size = 20 := by
 obtain ⟨xr, yr, zr, tr, X, Y, Z, T, rfl, hx, hy, hz, ht, _⟩ := h
 exact nums_size hx.size hy.size hz.size ht.size
theorem AdO.info {r : Array Value} {P : E1} (h : AdO r P) : (Tryd.prog.info? 104).map (·.size) = some r.size := by rw [h.size]; exact ad_ty
theorem AdO.one {r : Array Value} {P : E1} (h : AdO r P) : r.all (·.oneCell') = true := by
 obtain ⟨xr, yr, zr, tr, X, Y, Z, T, rfl, hx, hy, hz, ht, _⟩ := h
 exact r4_one hx.one hy.one hz.one ht.one
def PtO (r : Array Value) (P : E1) : Prop := ∃ xr yr zr tr X Y Z T, r = r4 xr yr zr tr ∧ NumOf xr X ∧ NumOf yr Y ∧ NumOf zr Z ∧ NumOf tr T ∧ Sp P X (Y + 1) (Z + 1) T
theorem PtO.size {r : Array Value} {P : E1} (h : PtO r P) : r.size = 20 := by
 obtain ⟨xr, yr, zr, tr, X, Y, Z, T, rfl, hx, hy, hz, ht, _⟩ := h
 exact nums_size hx.size hy.size hz.size ht.size
theorem PtO.info {r : Array Value} {P : E1} (h : PtO r P) : (Tryd.prog.info? 30).map (·.size) = some r.size := by rw [h.size]; exact pt_ty
theorem PtO.one {r : Array Value} {P : E1} (h : PtO r P) : r.all (·.oneCell') = true := by
 obtain ⟨xr, yr, zr, tr, X, Y, Z, T, rfl, hx, hy, hz, ht, _⟩ := h
 exact r4_one hx.one hy.one hz.one ht.one
end Go.Proofs.YtdcpcdkbhgkmlaaDoor
namespace Go.Proofs.YtdcpcdkbhgkmlaaDoor
set_option maxRecDepth 100000
open Go.RowKit Go.Sort
attribute [local go_sem] setCell_drewN alloc_drewN
end Go.Proofs.YtdcpcdkbhgkmlaaDoor
namespace Go.Proofs.YtdcpcdkbhgkmlaaDoor
set_option maxRecDepth 100000
open Go.RowKit Go.Sort
attribute [local go_sem] setCell_drewN alloc_drewN
def ucells : Array Value := #[.int .u64 1718705420411056, .int .u64 234908883556509, .int .u64 2233514472574048, .int .u64 2117202627021982, .int .u64 765476049583133]
def Both (w : World) : Prop := Four w ∧ ∃ t fr, w.heap[4]? = some (.cells ucells t fr)
theorem Both.sz {w : World} (h : Both w) : 4 < w.heap.size := by
 obtain ⟨_, t, fr, hu⟩ := h
 exact (Array.getElem?_eq_some_iff.1 hu).1
theorem Both.belowN {w w' : World} {n : Nat} (h : Both w) (hn : 4 < n) (hb : Below n w w') : Both w' := by
 obtain ⟨h4, t, fr, hu⟩ := h
 exact ⟨h4.belowN (by omega) hb, t, fr, (hb.block 4 hn).trans hu⟩
theorem Both.below {w w' : World} (h : Both w) (hb : Below w.heap.size w w') : Both w' := h.belowN h.sz hb
theorem Both.alloc {w : World} (h : Both w) (o : Obj) : Both (w.alloc o) := h.below ((Below.refl _ _).alloc (Nat.le_refl _) _)
theorem Both.setRow {w : World} {g : Nat} (h : Both w) (hg : 4 < g) (cs : Array Value) : Both (w.setRow g cs) := h.belowN (n := 5) (by decide) (below_setRow (Below.refl _ _) hg cs)
def Gives5 (f : FuncId) (args : Array Value) (v : Value) : Prop := ∀ W, Both W → Calls Tryd.prog f args W fun e w' => e = .returned v ∧ Below W.heap.size W w'
theorem Gives5.at {f : FuncId} {args : Array Value} {v : Value} (h : Gives5 f args v) {W : World} (hW : Both W) : Calls Tryd.prog f args W fun e w' => e = .returned v ∧ Below W.heap.size W w' := h W hW
theorem Gives5.re {f : FuncId} {args : Array Value} {v : Value} (h : Gives5 f args v) {w : World} {d : Nat} {os : Array Obj} (hw : Both w) : Calls Tryd.prog f args (grow (redrawn w d) os) fun e w'' => e = .returned v ∧ ∃ p : Regrown, w'' = grow (redrawn w p.d) p.os := Calls.regrown_of (h _ (hw.below (below_regrown w d os)))
theorem results_row_slot {P : Program} {fn : Func} {p q : Tmp} {ty : TypeId} (h : fn.results = #[.cell p ty, .tmp q]) (tmps : Array Value) (w : World) (g : Nat) (t : TypeId) (cs : Array Value) (fr : Nat × Nat) (d : TypeDesc) (v : Value)
 (hp : tmps.getD p undef = .pointer (some ⟨g, 0, none⟩)) (hg : w.heap[g]? = some (.cells cs t fr)) (hq : tmps.getD q undef = v)
 (hu : P.underlying ty = some d) (hd : (match d with | .struct _ | .array _ _ => true | _ => false) = true) (hi : (P.info? ty).map (·.size) = some cs.size) :
 (results fn tmps).run P w = .ok (.tuple #[.agg cs, v]) w := by
 have hp' : tmps[p]?.getD undef = .pointer (some ⟨g, 0, none⟩) := by simpa using hp
 have hq' : tmps[q]?.getD undef = v := by simpa using hq
 simp [results, h, hp', hq', asAddr, run_loadVar_row w g t ty cs fr d hg hu hd hi]
end Go.Proofs.YtdcpcdkbhgkmlaaDoor
namespace Go.Proofs.YtdcpcdkbhgkmlaaDoor
set_option maxRecDepth 100000
open Go.RowKit Go.Sort
attribute [local go_sem] setCell_drewN alloc_drewN
def WpStay (p : Prop) : Prop := p
theorem wpList_stay {P : Program} {ops : Array Oper} {rest : List Oper} {a : Act} {w : World} {Q : Exit → Act → World → Prop} (h : WpStay (wpList P ops Q rest a w)) : wpList P ops Q rest a w := h
theorem run_loadVar_int {P : Program} (w : World) (g o : Nat) (ty : TypeId) (v : Value) (hc : w.cell? ⟨g, o, none⟩ = some v) {k : IntKind} (hu : P.underlying ty = some (.int k)) : (loadVar ty ⟨g, o, none⟩).run P w = .ok v w := by
 simp [loadVar, isAgg, run_underlying hu, hc, go_sem]
theorem wpList_load_cell31 {P : Program} {ops : Array Oper} {rest : List Oper} {o : Oper} {a : Act} {w : World} {Q : Exit → Act → World → Prop} (hw : Region.wanted o (yielded ops a.tmps) = true) (ty : TypeId) (x : Operand) (ho : o.op = .load ty x)
 (g off : Nat) (hx : a.eval x = .pointer (some ⟨g, off, none⟩)) (v : Value) (hc : w.cell? ⟨g, off, none⟩ = some v) {k : IntKind} (hu : P.underlying ty = some (.int k))
 (h : wpList P ops Q rest (a.put o.dst v) w) : wpList P ops Q (o :: rest) a w := by
 refine BigFrame.wpList_want hw fun _ hK => ?_
 unfold Oper.wp execOp
 simp only [ho, hx, Instr.loadAt, Instr.sureAddr, Sem.run_bind, Sem.run_pure, Result.andThen_ok, run_loadVar_int w g off ty v hc hu]
 exact hK _ _ h
theorem wpList_store_cell31 {P : Program} {ops : Array Oper} {rest : List Oper} {o : Oper} {a : Act} {w : World} {Q : Exit → Act → World → Prop} (hgd : o.guard = none) (ty : TypeId) (x y : Operand) (ho : o.op = .store ty x y)
 (g off : Nat) (hx : a.eval x = .pointer (some ⟨g, off, none⟩)) (v : Value) (hy : a.eval y = v)
 (t : TypeId) (old : Array Value) (hg : w.heap[g]? = some (.cells old t (0, 0))) (hle : off < old.size) (hi : (P.info? ty).map (·.size) = some 1) (h1 : v.oneCell' = true)
 (h : wpList P ops Q rest (a.put o.dst undef) (w.setRow g (old.setIfInBounds off v))) : wpList P ops Q (o :: rest) a w := by
 refine wpList_plain hgd fun _ hK => ?_
 have hs := run_storeVar_mid (P := P) w g off ty #[v] (there_row hg (by simp; omega)) (by simpa using hi) (by simpa using h1)
 have e : w.setCells g off [v] = w.setRow g (old.setIfInBounds off v) := setCells_eq [v] off w old hg
 have hs' : (storeVar ty ⟨g, off, none⟩ v).run P w = .ok () (w.setRow g (old.setIfInBounds off v)) := by
  rw [← e]
  cases v <;> first | (simp [Value.oneCell'] at h1; done) | exact hs
 unfold Oper.wp execOp
 simp only [ho, hx, hy, Instr.storeAt, Instr.sureAddr, Sem.run_bind, Sem.run_pure, Result.andThen_ok, hs']
 exact hK _ _ h
theorem all32' {k0 : Int} {k1 : Int} {k2 : Int} {k3 : Int} {k4 : Int} {k5 : Int} {k6 : Int} {k7 : Int} {k8 : Int} {k9 : Int} {k10 : Int} {k11 : Int} {k12 : Int} {k13 : Int} {k14 : Int} {k15 : Int} {k16 : Int} {k17 : Int} {k18 : Int} {k19 : Int} {k20 : Int} {k21 : Int} {k22 : Int} {k23 : Int} {k24 : Int} {k25 : Int} {k26 : Int} {k27 : Int} {k28 : Int} {k29 : Int} {k30 : Int} {k31 : Int} (h0 : 0 ≤ k0 ∧ k0 < 256) (h1 : 0 ≤ k1 ∧ k1 < 256) (h2 : 0 ≤ k2 ∧ k2 < 256) (h3 : 0 ≤ k3 ∧ k3 < 256) (h4 : 0 ≤ k4 ∧ k4 < 256) (h5 : 0 ≤ k5 ∧ k5 < 256) (h6 : 0 ≤ k6 ∧ k6 < 256) (h7 : 0 ≤ k7 ∧ k7 < 256) (h8 : 0 ≤ k8 ∧ k8 < 256) (h9 : 0 ≤ k9 ∧ k9 < 256) (h10 : 0 ≤ k10 ∧ k10 < 256) (h11 : 0 ≤ k11 ∧ k11 < 256) (h12 : 0 ≤ k12 ∧ k12 < 256) (h13 : 0 ≤ k13 ∧ k13 < 256) (h14 : 0 ≤ k14 ∧ k14 < 256) (h15 : 0 ≤ k15 ∧ k15 < 256) (h16 : 0 ≤ k16 ∧ k16 < 256) (h17 : 0 ≤ k17 ∧ k17 < 256) (h18 : 0 ≤ k18 ∧ k18 < 256) (h19 : 0 ≤ k19 ∧ k19 < 256) (h20 : 0 ≤ k20 ∧ k20 < 256) (h21 : 0 ≤ k21 ∧ k21 < 256) (h22 : 0 ≤ k22 ∧ k22 < 256) (h23 : 0 ≤ k23 ∧ k23 < 256) (h24 : 0 ≤ k24 ∧ k24 < 256) (h25 : 0 ≤ k25 ∧ k25 < 256) (h26 : 0 ≤ k26 ∧ k26 < 256) (h27 : 0 ≤ k27 ∧ k27 < 256) (h28 : 0 ≤ k28 ∧ k28 < 256) (h29 : 0 ≤ k29 ∧ k29 < 256) (h30 : 0 ≤ k30 ∧ k30 < 256) (h31 : 0 ≤ k31 ∧ k31 < 256) : ∀ z ∈ [k0, k1, k2, k3, k4, k5, k6, k7, k8, k9, k10, k11, k12, k13, k14, k15, k16, k17, k18, k19, k20, k21, k22, k23, k24, k25, k26, k27, k28, k29, k30, k31], 0 ≤ z ∧ z < 256 := by
 intro z hz
 simp only [List.mem_cons, List.not_mem_nil, or_false] at hz
 rcases hz with rfl | rfl | rfl | rfl | rfl | rfl | rfl | rfl | rfl | rfl | rfl | rfl | rfl | rfl | rfl | rfl | rfl | rfl | rfl | rfl | rfl | rfl | rfl | rfl | rfl | rfl | rfl | rfl | rfl | rfl | rfl | rfl <;> assumption
theorem key_is {r : Array Value} {N : Int} (h : KeyOf r N) : r = kb N := by
 obtain ⟨k0, k1, k2, k3, k4, k5, k6, k7, k8, k9, k10, k11, k12, k13, k14, k15, k16, k17, k18, k19, k20, k21, k22, k23, k24, k25, k26, k27, k28, k29, k30, k31, rfl, ⟨h0, h1, h2, h3, h4, h5, h6, h7, h8, h9, h10, h11, h12, h13, h14, h15, h16, h17, h18, h19, h20, h21, h22, h23, h24, h25, h26, h27, h28, h29, h30, h31⟩, rfl⟩ := h
 have hb := all32' h0 h1 h2 h3 h4 h5 h6 h7 h8 h9 h10 h11 h12 h13 h14 h15 h16 h17 h18 h19 h20 h21 h22 h23 h24 h25 h26 h27 h28 h29 h30 h31
 unfold kb
 rw [show byt (kv k0 k1 k2 k3 k4 k5 k6 k7 k8 k9 k10 k11 k12 k13 k14 k15 k16 k17 k18 k19 k20 k21 k22 k23 k24 k25 k26 k27 k28 k29 k30 k31) 0 = k0 from byt_valB _ hb 0 (by simp), show byt (kv k0 k1 k2 k3 k4 k5 k6 k7 k8 k9 k10 k11 k12 k13 k14 k15 k16 k17 k18 k19 k20 k21 k22 k23 k24 k25 k26 k27 k28 k29 k30 k31) 1 = k1 from byt_valB _ hb 1 (by simp), show byt (kv k0 k1 k2 k3 k4 k5 k6 k7 k8 k9 k10 k11 k12 k13 k14 k15 k16 k17 k18 k19 k20 k21 k22 k23 k24 k25 k26 k27 k28 k29 k30 k31) 2 = k2 from byt_valB _ hb 2 (by simp), show byt (kv k0 k1 k2 k3 k4 k5 k6 k7 k8 k9 k10 k11 k12 k13 k14 k15 k16 k17 k18 k19 k20 k21 k22 k23 k24 k25 k26 k27 k28 k29 k30 k31) 3 = k3 from byt_valB _ hb 3 (by simp), show byt (kv k0 k1 k2 k3 k4 k5 k6 k7 k8 k9 k10 k11 k12 k13 k14 k15 k16 k17 k18 k19 k20 k21 k22 k23 k24 k25 k26 k27 k28 k29 k30 k31) 4 = k4 from byt_valB _ hb 4 (by simp), show byt (kv k0 k1 k2 k3 k4 k5 k6 k7 k8 k9 k10 k11 k12 k13 k14 k15 k16 k17 k18 k19 k20 k21 k22 k23 k24 k25 k26 k27 k28 k29 k30 k31) 5 = k5 from byt_valB _ hb 5 (by simp), show byt (kv k0 k1 k2 k3 k4 k5 k6 k7 k8 k9 k10 k11 k12 k13 k14 k15 k16 k17 k18 k19 k20 k21 k22 k23 k24 k25 k26 k27 k28 k29 k30 k31) 6 = k6 from byt_valB _ hb 6 (by simp), show byt (kv k0 k1 k2 k3 k4 k5 k6 k7 k8 k9 k10 k11 k12 k13 k14 k15 k16 k17 k18 k19 k20 k21 k22 k23 k24 k25 k26 k27 k28 k29 k30 k31) 7 = k7 from byt_valB _ hb 7 (by simp), show byt (kv k0 k1 k2 k3 k4 k5 k6 k7 k8 k9 k10 k11 k12 k13 k14 k15 k16 k17 k18 k19 k20 k21 k22 k23 k24 k25 k26 k27 k28 k29 k30 k31) 8 = k8 from byt_valB _ hb 8 (by simp), show byt (kv k0 k1 k2 k3 k4 k5 k6 k7 k8 k9 k10 k11 k12 k13 k14 k15 k16 k17 k18 k19 k20 k21 k22 k23 k24 k25 k26 k27 k28 k29 k30 k31) 9 = k9 from byt_valB _ hb 9 (by simp), show byt (kv k0 k1 k2 k3 k4 k5 k6 k7 k8 k9 k10 k11 k12 k13 k14 k15 k16 k17 k18 k19 k20 k21 k22 k23 k24 k25 k26 k27 k28 k29 k30 k31) 10 = k10 from byt_valB _ hb 10 (by simp), show byt (kv k0 k1 k2 k3 k4 k5 k6 k7 k8 k9 k10 k11 k12 k13 k14 k15 k16 k17 k18 k19 k20 k21 k22 k23 k24 k25 k26 k27 k28 k29 k30 k31) 11 = k11 from byt_valB _ hb 11 (by simp), show byt (kv k0 k1 k2 k3 k4 k5 k6 k7 k8 k9 k10 k11 k12 k13 k14 k15 k16 k17 k18 k19 k20 k21 k22 k23 k24 k25 k26 k27 k28 k29 k30 k31) 12 = k12 from byt_valB _ hb 12 (by simp), show byt (kv k0 k1 k2 k3 k4 k5 k6 k7 k8 k9 k10 k11 k12 k13 k14 k15 k16 k17 k18 k19 k20 k21 k22 k23 k24 k25 k26 k27 k28 k29 k30 k31) 13 = k13 from byt_valB _ hb 13 (by simp), show byt (kv k0 k1 k2 k3 k4 k5 k6 k7 k8 k9 k10 k11 k12 k13 k14 k15 k16 k17 k18 k19 k20 k21 k22 k23 k24 k25 k26 k27 k28 k29 k30 k31) 14 = k14 from byt_valB _ hb 14 (by simp), show byt (kv k0 k1 k2 k3 k4 k5 k6 k7 k8 k9 k10 k11 k12 k13 k14 k15 k16 k17 k18 k19 k20 k21 k22 k23 k24 k25 k26 k27 k28 k29 k30 k31) 15 = k15 from byt_valB _ hb 15 (by simp), show byt (kv k0 k1 k2 k3 k4 k5 k6 k7 k8 k9 k10 k11 k12 k13 k14 k15 k16 k17 k18 k19 k20 k21 k22 k23 k24 k25 k26 k27 k28 k29 k30 k31) 16 = k16 from byt_valB _ hb 16 (by simp), show byt (kv k0 k1 k2 k3 k4 k5 k6 k7 k8 k9 k10 k11 k12 k13 k14 k15 k16 k17 k18 k19 k20 k21 k22 k23 k24 k25 k26 k27 k28 k29 k30 k31) 17 = k17 from byt_valB _ hb 17 (by simp), show byt (kv k0 k1 k2 k3 k4 k5 k6 k7 k8 k9 k10 k11 k12 k13 k14 k15 k16 k17 k18 k19 k20 k21 k22 k23 k24 k25 k26 k27 k28 k29 k30 k31) 18 = k18 from byt_valB _ hb 18 (by simp), show byt (kv k0 k1 k2 k3 k4 k5 k6 k7 k8 k9 k10 k11 k12 k13 k14 k15 k16 k17 k18 k19 k20 k21 k22 k23 k24 k25 k26 k27 k28 k29 k30 k31) 19 = k19 from byt_valB _ hb 19 (by simp), show byt (kv k0 k1 k2 k3 k4 k5 k6 k7 k8 k9 k10 k11 k12 k13 k14 k15 k16 k17 k18 k19 k20 k21 k22 k23 k24 k25 k26 k27 k28 k29 k30 k31) 20 = k20 from byt_valB _ hb 20 (by simp), show byt (kv k0 k1 k2 k3 k4 k5 k6 k7 k8 k9 k10 k11 k12 k13 k14 k15 k16 k17 k18 k19 k20 k21 k22 k23 k24 k25 k26 k27 k28 k29 k30 k31) 21 = k21 from byt_valB _ hb 21 (by simp), show byt (kv k0 k1 k2 k3 k4 k5 k6 k7 k8 k9 k10 k11 k12 k13 k14 k15 k16 k17 k18 k19 k20 k21 k22 k23 k24 k25 k26 k27 k28 k29 k30 k31) 22 = k22 from byt_valB _ hb 22 (by simp), show byt (kv k0 k1 k2 k3 k4 k5 k6 k7 k8 k9 k10 k11 k12 k13 k14 k15 k16 k17 k18 k19 k20 k21 k22 k23 k24 k25 k26 k27 k28 k29 k30 k31) 23 = k23 from byt_valB _ hb 23 (by simp), show byt (kv k0 k1 k2 k3 k4 k5 k6 k7 k8 k9 k10 k11 k12 k13 k14 k15 k16 k17 k18 k19 k20 k21 k22 k23 k24 k25 k26 k27 k28 k29 k30 k31) 24 = k24 from byt_valB _ hb 24 (by simp), show byt (kv k0 k1 k2 k3 k4 k5 k6 k7 k8 k9 k10 k11 k12 k13 k14 k15 k16 k17 k18 k19 k20 k21 k22 k23 k24 k25 k26 k27 k28 k29 k30 k31) 25 = k25 from byt_valB _ hb 25 (by simp), show byt (kv k0 k1 k2 k3 k4 k5 k6 k7 k8 k9 k10 k11 k12 k13 k14 k15 k16 k17 k18 k19 k20 k21 k22 k23 k24 k25 k26 k27 k28 k29 k30 k31) 26 = k26 from byt_valB _ hb 26 (by simp), show byt (kv k0 k1 k2 k3 k4 k5 k6 k7 k8 k9 k10 k11 k12 k13 k14 k15 k16 k17 k18 k19 k20 k21 k22 k23 k24 k25 k26 k27 k28 k29 k30 k31) 27 = k27 from byt_valB _ hb 27 (by simp), show byt (kv k0 k1 k2 k3 k4 k5 k6 k7 k8 k9 k10 k11 k12 k13 k14 k15 k16 k17 k18 k19 k20 k21 k22 k23 k24 k25 k26 k27 k28 k29 k30 k31) 28 = k28 from byt_valB _ hb 28 (by simp), show byt (kv k0 k1 k2 k3 k4 k5 k6 k7 k8 k9 k10 k11 k12 k13 k14 k15 k16 k17 k18 k19 k20 k21 k22 k23 k24 k25 k26 k27 k28 k29 k30 k31) 29 = k29 from byt_valB _ hb 29 (by simp), show byt (kv k0 k1 k2 k3 k4 k5 k6 k7 k8 k9 k10 k11 k12 k13 k14 k15 k16 k17 k18 k19 k20 k21 k22 k23 k24 k25 k26 k27 k28 k29 k30 k31) 30 = k30 from byt_valB _ hb 30 (by simp), show byt (kv k0 k1 k2 k3 k4 k5 k6 k7 k8 k9 k10 k11 k12 k13 k14 k15 k16 k17 k18 k19 k20 k21 k22 k23 k24 k25 k26 k27 k28 k29 k30 k31) 31 = k31 from byt_valB _ hb 31 (by simp)]
end Go.Proofs.YtdcpcdkbhgkmlaaDoor

