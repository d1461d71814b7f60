import Derived.Test.YtpconccafpcpnaaDoorProg
import Derived.WalkKit
import Derived.WalkSpells
import Derived.WalkLawsBesides
import Derived.Lib.QuietBelow
import Derived.BigQuiet
import Derived.Test.YtpconccafpcpnaaDoorKa
import Derived.Test.YtpconccafpcpnaaDoorAb
import Derived.Test.YtpconccafpcpnaaDoorRd
import Derived.Test.YtpconccafpcpnaaDoorRe
import Derived.Test.YtpconccafpcpnaaDoorRf
import Derived.Test.YtpconccafpcpnaaDoorFf
namespace Go.Proofs.YtpconccafpcpnaaDoor
set_option maxRecDepth 100000
open Go.RowKit Go.Sort
attribute [local go_sem] setCell_drewN alloc_drewN


/-- The cells of the document's number m. -/
def rd (m : Int) : Array Value := #[.int .u64 (dg m 0), .int .u64 (dg m 1), .int .u64 (dg m 2), .int .u64 (dg m 3), .int .u64 (dg m 4), .int .u64 (dg m 5), .int .u64 (dg m 6), .int .u64 (dg m 7), .int .u64 (dg m 8), .int .u64 (dg m 9), .int .u64 (dg m 10), .int .u64 (dg m 11), .int .u64 (dg m 12), .int .u64 (dg m 13), .int .u64 (dg m 14), .int .u64 (dg m 15)]
theorem rd_size (m : Int) : (rd m).size = 16 := rfl
theorem rd_one (m : Int) : (rd m).all (·.oneCell') = true := by kernel_rfl
theorem ref_info : (Tryd.prog.info? 30).map (·.size) = some 16 := by kernel_rfl
theorem rd_info (m : Int) : (Tryd.prog.info? 30).map (·.size) = some (rd m).size := ref_info
theorem rd_zero : rd 0 = #[.int .u64 0, .int .u64 0, .int .u64 0, .int .u64 0, .int .u64 0, .int .u64 0, .int .u64 0, .int .u64 0, .int .u64 0, .int .u64 0, .int .u64 0, .int .u64 0, .int .u64 0, .int .u64 0, .int .u64 0, .int .u64 0] := by simp [rd, dg]
/-- Below P. -/
def inP (m : Int) : Prop := 0 ≤ m ∧ m < prm
theorem inP_mod (x : Int) : inP (x % prm) := by unfold inP prm; omega
theorem r_from {k : Array Value} {N : Int} (h : KeyOf k N) : Gives 40 #[.agg k] (.agg (rd (N % 57896044618658097711785492504343953926634992332820282019728792003956564819968 % prm))) := by
  obtain ⟨k0, k1, k2, k3, k4, k5, k6, k7, k8, k9, k10, k11, k12, k13, k14, k15, k16, k17, k18, k19, k20, k21, k22, k23, k24, k25, k26, k27, k28, k29, k30, k31, rfl, ⟨h0, h1, h2, h3, h4, h5, h6, h7, h8, h9, h10, h11, h12, h13, h14, h15, h16, h17, h18, h19, h20, h21, h22, h23, h24, h25, h26, h27, h28, h29, h30, h31⟩, rfl⟩ := h
  exact fun W => refFrom_any k0 k1 k2 k3 k4 k5 k6 k7 k8 k9 k10 k11 k12 k13 k14 k15 k16 k17 k18 k19 k20 k21 k22 k23 k24 k25 k26 k27 k28 k29 k30 k31 h0.1 h0.2 h1.1 h1.2 h2.1 h2.2 h3.1 h3.2 h4.1 h4.2 h5.1 h5.2 h6.1 h6.2 h7.1 h7.2 h8.1 h8.2 h9.1 h9.2 h10.1 h10.2 h11.1 h11.2 h12.1 h12.2 h13.1 h13.2 h14.1 h14.2 h15.1 h15.2 h16.1 h16.2 h17.1 h17.2 h18.1 h18.2 h19.1 h19.2 h20.1 h20.2 h21.1 h21.2 h22.1 h22.2 h23.1 h23.2 h24.1 h24.2 h25.1 h25.2 h26.1 h26.2 h27.1 h27.2 h28.1 h28.2 h29.1 h29.2 h30.1 h30.2 h31.1 h31.2 W
theorem r_bytes (m : Int) : Gives 16 #[.agg (rd m)] (.agg (kb m)) := fun W => refBytes_dg m W
theorem r_mul {m q : Int} (h : inP m) (g : inP q) : Gives 44 #[.agg (rd m), .agg (rd q)] (.agg (rd (m * q % prm))) := fun W => refMul_dg m q h.1 h.2 g.1 g.2 W
theorem r_small (x : Int) (l : 0 ≤ x) (u : x < 18446744073709551616) : Gives 18 #[.int .u64 x] (.agg (rd x)) := fun W => refSmall_any x l u W
theorem r_times {m : Int} (h : inP m) (x : Int) (l : 0 ≤ x) (u : x < 4294967296) : Gives 46 #[.agg (rd m), .int .u32 x] (.agg (rd (m * x % prm))) := fun W => refTimes_any m x h.1 h.2 l u W
set_option maxHeartbeats 1000000 in
theorem r_square {m : Int} (h : inP m) : Gives 45 #[.agg (rd m)] (.agg (rd (m * m % prm))) := by
  have c := r_mul h h
  generalize m * m % prm = q at *
  intro w
  go_enter Tryd.func45, Tryd.ntmps45
  go_wp2_with (first | (refine wpList_load_row rfl 30 _ rfl w.heap.size rfl 30 (rd m) (0, 0) _ (hp2_0 w _ _) Tryd.underlying30 rfl (rd_info m) ?_) | fail)
  refine (c.at _).mono ?_
  rintro e w1 ⟨rfl, hb⟩
  have rZ : w1.heap[w.heap.size + 1]? = some (.cells #[.int .u64 0, .int .u64 0, .int .u64 0, .int .u64 0, .int .u64 0, .int .u64 0, .int .u64 0, .int .u64 0, .int .u64 0, .int .u64 0, .int .u64 0, .int .u64 0, .int .u64 0, .int .u64 0, .int .u64 0, .int .u64 0] 30 (0, 0)) := (hb.block _ (by simp)).trans (hp2_1 w _ _)
  have hbw : Below w.heap.size w w1 := (((Below.refl _ _).alloc (Nat.le_refl _) _).alloc (by simp) _).trans (hb.mono (by simp; omega))
  clear hb
  go_wp2_with (first | (refine wpList_store_row rfl 30 _ _ rfl (w.heap.size + 1) (rd q) rfl rfl 30 _ rZ (rd_info q) rfl (rd_one q) ?_) | fail)
  exact bodyPost_ret (v := .agg (rd q)) (results_cell_row Tryd.results45 _ _ (w.heap.size + 1) _ (rd q) _ _ rfl (setRow_heap _ _ _ _ _ _ rZ) Tryd.underlying30 rfl (rd_info q)) rfl ⟨rfl, below_setRow hbw (by omega) _⟩

end Go.Proofs.YtpconccafpcpnaaDoor

