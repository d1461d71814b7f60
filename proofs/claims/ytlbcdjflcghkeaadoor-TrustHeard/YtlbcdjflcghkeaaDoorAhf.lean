import Derived.Test.YtlbcdjflcghkeaaDoorProg
import Derived.WalkKit
import Derived.Lib.QuietBelow
import Derived.BigQuiet
import Derived.OrdersHeld
import Derived.Deep.RegionHeld3
import Derived.OwnWalk
import Derived.Deep.Cut
import Derived.Test.YtlbcdjflcghkeaaDoorKa
import Derived.Test.YtlbcdjflcghkeaaDoorSgl
import Derived.Test.YtlbcdjflcghkeaaDoorAhb
import Derived.Test.YtlbcdjflcghkeaaDoorAhe
namespace Go.Proofs.YtlbcdjflcghkeaaDoor
set_option maxRecDepth 100000
open Go Go.RowKit Go.Sort
attribute [local go_sem] setCell_drewN alloc_drewN
/-- The table of the powers of ten, in its block. -/
def Pow (W : World) : Prop := ∃ t fr, W.heap[3]? = some (.cells (Lib.pow10Tab.map fun z => Value.int .u64 z).toArray t fr)
theorem Pow.tab {W : World} (h : Pow W) : Lib.TabIs Tryd.prog W "internal/strconv.uint64pow10" .u64 Lib.pow10Tab := by
  obtain ⟨t, fr, h⟩ := h
  have e : Tryd.prog.globalNamed "internal/strconv.uint64pow10" = some 3 := by kernel_rfl
  unfold Lib.TabIs World.var?
  rw [e]
  simp only [Option.bind_some, h]
theorem Pow.belowN {W W' : World} {n : Nat} (h : Pow W) (hn : 3 < n) (hb : Below n W W') : Pow W' := by obtain ⟨t, fr, h⟩ := h; exact ⟨t, fr, (hb.block 3 hn).trans h⟩
theorem Pow.sz {W : World} (h : Pow W) : 3 < W.heap.size := by obtain ⟨_, _, h⟩ := h; exact (Array.getElem?_eq_some_iff.1 h).1
theorem Pow.below {W W' : World} (h : Pow W) (hb : Below W.heap.size W W') : Pow W' := h.belowN h.sz hb
/-- A constant's bytes, marked. -/
theorem freeze_heap {W : World} {g k : Nat} {C : Array Value} {e : TypeId} (hg : W.heap[g]? = some (.cells C e (0, 0))) : (W.freeze ⟨g, k, none⟩ 1).heap[g]? = some (.cells C e (k, k + 1)) := by
  unfold World.freeze
  rw [if_neg (by decide)]
  simp [Array.getElem?_modify, hg]
theorem freeze_other {W : World} {g k z : Nat} (h : z ≠ g) : (W.freeze ⟨g, k, none⟩ 1).heap[z]? = W.heap[z]? := by
  unfold World.freeze
  rw [if_neg (by decide)]
  simp [Array.getElem?_modify, Ne.symm h]
theorem freeze_below (W : World) (g k : Nat) : Below g W (W.freeze ⟨g, k, none⟩ 1) :=
  ⟨by unfold World.freeze; rw [if_neg (by decide)], by unfold World.freeze; rw [if_neg (by decide)], by unfold World.freeze; rw [if_neg (by decide)], by unfold World.freeze; rw [if_neg (by decide)]; simp, fun z hz => freeze_other (by omega)⟩
theorem op_cvC {o : Oper} {a : Act} {W : World} (x : Operand) (ho : o.op = .convert 67 67 x) (g n c : Nat) (hx : a.eval x = .slice (some ⟨g, 0, none⟩) n c) (C : Array Value) (hg : W.heap[g]? = some (.cells C 5 (0, 0))) : (execOp a.eval o).run Tryd.prog W = .ok (.value (.slice (some ⟨g, 0, none⟩) n c)) (W.freeze ⟨g, C.size, none⟩ 1) := by
  have hsh : W.shape? g = some (5, C.size) := by unfold World.shape?; rw [hg]
  have hr : (convert 67 67 (.slice (some ⟨g, 0, none⟩) n c)).run Tryd.prog W = .ok (.slice (some ⟨g, 0, none⟩) n c) (W.freeze ⟨g, C.size, none⟩ 1) := by
    simp [convert, run_underlying Tryd.underlying67, run_underlying Tryd.underlying5, markStringish, hsh]
  unfold execOp
  simp only [ho, hx, Sem.run_bind, Sem.run_pure, hr, Result.andThen_ok]
def sfn : List Int := [112, 97, 119, 108, 32, 115, 97, 102, 101, 116, 121]
theorem sfn_bd : ∀ z ∈ sfn, 0 ≤ z ∧ z < 256 := by decide
theorem sfn_news {W : World} {g : Nat} {t : TypeId} {fr : Nat × Nat} (rg : W.heap[g]? = some (.cells #[.int .u8 112, .int .u8 97, .int .u8 119, .int .u8 108, .int .u8 32, .int .u8 115, .int .u8 97, .int .u8 102, .int .u8 101, .int .u8 116, .int .u8 121] t fr)) : ∀ j u, (sfn.map (Value.int .u8))[j]? = some u → W.cell? ((⟨g, 0, none⟩ : Addr).add j) = some u := by
  intro j u hu
  rw [addr_add, cell_of_row _ _ _ _ _ _ rg, Nat.zero_add]
  simpa [sfn] using hu
theorem wpList_wop {P : Program} {ops : Array Oper} {rest : List Oper} {o : Oper} {a : Act} {w : World} {Q : Exit → Act → World → Prop} (hgd : o.guard = none) (v : Value) (w' : World) (hr : (execOp a.eval o).run P w = .ok (.value v) w') (h : wpList P ops Q rest (a.put o.dst v) w') : wpList P ops Q (o :: rest) a w :=
  wpList_plain hgd fun _ hK => wp_world_op _ _ hr (hK _ _ h)
theorem run_bs11 (W : World) : (Instr.buildSlice 67 11 #[(0, .int .u8 112), (1, .int .u8 97), (2, .int .u8 119), (3, .int .u8 108), (4, .int .u8 32), (5, .int .u8 115), (6, .int .u8 97), (7, .int .u8 102), (8, .int .u8 101), (9, .int .u8 116), (10, .int .u8 121)]).run Tryd.prog W = .ok (.slice (some ⟨W.heap.size, 0, none⟩) 11 11) (W.alloc (.cells #[.int .u8 112, .int .u8 97, .int .u8 119, .int .u8 108, .int .u8 32, .int .u8 115, .int .u8 97, .int .u8 102, .int .u8 101, .int .u8 116, .int .u8 121] 5)) := by kernel_rfl
theorem op_bs11 {o : Oper} {a : Act} {w : World} (ho : o.op = .buildSlice 67 11 #[(0, .const (.int .u8 112)), (1, .const (.int .u8 97)), (2, .const (.int .u8 119)), (3, .const (.int .u8 108)), (4, .const (.int .u8 32)), (5, .const (.int .u8 115)), (6, .const (.int .u8 97)), (7, .const (.int .u8 102)), (8, .const (.int .u8 101)), (9, .const (.int .u8 116)), (10, .const (.int .u8 121))]) : (execOp a.eval o).run Tryd.prog w = .ok (.value (.slice (some ⟨w.heap.size, 0, none⟩) 11 11)) (w.alloc (.cells #[.int .u8 112, .int .u8 97, .int .u8 119, .int .u8 108, .int .u8 32, .int .u8 115, .int .u8 97, .int .u8 102, .int .u8 101, .int .u8 116, .int .u8 121] 5)) := by
  have hr := run_bs11 w
  unfold execOp
  simp only [ho, Sem.run_bind, Sem.run_pure, List.map_toArray, List.map_cons, List.map_nil, Act.eval, hr, Result.andThen_ok]
theorem run_p2 (x y : Addr) (n m : Nat) (W : World) : (Instr.buildSlice 100 2 #[(0, .slice (some x) n n), (1, .slice (some y) m m)]).run Tryd.prog W = .ok (.slice (some ⟨W.heap.size, 0, none⟩) 2 2) (W.alloc (.cells #[.slice (some x) n n, .slice (some y) m m] 67)) := by kernel_rfl
theorem op_p2 {o : Oper} {a : Act} {w : World} (p q : Operand) (ho : o.op = .buildSlice 100 2 #[(0, p), (1, q)]) (x y : Addr) (n m : Nat) (hp : a.eval p = .slice (some x) n n) (hq : a.eval q = .slice (some y) m m) : (execOp a.eval o).run Tryd.prog w = .ok (.value (.slice (some ⟨w.heap.size, 0, none⟩) 2 2)) (w.alloc (.cells #[.slice (some x) n n, .slice (some y) m m] 67)) := by
  have hr := run_p2 x y n m w
  unfold execOp
  simp only [ho, Sem.run_bind, Sem.run_pure, List.map_toArray, List.map_cons, List.map_nil, hp, hq, hr, Result.andThen_ok]
/-- The key hashed again and again. -/
def hrs (k : List Int) : Nat → List Int
  | 0 => sumL (sfn ++ k)
  | n + 1 => sumL (hrs k n ++ k)
theorem hrs_len (k : List Int) : ∀ n, (hrs k n).length = 32
  | 0 => sumL_len _
  | _ + 1 => sumL_len _
/-- A group of digits of a hash. -/
def grp (h : List Int) (j : Nat) : ByteArray := ⟨(dig5 (be5 (((h.drop (5 * j)).take 5).map Int.toNat) % 100000)).toArray⟩
def gps (h : List Int) (n : Nat) : List ByteArray := (List.range n).map (grp h)
theorem gps_succ (h : List Int) (n : Nat) : gps h (n + 1) = gps h n ++ [grp h n] := by simp [gps, List.range_succ]
theorem gps_len (h : List Int) (n : Nat) : (gps h n).length = n := by simp [gps]
theorem slice_5 (g j : Nat) (hj : j < 6) (W : World) : (Instr.sliceAt 23 (.pointer (some ⟨g, 0, none⟩)) (some (.int .i64 (5 * (j : Int)))) (some (.int .i64 (5 * ((j : Int) + 1)))) none).run Tryd.prog W = .ok (.slice (some ⟨g, 5 * j, none⟩) 5 (32 - 5 * j)) W := by
  obtain rfl | rfl | rfl | rfl | rfl | rfl : j = 0 ∨ j = 1 ∨ j = 2 ∨ j = 3 ∨ j = 4 ∨ j = 5 := by omega
  all_goals kernel_rfl
theorem grp_cells {W : World} {g : Nat} {h : List Int} {t : TypeId} (hl : h.length = 32) (hz : ∀ z ∈ h, 0 ≤ z ∧ z < 256) (rg : W.heap[g]? = some (.cells (irow .u8 h) t (0, 0))) (j : Nat) (hj : j < 6) : (((h.drop (5 * j)).take 5).map Int.toNat).length = 5 ∧ (∀ x ∈ ((h.drop (5 * j)).take 5).map Int.toNat, x < 256) ∧ ∀ (i x : Nat), (((h.drop (5 * j)).take 5).map Int.toNat)[i]? = some x → W.cell? ⟨g, 5 * j + i, none⟩ = some (.int .u8 (x : Int)) := by
  refine ⟨by simp [hl]; omega, ?_, ?_⟩
  · intro x hx
    obtain ⟨z, hz1, rfl⟩ := List.mem_map.1 hx
    have := hz z (List.mem_of_mem_drop (List.mem_of_mem_take hz1))
    omega
  · intro i x hx
    rw [List.getElem?_map] at hx
    obtain ⟨z, hz1, rfl⟩ := Option.map_eq_some_iff.1 hx
    have hm : z ∈ h := List.mem_of_mem_drop (List.mem_of_mem_take (List.mem_of_getElem? hz1))
    have hi : i < 5 := by
      have := (List.getElem?_eq_some_iff.1 hz1).1
      simp at this
      omega
    rw [List.getElem?_take_of_lt hi, List.getElem?_drop] at hz1
    rw [cell_of_row _ _ _ _ _ _ rg]
    have := hz z hm
    simp [irow, hz1]
    omega
theorem a_sumX (bs : List Int) (w : World) (v : Value) (hS : Sta w) (hK : Kon w) (hB : Bys w v bs) (hcap : ∀ a l c, v = .slice a l c → l ≤ c) (hlim : bs.length ≤ 4611686018427387000) : Calls Tryd.prog 43 #[v] w fun e w' => ∃ u, e = .returned u ∧ u = .agg (irow .u8 (sumL bs)) ∧ Below w.heap.size w w' := (a_sum bs w v hS hK hB hcap hlim).mono fun _ _ h => ⟨_, h.1, rfl, h.2⟩
theorem c_groupX (g : Nat) (h : List Int) (hl : h.length = 32) (hz : ∀ z ∈ h, 0 ≤ z ∧ z < 256) (j : Nat) (hj : j < 6) (w : World) {t : TypeId} (rg : w.heap[g]? = some (.cells (irow .u8 h) t (0, 0))) (hT : Pow w) : Calls Tryd.prog 45 #[.slice (some ⟨g, 5 * j, none⟩) 5 (32 - 5 * j)] w fun e w' => ∃ u, e = .returned u ∧ u = .string (grp h j) ∧ Below w.heap.size w w' := by
  obtain ⟨h1, h2, h3⟩ := grp_cells hl hz rg j hj
  exact (c_group g (5 * j) (32 - 5 * j) _ h1 h2 w h3 hT.tab).mono fun _ _ h => ⟨_, h.1, rfl, h.2⟩
theorem run_s1 (x : ByteArray) (W : World) : (Instr.buildSlice 69 1 #[(0, .string x)]).run Tryd.prog W = .ok (.slice (some ⟨W.heap.size, 0, none⟩) 1 1) (W.alloc (.cells #[.string x] 9)) := by kernel_rfl
theorem op_s1 {o : Oper} {a : Act} {w : World} (p : Operand) (ho : o.op = .buildSlice 69 1 #[(0, p)]) (x : ByteArray) (hp : a.eval p = .string x) : (execOp a.eval o).run Tryd.prog w = .ok (.value (.slice (some ⟨w.heap.size, 0, none⟩) 1 1)) (w.alloc (.cells #[.string x] 9)) := by
  have hr := run_s1 x w
  unfold execOp
  simp only [ho, Sem.run_bind, Sem.run_pure, List.map_toArray, List.map_cons, List.map_nil, hp, hr, Result.andThen_ok]
theorem s1_news {W : World} {g : Nat} {x : ByteArray} {t : TypeId} (rg : W.heap[g]? = some (.cells #[.string x] t (0, 0))) : ∀ j u, ([x].map Value.string)[j]? = some u → W.cell? ((⟨g, 0, none⟩ : Addr).add j) = some u := by
  intro j u hu
  rw [addr_add, cell_of_row _ _ _ _ _ _ rg, Nat.zero_add]
  simpa using hu
theorem hrs_bd (k : List Int) : ∀ n, ∀ z ∈ hrs k n, 0 ≤ z ∧ z < 256
  | 0 => sumL_bd _
  | _ + 1 => sumL_bd _
section
variable {P : Program} {ops : Array Oper} {Q : Exit → Act → World → Prop} {md : Region.Mode} {S : World → Prop}
/-- The one operation that may come up, where S is kept. -/
theorem wpAnyH_one {k : Nat} {o : Oper} {fuel : Nat} {listed : Array Bool} {a : Act} {w : World} (hr : Region.ready md ops listed = [k]) (hi : ops[k]? = some o) (hw : Region.wanted o (yielded ops a.tmps) = true)
    (h : ∀ K : Act → World → Prop, (∀ a' w', S w' → wpAnyH P md ops Q S fuel (listed.setIfInBounds k true) a' w' → K a' w') → o.wp P a w K Q) : wpAnyH P md ops Q S (fuel + 1) listed a w := by
  refine wpAnyH_all hr (by simp) (fun i hi' => ?_)
  obtain rfl : i = k := by simpa using hi'
  unfold wpOp
  simp only [hi, hw, if_true]
  exact .inl (h _ (fun a' w' hS hn => ⟨hS, hn⟩))
end
set_option maxRecDepth 100000 in
set_option maxHeartbeats 4000000 in
theorem a_groups (k : List Int) (hk : K8 k) (r : Nat) (h1 : 1 ≤ r) (hr : r ≤ 6000) (w : World) (hS : Sta w) (hKo : Kon w) (hT : Pow w) : Calls Tryd.prog 33 #[.agg (irow .u8 k), .int .i64 r] w fun e w' => ∃ v, e = .returned v ∧ OwnS w' w.heap.size v (gps (hrs k (r - 1)) 6) ∧ Below w.heap.size w w' := by
  have sz3 := hT.sz
  have R0 := hp1_0 w (.cells (irow .u8 k) 23)
  have hw : Below w.heap.size w (w.alloc (.cells (irow .u8 k) 23)) := (Below.refl _ _).alloc (Nat.le_refl _) _
  replace hS := hS.below hw
  replace hKo := hKo.below hw
  replace hT := hT.below hw
  have sk := slice_k w.heap.size
  go_enter Tryd.func33, Tryd.ntmps33
  go_upto_region 1 with (first | (refine wpList_box rfl 23 _ rfl _ rfl (bKy _) ?_) | fail)
  try simp only [size_alloc1, Act.put, List.setIfInBounds_toArray, List.set_cons_succ, List.set_cons_zero]
  generalize w.alloc (.cells (irow .u8 k) 23) = w1 at *
  repeat ((fail_if_success (refine wpList_wop rfl (.slice (some ⟨w1.heap.size, 0, none⟩) 11 11) (w1.alloc (.cells #[.int .u8 112, .int .u8 97, .int .u8 119, .int .u8 108, .int .u8 32, .int .u8 115, .int .u8 97, .int .u8 102, .int .u8 101, .int .u8 116, .int .u8 121] 5)) (op_bs11 rfl) ?_)); first | go_skip | go_step)
  refine wpList_wop rfl (.slice (some ⟨w1.heap.size, 0, none⟩) 11 11) (w1.alloc (.cells #[.int .u8 112, .int .u8 97, .int .u8 119, .int .u8 108, .int .u8 32, .int .u8 115, .int .u8 97, .int .u8 102, .int .u8 101, .int .u8 116, .int .u8 121] 5)) (op_bs11 rfl) ?_
  have NM := hp1_0 w1 (.cells #[.int .u8 112, .int .u8 97, .int .u8 119, .int .u8 108, .int .u8 32, .int .u8 115, .int .u8 97, .int .u8 102, .int .u8 101, .int .u8 116, .int .u8 121] 5)
  have hb_ : Below w1.heap.size w1 (w1.alloc (.cells #[.int .u8 112, .int .u8 97, .int .u8 119, .int .u8 108, .int .u8 32, .int .u8 115, .int .u8 97, .int .u8 102, .int .u8 101, .int .u8 116, .int .u8 121] 5)) := (Below.refl _ _).alloc (Nat.le_refl _) _
  have l_R0_w2 := lt_of_row R0
  replace R0 := keep hb_ R0
  replace hS := hS.below hb_
  replace hKo := hKo.below hb_
  replace hT := hT.below hb_
  have sw_w2 := hw.size
  replace hw := Below.after hw hb_
  clear hb_
  try simp only [Act.put, List.setIfInBounds_toArray, List.set_cons_succ, List.set_cons_zero]
  generalize w1.alloc (.cells #[.int .u8 112, .int .u8 97, .int .u8 119, .int .u8 108, .int .u8 32, .int .u8 115, .int .u8 97, .int .u8 102, .int .u8 101, .int .u8 116, .int .u8 121] 5) = w2 at *
  generalize w1.heap.size = gN at *
  repeat ((fail_if_success (refine wpList_wop rfl (.slice (some ⟨gN, 0, none⟩) 11 11) (w2.freeze ⟨gN, 11, none⟩ 1) (op_cvC _ rfl gN 11 11 rfl _ NM) ?_)); first | go_skip | go_step)
  refine wpList_wop rfl (.slice (some ⟨gN, 0, none⟩) 11 11) (w2.freeze ⟨gN, 11, none⟩ 1) (op_cvC _ rfl gN 11 11 rfl _ NM) ?_
  have hbz := freeze_below w2 gN 11
  replace R0 := (freeze_other (W := w2) (g := gN) (k := 11) (by omega)).trans R0
  replace NM := freeze_heap (k := 11) NM
  replace hS := hS.belowN (by omega) hbz
  replace hKo := hKo.belowN (by omega) hbz
  replace hT := hT.belowN (by omega) hbz
  replace hw := hw.trans (hbz.mono (by omega))
  clear hbz
  try simp only [Act.put, List.setIfInBounds_toArray, List.set_cons_succ, List.set_cons_zero]
  generalize w2.freeze ⟨gN, 11, none⟩ 1 = w3 at *
  repeat ((fail_if_success (refine wpList_wop rfl (.slice (some ⟨w3.heap.size, 0, none⟩) 2 2) (w3.alloc (.cells #[.slice (some ⟨gN, 0, none⟩) 11 11, .slice (some ⟨w.heap.size, 0, none⟩) 32 32] 67)) (op_p2 _ _ rfl ⟨gN, 0, none⟩ ⟨w.heap.size, 0, none⟩ 11 32 rfl rfl) ?_)); first | go_skip | go_step)
  refine wpList_wop rfl (.slice (some ⟨w3.heap.size, 0, none⟩) 2 2) (w3.alloc (.cells #[.slice (some ⟨gN, 0, none⟩) 11 11, .slice (some ⟨w.heap.size, 0, none⟩) 32 32] 67)) (op_p2 _ _ rfl ⟨gN, 0, none⟩ ⟨w.heap.size, 0, none⟩ 11 32 rfl rfl) ?_
  have PP := hp1_0 w3 (.cells #[.slice (some ⟨gN, 0, none⟩) 11 11, .slice (some ⟨w.heap.size, 0, none⟩) 32 32] 67)
  have hb_ : Below w3.heap.size w3 (w3.alloc (.cells #[.slice (some ⟨gN, 0, none⟩) 11 11, .slice (some ⟨w.heap.size, 0, none⟩) 32 32] 67)) := (Below.refl _ _).alloc (Nat.le_refl _) _
  have l_R0_w4 := lt_of_row R0
  have l_NM_w4 := lt_of_row NM
  replace R0 := keep hb_ R0
  replace NM := keep hb_ NM
  replace hS := hS.below hb_
  replace hKo := hKo.below hb_
  replace hT := hT.below hb_
  have sw_w4 := hw.size
  replace hw := Below.after hw hb_
  clear hb_
  try simp only [Act.put, List.setIfInBounds_toArray, List.set_cons_succ, List.set_cons_zero]
  generalize w3.alloc (.cells #[.slice (some ⟨gN, 0, none⟩) 11 11, .slice (some ⟨w.heap.size, 0, none⟩) 32 32] 67) = w4 at *
  generalize w3.heap.size = gP at *
  go_wp2_with (fail)
  refine (a_concat11 sfn k rfl hk.1 w4 gP gN w.heap.size PP (lt_of_row NM) (sfn_news NM) R0).mono ?_
  rintro e_ w5 ⟨v1, rfl, hC, hb⟩
  have l_R0_w5 := lt_of_row R0
  have l_NM_w5 := lt_of_row NM
  have l_PP_w5 := lt_of_row PP
  replace R0 := keep hb R0
  replace NM := keep hb NM
  replace PP := keep hb PP
  replace hS := hS.below hb
  replace hKo := hKo.below hb
  replace hT := hT.below hb
  have sw_w5 := hw.size
  replace hw := Below.after hw hb
  clear hb
  clear NM PP
  obtain ⟨hB1, hB2⟩ := (Sec.bys (.inl hC)) (by rw [List.length_append, hk.1]; decide) (fun z hz => (List.mem_append.1 hz).elim (sfn_bd z) (hk.2 z))
  go_wp2_with (fail)
  refine (a_sum (sfn ++ k) w5 _ hS hKo hB1 hB2 (by rw [List.length_append, hk.1]; decide)).mono ?_
  rintro e_ w6 ⟨rfl, hb⟩
  have l_R0_w6 := lt_of_row R0
  replace R0 := keep hb R0
  replace hS := hS.below hb
  replace hKo := hKo.below hb
  replace hT := hT.below hb
  have sw_w6 := hw.size
  replace hw := Below.after hw hb
  clear hb
  clear hB1 hB2 hC
  have hl0 := hrs_len k 0
  rw [show sumL (sfn ++ k) = hrs k 0 from rfl]
  have z_ := hp1_0 w6 (.cells (irow .u8 (zr 32)) 23)
  go_wp2_with (first | (refine wpList_alloc rfl 23 rfl (irow .u8 (zr 32)) zkey ?_) | (refine wpList_store_row rfl 23 _ _ rfl (w6.heap.size) (irow .u8 (hrs k 0)) rfl rfl 23 _ z_ (infoKy _ hl0) (by rw [irow_size, irow_size, hl0, zr_len]) (irow_one _ _) ?_; refine wpList_stay ?_) | fail)
  unfold WpStay
  try simp only [Act.put, List.setIfInBounds_toArray, List.set_cons_succ, List.set_cons_zero]
  have HB := setRow_heap (w6.alloc (.cells (irow .u8 (zr 32)) 23)) w6.heap.size _ (irow .u8 (hrs k 0)) _ _ z_
  have hb_ : Below w6.heap.size w6 ((w6.alloc (.cells (irow .u8 (zr 32)) 23)).setRow w6.heap.size (irow .u8 (hrs k 0))) := below_setRow ((Below.refl _ _).alloc (Nat.le_refl _) _) (Nat.le_refl _) _
  have l_R0_w7 := lt_of_row R0
  replace R0 := keep hb_ R0
  replace hS := hS.below hb_
  replace hKo := hKo.below hb_
  replace hT := hT.below hb_
  have sw_w7 := hw.size
  replace hw := Below.after hw hb_
  clear hb_ z_
  generalize (w6.alloc (.cells (irow .u8 (zr 32)) 23)).setRow w6.heap.size (irow .u8 (hrs k 0)) = w7 at *
  generalize w6.heap.size = gH at *
  have hsub : (r : Int) - 1 = ((r - 1 : Nat) : Int) := by omega
  have skH := slice_k gH
  go_wp2_with (fail)
  have lH7 := lt_of_row HB
  go_loopw [16] (fun i wr => ∃ m : Nat, m ≤ r - 1 ∧ i = .int .i64 m ∧ wr.heap[w.heap.size]? = some (.cells (irow .u8 k) 23 (0, 0)) ∧ wr.heap[gH]? = some (.cells (irow .u8 (hrs k m)) 23 (0, 0)) ∧ Below gH w7 wr ∧ Below w.heap.size w wr) (fun i _ => r - 1 - (intOf i).toNat)
  case atStart => exact ⟨0, by omega, rfl, R0, HB, Below.refl _ _, hw⟩
  case round =>
    clear R0 HB hw
    obtain ⟨m, hm, rfl, R0, HB, hbg, hw⟩ := hrel
    replace hS := hS.belowN (by omega) hbg
    replace hKo := hKo.belowN (by omega) hbg
    replace hT := hT.belowN (by omega) hbg
    by_cases hlt : m < r - 1
    · have hd : decide ((m : Int) < ((r - 1 : Nat) : Int)) = true := by simp; omega
      have hlm := hrs_len k m
      have hl1 := hrs_len k (m + 1)
      have szg := hbg.size
      go_upto_region 4 with (fail)
      have hbd : Below wr.heap.size wr wr.drew := below_drN (Below.refl _ _) 1
      have l_R0_x1 := lt_of_row R0
      have l_HB_x1 := lt_of_row HB
      replace R0 := keep hbd R0
      replace HB := keep hbd HB
      replace hS := hS.below hbd
      replace hKo := hKo.below hbd
      replace hT := hT.below hbd
      have sw_x1 := hw.size
      replace hw := Below.after hw hbd
      replace hbg := hbg.trans (hbd.mono (by omega))
      clear hbd
      refine wp_region_noPanic ?_
      refine wp_region_held (S := fun _ => True) (by kernel_rfl) ?_
      change wpAnyH _ _ _ _ _ _ _ _ (World.drew _)
      generalize wr.drew = x1 at *
      refine wpAnyH_take (i := 0) (v := ?v1) rfl (by kernel_rfl) (by kernel_rfl) (by kernel_rfl) (fun _ _ _ h => h) (Or.inl ⟨by rfl, ?y1⟩) trivial ?r1
      case y1 =>
        intro w_ hS_
        go_simp
        try with_reducible rfl
      simp only [Act.put, List.getElem_toArray, List.getElem_cons_zero, List.setIfInBounds_toArray, List.set_cons_succ, List.set_cons_zero]
      refine wpAnyH_take (i := 1) (v := ?v2) rfl (by kernel_rfl) (by kernel_rfl) (by kernel_rfl) (fun _ _ _ h => h) (Or.inl ⟨by rfl, ?y2⟩) trivial ?r2
      case y2 =>
        intro w_ hS_
        go_simp
        try with_reducible rfl
      simp only [Act.put, List.getElem_toArray, List.getElem_cons_succ, List.getElem_cons_zero, List.setIfInBounds_toArray, List.set_cons_succ, List.set_cons_zero]
      refine wpAnyH_one (k := 2) (fuel := 3) (by kernel_rfl) rfl (by kernel_rfl) (fun K_ hK => ?_)
      refine wp_world_op (.slice (some ⟨x1.heap.size, 0, none⟩) 2 2) (x1.alloc (.cells #[.slice (some ⟨gH, 0, none⟩) 32 32, .slice (some ⟨w.heap.size, 0, none⟩) 32 32] 67)) (op_p2 _ _ rfl ⟨gH, 0, none⟩ ⟨w.heap.size, 0, none⟩ 32 32 rfl rfl) ?_
      have PP := hp1_0 x1 (.cells #[.slice (some ⟨gH, 0, none⟩) 32 32, .slice (some ⟨w.heap.size, 0, none⟩) 32 32] 67)
      have hb_ : Below x1.heap.size x1 (x1.alloc (.cells #[.slice (some ⟨gH, 0, none⟩) 32 32, .slice (some ⟨w.heap.size, 0, none⟩) 32 32] 67)) := (Below.refl _ _).alloc (Nat.le_refl _) _
      have l_R0_x2 := lt_of_row R0
      have l_HB_x2 := lt_of_row HB
      replace R0 := keep hb_ R0
      replace HB := keep hb_ HB
      replace hS := hS.below hb_
      replace hKo := hKo.below hb_
      replace hT := hT.below hb_
      have sw_x2 := hw.size
      replace hw := Below.after hw hb_
      replace hbg := hbg.trans (hb_.mono (by omega))
      clear hb_
      refine hK _ _ trivial ?_
      simp only [Act.put, List.getElem_toArray, List.getElem_cons_succ, List.getElem_cons_zero, List.setIfInBounds_toArray, List.set_cons_succ, List.set_cons_zero]
      clear hK
      generalize x1.alloc (.cells #[.slice (some ⟨gH, 0, none⟩) 32 32, .slice (some ⟨w.heap.size, 0, none⟩) 32 32] 67) = x2 at *
      generalize x1.heap.size = gP2 at *
      refine wpAnyH_one (k := 3) (fuel := 2) (by kernel_rfl) rfl (by kernel_rfl) (fun K_ hK => ?_)
      refine wp_call_ex (f := 44) (by kernel_rfl) (a_concatK (hrs k m) k hlm hk.1 x2 gP2 gH w.heap.size PP HB R0) (fun v_ x3 hX_ => ?_)
      obtain ⟨hC, hb⟩ := hX_
      have l_R0_x3 := lt_of_row R0
      have l_HB_x3 := lt_of_row HB
      replace R0 := keep hb R0
      replace HB := keep hb HB
      replace hS := hS.below hb
      replace hKo := hKo.below hb
      replace hT := hT.below hb
      have sw_x3 := hw.size
      replace hw := Below.after hw hb
      replace hbg := hbg.trans (hb.mono (by omega))
      clear hb PP
      obtain ⟨hB1, hB2⟩ := (Sec.bys (.inl hC)) (by rw [List.length_append, hk.1, hlm]; decide) (fun z hz => (List.mem_append.1 hz).elim (hrs_bd k m z) (hk.2 z))
      refine hK _ _ trivial ?_
      simp only [Act.put, List.getElem_toArray, List.getElem_cons_succ, List.getElem_cons_zero, List.setIfInBounds_toArray, List.set_cons_succ, List.set_cons_zero]
      clear hK
      refine wpAnyH_one (k := 4) (fuel := 1) (by kernel_rfl) rfl (by kernel_rfl) (fun K_ hK => ?_)
      refine wp_call_ex (f := 43) (by kernel_rfl) (a_sumX (hrs k m ++ k) x3 _ hS hKo hB1 hB2 (by rw [List.length_append, hk.1, hlm]; decide)) (fun v_ x4 hX_ => ?_)
      obtain ⟨rfl, hb⟩ := hX_
      have l_R0_x4 := lt_of_row R0
      have l_HB_x4 := lt_of_row HB
      replace R0 := keep hb R0
      replace HB := keep hb HB
      replace hS := hS.below hb
      replace hKo := hKo.below hb
      replace hT := hT.below hb
      have sw_x4 := hw.size
      replace hw := Below.after hw hb
      replace hbg := hbg.trans (hb.mono (by omega))
      clear hb hB1 hB2 hC
      rw [show sumL (hrs k m ++ k) = hrs k (m + 1) from rfl]
      refine hK _ _ trivial ?_
      simp only [Act.put, List.getElem_toArray, List.getElem_cons_succ, List.getElem_cons_zero, List.setIfInBounds_toArray, List.set_cons_succ, List.set_cons_zero]
      clear hK
      refine wpAnyH_one (k := 5) (fuel := 0) (by kernel_rfl) rfl (by kernel_rfl) (fun K_ hK => ?_)
      refine wp_store_row 23 _ _ rfl gH (irow .u8 (hrs k (m + 1))) rfl rfl 23 _ HB (infoKy _ hl1) (by rw [irow_size, irow_size, hl1, hlm]) (irow_one _ _) ?_
      replace R0 := (setRow_other x4 gH _ (irow .u8 (hrs k (m + 1))) (by omega)).trans R0
      replace HB := setRow_heap x4 gH _ (irow .u8 (hrs k (m + 1))) _ _ HB
      replace hbg := below_setRow hbg (Nat.le_refl gH) (irow .u8 (hrs k (m + 1)))
      replace hw := below_setRow hw (show w.heap.size ≤ gH by omega) (irow .u8 (hrs k (m + 1)))
      refine hK _ _ trivial ?_
      simp only [Act.put]
      clear hK
      generalize x4.setRow gH (irow .u8 (hrs k (m + 1))) = x5 at *
      refine wpAnyH_done (by kernel_rfl) ?_ _
      refine NoPanic.normal ?_
      go_wp2_with (fail)
      refine ⟨⟨m + 1, by omega, by go_num, R0, HB, hbg, hw⟩, ?_⟩
      simp [intOf]; omega
    · obtain rfl : m = r - 1 := by omega
      have hd : decide (((r - 1 : Nat) : Int) < ((r - 1 : Nat) : Int)) = false := by simp
      have hlh := hrs_len k (r - 1)
      have hzh := hrs_bd k (r - 1)
      generalize hG : hrs k (r - 1) = h at *
      replace hG := hide hG
      have lHy := lt_of_row HB
      have lRy := lt_of_row R0
      have szT := hT.sz
      clear hbg hS hKo
      generalize wr = y at *
      go_wp2_with (fail)
      go_loopw [6, 24] (fun o i wr => ∃ j : Nat, j ≤ 6 ∧ i = .int .i64 j ∧ OwnS wr y.heap.size o (gps h j) ∧ Below y.heap.size y wr) (fun _ i _ => 6 - (intOf i).toNat)
      case atStart => exact ⟨0, by omega, rfl, ⟨rfl, .inl ⟨rfl, rfl⟩⟩, Below.refl _ _⟩
      case round =>
        obtain ⟨j, hj, rfl, hO, hby⟩ := hrel
        by_cases hj6 : j < 6
        · have hdj : decide ((j : Int) < 6) = true := by simp; omega
          have s5 := slice_5 gH j hj6
          have szy := hby.size
          replace HB := (hby.block gH lHy).trans HB
          replace hT := hT.belowN szT hby
          go_wp2_with (fail)
          refine (c_groupX gH h hlh hzh j hj6 wr HB hT).mono ?_
          rintro e_ y2 ⟨u_, rfl, rfl, hb⟩
          replace HB := keep hb HB
          replace hT := hT.below hb
          replace hO := hO.keep hb
          replace hby := hby.trans (hb.mono (by omega))
          have sz_y2 := hby.size
          clear hb
          dsimp only
          repeat ((fail_if_success (refine wpList_wop rfl (.slice (some ⟨y2.heap.size, 0, none⟩) 1 1) (y2.alloc (.cells #[.string (grp h j)] 9)) (op_s1 _ rfl (grp h j) rfl) ?_)); first | go_skip | go_step)
          refine wpList_wop rfl (.slice (some ⟨y2.heap.size, 0, none⟩) 1 1) (y2.alloc (.cells #[.string (grp h j)] 9)) (op_s1 _ rfl (grp h j) rfl) ?_
          have SS := hp1_0 y2 (.cells #[.string (grp h j)] 9)
          have hb_ : Below y2.heap.size y2 (y2.alloc (.cells #[.string (grp h j)] 9)) := (Below.refl _ _).alloc (Nat.le_refl _) _
          replace HB := keep hb_ HB
          replace hT := hT.below hb_
          replace hO := hO.keep hb_
          replace hby := hby.trans (hb_.mono (by omega))
          have sz_y3 := hby.size
          clear hb_
          try simp only [Act.put, List.setIfInBounds_toArray, List.set_cons_succ, List.set_cons_zero]
          generalize y2.alloc (.cells #[.string (grp h j)] 9) = y3 at *
          generalize y2.heap.size = gS at *
          repeat ((fail_if_success (refine wpList_append_S rfl _ _ rfl y.heap.size _ (gps h j) rfl hO ⟨gS, 0, none⟩ [grp h j] 1 rfl (s1_news SS) (by rw [gps_len]; simp; omega) (by omega) ?_)); first | go_skip | go_step)
          refine wpList_append_S rfl _ _ rfl y.heap.size _ (gps h j) rfl hO ⟨gS, 0, none⟩ [grp h j] 1 rfl (s1_news SS) (by rw [gps_len]; simp; omega) (by omega) ?_
          intro v' y4 hO4 hgr
          replace hby := hby.grown hgr (by omega) (fun z e => (hO.lt z e).1)
          rw [← gps_succ] at hO4
          clear hgr hO SS HB hT
          try simp only [Act.put, List.setIfInBounds_toArray, List.set_cons_succ, List.set_cons_zero]
          go_wp2_with (fail)
          refine ⟨⟨j + 1, by omega, by go_num, hO4, hby⟩, ?_⟩
          simp [intOf]; omega
        · obtain rfl : j = 6 := by omega
          have hd6 : decide (((6 : Nat) : Int) < 6) = false := by simp
          go_wp2_with (fail)
          go_ret
          exact ⟨_, rfl, by rw [hG.out]; exact hO.down (by omega), hw.trans (hby.mono (by omega))⟩

end Go.Proofs.YtlbcdjflcghkeaaDoor
