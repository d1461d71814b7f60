import Derived.Test.YtjeighghommldaaDoorProg
import Derived.WalkKit
import Derived.WalkSpells
import Derived.WalkLawsBesides
import Derived.Lib.QuietBelow
import Derived.BigQuiet
import Derived.Deep.Cut
import Derived.Deep.CutRange
import Derived.Test.YtjeighghommldaaDoorCDsj
import Derived.Deep.RegionLaw
import Derived.OwnWalk
namespace Go.Proofs.YtjeighghommldaaDoor
set_option maxRecDepth 100000
open Go Go.RowKit Go.Sort
attribute [local go_sem] setCell_drewN alloc_drewN
def d16 (N : Int) : Array Value := ((List.range 16).map fun i => Value.int .u32 (N / 65536 ^ i % 65536)).toArray
theorem d16_size (N : Int) : (d16 N).size = 16 := rfl
theorem d16_cell (N : Int) (k : Nat) (h : k < 16) : (d16 N)[k]? = some (.int .u32 (N / 65536 ^ k % 65536)) := by
 unfold d16
 rw [List.getElem?_toArray, List.getElem?_map, List.getElem?_range h]
 rfl
theorem d16_one (N : Int) : (d16 N).all (·.oneCell') = true := by
 unfold d16
 rw [Array.all_eq_true']
 intro x hx
 simp only [List.mem_toArray, List.mem_map] at hx
 obtain ⟨i, _, rfl⟩ := hx
 rfl
theorem d16_infoR (N : Int) : (Tryd.prog.info? 60).map (·.size) = some (d16 N).size := by rw [d16_size]; kernel_rfl
theorem fill_set (m : List Int) (k : Nat) (x : Int) (hm : m.length = 32) (h : k < 32) (hx : m[k]? = some x) : (m.take k ++ List.replicate (32 - k) 0).set k x = m.take (k + 1) ++ List.replicate (32 - (k + 1)) 0 := by
 have hk : (m.take k).length = k := by simp; omega
 rw [List.set_append_right _ _ (by omega), hk, Nat.sub_self, show 32 - k = (32 - (k + 1)) + 1 by omega, List.replicate_succ, List.set_cons_zero, List.take_add_one, hx]
 simp
theorem rB_set (N : Int) (k : Nat) (h : k < 32) : (rB N k).setIfInBounds k (.int .u8 (byt N k)) = rB N (k + 1) := by
 have e : (b32 N)[k]? = some (byt N k) := by rw [b32_map, List.getElem?_map, List.getElem?_range h]; rfl
 unfold rB
 rw [← fill_set (b32 N) k (byt N k) rfl h e, List.setIfInBounds_toArray, List.map_set]
theorem byt_lo (N : Int) (k : Nat) : N / 65536 ^ k % 65536 % 256 = byt N (2 * k) := by
 unfold byt
 rw [show (256 : Int) ^ (2 * k) = 65536 ^ k by rw [Int.pow_mul]; rfl]
 omega
theorem byt_hi (N : Int) (k : Nat) : N / 65536 ^ k % 65536 / 256 = byt N (2 * k + 1) := by
 unfold byt
 rw [Int.pow_succ, show (256 : Int) ^ (2 * k) = 65536 ^ k by rw [Int.pow_mul]; rfl, ← Int.ediv_ediv_of_nonneg (Int.pow_nonneg (by decide))]
 omega
set_option maxRecDepth 100000 in
set_option maxHeartbeats 8000000 in
theorem r_sBytes (N : Int) : Gives 31 #[.agg (d16 N)] (.agg (kb N)) := by
 intro w
 have rp0 := hp2_0 w (.cells (d16 N) 60) (.cells (kb 0) 23)
 have rp1 := hp2_1 w (.cells (d16 N) 60) (.cells (kb 0) 23)
 have hw : Below w.heap.size w ((w.alloc (.cells (d16 N) 60)).alloc (.cells (kb 0) 23)) := (((Below.refl _ _).alloc (Nat.le_refl _) _).alloc (by simp) _)
 go_enter Tryd.func31, Tryd.ntmps31
 iterate 9 go_step
 try rw [z32]
 generalize ((w.alloc (.cells (d16 N) 60)).alloc (.cells (kb 0) 23)) = w0 at *
 go_wp2_with (fail)
 rw [z32]
 have rk := hp1_0 w0 (.cells (kb 0) 23)
 have hb : Below w0.heap.size w0 (w0.alloc (.cells (kb 0) 23)) := (Below.refl _ _).alloc (Nat.le_refl _) _
 generalize w0.alloc (.cells (kb 0) 23) = w1 at *
 have lt0 := lt_of_row rp0
 have lt1 := lt_of_row rp1
 have sz_ := hw.size
 replace rp0 := keep hb rp0
 replace rp1 := keep hb rp1
 replace hw := Below.after hw hb
 clear hb
 generalize w0.heap.size = gk at *
 replace rk : w1.heap[gk]? = some (.cells (rB N (2 * 0)) 23 (0, 0)) := rk
 go_loopw [4] (fun i wr => ∃ k : Nat, k ≤ 16 ∧ i = .int .i64 k ∧ wr.heap[w.heap.size]? = some (.cells (d16 N) 60 (0, 0)) ∧ wr.heap[w.heap.size + 1]? = some (.cells (kb 0) 23 (0, 0)) ∧ wr.heap[gk]? = some (.cells (rB N (2 * k)) 23 (0, 0)) ∧ Below w.heap.size w wr) (fun i _ => 16 - (intOf i).toNat)
 case atStart => exact ⟨0, by omega, rfl, rp0, rp1, rk, hw⟩
 case round =>
  clear rp0 rp1 rk hw
  obtain ⟨k, hk, rfl, rp0, rp1, rk, hw⟩ := hrel
  by_cases hlt : k < 16
  ·have hd : decide ((k : Int) < 16) = true := by simp; omega
   have ca : wr.cell? ⟨w.heap.size, k, none⟩ = some (.int .u32 (N / 65536 ^ k % 65536)) := (cell_of_row wr (w.heap.size) k _ _ _ rp0).trans (d16_cell _ _ hlt)
   have s1 := hide (rB_set N (2 * k) (by omega))
   have s2 := hide (rB_set N (2 * k + 1) (by omega))
   have b1 := hide (byt_lo N k)
   have b2 := hide (byt_hi N k)
   have z1 := hide (rB_size N (2 * k) (by omega))
   have z2 := hide (rB_size N (2 * k + 1) (by omega))
   have dl : 0 ≤ N / 65536 ^ k % 65536 ∧ N / 65536 ^ k % 65536 < 65536 := by omega
   generalize N / 65536 ^ k % 65536 = D at *
   have cb : (wr.setRow gk (rB N (2 * k + 1))).cell? ⟨w.heap.size, k, none⟩ = some (.int .u32 D) := by
    rw [← ca]
    simp only [World.cell?, setRow_other wr gk (w.heap.size) (rB N (2 * k + 1)) (by omega)]
   go_wp2_with (first | (refine wpList_load_cell31 rfl 56 _ rfl (w.heap.size) k rfl _ ca Tryd.underlying56 ?_) | (refine wpList_load_cell31 rfl 56 _ rfl (w.heap.size) k rfl _ cb Tryd.underlying56 ?_) | (refine wpList_store_cell31 rfl 5 _ _ rfl gk (2 * k) rfl (.int .u8 (D % 256)) rfl 23 _ rk (by rw [z1.out]; omega) (by kernel_rfl) rfl ?_; rw [b1.out, s1.out]) | (refine wpList_store_cell31 rfl 5 _ _ rfl gk (2 * k + 1) rfl (.int .u8 (D / 256)) rfl 23 _ (setRow_heap _ _ _ _ _ _ rk) (by rw [z2.out]; omega) (by kernel_rfl) rfl ?_; rw [b2.out, s2.out]; refine wpList_stay ?_) | fail)
   unfold WpStay
   have rn := setRow_heap (wr.setRow gk (rB N (2 * k + 1))) gk _ (rB N (2 * k + 1 + 1)) _ _ (setRow_heap wr gk _ (rB N (2 * k + 1)) _ _ rk)
   replace rp0 := (setRow_other _ gk (w.heap.size) (rB N (2 * k + 1 + 1)) (by omega)).trans ((setRow_other wr gk (w.heap.size) (rB N (2 * k + 1)) (by omega)).trans rp0)
   replace rp1 := (setRow_other _ gk (w.heap.size + 1) (rB N (2 * k + 1 + 1)) (by omega)).trans ((setRow_other wr gk (w.heap.size + 1) (rB N (2 * k + 1)) (by omega)).trans rp1)
   replace hw := below_setRow (below_setRow hw (show w.heap.size ≤ gk by omega) (rB N (2 * k + 1))) (show w.heap.size ≤ gk by omega) (rB N (2 * k + 1 + 1))
   generalize (wr.setRow gk (rB N (2 * k + 1))).setRow gk (rB N (2 * k + 1 + 1)) = wn at *
   rw [show 2 * k + 1 + 1 = 2 * (k + 1) by omega] at rn
   clear rk ca cb s1 s2 b1 b2 z1 z2
   go_wp2_with (fail)
   go_roundw
   case rel => exact ⟨k + 1, by omega, by go_num, rp0, rp1, rn, hw⟩
   case measure => simp [intOf]; omega
  ·have hd : decide ((k : Int) < 16) = false := by simp; omega
   obtain rfl : k = 16 := by omega
   replace rk : wr.heap[gk]? = some (.cells (kb N) 23 (0, 0)) := rk
   go_wp2_with (first | (refine wpList_load_want rfl 23 _ rfl gk rfl 23 (kb N) (0, 0) _ rk Tryd.underlying23 rfl (kb_info _) ?_) | (refine wpList_store_row rfl 23 _ _ rfl (w.heap.size + 1) (kb N) rfl rfl 23 _ rp1 (kb_info _) rfl (kb_one _) ?_) | fail)
   exact bodyPost_ret (v := .agg (kb N)) (results_cell_row Tryd.results31 _ _ (w.heap.size + 1) _ (kb N) _ _ rfl (setRow_heap _ _ _ _ _ _ rp1) Tryd.underlying23 rfl (kb_info _)) rfl ⟨rfl, below_setRow hw (by omega) _⟩
theorem d16_L : d16 L19 = #[.int .u32 54253, .int .u32 23797, .int .u32 25370, .int .u32 22546, .int .u32 40150, .int .u32 41719, .int .u32 63966, .int .u32 5342, .int .u32 0, .int .u32 0, .int .u32 0, .int .u32 0, .int .u32 0, .int .u32 0, .int .u32 0, .int .u32 4096] := by unfold L19; rfl
set_option maxRecDepth 100000 in
set_option maxHeartbeats 8000000 in
theorem r_order : Gives 30 #[] (.agg (d16 L19)) := by
 intro w
 rw [d16_L]
 go_enter Tryd.func30, Tryd.ntmps30
 go_wp2
 exact bodyPost_ret (v := .agg #[.int .u32 54253, .int .u32 23797, .int .u32 25370, .int .u32 22546, .int .u32 40150, .int .u32 41719, .int .u32 63966, .int .u32 5342, .int .u32 0, .int .u32 0, .int .u32 0, .int .u32 0, .int .u32 0, .int .u32 0, .int .u32 0, .int .u32 4096]) (results_cell_row Tryd.results30 _ _ (w.heap.size) _ #[.int .u32 54253, .int .u32 23797, .int .u32 25370, .int .u32 22546, .int .u32 40150, .int .u32 41719, .int .u32 63966, .int .u32 5342, .int .u32 0, .int .u32 0, .int .u32 0, .int .u32 0, .int .u32 0, .int .u32 0, .int .u32 0, .int .u32 4096] _ _ rfl (hp1_0 w _) Tryd.underlying57 rfl (by kernel_rfl)) rfl ⟨rfl, (Below.refl _ _).alloc (Nat.le_refl _) _⟩
set_option maxRecDepth 100000 in
set_option maxHeartbeats 8000000 in
theorem r_Order (w : World) : Calls Tryd.prog 7 #[] w fun e w' => ∃ v, e = .returned v ∧ BysK w' v (b32 L19) ∧ Below w.heap.size w w' := by
 have hw : Below w.heap.size w w := Below.refl _ _
 go_enter Tryd.func7, Tryd.ntmps7
 go_wp2_with (fail)
 refine (r_order.at _).mono ?_
 rintro e_ w1 ⟨rfl, hb⟩
 replace hw := Below.after hw hb
 clear hb
 go_wp2_with (first | (refine wpList_store_row rfl 60 _ _ rfl (w1.heap.size) (d16 L19) rfl rfl 60 #[.int .u32 0, .int .u32 0, .int .u32 0, .int .u32 0, .int .u32 0, .int .u32 0, .int .u32 0, .int .u32 0, .int .u32 0, .int .u32 0, .int .u32 0, .int .u32 0, .int .u32 0, .int .u32 0, .int .u32 0, .int .u32 0] (hp1_0 w1 _) (d16_infoR _) ((show _ = 16 from rfl).trans (d16_size _).symm) (d16_one _) ?_; rw [setRow_alloc_new _ _ _ _ _ _ (by simp)]; refine wpList_stay ?_) | (refine wpList_build_as rfl 60 _ rfl [(0, .agg (d16 L19))] rfl (d16 L19) (by kernel_rfl) ?_) | fail)
 unfold WpStay
 try simp only [Act.put]
 have rl1 : (w1.alloc (.cells (d16 L19) 60)).heap[w1.heap.size]? = some (.cells (d16 L19) 60 (0, 0)) := hp1_0 w1 _
 have hb : Below w1.heap.size w1 (w1.alloc (.cells (d16 L19) 60)) := ((Below.refl _ _).alloc (Nat.le_refl _) _)
 generalize (w1.alloc (.cells (d16 L19) 60)) = w2 at *
 have sz_g1 := hw.size
 replace hw := Below.after hw hb
 clear hb
 generalize w1.heap.size = g1 at *
 clear w1
 go_wp2_with (first | (refine wpList_load_want rfl 60 _ rfl (g1) rfl 60 (d16 L19) (0, 0) _ rl1 Tryd.underlying60 rfl (d16_infoR _) ?_) | fail)
 refine ((r_sBytes L19).at _).mono ?_
 rintro e_ w3 ⟨rfl, hb⟩
 replace rl1 := keep hb rl1
 replace hw := Below.after hw hb
 clear hb
 go_wp2_with (first | (refine wpList_store_row rfl 23 _ _ rfl (w3.heap.size) (kb L19) rfl rfl 23 (kb 0) (hp1_0 w3 _) (kb_info _) ((kb_size _).trans (kb_size _).symm) (kb_one _) ?_; rw [setRow_alloc_new _ _ _ _ _ _ (by simp)]; refine wpList_stay ?_) | fail)
 unfold WpStay
 try simp only [Act.put]
 have rl2 : (w3.alloc (.cells (kb L19) 23)).heap[w3.heap.size]? = some (.cells (kb L19) 23 (0, 0)) := hp1_0 w3 _
 have hb : Below w3.heap.size w3 (w3.alloc (.cells (kb L19) 23)) := ((Below.refl _ _).alloc (Nat.le_refl _) _)
 generalize (w3.alloc (.cells (kb L19) 23)) = w4 at *
 have lt_g2_0 := lt_of_row rl1
 have sz_g2 := hw.size
 replace rl1 := keep hb rl1
 replace hw := Below.after hw hb
 clear hb
 generalize w3.heap.size = g2 at *
 clear w3
 go_wp2_with (fail)
 go_ret
 exact ⟨_, rfl, bysK_row rl2, hw⟩
end Go.Proofs.YtjeighghommldaaDoor
namespace Go.Proofs.YtjeighghommldaaDoor
set_option maxRecDepth 100000
open Go Go.RowKit Go.Sort
attribute [local go_sem] setCell_drewN alloc_drewN
theorem lt_of_row' {w : World} {g : Nat} {cs : Array Value} {t : TypeId} {fr : Nat × Nat} (h : w.heap[g]? = some (.cells cs t fr)) : g < w.heap.size := (Array.getElem?_eq_some_iff.1 h).1
end Go.Proofs.YtjeighghommldaaDoor
namespace Go.Proofs.YtjeighghommldaaDoor
set_option maxRecDepth 100000
open Go Go.RowKit Go.Sort
attribute [local go_sem] setCell_drewN alloc_drewN
theorem bysK_l {W : World} {g n : Nat} {l : List Int} {t : TypeId} (r : W.heap[g]? = some (.cells (Wi.irow .u8 l) t (0, 0))) (hn : l.length = n) (hz : ∀ z ∈ l, 0 ≤ z ∧ z < 256) (hl : n ≤ 1000) : BysK W (.slice (some ⟨g, 0, none⟩) n n) l := by
 subst hn
 exact ⟨Wi.Bys.of_row r (by omega) hz _, fun a l c h => by cases h; exact Nat.le_refl _, by omega⟩
theorem own_lit (w : World) (l : List Int) (n : Nat) (hn : l.length = n) (hl : n ≤ 1000) : (w.alloc (.cells (Wi.irow .u8 l) 5)).ownsRow w.heap.size 5 1 (.slice (some ⟨w.heap.size, 0, none⟩) n n) l.length (l.map (Value.int .u8)) := by
 subst hn
 exact ⟨by simp, Or.inr ⟨w.heap.size, _, _, rfl, Nat.le_refl _, hp1_0 w _, Nat.le_refl _, by unfold maxLen; omega, by simp [Wi.irow], by simp only [Wi.irow]; exact List.take_of_length_le (by simp)⟩⟩
theorem wp_append_C {o : Oper} {a : Act} {w : World} {K : Act → World → Prop} {Q : Exit → Act → World → Prop} (s x : Operand) (ho : o.op = .call { callee := .builtin .append, args := #[s, x], argTypes := #[24, 24] }) (base : Nat) (v : Value) (l : List Int) (hs : a.eval s = v) (hown : w.ownsRow base 5 1 v l.length (l.map (Value.int .u8))) (ao : Option Addr) (m c : Nat) (d : List Int) (hx : a.eval x = .slice ao m c) (hB : Bys w (.slice ao m c) d) (hnone : ao = none → c = 0) (hlim : l.length + d.length ≤ 140737488355328) (hbase : base ≤ w.heap.size)
 (h : ∀ v' w', w'.ownsRow base 5 1 v' (l ++ d).length ((l ++ d).map (Value.int .u8)) → (∀ n W0, Below n W0 w → n ≤ base → Below n W0 w') → base ≤ w'.heap.size → (∀ (k : Nat), v.ownBlock ≠ some k → k < w.heap.size → w'.heap[k]? = w.heap[k]?) → (∀ (k : Nat) (cs : Array Value) (t : TypeId) (fr : Nat × Nat), t ≠ 5 → w.heap[k]? = some (.cells cs t fr) → w'.heap[k]? = some (.cells cs t fr)) → K (a.put o.dst v') w') : o.wp Tryd.prog a w K Q := by
 obtain ⟨i0, hi, hz0, hz1, hz2⟩ := Wi.info8
 obtain ⟨ao', cap, e, hl, hc, hz⟩ := hB
 cases e
 have hK : ∀ v' w', w'.ownsRow base 5 1 v' (l.length + d.length) (l.map (Value.int .u8) ++ d.map (Value.int .u8)) → w.grownBy w' v.ownBlock → K (a.put o.dst v') w' := fun v' w' h1 h2 =>
  h v' w' (by rw [List.map_append, List.length_append]; exact h1) (fun n W0 hb hn => hb.grown h2 (Nat.le_trans hn hbase) (fun k e => Nat.le_trans hn (hown.lt k e).1)) (Nat.le_trans hbase h2.size) (fun k hk hlt => h2.block k hlt (fun e => hk e.symm)) (fun k cs t fr ht hk => (h2.block k (lt_of_row' hk) (fun e => ht (by
   obtain ⟨g, cap, cur, rfl, _, hg, _⟩ : ∃ g cap cur, v = .slice (some ⟨g, 0, none⟩) l.length cap ∧ base ≤ g ∧ w.heap[g]? = some (.cells cur 5 (0, 0)) ∧ True := by
    rcases hown.2 with ⟨rfl, _⟩ | ⟨g, cap, cur, e1, e2, e3, _⟩
    ·cases e
    ·exact ⟨g, cap, cur, e1, e2, e3, trivial⟩
   have ek : k = g := by simpa [Value.ownBlock] using e
   subst ek
   rw [hg] at hk
   cases hk
   rfl))).trans hk)
 cases ao with
 | some ad =>
  refine wp_append_own w s x 24 ho base 5 i0 (.int .u8 0) 1 1 Tryd.underlying24 hi hz0 hz1 hz2 rfl (by decide) v l.length (l.map (Value.int .u8)) hs hown ad d.length c (d.map (Value.int .u8)) hx (by simp) (fun j u hu => ?_) (Wi.ints_one .u8 d) (by unfold maxLen; omega) (by omega) hbase (fun v' w' h2 h3 _ => hK v' w' h2 h3)
  have hj : j < d.length := by have := (List.getElem?_eq_some_iff.1 hu).1; simpa using this
  obtain ⟨b, off, e, _, hcell⟩ := hc j hj
  cases e
  have e2 : (⟨b, off, none⟩ : Addr).add j = ⟨b, off + j, none⟩ := by simp [Addr.add]
  rw [e2, hcell, ← hu, List.getElem?_map, List.getElem?_eq_getElem hj, List.getD_eq_getElem?_getD, List.getElem?_eq_getElem hj]
  rfl
 | none =>
  have hd : d = [] := by
   cases d with
   | nil => rfl
   | cons y ys => obtain ⟨b, off, e, _⟩ := hc 0 (by simp); cases e
  subst hd
  obtain rfl := hnone rfl
  have hrun := run_append_owned_none (P := Tryd.prog) w base 24 o.type 5 i0 1 Tryd.underlying24 hi _ l.length _ hown
  unfold Oper.wp
  simp [execOp, ho, resolve, invoke, builtin, hs, hx, hrun, Result.andThen]
  exact hK v w (by simpa using hown) (World.grownBy.refl _ _)
theorem L_bval : bval (b32 L19) = ell := by rw [bval_b32 _ (by unfold L19; decide) L_lt, ell_nat]
end Go.Proofs.YtjeighghommldaaDoor

