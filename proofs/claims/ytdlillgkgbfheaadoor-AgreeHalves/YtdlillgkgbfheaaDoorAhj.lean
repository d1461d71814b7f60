import Derived.Test.YtdlillgkgbfheaaDoorProg
import Derived.WalkKit
import Derived.Lib.QuietBelow
import Derived.BigQuiet
import Derived.OrdersHeld
import Derived.Deep.RegionHeld3
import Derived.OwnWalk
import Derived.Deep.Cut
import Derived.Test.YtdlillgkgbfheaaDoorKa
import Derived.Test.YtdlillgkgbfheaaDoorSgk
import Derived.Test.YtdlillgkgbfheaaDoorAhh
namespace Go.Proofs.YtdlillgkgbfheaaDoor
set_option maxRecDepth 100000
open Go Go.RowKit Go.Sort
attribute [local go_sem] setCell_drewN alloc_drewN
/-- Bytes appended to a list that has no room: a new list of one's own. -/
theorem wp_append_full {w : World} {o : Oper} {a : Act} {K : Act → World → Prop} {Q : Exit → Act → World → Prop} (s x : Operand) (ho : o.op = .call { callee := .builtin .append, args := #[s, x], argTypes := #[30, 30] })
    (G : Nat) (l : List Int) (hs : a.eval s = .slice (some ⟨G, 0, none⟩) l.length l.length) (hold : ∀ j u, (l.map (Value.int .u8))[j]? = some u → w.cell? ((⟨G, 0, none⟩ : Addr).add j) = some u) (ad : Addr) (key : List Int) (c : Nat) (hx : a.eval x = .slice (some ad) key.length c) (hn : ∀ j u, (key.map (Value.int .u8))[j]? = some u → w.cell? (ad.add j) = some u) (hp : 0 < key.length) (hlen : l.length + key.length ≤ 1000000)
    (h : ∀ v' w', OwnI w' w.heap.size v' (l ++ key) → Below w.heap.size w w' → K (a.put o.dst v') w') : o.wp Tryd.prog a w K Q := by
  obtain ⟨i0, hi, hz0, hz1, hz2⟩ := infB
  have hfin : ∀ v' w', w'.ownsRow w.heap.size 5 1 v' (l.length + key.length) (l.map (Value.int .u8) ++ key.map (Value.int .u8)) → OwnI w' w.heap.size v' (l ++ key) := fun v' w' h1 => by
    unfold OwnI
    rw [List.length_append, List.map_append]
    exact h1
  have hr := run_append_grow (P := Tryd.prog) w 30 o.type 5 i0 (.int .u8 0) Tryd.underlying30 hi hz0 ⟨G, 0, none⟩ l.length l.length (l.map (Value.int .u8)) (by simp [hz1]) hold ad key.length c (key.map (Value.int .u8)) (by simp [hz1]) hn (by omega) (by omega) (growslice_fits (by omega) (by rw [hz2]; omega))
  have hge := grownCap_ge w (l.length + key.length) l.length 5
  have hcm : grownCap w (l.length + key.length) l.length 5 ≤ maxLen := grownCap_le_maxLen w (l.length + key.length) l.length 5 (by unfold maxLen; omega)
  unfold Oper.wp execOp
  simp only [ho, resolve, invoke, builtin, Sem.run_bind, Sem.run_pure, Result.andThen_ok, List.map_toArray, List.map_cons, List.map_nil, hs, hx, hr]
  refine h _ _ (hfin _ _ ⟨by simp, .inr ⟨w.heap.size, _, _, rfl, Nat.le_refl _, Go.heap_alloc_new w.drew _, hge, hcm, ?_, ?_⟩⟩) ⟨rfl, rfl, rfl, by simp, fun k hk => Go.heap_alloc_old w.drew _ hk⟩
  · simp only [Array.size_append, List.size_toArray, size_zeroCells, List.length_map]
    simp only [Value.cells, List.size_toArray, List.length_singleton]
    omega
  · simp only [Array.toList_append, List.append_assoc, Nat.mul_one]
    rw [← List.append_assoc]
    exact List.take_left' (by simp)
theorem wpList_append_full {w : World} {ops : Array Oper} {rest : List Oper} {o : Oper} {a : Act} {Q : Exit → Act → World → Prop} (hgd : o.guard = none) (s x : Operand) (ho : o.op = .call { callee := .builtin .append, args := #[s, x], argTypes := #[30, 30] })
    (G : Nat) (l : List Int) (hs : a.eval s = .slice (some ⟨G, 0, none⟩) l.length l.length) (hold : ∀ j u, (l.map (Value.int .u8))[j]? = some u → w.cell? ((⟨G, 0, none⟩ : Addr).add j) = some u) (ad : Addr) (key : List Int) (c : Nat) (hx : a.eval x = .slice (some ad) key.length c) (hn : ∀ j u, (key.map (Value.int .u8))[j]? = some u → w.cell? (ad.add j) = some u) (hp : 0 < key.length) (hlen : l.length + key.length ≤ 1000000)
    (h : ∀ v' w', OwnI w' w.heap.size v' (l ++ key) → Below w.heap.size w w' → wpList Tryd.prog ops Q rest (a.put o.dst v') w') : wpList Tryd.prog ops Q (o :: rest) a w :=
  wpList_plain hgd fun _ hK => wp_append_full s x ho G l hs hold ad key c hx hn hp hlen (fun v' w' h1 h2 => hK _ _ (h v' w' h1 h2))
theorem OwnI.bysN {W : World} {b : Nat} {v : Value} {l : List Int} (h : OwnI W b v l) (hl : l.length ≤ 140737488351232) (hz : ∀ z ∈ l, 0 ≤ z ∧ z < 256) : BysN W v l := by
  refine ⟨((Sec.bys (.inl h)) (by omega) hz).1, hl, fun a n c e hn => ?_⟩
  rcases h with ⟨_, ⟨rfl, h0⟩ | ⟨g, cap, cur, rfl, _⟩⟩
  · cases e; rfl
  · cases e; cases hn
theorem run_bs0 (W : World) : (Instr.buildSlice 30 0 #[]).run Tryd.prog W = .ok (.slice (some ⟨W.heap.size, 0, none⟩) 0 0) (W.alloc (.cells #[] 5)) := by kernel_rfl
theorem op_bs0 {o : Oper} {a : Act} {w : World} (ho : o.op = .buildSlice 30 0 #[]) : (execOp a.eval o).run Tryd.prog w = .ok (.value (.slice (some ⟨w.heap.size, 0, none⟩) 0 0)) (w.alloc (.cells #[] 5)) := by
  have hr := run_bs0 w
  unfold execOp
  simp only [ho, Sem.run_bind, Sem.run_pure, List.map_toArray, List.map_nil, hr, Result.andThen_ok]
theorem run_bs1 (x : Int) (W : World) : (Instr.buildSlice 30 1 #[(0, .int .u8 x)]).run Tryd.prog W = .ok (.slice (some ⟨W.heap.size, 0, none⟩) 1 1) (W.alloc (.cells #[.int .u8 x] 5)) := by kernel_rfl
theorem op_bs1 {o : Oper} {a : Act} {w : World} (p : Operand) (ho : o.op = .buildSlice 30 1 #[(0, p)]) (x : Int) (hp : a.eval p = .int .u8 x) : (execOp a.eval o).run Tryd.prog w = .ok (.value (.slice (some ⟨w.heap.size, 0, none⟩) 1 1)) (w.alloc (.cells #[.int .u8 x] 5)) := by
  have hr := run_bs1 x w
  unfold execOp
  simp only [ho, Sem.run_bind, Sem.run_pure, List.map_toArray, List.map_cons, List.map_nil, hp, hr, Result.andThen_ok]
theorem op_str1 {o : Oper} {a : Act} {W : World} (x : Operand) (ho : o.op = .convert 30 9 x) (g c : Nat) (hx : a.eval x = .slice (some ⟨g, 0, none⟩) 1 c) (z : Int) {t : TypeId} {fr : Nat × Nat} (hg : W.heap[g]? = some (.cells #[.int .u8 z] t fr)) : (execOp a.eval o).run Tryd.prog W = .ok (.value (.string (strOfNums [z]))) W := by
  have hr := run_convert_bytes_arg (P := Tryd.prog) W 30 5 Tryd.underlying30 Tryd.underlying5 g 0 1 c [z] rfl (fun i hi => by obtain rfl : i = 0 := (by omega); rw [cell_of_row _ _ _ _ _ _ hg]; rfl) 9 Tryd.underlying9
  unfold execOp
  simp only [ho, hx, Sem.run_bind, Sem.run_pure, hr, Result.andThen_ok]
/-- The last digits of a number. -/
def dlo (n : Nat) : Nat → List UInt8
  | 0 => []
  | m + 1 => Lib.dg n m :: dlo n m
theorem dlo5 (n : Nat) : dlo n 5 = dig5 n := rfl
theorem dlo_len (n : Nat) : ∀ m, (dlo n m).length = m
  | 0 => rfl
  | m + 1 => by rw [dlo, List.length_cons, dlo_len n m]
/-- One digit ahead. -/
theorem dg_str (n m : Nat) : strOfNums [48 + ((n / 10 ^ m % 10 : Nat) : Int)] = ⟨#[Lib.dg n m]⟩ := by
  have e : ((48 : Int) + ((n / 10 ^ m % 10 : Nat) : Int)).toNat = 48 + n / 10 ^ m % 10 := by omega
  simp only [strOfNums, List.map_cons, List.map_nil, e]
  rfl
theorem cat_bytes (x y : List UInt8) : (⟨x.toArray⟩ : ByteArray) ++ ⟨y.toArray⟩ = ⟨(x ++ y).toArray⟩ := by
  apply ByteArray.ext
  rw [ByteArray.data_append]
  simp
theorem r_sumX (bs : List Int) (w : World) (v : Value) (hN : BysN w v bs) : Calls Tryd.prog 27 #[v] w fun e w' => ∃ u, e = .returned u ∧ u = .agg (irow .u8 (sumL bs)) ∧ Below w.heap.size w w' := (r_sum bs w v hN).mono fun _ _ h => ⟨_, h.1, rfl, h.2⟩
set_option maxRecDepth 100000 in
set_option maxHeartbeats 4000000 in
theorem r_digits (k : List Int) (hk : K8 k) (r : Nat) (h1 : 1 ≤ r) (hr : r ≤ 6000) (w : World) : Calls Tryd.prog 16 #[.agg (irow .u8 k), .int .i64 r] w fun e w' => ∃ v, e = .returned v ∧ v = .string ⟨(dgs (hrs k (r - 1)) 6).toArray⟩ ∧ Below w.heap.size w w' := by
  have R0 := hp1_0 w (.cells (irow .u8 k) 23)
  have hw : Below w.heap.size w (w.alloc (.cells (irow .u8 k) 23)) := (Below.refl _ _).alloc (Nat.le_refl _) _
  have sk := slice_k w.heap.size
  go_enter Tryd.func16, Tryd.ntmps16
  go_upto_region 1 with (first | (refine wpList_box rfl 23 _ rfl _ rfl (bKy _) ?_) | fail)
  try simp only [size_alloc1, Act.put, List.setIfInBounds_toArray, List.set_cons_succ, List.set_cons_zero]
  generalize w.alloc (.cells (irow .u8 k) 23) = w1 at *
  repeat ((fail_if_success (refine wpList_wop rfl (.slice (some ⟨w1.heap.size, 0, none⟩) 11 11) (w1.alloc (.cells #[.int .u8 112, .int .u8 97, .int .u8 119, .int .u8 108, .int .u8 32, .int .u8 115, .int .u8 97, .int .u8 102, .int .u8 101, .int .u8 116, .int .u8 121] 5)) (op_bs11 rfl) ?_)); first | go_skip | go_step)
  refine wpList_wop rfl (.slice (some ⟨w1.heap.size, 0, none⟩) 11 11) (w1.alloc (.cells #[.int .u8 112, .int .u8 97, .int .u8 119, .int .u8 108, .int .u8 32, .int .u8 115, .int .u8 97, .int .u8 102, .int .u8 101, .int .u8 116, .int .u8 121] 5)) (op_bs11 rfl) ?_
  have NM := hp1_0 w1 (.cells #[.int .u8 112, .int .u8 97, .int .u8 119, .int .u8 108, .int .u8 32, .int .u8 115, .int .u8 97, .int .u8 102, .int .u8 101, .int .u8 116, .int .u8 121] 5)
  have hb_ : Below w1.heap.size w1 (w1.alloc (.cells #[.int .u8 112, .int .u8 97, .int .u8 119, .int .u8 108, .int .u8 32, .int .u8 115, .int .u8 97, .int .u8 102, .int .u8 101, .int .u8 116, .int .u8 121] 5)) := (Below.refl _ _).alloc (Nat.le_refl _) _
  have l_R0_w2 := lt_of_row R0
  replace R0 := keep hb_ R0
  have sw_w2 := hw.size
  replace hw := Below.after hw hb_
  clear hb_
  try simp only [Act.put, List.setIfInBounds_toArray, List.set_cons_succ, List.set_cons_zero]
  generalize w1.alloc (.cells #[.int .u8 112, .int .u8 97, .int .u8 119, .int .u8 108, .int .u8 32, .int .u8 115, .int .u8 97, .int .u8 102, .int .u8 101, .int .u8 116, .int .u8 121] 5) = w2 at *
  generalize w1.heap.size = gN at *
  repeat ((fail_if_success (refine wpList_wop rfl (.slice (some ⟨gN, 0, none⟩) 11 11) (w2.freeze ⟨gN, 11, none⟩ 1) (op_cvC _ rfl gN 11 11 rfl _ NM) ?_)); first | go_skip | go_step)
  refine wpList_wop rfl (.slice (some ⟨gN, 0, none⟩) 11 11) (w2.freeze ⟨gN, 11, none⟩ 1) (op_cvC _ rfl gN 11 11 rfl _ NM) ?_
  have hbz := freeze_below w2 gN 11
  replace R0 := (freeze_other (W := w2) (g := gN) (k := 11) (by omega)).trans R0
  replace NM := freeze_heap (k := 11) NM
  replace hw := hw.trans (hbz.mono (by omega))
  clear hbz
  try simp only [Act.put, List.setIfInBounds_toArray, List.set_cons_succ, List.set_cons_zero]
  generalize w2.freeze ⟨gN, 11, none⟩ 1 = w3 at *
  repeat ((fail_if_success (refine wpList_append_full rfl _ _ rfl gN sfn rfl (sfn_news NM) ⟨w.heap.size, 0, none⟩ k 32 (by rw [hk.1]; rfl) (row_news R0) (by rw [hk.1]; decide) (by rw [hk.1]; decide) ?_)); first | go_skip | go_step)
  refine wpList_append_full rfl _ _ rfl gN sfn rfl (sfn_news NM) ⟨w.heap.size, 0, none⟩ k 32 (by rw [hk.1]; rfl) (row_news R0) (by rw [hk.1]; decide) (by rw [hk.1]; decide) ?_
  intro v1 w4 hC hb
  have l_R0_w4 := lt_of_row R0
  replace R0 := keep hb R0
  have sw_w4 := hw.size
  replace hw := Below.after hw hb
  clear hb NM
  try simp only [Act.put, List.setIfInBounds_toArray, List.set_cons_succ, List.set_cons_zero]
  go_wp2_with (fail)
  refine (r_sum (sfn ++ k) w4 _ (hC.bysN (by rw [List.length_append, hk.1]; decide) (fun z hz => (List.mem_append.1 hz).elim (sfn_bd z) (hk.2 z)))).mono ?_
  rintro e_ w6 ⟨rfl, hb⟩
  have l_R0_w6 := lt_of_row R0
  replace R0 := keep hb R0
  have sw_w6 := hw.size
  replace hw := Below.after hw hb
  clear hb hC
  have hl0 := hrs_len k 0
  rw [show sumL (sfn ++ k) = hrs k 0 from rfl]
  have z_ := hp1_0 w6 (.cells (irow .u8 (zr 32)) 23)
  go_wp2_with (first | (refine wpList_alloc rfl 23 rfl (irow .u8 (zr 32)) zkey ?_) | (refine wpList_store_row rfl 23 _ _ rfl (w6.heap.size) (irow .u8 (hrs k 0)) rfl rfl 23 _ z_ (infoKy _ hl0) (by rw [irow_size, irow_size, hl0, zr_len]) (irow_one _ _) ?_; refine wpList_stay ?_) | fail)
  unfold WpStay
  try simp only [Act.put, List.setIfInBounds_toArray, List.set_cons_succ, List.set_cons_zero]
  have HB := setRow_heap (w6.alloc (.cells (irow .u8 (zr 32)) 23)) w6.heap.size _ (irow .u8 (hrs k 0)) _ _ z_
  have hb_ : Below w6.heap.size w6 ((w6.alloc (.cells (irow .u8 (zr 32)) 23)).setRow w6.heap.size (irow .u8 (hrs k 0))) := below_setRow ((Below.refl _ _).alloc (Nat.le_refl _) _) (Nat.le_refl _) _
  have l_R0_w7 := lt_of_row R0
  replace R0 := keep hb_ R0
  have sw_w7 := hw.size
  replace hw := Below.after hw hb_
  clear hb_ z_
  generalize (w6.alloc (.cells (irow .u8 (zr 32)) 23)).setRow w6.heap.size (irow .u8 (hrs k 0)) = w7 at *
  generalize w6.heap.size = gH at *
  have skH := slice_k gH
  go_wp2_with (fail)
  have lH7 := lt_of_row HB
  go_loopw [6] (fun i wr => ∃ m : Nat, m ≤ r - 1 ∧ i = .int .i64 ((m + 1 : Nat) : Int) ∧ wr.heap[w.heap.size]? = some (.cells (irow .u8 k) 23 (0, 0)) ∧ wr.heap[gH]? = some (.cells (irow .u8 (hrs k m)) 23 (0, 0)) ∧ Below gH w7 wr ∧ Below w.heap.size w wr) (fun i _ => r - (intOf i).toNat)
  case atStart => exact ⟨0, by omega, rfl, R0, HB, Below.refl _ _, hw⟩
  case round =>
    clear R0 HB hw
    obtain ⟨m, hm, rfl, R0, HB, hbg, hw⟩ := hrel
    by_cases hlt : m < r - 1
    · have hd : decide (((m + 1 : Nat) : Int) < (r : Int)) = true := by simp; omega
      have hlm := hrs_len k m
      have hl1 := hrs_len k (m + 1)
      have szg := hbg.size
      go_upto_region 5 with (fail)
      have hbd : Below wr.heap.size wr wr.drew := below_drN (Below.refl _ _) 1
      have l_R0_x1 := lt_of_row R0
      have l_HB_x1 := lt_of_row HB
      replace R0 := keep hbd R0
      replace HB := keep hbd HB
      have sw_x1 := hw.size
      replace hw := Below.after hw hbd
      replace hbg := hbg.trans (hbd.mono (by omega))
      clear hbd
      refine wp_region_noPanic ?_
      refine wp_region_held (S := fun _ => True) (by kernel_rfl) ?_
      change wpAnyH _ _ _ _ _ _ _ _ (World.drew _)
      generalize wr.drew = x1 at *
      refine wpAnyH_take (i := 1) (v := ?v3) rfl (by kernel_rfl) (by kernel_rfl) (by kernel_rfl) (fun _ _ _ h => h) (Or.inl ⟨by rfl, ?y3⟩) trivial ?r3
      case y3 =>
        intro w_ hS_
        go_simp
        try with_reducible rfl
      simp only [Act.put, List.getElem_toArray, List.getElem_cons_succ, List.getElem_cons_zero, List.setIfInBounds_toArray, List.set_cons_succ, List.set_cons_zero]
      refine wpAnyH_take (i := 3) (v := ?v4) rfl (by kernel_rfl) (by kernel_rfl) (by kernel_rfl) (fun _ _ _ h => h) (Or.inl ⟨by rfl, ?y4⟩) trivial ?r4
      case y4 =>
        intro w_ hS_
        go_simp
        try with_reducible rfl
      simp only [Act.put, List.getElem_toArray, List.getElem_cons_succ, List.getElem_cons_zero, List.setIfInBounds_toArray, List.set_cons_succ, List.set_cons_zero]
      refine wpAnyH_one (k := 0) (fuel := 4) (by kernel_rfl) rfl (by kernel_rfl) (fun K_ hK => ?_)
      refine wp_world_op (.slice (some ⟨x1.heap.size, 0, none⟩) 0 0) (x1.alloc (.cells #[] 5)) (op_bs0 rfl) ?_
      have hb_ : Below x1.heap.size x1 (x1.alloc (.cells #[] 5)) := (Below.refl _ _).alloc (Nat.le_refl _) _
      have l_R0_x2 := lt_of_row R0
      have l_HB_x2 := lt_of_row HB
      replace R0 := keep hb_ R0
      replace HB := keep hb_ HB
      have sw_x2 := hw.size
      replace hw := Below.after hw hb_
      replace hbg := hbg.trans (hb_.mono (by omega))
      clear hb_
      refine hK _ _ trivial ?_
      simp only [Act.put, List.getElem_toArray, List.getElem_cons_zero, List.setIfInBounds_toArray, List.set_cons_succ, List.set_cons_zero]
      clear hK
      generalize x1.alloc (.cells #[] 5) = x2 at *
      generalize x1.heap.size = gP2 at *
      refine wpAnyH_one (k := 2) (fuel := 3) (by kernel_rfl) rfl (by kernel_rfl) (fun K_ hK => ?_)
      refine wp_append_full _ _ rfl gP2 [] rfl (fun j u hu => by simp at hu) ⟨gH, 0, none⟩ (hrs k m) 32 (by rw [hlm]; rfl) (row_news HB) (by rw [hlm]; decide) (by rw [hlm]; decide) (fun v2 x3 hC hb => ?_)
      have sz3_ := hb.size
      have l_R0_x3 := lt_of_row R0
      have l_HB_x3 := lt_of_row HB
      replace R0 := keep hb R0
      replace HB := keep hb HB
      have sw_x3 := hw.size
      replace hw := Below.after hw hb
      replace hbg := hbg.trans (hb.mono (by omega))
      clear hb
      rw [List.nil_append] at hC
      refine hK _ _ trivial ?_
      simp only [Act.put, List.getElem_toArray, List.getElem_cons_succ, List.getElem_cons_zero, List.setIfInBounds_toArray, List.set_cons_succ, List.set_cons_zero]
      clear hK
      refine wpAnyH_one (k := 4) (fuel := 2) (by kernel_rfl) rfl (by kernel_rfl) (fun K_ hK => ?_)
      refine wp_append_sec _ _ rfl x2.heap.size _ (hrs k m) rfl (.inl hC) ⟨w.heap.size, 0, none⟩ k 32 (by rw [hk.1]; rfl) (row_news R0) (by rw [hk.1]; decide) (by rw [hlm, hk.1]; decide) (by omega) (fun v3 x4 hD hgr => ?_)
      replace R0 := (hgr.block w.heap.size (by omega) (fun e => by have := (hC.lt _ e.symm).1; omega)).trans R0
      replace HB := (hgr.block gH (by omega) (fun e => by have := (hC.lt _ e.symm).1; omega)).trans HB
      replace hw := hw.grown hgr (by omega) (fun z e => by have := (hC.lt z e).1; omega)
      replace hbg := hbg.grown hgr (by omega) (fun z e => by have := (hC.lt z e).1; omega)
      have szw4 := hgr.size
      clear hgr hC
      refine hK _ _ trivial ?_
      simp only [Act.put, List.getElem_toArray, List.getElem_cons_succ, List.getElem_cons_zero, List.setIfInBounds_toArray, List.set_cons_succ, List.set_cons_zero]
      clear hK
      refine wpAnyH_one (k := 5) (fuel := 1) (by kernel_rfl) rfl (by kernel_rfl) (fun K_ hK => ?_)
      refine wp_call_ex (f := 27) (by kernel_rfl) (r_sumX (hrs k m ++ k) x4 _ (hD.bysN (by rw [List.length_append, hk.1, hlm]; decide) (fun z hz => (List.mem_append.1 hz).elim (hrs_bd k m z) (hk.2 z)))) (fun v_ x5 hX_ => ?_)
      obtain ⟨rfl, hb⟩ := hX_
      have l_R0_x5 := lt_of_row R0
      have l_HB_x5 := lt_of_row HB
      replace R0 := keep hb R0
      replace HB := keep hb HB
      have sw_x5 := hw.size
      replace hw := Below.after hw hb
      replace hbg := hbg.trans (hb.mono (by omega))
      clear hb hD
      rw [show sumL (hrs k m ++ k) = hrs k (m + 1) from rfl]
      refine hK _ _ trivial ?_
      simp only [Act.put, List.getElem_toArray, List.getElem_cons_succ, List.getElem_cons_zero, List.setIfInBounds_toArray, List.set_cons_succ, List.set_cons_zero]
      clear hK
      refine wpAnyH_one (k := 6) (fuel := 0) (by kernel_rfl) rfl (by kernel_rfl) (fun K_ hK => ?_)
      refine wp_store_row 23 _ _ rfl gH (irow .u8 (hrs k (m + 1))) rfl rfl 23 _ HB (infoKy _ hl1) (by rw [irow_size, irow_size, hl1, hlm]) (irow_one _ _) ?_
      replace R0 := (setRow_other x5 gH _ (irow .u8 (hrs k (m + 1))) (by omega)).trans R0
      replace HB := setRow_heap x5 gH _ (irow .u8 (hrs k (m + 1))) _ _ HB
      replace hbg := below_setRow hbg (Nat.le_refl gH) (irow .u8 (hrs k (m + 1)))
      replace hw := below_setRow hw (show w.heap.size ≤ gH by omega) (irow .u8 (hrs k (m + 1)))
      refine hK _ _ trivial ?_
      simp only [Act.put]
      clear hK
      generalize x5.setRow gH (irow .u8 (hrs k (m + 1))) = x6 at *
      refine wpAnyH_done (by kernel_rfl) ?_ _
      refine NoPanic.normal ?_
      go_wp2_with (fail)
      refine ⟨⟨m + 1, by omega, by go_num, R0, HB, hbg, hw⟩, ?_⟩
      simp [intOf]; omega
    · obtain rfl : m = r - 1 := by omega
      have hd : decide (((r - 1 + 1 : Nat) : Int) < (r : Int)) = false := by simp; omega
      have hlh := hrs_len k (r - 1)
      have hzh := hrs_bd k (r - 1)
      generalize hG : hrs k (r - 1) = h at *
      replace hG := hide hG
      have lHy := lt_of_row HB
      have lRy := lt_of_row R0
      clear hbg
      generalize wr = y at *
      go_wp2_with (fail)
      go_loopw [7, 8] (fun o i wr => ∃ j : Nat, j ≤ 6 ∧ i = .int .i64 ((5 * j : Nat) : Int) ∧ o = .string ⟨(dgs h j).toArray⟩ ∧ Below y.heap.size y wr) (fun _ i _ => 30 - (intOf i).toNat)
      case atStart => exact ⟨0, by omega, rfl, rfl, Below.refl _ _⟩
      case round =>
        obtain ⟨j, hj, rfl, rfl, hby⟩ := hrel
        by_cases hj6 : j < 6
        · have hdj : decide (((5 * j : Nat) : Int) < 30) = true := by simp; omega
          have szy := hby.size
          replace HB := (hby.block gH lHy).trans HB
          obtain ⟨g1, g2, g3⟩ := grp_cells hlh hzh HB j hj6
          generalize hq : ((h.drop (5 * j)).take 5).map Int.toNat = q at *
          have hq' := hide hq
          clear hq
          go_wp2_with (fail)
          go_loopw [9, 10] (fun n i wx => ∃ m : Nat, m ≤ 5 ∧ i = .int .i64 m ∧ n = .int .u64 ((be5 (q.take m) : Nat) : Int) ∧ wx = wr) (fun _ i _ => 5 - (intOf i).toNat)
          case atStart => exact ⟨0, by omega, rfl, rfl, rfl⟩
          case round =>
            obtain ⟨m, hm, rfl, rfl, rfl⟩ := hrel
            by_cases hm5 : m < 5
            · have hdm : decide ((m : Int) < 5) = true := by simp; omega
              have hmq : m < q.length := by omega
              have hcell := g3 m q[m] (List.getElem?_eq_getElem hmq)
              have hx := g2 q[m] (List.getElem_mem hmq)
              have hn := be5_lt q g2 m (by omega)
              have hp : 256 ^ m ≤ 256 ^ 5 := Nat.pow_le_pow_right (by omega) (by omega)
              have e1 : IntKind.u64.wrap (IntKind.u64.wrap ((be5 (q.take m) : Nat) * 256) + (q[m] : Int)) = ((be5 (q.take (m + 1)) : Nat) : Int) := by
                rw [be5_take q m hmq, IntKind.wrap_u64, IntKind.wrap_u64]
                omega
              replace e1 := hide e1
              clear hn hp
              go_wp2_with (fail)
              refine ⟨⟨m + 1, by omega, by go_num, by rw [e1.out], trivial⟩, ?_⟩
              simp [intOf]; omega
            · obtain rfl : m = 5 := by omega
              have hdm : decide (((5 : Nat) : Int) < 5) = false := by simp
              rw [List.take_of_length_le (by omega : q.length ≤ 5)]
              have hz5 : be5 q % 100000 < 100000 := Nat.mod_lt _ (by omega)
              obtain ⟨N, hN⟩ : ∃ N : Nat, N = be5 q % 100000 := ⟨_, rfl⟩
              have hNi : ((be5 q : Nat) : Int) % 100000 = (N : Int) := by omega
              rw [← hN] at hz5
              replace hN := hide hN
              replace hz5 := hide hz5
              clear g1 g2 g3
              go_wp2_with (fail)
              replace hNi := hide hNi
              generalize wr = y1 at *
              go_loopw [9, 11, 12] (fun n g i wx => ∃ m : Nat, m ≤ 5 ∧ i = .int .i64 m ∧ n = .int .u64 ((N / 10 ^ m : Nat) : Int) ∧ g = .string ⟨(dlo N m).toArray⟩ ∧ Below y1.heap.size y1 wx) (fun _ _ i _ => 5 - (intOf i).toNat)
              case atStart => exact ⟨0, by omega, rfl, by simp [hNi.out], rfl, Below.refl _ _⟩
              case round =>
                obtain ⟨m, hm, rfl, rfl, rfl, hbx⟩ := hrel
                have szx := hbx.size
                by_cases hm5 : m < 5
                · have hdm : decide ((m : Int) < 5) = true := by simp; omega
                  have hD : N / 10 ^ m < 100000 := Nat.lt_of_le_of_lt (Nat.div_le_self _ _) hz5.out
                  have hst := dg_str N m
                  have hdl := dlo_len N m
                  have hdd : N / 10 ^ m / 10 = N / 10 ^ (m + 1) := by rw [Nat.div_div_eq_div_mul, Nat.pow_succ]
                  have hdc : dlo N (m + 1) = Lib.dg N m :: dlo N m := rfl
                  generalize N / 10 ^ m = D at *
                  generalize dlo N m = L0 at *
                  generalize Lib.dg N m = dc at *
                  have e1 : IntKind.u64.wrap (48 + (D : Int) % 10) = 48 + (D : Int) % 10 := by rw [IntKind.wrap_u64]; omega
                  have e2 : IntKind.u8.wrap (48 + (D : Int) % 10) = 48 + (D : Int) % 10 := by rw [IntKind.wrap_u8]; omega
                  have e3 : Hid (IntKind.u64.wrap ((D : Int) / 10) = ((N / 10 ^ (m + 1) : Nat) : Int)) := hide (by rw [← hdd, IntKind.wrap_u64]; omega)
                  rw [show ((D % 10 : Nat) : Int) = (D : Int) % 10 by omega] at hst
                  replace hst := hide hst
                  replace hdc := hide hdc
                  replace hdl := hide hdl
                  clear hD hdd
                  have hcat : ¬ 9223372036854775807 < 1 + L0.length := by rw [hdl.out]; omega
                  repeat ((fail_if_success (refine wpList_wop rfl (.slice (some ⟨wr.heap.size, 0, none⟩) 1 1) (wr.alloc (.cells #[.int .u8 (48 + (D : Int) % 10)] 5)) (op_bs1 _ rfl (48 + (D : Int) % 10) rfl) ?_)); first | go_skip | go_step)
                  refine wpList_wop rfl (.slice (some ⟨wr.heap.size, 0, none⟩) 1 1) (wr.alloc (.cells #[.int .u8 (48 + (D : Int) % 10)] 5)) (op_bs1 _ rfl (48 + (D : Int) % 10) rfl) ?_
                  have HX := hp1_0 wr (.cells #[.int .u8 (48 + (D : Int) % 10)] 5)
                  replace hbx := hbx.trans (((Below.refl _ _).alloc (Nat.le_refl _) (.cells #[.int .u8 (48 + (D : Int) % 10)] 5)).mono szx)
                  try simp only [Act.put, List.setIfInBounds_toArray, List.set_cons_succ, List.set_cons_zero]
                  generalize wr.alloc (.cells #[.int .u8 (48 + (D : Int) % 10)] 5) = x2 at *
                  generalize wr.heap.size = gX at *
                  repeat ((fail_if_success (refine wpList_wop rfl (.string ⟨#[dc]⟩) x2 (by rw [← hst.out]; exact op_str1 _ rfl gX 1 rfl _ HX) ?_)); first | go_skip | go_step)
                  refine wpList_wop rfl (.string ⟨#[dc]⟩) x2 (by rw [← hst.out]; exact op_str1 _ rfl gX 1 rfl _ HX) ?_
                  try simp only [Act.put, List.setIfInBounds_toArray, List.set_cons_succ, List.set_cons_zero]
                  clear HX
                  go_wp2_with (fail)
                  refine ⟨⟨m + 1, by omega, by go_num, by rw [e3.out], by rw [hdc.out]; exact congrArg Value.string (cat_bytes [dc] L0), hbx⟩, ?_⟩
                  simp [intOf]; omega
                · obtain rfl : m = 5 := by omega
                  have hdm : decide (((5 : Nat) : Int) < 5) = false := by simp
                  have hc1 : ¬ 9223372036854775807 < (dgs h j).length + 1 := by rw [dgs_len]; omega
                  have hc2 : ¬ 9223372036854775807 < (dgs h j).length + 1 + (dlo N 5).length := by rw [dgs_len, dlo_len]; omega
                  have hfin : dgs h (j + 1) = dgs h j ++ [32] ++ dlo N 5 := by
                    rw [dgs_succ, dlo5, grp, hq'.out, ← hN.out]
                    simp
                  generalize dgs h j = E0 at *
                  generalize dlo N 5 = E5 at *
                  replace hfin := hide hfin
                  clear hdm
                  go_wp2_with (fail)
                  refine ⟨⟨j + 1, by omega, by go_num, by rw [hfin.out, ← cat_bytes, ← cat_bytes], hby.trans (hbx.mono (by omega))⟩, ?_⟩
                  simp [intOf]; omega
        · obtain rfl : j = 6 := by omega
          have hd6 : decide (((5 * 6 : Nat) : Int) < 30) = false := by simp
          go_wp2_with (fail)
          go_ret
          exact ⟨_, rfl, by rw [hG.out]; rfl, hw.trans (hby.mono (by omega))⟩

end Go.Proofs.YtdlillgkgbfheaaDoor
