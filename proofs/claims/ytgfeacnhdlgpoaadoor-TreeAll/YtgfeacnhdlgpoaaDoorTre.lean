import Derived.Test.YtgfeacnhdlgpoaaDoorProg
import Derived.WalkKit
import Derived.WalkSpells
import Derived.WalkLawsBesides
import Derived.Lib.QuietBelow
import Derived.BigQuiet
import Derived.OrdersHeld
import Derived.OwnWalk
import Derived.Deep.RegionHeld3
import Derived.Deep.Cut
import Derived.Deep.CutRange
import Derived.Test.YtgfeacnhdlgpoaaDoorTrd
namespace Go.Proofs.YtgfeacnhdlgpoaaDoor
set_option maxRecDepth 100000
open Go Go.RowKit Go.Sort
attribute [local go_sem] setCell_drewN alloc_drewN
theorem sumL_bd (bs : List Int) : ∀ z ∈ sumL bs, 0 ≤ z ∧ z < 256 := byts_bd _
/-- A key. -/
def Ky (k : List Int) : Prop := k.length = 32 ∧ ∀ z ∈ k, 0 ≤ z ∧ z < 256
theorem Ky.sum (bs : List Int) : Ky (sumL bs) := ⟨sumL_len _, sumL_bd _⟩
theorem Ky.nd (a b : List Int) : Ky (nd sumL a b) := Ky.sum _
theorem Ky.zero : Ky (zr 32) := ⟨zr_len 32, fun z hz => by rw [zr] at hz; rw [(List.mem_replicate.1 hz).2]; decide⟩
theorem Ky.rt {l : List (List Int)} (h : Kok l) : Ky (rt sumL l) := by
  by_cases h2 : l.length < 2
  · match l, h2, h with
    | [], _, _ => rw [rt_nil]; exact Ky.sum _
    | [x], _, h => rw [rt_one sumL rfl]; exact h x (by simp)
  · rw [rt_two sumL h2]; exact Ky.nd _ _
theorem Kok.ky {l : List (List Int)} (h : Kok l) {i : Nat} (hi : i < l.length) : Ky (l.getD i []) := h.at hi
set_option maxRecDepth 100000 in
set_option maxHeartbeats 8000000 in
theorem a_root0 {S : List Int} (hS32 : S.length = 32) (eS : Hid (sumL [] = S)) (w : World) (ao : Option Addr) (cap : Nat) (hS : Sta w) (hK : Kon w) : Calls Tryd.prog 18 #[.slice ao 0 cap] w fun e w' => e = .returned (.agg (irow .u8 S)) ∧ Below w.heap.size w w' := by
  have rp0 := hp1_0 w (.cells (irow .u8 (zr 32)) 24)
  have hw : Below w.heap.size w (w.alloc (.cells (irow .u8 (zr 32)) 24)) := ((Below.refl _ _).alloc (Nat.le_refl _) _)
  go_enter Tryd.func18, Tryd.ntmps18
  iterate 6 go_step
  try rw [zk32]
  generalize (w.alloc (.cells (irow .u8 (zr 32)) 24)) = w0 at *
  go_wp2_with (fail)
  refine (a_sum [] _ _ (hS.below hw) (hK.below hw) ⟨none, 0, rfl, by simp, fun j hj => by simp at hj, fun z hz => by cases hz⟩ (fun a l c e => by cases e; exact Nat.le_refl _) (by simp)).mono ?_
  rintro e_ w1 ⟨rfl, hb⟩
  replace rp0 := keep hb rp0
  replace hw := Below.after hw hb
  clear hb
  clear hS hK
  rw [eS.out]
  go_wp2_with (first | (refine wpList_load_want rfl 24 _ rfl (w.heap.size) rfl 24 (irow .u8 (zr 32)) (0, 0) _ rp0 Tryd.underlying24 rfl (infok8 _ (zr_len 32)) ?_) | (refine wpList_store_row rfl 24 _ _ rfl (w.heap.size) (irow .u8 S) rfl rfl 24 _ rp0 (infok8 _ hS32) (((irow_size _ _).trans (zr_len 32)).trans ((irow_size _ _).trans hS32).symm) (irow_one8 _) ?_) | fail)
  exact bodyPost_ret (v := .agg (irow .u8 S)) (results_cell_row Tryd.results18 _ _ (w.heap.size) _ (irow .u8 S) _ _ rfl (setRow_heap _ _ _ _ _ _ rp0) Tryd.underlying24 rfl (infok8 _ hS32)) rfl ⟨rfl, below_setRow hw (by omega) _⟩
set_option maxRecDepth 100000 in
set_option maxHeartbeats 8000000 in
theorem a_root1 (k : List Int) (hk : k.length = 32) (w : World) (g off cap : Nat) (cs : Array Value) (t : TypeId) (fr : Nat × Nat) (hg : w.heap[g]? = some (.cells cs t fr)) (hx : cs.extract off (off + (irow .u8 k).size) = irow .u8 k) : Calls Tryd.prog 18 #[.slice (some ⟨g, off, none⟩) 1 cap] w fun e w' => e = .returned (.agg (irow .u8 k)) ∧ Below w.heap.size w w' := by
  have rp0 := hp1_0 w (.cells (irow .u8 (zr 32)) 24)
  have hw : Below w.heap.size w (w.alloc (.cells (irow .u8 (zr 32)) 24)) := ((Below.refl _ _).alloc (Nat.le_refl _) _)
  go_enter Tryd.func18, Tryd.ntmps18
  iterate 6 go_step
  try rw [zk32]
  generalize (w.alloc (.cells (irow .u8 (zr 32)) 24)) = w0 at *
  replace hg := keep hw hg
  go_wp2_with (first | (refine wpList_load_part rfl 24 _ rfl g off rfl t cs fr (irow .u8 k) _ hg hx Tryd.underlying24 rfl (infok8 _ hk) ?_) | (refine wpList_store_row rfl 24 _ _ rfl (w.heap.size) (irow .u8 k) rfl rfl 24 _ rp0 (infok8 _ hk) (((irow_size _ _).trans (zr_len 32)).trans ((irow_size _ _).trans hk).symm) (irow_one8 _) ?_) | fail)
  exact bodyPost_ret (v := .agg (irow .u8 k)) (results_cell_row Tryd.results18 _ _ (w.heap.size) _ (irow .u8 k) _ _ rfl (setRow_heap _ _ _ _ _ _ rp0) Tryd.underlying24 rfl (infok8 _ hk)) rfl ⟨rfl, below_setRow hw (by omega) _⟩
set_option maxRecDepth 100000 in
set_option maxHeartbeats 8000000 in
theorem a_root2 {A B R : List Int} (hR : R.length = 32) (w : World) (ao : Option Addr) (n cap k : Nat) (hn : 2 ≤ n) (hm : n ≤ 4398046511000) (hc : n ≤ cap) (hk : k < n) (hz : ao = none → cap = 0) (cC : Gives 44 #[.int .i64 (n : Int)] (.int .i64 (k : Int))) (cA : (∀ W, Below w.heap.size w W → Calls Tryd.prog 18 #[.slice ao k cap] W fun e w' => e = .returned (.agg (irow .u8 A)) ∧ Below W.heap.size W w')) (cB : (∀ W, Below w.heap.size w W → Calls Tryd.prog 18 #[sltl ao n cap k] W fun e w' => e = .returned (.agg (irow .u8 B)) ∧ Below W.heap.size W w')) (cN : (∀ W, Below w.heap.size w W → Calls Tryd.prog 15 #[.agg (irow .u8 A), .agg (irow .u8 B)] W fun e w' => e = .returned (.agg (irow .u8 R)) ∧ Below W.heap.size W w')) : Calls Tryd.prog 18 #[.slice ao n cap] w fun e w' => e = .returned (.agg (irow .u8 R)) ∧ Below w.heap.size w w' := by
  have d0 : decide ((n : Int) = 0) = false := by simp; omega
  have d1 : decide ((n : Int) = 1) = false := by simp; omega
  have rp0 := hp1_0 w (.cells (irow .u8 (zr 32)) 24)
  have hw : Below w.heap.size w (w.alloc (.cells (irow .u8 (zr 32)) 24)) := ((Below.refl _ _).alloc (Nat.le_refl _) _)
  go_enter Tryd.func18, Tryd.ntmps18
  iterate 6 go_step
  try rw [zk32]
  generalize (w.alloc (.cells (irow .u8 (zr 32)) 24)) = w0 at *
  go_wp2_with (fail)
  refine (cC.at _).mono ?_
  rintro e_ w1 ⟨rfl, hb⟩
  replace rp0 := keep hb rp0
  replace hw := Below.after hw hb
  clear hb
  clear cC
  go_wp2_with (fail)
  have hb : Below w1.heap.size w1 w1.drew := below_drN (Below.refl _ _) 1
  replace rp0 := keep hb rp0
  replace hw := Below.after hw hb
  clear hb
  refine wp_region_noPanic ?_
  refine wp_region_held (S := fun _ => True) (by kernel_rfl) ?_
  change wpAnyH _ _ _ _ _ _ _ _ (World.drew _)
  generalize w1.drew = wd9 at *
  refine wpAnyH_take (i := 0) (v := ?v10) rfl (by kernel_rfl) (by kernel_rfl) (by kernel_rfl) (fun _ _ _ h => h) (Or.inl ⟨by rfl, ?y10⟩) (trivial) ?r10
  case y10 =>
    intro w_ hS_
    go_simp
    try with_reducible rfl
  simp only [Act.put, List.getElem_toArray, List.getElem_cons_zero, List.setIfInBounds_toArray, List.set_cons_succ, List.set_cons_zero]
  refine wpAnyH_take (i := 1) (v := ?v11) rfl (by kernel_rfl) (by kernel_rfl) (by kernel_rfl) (fun _ _ _ h => h) (Or.inl ⟨by rfl, ?y11⟩) (trivial) ?r11
  case y11 =>
    intro w_ hS_
    go_simp
    try with_reducible rfl
  simp only [Act.put, List.getElem_toArray, List.getElem_cons_succ, List.getElem_cons_zero, List.setIfInBounds_toArray, List.set_cons_succ, List.set_cons_zero]
  refine wpAnyH_take (i := 2) (v := .slice ao k cap) rfl (by kernel_rfl) (by kernel_rfl) (by kernel_rfl) (fun _ _ _ h => h) (Or.inl ⟨by rfl, ?y12⟩) (trivial) ?r12
  case y12 =>
    intro w_ hS_
    simp only [List.getElem_toArray, List.getElem_cons_succ, List.getElem_cons_zero]
    exact e_slice _ _ _ _ rfl _ (slk_head ao n cap k (by omega) hz _)
  simp only [Act.put, List.getElem_toArray, List.getElem_cons_succ, List.getElem_cons_zero, List.setIfInBounds_toArray, List.set_cons_succ, List.set_cons_zero]
  refine wpAnyH_take (i := 4) (v := ?v13) rfl (by kernel_rfl) (by kernel_rfl) (by kernel_rfl) (fun _ _ _ h => h) (Or.inl ⟨by rfl, ?y13⟩) (trivial) ?r13
  case y13 =>
    intro w_ hS_
    go_simp
    try with_reducible rfl
  simp only [Act.put, List.getElem_toArray, List.getElem_cons_succ, List.getElem_cons_zero, List.setIfInBounds_toArray, List.set_cons_succ, List.set_cons_zero]
  refine wpAnyH_take (i := 5) (v := ?v14) rfl (by kernel_rfl) (by kernel_rfl) (by kernel_rfl) (fun _ _ _ h => h) (Or.inl ⟨by rfl, ?y14⟩) (trivial) ?r14
  case y14 =>
    intro w_ hS_
    go_simp
    try with_reducible rfl
  simp only [Act.put, List.getElem_toArray, List.getElem_cons_succ, List.getElem_cons_zero, List.setIfInBounds_toArray, List.set_cons_succ, List.set_cons_zero]
  refine wpAnyH_take (i := 6) (v := sltl ao n cap k) rfl (by kernel_rfl) (by kernel_rfl) (by kernel_rfl) (fun _ _ _ h => h) (Or.inl ⟨by rfl, ?y15⟩) (trivial) ?r15
  case y15 =>
    intro w_ hS_
    simp only [List.getElem_toArray, List.getElem_cons_succ, List.getElem_cons_zero]
    exact e_slice _ _ _ _ rfl _ (slk_tail ao n cap k (by omega) _)
  simp only [Act.put, List.getElem_toArray, List.getElem_cons_succ, List.getElem_cons_zero, List.setIfInBounds_toArray, List.set_cons_succ, List.set_cons_zero]
  refine eH_one (k := 3) (fuel := 3) (by kernel_rfl) rfl (by kernel_rfl) (fun K_ hK_ => ?_)
  refine wp_call_ex (f := 18) (by kernel_rfl) (ex1e (cA _ hw)) (fun v_ wq16 hX_ => ?_)
  obtain ⟨rfl, hb⟩ := hX_
  replace rp0 := keep hb rp0
  replace hw := Below.after hw hb
  clear hb
  refine hK_ _ _ (trivial) ?_
  simp only [Act.put, List.getElem_toArray, List.getElem_cons_succ, List.getElem_cons_zero, List.setIfInBounds_toArray, List.set_cons_succ, List.set_cons_zero]
  clear hK_
  refine eH_one (k := 7) (fuel := 2) (by kernel_rfl) rfl (by kernel_rfl) (fun K_ hK_ => ?_)
  refine wp_call_ex (f := 18) (by kernel_rfl) (ex1e (cB _ hw)) (fun v_ wq17 hX_ => ?_)
  obtain ⟨rfl, hb⟩ := hX_
  replace rp0 := keep hb rp0
  replace hw := Below.after hw hb
  clear hb
  refine hK_ _ _ (trivial) ?_
  simp only [Act.put, List.getElem_toArray, List.getElem_cons_succ, List.getElem_cons_zero, List.setIfInBounds_toArray, List.set_cons_succ, List.set_cons_zero]
  clear hK_
  refine eH_one (k := 8) (fuel := 1) (by kernel_rfl) rfl (by kernel_rfl) (fun K_ hK_ => ?_)
  refine wp_call_ex (f := 15) (by kernel_rfl) (ex1e (cN _ hw)) (fun v_ wq18 hX_ => ?_)
  obtain ⟨rfl, hb⟩ := hX_
  replace rp0 := keep hb rp0
  replace hw := Below.after hw hb
  clear hb
  refine hK_ _ _ (trivial) ?_
  simp only [Act.put, List.getElem_toArray, List.getElem_cons_succ, List.getElem_cons_zero, List.setIfInBounds_toArray, List.set_cons_succ, List.set_cons_zero]
  clear hK_
  refine eH_one (k := 9) (fuel := 0) (by kernel_rfl) rfl (by kernel_rfl) (fun K_ hK_ => ?_)
  refine wp_store_row 24 _ _ rfl (w.heap.size) (irow .u8 R) rfl rfl 24 _ rp0 (infok8 _ hR) (((irow_size _ _).trans (zr_len 32)).trans ((irow_size _ _).trans hR).symm) (irow_one8 _) ?_
  have hN_ := setRow_heap wq18 (w.heap.size) _ (irow .u8 R) _ _ rp0
  replace hw := below_setRow hw (show w.heap.size ≤ w.heap.size by omega) (irow .u8 R)
  generalize (wq18.setRow (w.heap.size) (irow .u8 R)) = wq19 at *
  clear rp0
  have rp0 := hN_
  clear hN_
  refine hK_ _ _ (trivial) ?_
  simp only [Act.put]
  clear hK_
  refine wpAnyH_done (by kernel_rfl) ?_ _
  refine NoPanic.normal ?_
  go_wp2_with (fail)
  exact bodyPost_ret (v := .agg (irow .u8 R)) (results_cell_row Tryd.results18 _ _ (w.heap.size) _ (irow .u8 R) _ _ rfl rp0 Tryd.underlying24 rfl (infok8 _ hR)) rfl ⟨rfl, hw⟩
theorem a_Root : ∀ (n : Nat) (l : List (List Int)) (w : World) (v : Value), l.length = n → Sta w → Kon w → Ksl w v l → Calls Tryd.prog 18 #[v] w fun e w' => e = .returned (.agg (irow .u8 (rt sumL l))) ∧ Below w.heap.size w w' := by
  intro n
  induction n using Nat.strongRecOn with
  | ind n ih =>
    rintro l w v rfl hS hK hL
    obtain ⟨ao, cap, rfl, hc, hz⟩ := hL.slc
    by_cases h2 : l.length < 2
    · rcases Nat.lt_or_ge 0 l.length with h | h
      · have e1 : l.length = 1 := by omega
        obtain ⟨_, _, e, _, hko, _, _, hp⟩ := id hL
        cases e
        obtain ⟨g, off, cs, t, fr, rfl, q1, q2⟩ := hp 0 h
        rw [rt_one sumL e1, e1]
        rw [Nat.zero_mul, Nat.add_zero] at q2
        exact a_root1 _ (hko.at h).1 w g off cap cs t fr q1 q2
      · have e0 : l = [] := List.eq_nil_of_length_eq_zero (by omega)
        subst e0
        rw [rt_nil]
        exact a_root0 (sumL_len _) (hide rfl) w ao cap hS hK
    · have a := ct_lt h2
      have b := ct_pos l.length
      have l1 : (l.take (ctN l.length)).length = ctN l.length := by rw [List.length_take]; omega
      have l2 : (l.drop (ctN l.length)).length = l.length - ctN l.length := by rw [List.length_drop]
      have kA := Ky.rt (hL.ok.take (ctN l.length))
      have kB := Ky.rt (hL.ok.drop (ctN l.length))
      rw [rt_two sumL h2]
      exact a_root2 (Ky.nd _ _).1 w ao l.length cap (ctN l.length) (by omega) hL.le hc a hz (a_cut _ h2 hL.le) (fun W hW => ih _ a _ _ _ l1 (hS.below hW) (hK.below hW) ((hL.keep hW).head (by omega))) (fun W hW => ih (l.length - ctN l.length) (by omega) _ _ _ l2 (hS.below hW) (hK.below hW) ((hL.keep hW).tail (by omega))) (fun W hW => a_Node _ _ kA.1 kB.1 kA.2 kB.2 W (hS.below hW) (hK.below hW))
/-- Bytes, a little more than may be handed in. -/
def BysM (W : World) (v : Value) (bs : List Int) : Prop := Bys W v bs ∧ bs.length ≤ 140737488354000 ∧ (∀ a l c, v = .slice a l c → a = none → c = 0)
set_option maxRecDepth 100000 in
set_option maxHeartbeats 4000000 in
theorem r_sumM (bs : List Int) (w : World) (v : Value) (hN : BysM w v bs) : Calls Tryd.prog 42 #[v] w fun e w' => e = .returned (.agg (irow .u8 (sumL bs))) ∧ Below w.heap.size w w' := by
  obtain ⟨hB, hlim, hnil⟩ := hN
  have r0 := hp1_0 w (.cells (irow .u8 (zr 32)) 24)
  have hw : Below w.heap.size w (w.alloc (.cells (irow .u8 (zr 32)) 24)) := ((Below.refl _ _).alloc (Nat.le_refl _) _)

  replace hB := hB.keep hw
  have hz := hB
  obtain ⟨ao, cap, rfl, _, _, hz⟩ := hz
  have hnone := bys_none hB hnil
  obtain ⟨i0, hi, hz0, hz1, hz2⟩ := info8
  have hpb := plen_bd bs.length
  have hpl := padL_len bs.length
  have cP := r_pad bs.length (by omega)
  clear hnil
  go_enter Tryd.func42, Tryd.ntmps42
  go_wp2_with (first | (refine wpList_alloc rfl 24 rfl (irow .u8 (zr 32)) zkey ?_) | (at_make; refine wpList_make_own _ rfl _ _ 22 rfl (w.heap.size + 1) 5 i0 (.int .u8 0) 1 Tryd.underlying22 hi hz0 hz1 _ _ _ (bs.length + 72) rfl rfl (by omega) (by rw [hz2]; omega) (by unfold maxLen; omega) (by rw [size_alloc1]; exact Nat.le_refl _) ?_) | fail)
  try simp only [size_alloc1]
  have ysz : (w.alloc (.cells (irow .u8 (zr 32)) 24)).heap.size = w.heap.size + 1 := size_alloc1 _ _
  generalize (w.alloc (.cells (irow .u8 (zr 32)) 24)) = w0 at *
  intro w1 hown hgr
  have hbel : Below w0.heap.size w0 w1 := (Below.refl _ _).grown hgr (Nat.le_refl _) (fun k h => by cases h)
  replace r0 := keep hbel r0
  replace hB := hB.keep hbel
  replace hw := Below.after hw hbel
  clear hbel hgr
  have hcell := bys_cells hB
  go_wp2_with (at_builtin; refine wpList_append_fits_any _ rfl (.tmp 8) (.tmp 9) 22 rfl (w.heap.size + 1) 5 i0 1 Tryd.underlying22 hi hz1 (w.heap.size + 1) 0 (bs.length + 72) [] rfl hown ao bs.length cap (bs.map (Value.int .u8)) rfl (by simp) hnone hcell (ints_one .u8 bs) (by omega) ?_)
  intro w2 hown2 hgr
  have lr0 := lt_of_row r0
  replace r0 : w2.heap[w.heap.size]? = _ := (hgr.block _ lr0 (by intro e; injection e with e; omega)).trans r0
  replace hw := hw.grown hgr hw.size (fun k h => by injection h with h; omega)
  clear hgr hcell hown hB hnone lr0
  go_wp2_with (fail)
  refine (cP w2).mono ?_
  rintro e_ w3 ⟨vp, rfl, hp, hb⟩
  replace r0 := keep hb r0
  replace hown2 := own_keep hown2 hb
  have hs2 := hw.size
  replace hw := Below.after hw hb
  clear hb cP
  obtain ⟨_, ⟨_, h0⟩ | ⟨gp, capp, curp, rfl, hgp, _⟩⟩ := id hp
  · omega
  have hcell := hp.cells (g := gp) rfl
  go_wp2_with (at_builtin; refine wpList_append_fits_any _ rfl (.tmp 11) (.tmp 15) 22 rfl (w.heap.size + 1) 5 i0 1 Tryd.underlying22 hi hz1 (w.heap.size + 1) bs.length (bs.length + 72) _ rfl hown2 (some ⟨gp, 0, none⟩) (plen bs.length) capp ((padL bs.length).map (Value.int .u8)) rfl (by simp [hpl]) (by intro h; cases h) (fun ad had => by cases had; exact hcell) (ints_one .u8 _) (by omega) ?_)
  intro w4 hown4 hgr
  have lr0 := lt_of_row r0
  replace r0 : w4.heap[w.heap.size]? = _ := (hgr.block _ lr0 (by intro e; injection e with e; omega)).trans r0
  replace hw := hw.grown hgr hw.size (fun k h => by injection h with h; omega)
  clear hgr hcell hown2 hp lr0
  have hwl : (bs ++ padL bs.length).length = bs.length + plen bs.length := by rw [List.length_append, hpl]
  have hbz := both_bd hz (padL_bd bs.length)
  rw [← List.map_append] at hown4
  have hBw := Bys.of_own hown4 (by omega) hbz
  clear hown4
  have hfin : sumL bs = byts (fol sl (bs ++ padL bs.length) ((bs ++ padL bs.length).length / 64)) := rfl
  have hFl : (fol sl (bs ++ padL bs.length) ((bs ++ padL bs.length).length / 64)).length = 8 := fol_len rfl _ _
  have cB := r_bytes _ hFl (fol_bd sl_bd (bs ++ padL bs.length) _)
  rw [← hfin] at cB
  have cF := fun (W : World) (x : Value) (h : Bys W x (bs ++ padL bs.length)) => r_fold sl (bs ++ padL bs.length) rfl W x h (by omega)
  generalize fol sl (bs ++ padL bs.length) ((bs ++ padL bs.length).length / 64) = FW at *
  clear hfin
  have hSl := sumL_len bs
  clear hpl hwl hbz hpb hFl
  go_wp2_with (fail)
  refine (r_start.at _).mono ?_
  rintro e_ w5 ⟨rfl, hb⟩
  replace r0 := keep hb r0
  replace hBw := hBw.keep hb
  replace hw := Below.after hw hb
  clear hb
  go_wp2_with (fail)
  refine (cF w5 _ hBw).mono ?_
  rintro e_ w6 ⟨rfl, hb⟩
  replace r0 := keep hb r0
  replace hw := Below.after hw hb
  clear hb hBw
  go_wp2_with (fail)
  refine (cB.at _).mono ?_
  rintro e_ w7 ⟨rfl, hb⟩
  replace r0 := keep hb r0
  replace hw := Below.after hw hb
  clear hb
  go_wp2_with (first | (refine wpList_store_row rfl 24 _ _ rfl (w.heap.size) (irow .u8 (sumL bs)) rfl rfl 24 _ r0 (infok8 _ hSl) (fit32 _ _ (zr_len 32) hSl) (irow_one _ _) ?_) | fail)
  replace r0 := setRow_heap w7 (w.heap.size) _ (irow .u8 (sumL bs)) _ _ r0
  replace hw := below_setRow hw (Nat.le_refl _) (irow .u8 (sumL bs))
  generalize w7.setRow (w.heap.size) (irow .u8 (sumL bs)) = w9 at *
  exact bodyPost_ret (v := .agg (irow .u8 (sumL bs))) (results_cell_row Tryd.results42 _ _ (w.heap.size) _ _ _ _ rfl r0 Tryd.underlying24 rfl (infok8 _ hSl)) rfl ⟨rfl, hw⟩
theorem bys_k32 {W : World} {g : Nat} {l : List Int} {t : TypeId} (hl : l.length = 32) (hz : ∀ y ∈ l, 0 ≤ y ∧ y < 256) (hg : W.heap[g]? = some (.cells (irow .u8 l) t (0, 0))) : Bys W (.slice (some ⟨g, 0, none⟩) 32 32) l := by
  have h := bys_key hl hz hg
  rw [hl] at h
  exact h
theorem own_one8 (z : Int) (W : World) : OwnI (W.alloc (.cells #[.int .u8 z] 5)) W.heap.size (.slice (some ⟨W.heap.size, 0, none⟩) 1 1) [z] :=
  ⟨rfl, .inr ⟨W.heap.size, 1, #[.int .u8 z], rfl, Nat.le_refl _, hp1_0 W _, Nat.le_refl _, by decide, rfl, rfl⟩⟩
set_option maxRecDepth 100000 in
set_option maxHeartbeats 8000000 in
theorem r_Leaf (b : List Int) (w : World) (v : Value) (hB : Bys w v b) (hn : ∀ a l c, v = .slice a l c → a = none → c = 0) (hl : b.length ≤ 140737488353000) : Calls Tryd.prog 13 #[v] w fun e w' => e = .returned (.agg (irow .u8 (lfL b))) ∧ Below w.heap.size w w' := by
  obtain ⟨bo, bc, rfl, _, _, hz⟩ := id hB
  have rp0 := hp1_0 w (.cells (irow .u8 (zr 32)) 24)
  have hw : Below w.heap.size w (w.alloc (.cells (irow .u8 (zr 32)) 24)) := ((Below.refl _ _).alloc (Nat.le_refl _) _)
  go_enter Tryd.func13, Tryd.ntmps13
  iterate 6 go_step
  try rw [zk32]
  generalize (w.alloc (.cells (irow .u8 (zr 32)) 24)) = w0 at *
  go_wp2_with (at_builtin; refine wpList_append_I rfl (.tmp 3) (.tmp 4) rfl w0.heap.size _ [0] rfl (own_one8 0 w0) _ b rfl (hB.keep (hw.alloc hw.size _)) hn (by simp only [List.length_singleton]; omega) (by simp) ?_)
  intro v1 w1 hO hgr
  have hb : Below w0.heap.size w0 w1 := ((Below.refl _ _).alloc (Nat.le_refl _) _).grown hgr (by simp) (fun k e => by cases e; exact Nat.le_refl _)
  replace rp0 := keep hb rp0
  replace hw := Below.after hw hb
  clear hb
  obtain ⟨ao1, ac1, e1⟩ := slen_own hO
  subst e1
  have hO1 : OwnI w1 w0.heap.size _ (0 :: b) := hO
  go_wp2_with (fail)
  refine (r_sumM (0 :: b) _ _ ⟨hO1.bys (by simp; omega) (cons_bd (by decide) hz), by simp; omega, hO1.nilc⟩).mono ?_
  rintro e_ w2 ⟨rfl, hb⟩
  replace rp0 := keep hb rp0
  replace hw := Below.after hw hb
  clear hb
  go_wp2_with (first | (refine wpList_load_want rfl 24 _ rfl (w.heap.size) rfl 24 (irow .u8 (zr 32)) (0, 0) _ rp0 Tryd.underlying24 rfl (infok8 _ (zr_len 32)) ?_) | (refine wpList_store_row rfl 24 _ _ rfl (w.heap.size) (irow .u8 (lfL b)) rfl rfl 24 _ rp0 (infok8 _ (sumL_len _)) (((irow_size _ _).trans (zr_len 32)).trans ((irow_size _ _).trans (sumL_len _)).symm) (irow_one8 _) ?_) | fail)
  exact bodyPost_ret (v := .agg (irow .u8 (lfL b))) (results_cell_row Tryd.results13 _ _ (w.heap.size) _ (irow .u8 (lfL b)) _ _ rfl (setRow_heap _ _ _ _ _ _ rp0) Tryd.underlying24 rfl (infok8 _ (sumL_len _))) rfl ⟨rfl, below_setRow hw (by omega) _⟩
theorem hO_lt {W : World} {b : Nat} {v : Value} {z : Int} {l : List Int} (h : OwnI W b v (z :: l)) : b ≤ W.heap.size := by
  obtain ⟨h1, ⟨_, h0⟩ | ⟨g, cap, cur, e, hb, hg, _⟩⟩ := h
  · simp at h0
  · have := lt_of_row hg; omega
set_option maxRecDepth 100000 in
set_option maxHeartbeats 8000000 in
theorem r_Text (a b : List Int) (ha : a.length = 32) (hB : b.length = 32) (za : ∀ y ∈ a, 0 ≤ y ∧ y < 256) (zb : ∀ y ∈ b, 0 ≤ y ∧ y < 256) (w : World) : Calls Tryd.prog 43 #[.agg (irow .u8 a), .agg (irow .u8 b)] w fun e w' => ∃ v, e = .returned v ∧ OwnI w' w.heap.size v (1 :: (a ++ b)) ∧ Below w.heap.size w w' := by
  have rp0 := hp2_0 w (.cells (irow .u8 a) 24) (.cells (irow .u8 b) 24)
  have rp1 := hp2_1 w (.cells (irow .u8 a) 24) (.cells (irow .u8 b) 24)
  have hw : Below w.heap.size w ((w.alloc (.cells (irow .u8 a) 24)).alloc (.cells (irow .u8 b) 24)) := (((Below.refl _ _).alloc (Nat.le_refl _) _).alloc (by simp) _)
  go_enter Tryd.func43, Tryd.ntmps43
  iterate 9 go_step
  generalize ((w.alloc (.cells (irow .u8 a) 24)).alloc (.cells (irow .u8 b) 24)) = w0 at *
  go_wp2_with (at_builtin; refine wpList_append_I rfl (.tmp 6) (.tmp 7) rfl w0.heap.size _ [1] rfl (own_one8 1 w0) _ a rfl (bys_k32 ha za (keep ((Below.refl _ _).alloc (Nat.le_refl _) _) rp0)) (by intro a_ l_ c_ e e0; cases e; cases e0) (by simp only [List.length_singleton]; omega) (by simp) ?_)
  intro v1 w1 hO hgr
  have hb : Below w0.heap.size w0 w1 := ((Below.refl _ _).alloc (Nat.le_refl _) _).grown hgr (by simp) (fun k e => by cases e; exact Nat.le_refl _)
  have hsz := hw.size
  replace rp0 := keep hb rp0
  replace rp1 := keep hb rp1
  replace hw := Below.after hw hb
  clear hb
  replace hO : OwnI w1 w0.heap.size v1 (1 :: a) := hO
  obtain ⟨ao1, ac1, e1⟩ := slen_own hO
  subst e1
  go_wp2_with (at_builtin; refine wpList_append_I rfl (.tmp 9) (.tmp 10) rfl w0.heap.size _ (1 :: a) rfl hO _ b rfl (bys_k32 hB zb rp1) (by intro a_ l_ c_ e e0; cases e; cases e0) (by simp only [List.length_cons]; omega) (hO_lt hO) ?_)
  intro v2 w2 hO2 hgr2
  replace hw := hw.grown hgr2 (by have := hO_lt hO; omega) (fun k e => by have := (hO.lt k (by first | exact e | (rw [← e]; cases ao1 <;> rfl))).1; omega)
  replace hO2 : OwnI w2 w0.heap.size v2 (1 :: (a ++ b)) := hO2
  obtain ⟨ao2, ac2, e2⟩ := slen_own hO2
  subst e2
  go_wp2_with (fail)
  go_ret
  exact ⟨_, rfl, hO2.down hsz, hw⟩
set_option maxRecDepth 100000 in
set_option maxHeartbeats 8000000 in
theorem r_Node (a b : List Int) (ha : a.length = 32) (hB : b.length = 32) (za : ∀ y ∈ a, 0 ≤ y ∧ y < 256) (zb : ∀ y ∈ b, 0 ≤ y ∧ y < 256) (w : World) : Calls Tryd.prog 16 #[.agg (irow .u8 a), .agg (irow .u8 b)] w fun e w' => e = .returned (.agg (irow .u8 (nd sumL a b))) ∧ Below w.heap.size w w' := by
  have rp0 := hp3_0 w (.cells (irow .u8 a) 24) (.cells (irow .u8 b) 24) (.cells (irow .u8 (zr 32)) 24)
  have rp1 := hp3_1 w (.cells (irow .u8 a) 24) (.cells (irow .u8 b) 24) (.cells (irow .u8 (zr 32)) 24)
  have rp2 := hp3_2 w (.cells (irow .u8 a) 24) (.cells (irow .u8 b) 24) (.cells (irow .u8 (zr 32)) 24)
  have hw : Below w.heap.size w (((w.alloc (.cells (irow .u8 a) 24)).alloc (.cells (irow .u8 b) 24)).alloc (.cells (irow .u8 (zr 32)) 24)) := ((((Below.refl _ _).alloc (Nat.le_refl _) _).alloc (by simp) _).alloc (by simp; omega) _)
  go_enter Tryd.func16, Tryd.ntmps16
  iterate 12 go_step
  try rw [zk32]
  generalize (((w.alloc (.cells (irow .u8 a) 24)).alloc (.cells (irow .u8 b) 24)).alloc (.cells (irow .u8 (zr 32)) 24)) = w0 at *
  go_wp2_with (first | (refine wpList_load_want rfl 24 _ rfl (w.heap.size) rfl 24 (irow .u8 a) (0, 0) _ rp0 Tryd.underlying24 rfl (infok8 _ ha) ?_) | (refine wpList_load_want rfl 24 _ rfl (w.heap.size + 1) rfl 24 (irow .u8 b) (0, 0) _ rp1 Tryd.underlying24 rfl (infok8 _ hB) ?_) | (refine wpList_load_want rfl 24 _ rfl (w.heap.size + 1 + 1) rfl 24 (irow .u8 (zr 32)) (0, 0) _ rp2 Tryd.underlying24 rfl (infok8 _ (zr_len 32)) ?_) | fail)
  refine (r_Text a b ha hB za zb _).mono ?_
  rintro e_ w1 ⟨v1, rfl, hO, hb⟩
  replace rp0 := keep hb rp0
  replace rp1 := keep hb rp1
  replace rp2 := keep hb rp2
  replace hw := Below.after hw hb
  clear hb
  obtain ⟨ao1, ac1, e1⟩ := slen_own hO
  generalize (1 :: (a ++ b)).length = L1 at e1
  subst e1
  go_wp2_with (fail)
  refine (r_sum (1 :: (a ++ b)) _ _ ⟨hO.bys (by simp; omega) (nd_bd za zb), by simp; omega, hO.nilc⟩).mono ?_
  rintro e_ w2 ⟨rfl, hb⟩
  replace rp0 := keep hb rp0
  replace rp1 := keep hb rp1
  replace rp2 := keep hb rp2
  replace hw := Below.after hw hb
  clear hb
  go_wp2_with (first | (refine wpList_load_want rfl 24 _ rfl (w.heap.size) rfl 24 (irow .u8 a) (0, 0) _ rp0 Tryd.underlying24 rfl (infok8 _ ha) ?_) | (refine wpList_load_want rfl 24 _ rfl (w.heap.size + 1) rfl 24 (irow .u8 b) (0, 0) _ rp1 Tryd.underlying24 rfl (infok8 _ hB) ?_) | (refine wpList_load_want rfl 24 _ rfl (w.heap.size + 1 + 1) rfl 24 (irow .u8 (zr 32)) (0, 0) _ rp2 Tryd.underlying24 rfl (infok8 _ (zr_len 32)) ?_) | (refine wpList_store_row rfl 24 _ _ rfl (w.heap.size + 1 + 1) (irow .u8 (nd sumL a b)) rfl rfl 24 _ rp2 (infok8 _ (sumL_len _)) (((irow_size _ _).trans (zr_len 32)).trans ((irow_size _ _).trans (sumL_len _)).symm) (irow_one8 _) ?_) | fail)
  exact bodyPost_ret (v := .agg (irow .u8 (nd sumL a b))) (results_cell_row Tryd.results16 _ _ (w.heap.size + 1 + 1) _ (irow .u8 (nd sumL a b)) _ _ rfl (setRow_heap _ _ _ _ _ _ rp2) Tryd.underlying24 rfl (infok8 _ (sumL_len _))) rfl ⟨rfl, below_setRow hw (by omega) _⟩
set_option maxRecDepth 100000 in
set_option maxHeartbeats 8000000 in
theorem r_cut (n : Nat) (h2 : ¬ n < 2) (hn : n ≤ 4398046511000) : Gives 45 #[.int .i64 (n : Int)] (.int .i64 (ctN n : Int)) := by
  intro w
  have key : ∀ i k : Nat, k = 2 ^ i → k < n → ¬ k < n - k → ctN n = k := fun i k e h1 h3 => by rw [e]; exact ct_of (by omega) (by omega)
  go_enter Tryd.func45, Tryd.ntmps45
  go_wp2
  go_loopw [3] (fun u wr => ∃ i k : Nat, k = 2 ^ i ∧ 1 ≤ k ∧ k < n ∧ u = .int .i64 (k : Int) ∧ wr = w) (fun u _ => n - (intOf u).toNat)
  case atStart => exact ⟨0, 1, rfl, by omega, by omega, rfl, rfl⟩
  case round =>
    obtain ⟨i, k, hk, h1, hkn, rfl, rfl⟩ := hrel
    have hk' := hide hk
    have kk := key i k hk hkn
    clear hk key
    by_cases c : k < n - k
    · have hd : decide ((k : Int) < (n : Int) - (k : Int)) = true := by simp; omega
      clear kk
      go_wp2
      refine ⟨⟨i + 1, 2 * k, by rw [Nat.pow_succ', hk'.out], by omega, by omega, by go_num, trivial⟩, ?_⟩
      simp [intOf]; omega
    · have hd : decide ((k : Int) < (n : Int) - (k : Int)) = false := by simp; omega
      have kq := hide (kk c)
      clear kk
      go_wp2
      go_ret
      exact ⟨by rw [kq.out]; rfl, Below.refl _ _⟩
set_option maxRecDepth 100000 in
set_option maxHeartbeats 8000000 in
theorem r_root0 {S : List Int} (hS32 : S.length = 32) (eS : Hid (sumL [] = S)) (w : World) (ao : Option Addr) (cap : Nat)  : Calls Tryd.prog 19 #[.slice ao 0 cap] w fun e w' => e = .returned (.agg (irow .u8 S)) ∧ Below w.heap.size w w' := by
  have rp0 := hp1_0 w (.cells (irow .u8 (zr 32)) 24)
  have hw : Below w.heap.size w (w.alloc (.cells (irow .u8 (zr 32)) 24)) := ((Below.refl _ _).alloc (Nat.le_refl _) _)
  go_enter Tryd.func19, Tryd.ntmps19
  iterate 6 go_step
  try rw [zk32]
  generalize (w.alloc (.cells (irow .u8 (zr 32)) 24)) = w0 at *
  go_wp2_with (fail)
  refine (r_sum [] _ _ ⟨⟨none, 0, rfl, by simp, fun j hj => by simp at hj, fun z hz => by cases hz⟩, by simp, fun a l c e h => by cases e; rfl⟩).mono ?_
  rintro e_ w1 ⟨rfl, hb⟩
  replace rp0 := keep hb rp0
  replace hw := Below.after hw hb
  clear hb
  rw [eS.out]
  go_wp2_with (first | (refine wpList_load_want rfl 24 _ rfl (w.heap.size) rfl 24 (irow .u8 (zr 32)) (0, 0) _ rp0 Tryd.underlying24 rfl (infok8 _ (zr_len 32)) ?_) | (refine wpList_store_row rfl 24 _ _ rfl (w.heap.size) (irow .u8 S) rfl rfl 24 _ rp0 (infok8 _ hS32) (((irow_size _ _).trans (zr_len 32)).trans ((irow_size _ _).trans hS32).symm) (irow_one8 _) ?_) | fail)
  exact bodyPost_ret (v := .agg (irow .u8 S)) (results_cell_row Tryd.results19 _ _ (w.heap.size) _ (irow .u8 S) _ _ rfl (setRow_heap _ _ _ _ _ _ rp0) Tryd.underlying24 rfl (infok8 _ hS32)) rfl ⟨rfl, below_setRow hw (by omega) _⟩
set_option maxRecDepth 100000 in
set_option maxHeartbeats 8000000 in
theorem r_root1 (k : List Int) (hk : k.length = 32) (w : World) (g off cap : Nat) (cs : Array Value) (t : TypeId) (fr : Nat × Nat) (hg : w.heap[g]? = some (.cells cs t fr)) (hx : cs.extract off (off + (irow .u8 k).size) = irow .u8 k) : Calls Tryd.prog 19 #[.slice (some ⟨g, off, none⟩) 1 cap] w fun e w' => e = .returned (.agg (irow .u8 k)) ∧ Below w.heap.size w w' := by
  have rp0 := hp1_0 w (.cells (irow .u8 (zr 32)) 24)
  have hw : Below w.heap.size w (w.alloc (.cells (irow .u8 (zr 32)) 24)) := ((Below.refl _ _).alloc (Nat.le_refl _) _)
  go_enter Tryd.func19, Tryd.ntmps19
  iterate 6 go_step
  try rw [zk32]
  generalize (w.alloc (.cells (irow .u8 (zr 32)) 24)) = w0 at *
  replace hg := keep hw hg
  go_wp2_with (first | (refine wpList_load_part rfl 24 _ rfl g off rfl t cs fr (irow .u8 k) _ hg hx Tryd.underlying24 rfl (infok8 _ hk) ?_) | (refine wpList_store_row rfl 24 _ _ rfl (w.heap.size) (irow .u8 k) rfl rfl 24 _ rp0 (infok8 _ hk) (((irow_size _ _).trans (zr_len 32)).trans ((irow_size _ _).trans hk).symm) (irow_one8 _) ?_) | fail)
  exact bodyPost_ret (v := .agg (irow .u8 k)) (results_cell_row Tryd.results19 _ _ (w.heap.size) _ (irow .u8 k) _ _ rfl (setRow_heap _ _ _ _ _ _ rp0) Tryd.underlying24 rfl (infok8 _ hk)) rfl ⟨rfl, below_setRow hw (by omega) _⟩
set_option maxRecDepth 100000 in
set_option maxHeartbeats 8000000 in
theorem r_root2 {A B R : List Int} (hR : R.length = 32) (w : World) (ao : Option Addr) (n cap k : Nat) (hn : 2 ≤ n) (hm : n ≤ 4398046511000) (hc : n ≤ cap) (hk : k < n) (hz : ao = none → cap = 0) (cC : Gives 45 #[.int .i64 (n : Int)] (.int .i64 (k : Int))) (cA : (∀ W, Below w.heap.size w W → Calls Tryd.prog 19 #[.slice ao k cap] W fun e w' => e = .returned (.agg (irow .u8 A)) ∧ Below W.heap.size W w')) (cB : (∀ W, Below w.heap.size w W → Calls Tryd.prog 19 #[sltl ao n cap k] W fun e w' => e = .returned (.agg (irow .u8 B)) ∧ Below W.heap.size W w')) (cN : (∀ W, Below w.heap.size w W → Calls Tryd.prog 16 #[.agg (irow .u8 A), .agg (irow .u8 B)] W fun e w' => e = .returned (.agg (irow .u8 R)) ∧ Below W.heap.size W w')) : Calls Tryd.prog 19 #[.slice ao n cap] w fun e w' => e = .returned (.agg (irow .u8 R)) ∧ Below w.heap.size w w' := by
  have d0 : decide ((n : Int) = 0) = false := by simp; omega
  have d1 : decide ((n : Int) = 1) = false := by simp; omega
  have rp0 := hp1_0 w (.cells (irow .u8 (zr 32)) 24)
  have hw : Below w.heap.size w (w.alloc (.cells (irow .u8 (zr 32)) 24)) := ((Below.refl _ _).alloc (Nat.le_refl _) _)
  go_enter Tryd.func19, Tryd.ntmps19
  iterate 6 go_step
  try rw [zk32]
  generalize (w.alloc (.cells (irow .u8 (zr 32)) 24)) = w0 at *
  go_wp2_with (fail)
  refine (cC.at _).mono ?_
  rintro e_ w1 ⟨rfl, hb⟩
  replace rp0 := keep hb rp0
  replace hw := Below.after hw hb
  clear hb
  clear cC
  go_wp2_with (fail)
  have hb : Below w1.heap.size w1 w1.drew := below_drN (Below.refl _ _) 1
  replace rp0 := keep hb rp0
  replace hw := Below.after hw hb
  clear hb
  refine wp_region_noPanic ?_
  refine wp_region_held (S := fun _ => True) (by kernel_rfl) ?_
  change wpAnyH _ _ _ _ _ _ _ _ (World.drew _)
  generalize w1.drew = wd20 at *
  refine wpAnyH_take (i := 0) (v := ?v21) rfl (by kernel_rfl) (by kernel_rfl) (by kernel_rfl) (fun _ _ _ h => h) (Or.inl ⟨by rfl, ?y21⟩) (trivial) ?r21
  case y21 =>
    intro w_ hS_
    go_simp
    try with_reducible rfl
  simp only [Act.put, List.getElem_toArray, List.getElem_cons_zero, List.setIfInBounds_toArray, List.set_cons_succ, List.set_cons_zero]
  refine wpAnyH_take (i := 1) (v := ?v22) rfl (by kernel_rfl) (by kernel_rfl) (by kernel_rfl) (fun _ _ _ h => h) (Or.inl ⟨by rfl, ?y22⟩) (trivial) ?r22
  case y22 =>
    intro w_ hS_
    go_simp
    try with_reducible rfl
  simp only [Act.put, List.getElem_toArray, List.getElem_cons_succ, List.getElem_cons_zero, List.setIfInBounds_toArray, List.set_cons_succ, List.set_cons_zero]
  refine wpAnyH_take (i := 2) (v := .slice ao k cap) rfl (by kernel_rfl) (by kernel_rfl) (by kernel_rfl) (fun _ _ _ h => h) (Or.inl ⟨by rfl, ?y23⟩) (trivial) ?r23
  case y23 =>
    intro w_ hS_
    simp only [List.getElem_toArray, List.getElem_cons_succ, List.getElem_cons_zero]
    exact e_slice _ _ _ _ rfl _ (slk_head ao n cap k (by omega) hz _)
  simp only [Act.put, List.getElem_toArray, List.getElem_cons_succ, List.getElem_cons_zero, List.setIfInBounds_toArray, List.set_cons_succ, List.set_cons_zero]
  refine wpAnyH_take (i := 4) (v := ?v24) rfl (by kernel_rfl) (by kernel_rfl) (by kernel_rfl) (fun _ _ _ h => h) (Or.inl ⟨by rfl, ?y24⟩) (trivial) ?r24
  case y24 =>
    intro w_ hS_
    go_simp
    try with_reducible rfl
  simp only [Act.put, List.getElem_toArray, List.getElem_cons_succ, List.getElem_cons_zero, List.setIfInBounds_toArray, List.set_cons_succ, List.set_cons_zero]
  refine wpAnyH_take (i := 5) (v := ?v25) rfl (by kernel_rfl) (by kernel_rfl) (by kernel_rfl) (fun _ _ _ h => h) (Or.inl ⟨by rfl, ?y25⟩) (trivial) ?r25
  case y25 =>
    intro w_ hS_
    go_simp
    try with_reducible rfl
  simp only [Act.put, List.getElem_toArray, List.getElem_cons_succ, List.getElem_cons_zero, List.setIfInBounds_toArray, List.set_cons_succ, List.set_cons_zero]
  refine wpAnyH_take (i := 6) (v := sltl ao n cap k) rfl (by kernel_rfl) (by kernel_rfl) (by kernel_rfl) (fun _ _ _ h => h) (Or.inl ⟨by rfl, ?y26⟩) (trivial) ?r26
  case y26 =>
    intro w_ hS_
    simp only [List.getElem_toArray, List.getElem_cons_succ, List.getElem_cons_zero]
    exact e_slice _ _ _ _ rfl _ (slk_tail ao n cap k (by omega) _)
  simp only [Act.put, List.getElem_toArray, List.getElem_cons_succ, List.getElem_cons_zero, List.setIfInBounds_toArray, List.set_cons_succ, List.set_cons_zero]
  refine eH_one (k := 3) (fuel := 3) (by kernel_rfl) rfl (by kernel_rfl) (fun K_ hK_ => ?_)
  refine wp_call_ex (f := 19) (by kernel_rfl) (ex1e (cA _ hw)) (fun v_ wq27 hX_ => ?_)
  obtain ⟨rfl, hb⟩ := hX_
  replace rp0 := keep hb rp0
  replace hw := Below.after hw hb
  clear hb
  refine hK_ _ _ (trivial) ?_
  simp only [Act.put, List.getElem_toArray, List.getElem_cons_succ, List.getElem_cons_zero, List.setIfInBounds_toArray, List.set_cons_succ, List.set_cons_zero]
  clear hK_
  refine eH_one (k := 7) (fuel := 2) (by kernel_rfl) rfl (by kernel_rfl) (fun K_ hK_ => ?_)
  refine wp_call_ex (f := 19) (by kernel_rfl) (ex1e (cB _ hw)) (fun v_ wq28 hX_ => ?_)
  obtain ⟨rfl, hb⟩ := hX_
  replace rp0 := keep hb rp0
  replace hw := Below.after hw hb
  clear hb
  refine hK_ _ _ (trivial) ?_
  simp only [Act.put, List.getElem_toArray, List.getElem_cons_succ, List.getElem_cons_zero, List.setIfInBounds_toArray, List.set_cons_succ, List.set_cons_zero]
  clear hK_
  refine eH_one (k := 8) (fuel := 1) (by kernel_rfl) rfl (by kernel_rfl) (fun K_ hK_ => ?_)
  refine wp_call_ex (f := 16) (by kernel_rfl) (ex1e (cN _ hw)) (fun v_ wq29 hX_ => ?_)
  obtain ⟨rfl, hb⟩ := hX_
  replace rp0 := keep hb rp0
  replace hw := Below.after hw hb
  clear hb
  refine hK_ _ _ (trivial) ?_
  simp only [Act.put, List.getElem_toArray, List.getElem_cons_succ, List.getElem_cons_zero, List.setIfInBounds_toArray, List.set_cons_succ, List.set_cons_zero]
  clear hK_
  refine eH_one (k := 9) (fuel := 0) (by kernel_rfl) rfl (by kernel_rfl) (fun K_ hK_ => ?_)
  refine wp_store_row 24 _ _ rfl (w.heap.size) (irow .u8 R) rfl rfl 24 _ rp0 (infok8 _ hR) (((irow_size _ _).trans (zr_len 32)).trans ((irow_size _ _).trans hR).symm) (irow_one8 _) ?_
  have hN_ := setRow_heap wq29 (w.heap.size) _ (irow .u8 R) _ _ rp0
  replace hw := below_setRow hw (show w.heap.size ≤ w.heap.size by omega) (irow .u8 R)
  generalize (wq29.setRow (w.heap.size) (irow .u8 R)) = wq30 at *
  clear rp0
  have rp0 := hN_
  clear hN_
  refine hK_ _ _ (trivial) ?_
  simp only [Act.put]
  clear hK_
  refine wpAnyH_done (by kernel_rfl) ?_ _
  refine NoPanic.normal ?_
  go_wp2_with (fail)
  exact bodyPost_ret (v := .agg (irow .u8 R)) (results_cell_row Tryd.results19 _ _ (w.heap.size) _ (irow .u8 R) _ _ rfl rp0 Tryd.underlying24 rfl (infok8 _ hR)) rfl ⟨rfl, hw⟩
theorem r_Root : ∀ (n : Nat) (l : List (List Int)) (w : World) (v : Value), l.length = n → Ksl w v l → Calls Tryd.prog 19 #[v] w fun e w' => e = .returned (.agg (irow .u8 (rt sumL l))) ∧ Below w.heap.size w w' := by
  intro n
  induction n using Nat.strongRecOn with
  | ind n ih =>
    rintro l w v rfl hL
    obtain ⟨ao, cap, rfl, hc, hz⟩ := hL.slc
    by_cases h2 : l.length < 2
    · rcases Nat.lt_or_ge 0 l.length with h | h
      · have e1 : l.length = 1 := by omega
        obtain ⟨_, _, e, _, hko, _, _, hp⟩ := id hL
        cases e
        obtain ⟨g, off, cs, t, fr, rfl, q1, q2⟩ := hp 0 h
        rw [rt_one sumL e1, e1]
        rw [Nat.zero_mul, Nat.add_zero] at q2
        exact r_root1 _ (hko.at h).1 w g off cap cs t fr q1 q2
      · have e0 : l = [] := List.eq_nil_of_length_eq_zero (by omega)
        subst e0
        rw [rt_nil]
        exact r_root0 (sumL_len _) (hide rfl) w ao cap
    · have a := ct_lt h2
      have b := ct_pos l.length
      have l1 : (l.take (ctN l.length)).length = ctN l.length := by rw [List.length_take]; omega
      have l2 : (l.drop (ctN l.length)).length = l.length - ctN l.length := by rw [List.length_drop]
      have kA := Ky.rt (hL.ok.take (ctN l.length))
      have kB := Ky.rt (hL.ok.drop (ctN l.length))
      rw [rt_two sumL h2]
      exact r_root2 (Ky.nd _ _).1 w ao l.length cap (ctN l.length) (by omega) hL.le hc a hz (r_cut _ h2 hL.le) (fun W hW => ih _ a _ _ _ l1 ((hL.keep hW).head (by omega))) (fun W hW => ih (l.length - ctN l.length) (by omega) _ _ _ l2 ((hL.keep hW).tail (by omega))) (fun W hW => r_Node _ _ kA.1 kB.1 kA.2 kB.2 W)
end Go.Proofs.YtgfeacnhdlgpoaaDoor
