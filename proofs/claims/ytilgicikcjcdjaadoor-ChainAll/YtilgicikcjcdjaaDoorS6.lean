import Derived.Test.YtilgicikcjcdjaaDoorProg
import Derived.WalkKit
import Derived.Deep.MidRow
import Derived.Test.YtilgicikcjcdjaaDoorS0
import Derived.WalkSpells
import Derived.WalkLawsBesides
import Derived.Lib.QuietBelow
import Derived.BigQuiet
import Derived.OrdersHeld
import Derived.Laws.Tables
import Derived.Deep.Cut
import Derived.Deep.CutRange
import Derived.RangeFuncNested
import Derived.RangeFuncBound
import Derived.RangeFuncCalls
import Derived.RangeFuncLeaves
import Derived.Shelf.Abstract
import Derived.Shelf.RegionOpen
import Derived.OwnWalkIn
import Derived.TacticsInMore
import Derived.LoopNIn
import Derived.LoopIn
import Derived.OwnWalk
import Derived.Deep.RegionHeld3
import Derived.Test.YtilgicikcjcdjaaDoorS5
import Derived.RangeFuncBox
import Derived.Laws.MakeOwn
namespace Go.Proofs.YtilgicikcjcdjaaDoor
set_option maxRecDepth 100000
open Go Go.RowKit Go.Sort
/-! Registers: rows of one size, one behind the other in one block. -/
def fla (rs : List (Array Value)) : Array Value := (rs.map Array.toList).flatten.toArray
theorem fla_len {n : Nat} : ∀ {rs : List (Array Value)}, (∀ x ∈ rs, x.size = n) → (rs.map Array.toList).flatten.length = n * rs.length
  | [], _ => by simp
  | y :: ys, h => by
    have h1 := fla_len (rs := ys) (fun x hx => h x (List.mem_cons_of_mem _ hx))
    have h2 := h y List.mem_cons_self
    simp only [List.map_cons, List.flatten_cons, List.length_append, Array.length_toList, List.length_cons, Nat.mul_add, Nat.mul_one]
    omega
theorem fla_size {n : Nat} {rs : List (Array Value)} (h : ∀ x ∈ rs, x.size = n) : (fla rs).size = n * rs.length := by
  unfold fla
  rw [List.size_toArray]
  exact fla_len h
theorem fla_at {n : Nat} : ∀ {rs : List (Array Value)} {a : Nat} {x : Array Value}, (∀ y ∈ rs, y.size = n) → rs[a]? = some x → ((rs.map Array.toList).flatten.drop (n * a)).take n = x.toList
  | [], a, x, _, hx => by simp at hx
  | y :: ys, 0, x, h, hx => by
    have h2 := h y List.mem_cons_self
    obtain rfl : y = x := by simpa using hx
    simp only [List.map_cons, List.flatten_cons, Nat.mul_zero, List.drop_zero]
    rw [List.take_append, List.take_of_length_le (by rw [Array.length_toList]; omega), show n - y.toList.length = 0 by rw [Array.length_toList]; omega, List.take_zero, List.append_nil]
  | y :: ys, a + 1, x, h, hx => by
    have h2 := h y List.mem_cons_self
    have hx' : ys[a]? = some x := by simpa using hx
    have ih := fla_at (rs := ys) (fun x hx => h x (List.mem_cons_of_mem _ hx)) hx'
    simp only [List.map_cons, List.flatten_cons]
    rw [List.drop_append, List.drop_of_length_le (by rw [Array.length_toList, Nat.mul_add]; omega), List.nil_append, show n * (a + 1) - y.toList.length = n * a by rw [Array.length_toList, h2, Nat.mul_add]; omega]
    exact ih
theorem fla_part {n : Nat} {rs : List (Array Value)} {a : Nat} {x : Array Value} (h : ∀ y ∈ rs, y.size = n) (hx : rs[a]? = some x) : (fla rs).extract (n * a) (n * a + x.size) = x := by
  have hn : x.size = n := h x (List.mem_of_getElem? hx)
  apply Array.ext'
  rw [fla, Array.toList_extract, List.extract_eq_take_drop, show n * a + x.size - n * a = n by omega]
  exact fla_at h hx
def setL (cs : Array Value) : Nat → List Value → Array Value
  | _, [] => cs
  | o, v :: r => setL (cs.setIfInBounds o v) (o + 1) r
theorem hp_setCells (g : Nat) (t : TypeId) : ∀ (vs : List Value) (o : Nat) (w : World) (cs : Array Value), w.heap[g]? = some (.cells cs t (0, 0)) → (w.setCells g o vs).heap[g]? = some (.cells (setL cs o vs) t (0, 0))
  | [], _, _, _, h => h
  | v :: r, o, w, cs, h => hp_setCells g t r (o + 1) _ _ (heap_setCell_same w g o cs t v h)
theorem hp_setCells_else {g k : Nat} (hk : k ≠ g) : ∀ (vs : List Value) (o : Nat) (w : World), (w.setCells g o vs).heap[k]? = w.heap[k]?
  | [], _, _ => rfl
  | v :: r, o, w => (hp_setCells_else hk r (o + 1) _).trans (heap_setCell_other w _ k v hk)
theorem below_setCells5 {n g : Nat} {w0 : World} (hg : n ≤ g) : ∀ (vs : List Value) (o : Nat) (w : World), Below n w0 w → Below n w0 (w.setCells g o vs)
  | [], _, _, h => h
  | v :: r, o, _, h => below_setCells5 hg r (o + 1) _ (h.setCell hg v)
theorem setL_list : ∀ (vs : List Value) (A B C : List Value), B.length = vs.length → setL (A ++ (B ++ C)).toArray A.length vs = (A ++ (vs ++ C)).toArray
  | [], A, B, C, h => by
    obtain rfl : B = [] := List.length_eq_zero_iff.1 h
    rfl
  | v :: r, A, [], C, h => by simp at h
  | v :: r, A, b :: B, C, h => by
    have ih := setL_list r (A ++ [v]) B C (by simpa using h)
    rw [setL, List.setIfInBounds_toArray, List.set_append_right _ _ (Nat.le_refl _), Nat.sub_self, List.cons_append, List.set_cons_zero]
    simpa using ih
theorem fla_split {rs : List (Array Value)} {a : Nat} {y : Array Value} (hy : rs[a]? = some y) : rs = rs.take a ++ y :: rs.drop (a + 1) := by
  obtain ⟨h, e⟩ := List.getElem?_eq_some_iff.1 hy
  have := List.drop_eq_getElem_cons h
  rw [e] at this
  rw [← this, List.take_append_drop]
theorem fla_app (l m : List (Array Value)) (y : Array Value) : fla (l ++ y :: m) = ((l.map Array.toList).flatten ++ (y.toList ++ (m.map Array.toList).flatten)).toArray := by
  unfold fla
  rw [List.map_append, List.flatten_append, List.map_cons, List.flatten_cons]
theorem fla_set {n : Nat} {rs : List (Array Value)} {a : Nat} {x : Array Value} (h : ∀ y ∈ rs, y.size = n) (ha : a < rs.length) (hx : x.size = n) : setL (fla rs) (n * a) x.toList = fla (rs.set a x) := by
  have hy : rs[a]? = some rs[a] := List.getElem?_eq_getElem ha
  have hs := fla_split hy
  have hl : ((rs.take a).map Array.toList).flatten.length = n * a := by
    rw [fla_len (n := n) (fun z hz => h z (List.mem_of_mem_take hz)), List.length_take, Nat.min_eq_left (by omega)]
  have hn : rs[a].size = n := h _ (List.getElem_mem ha)
  rw [List.set_eq_take_append_cons_drop, if_pos ha, fla_app]
  conv => lhs; arg 1; rw [hs, fla_app]
  rw [← hl]
  exact setL_list _ _ _ _ (by rw [Array.length_toList, Array.length_toList, hn, hx])
theorem set_size {n : Nat} {rs : List (Array Value)} {a : Nat} {x : Array Value} (h : ∀ y ∈ rs, y.size = n) (hx : x.size = n) : ∀ y ∈ rs.set a x, y.size = n := by
  intro y hy
  rcases List.mem_or_eq_of_mem_set hy with h1 | rfl
  · exact h y h1
  · exact hx
end Go.Proofs.YtilgicikcjcdjaaDoor

namespace Go.Proofs.YtilgicikcjcdjaaDoor
set_option maxRecDepth 100000
open Go Go.RowKit Go.Sort
attribute [local go_sem] setCell_drewN alloc_drewN

theorem but_below {c : Nat} {w W W' : World} (h : But c w W) (hb : Below w.heap.size W W') : But c w W' :=
  ⟨hb.os.trans h.os, hb.tape.trans h.tape, hb.output.trans h.output, Nat.le_trans h.size hb.size, fun k hk hc => (hb.block k hk).trans (h.block k hk hc)⟩
theorem setL_size : ∀ (vs : List Value) (cs : Array Value) (o : Nat), (setL cs o vs).size = cs.size
  | [], _, _ => rfl
  | v :: r, cs, o => by rw [setL, setL_size r]; simp
theorem kone : Tryd.prog.built 26 [(0, .int .u8 1)] = some (irow .u8 (1 :: zr 31)) := by kernel_rfl
theorem infoK1 : (Tryd.prog.info? 26).map (·.size) = some ((irow .u8 (1 :: zr 31)) : Array Value).size := by kernel_rfl
theorem own_nilK (W : World) (b : Nat) : OwnK W b (.slice none 0 0) [] := ⟨rfl, .inl ⟨rfl, rfl⟩⟩
/-- A list of keys: where it lies, if it has any. -/
theorem OwnK.blk {W : World} {b : Nat} {v : Value} {ks : List (List Int)} (h : OwnK W b v ks) : ∃ ao cap, v = .slice ao ks.length cap ∧ (0 < ks.length → ∃ g cur, ao = some ⟨g, 0, none⟩ ∧ b ≤ g ∧ W.heap[g]? = some (.cells cur 26 (0, 0)) ∧ ks.length * 32 ≤ cur.size) := by
  obtain ⟨h1, ⟨rfl, h0⟩ | ⟨g, cap, cur, rfl, hb, hg, hn, hm, hs, ht⟩⟩ := h
  · exact ⟨none, 0, by rw [h0], fun h => by omega⟩
  · exact ⟨_, cap, rfl, fun _ => ⟨g, cur, rfl, hb, hg, by rw [hs]; exact Nat.mul_le_mul_right 32 hn⟩⟩
set_option maxRecDepth 100000 in
set_option maxHeartbeats 4000000 in
theorem skipped_aux (key key' : List Int) (hkl : key.length = 32) (hk' : key'.length = 32) (n n' t most code : Int) (ks : List (List Int)) (hl : ∀ k ∈ ks, k.length = 32) (hs : ks.length ≤ 1000000) (w : World) (c : Nat) (hc : c < w.heap.size)
    (cS : ∀ V, Below w.heap.size w V → Calls Tryd.prog 16 #[.pointer (some ⟨c, 0, none⟩), .int .u32 t, .int .i64 most] V fun e w' => ∃ v, e = .returned (.tuple #[v, .int .i64 code]) ∧ OwnK w' V.heap.size v ks ∧ w'.heap[c]? = some (.cells (chc key' n') 48 (0, 0)) ∧ But c V w')
    (cR : ∀ V, Calls Tryd.prog 17 #[.agg (chc key n), .int .u32 t, .int .i64 most] V fun e w' => ∃ u, e = .returned (.tuple #[.agg (chc key' n'), u, .int .i64 code]) ∧ OwnK w' V.heap.size u ks ∧ Below V.heap.size V w') :
    Calls Tryd.prog 11 #[.pointer (some ⟨c, 0, none⟩), .agg (chc key n), .int .u32 t, .int .i64 most] w fun e w' => e = .returned (.tuple #[.agg (chc key' n'), .bool true]) ∧ w'.heap[c]? = some (.cells (chc key' n') 48 (0, 0)) ∧ But c w w' := by
  have R0 := hp2_0 w (.cells (chc key n) 29) (.cells (chc (zr 32) 0) 29)
  have R1 := hp2_1 w (.cells (chc key n) 29) (.cells (chc (zr 32) 0) 29)
  have hB0 : Below w.heap.size w ((w.alloc (.cells (chc key n) 29)).alloc (.cells (chc (zr 32) 0) 29)) := (((Below.refl _ _).alloc (Nat.le_refl _) _).alloc (by simp) _)
  have hsz0 : ((w.alloc (.cells (chc key n) 29)).alloc (.cells (chc (zr 32) 0) 29)).heap.size = w.heap.size + 2 := by simp
  go_enter Tryd.func11, Tryd.ntmps11
  go_wp2_with (first | (refine wpList_box rfl 29 _ rfl _ rfl (bR _) ?_) | (refine wpList_alloc rfl 29 rfl (chc (zr 32) 0) zchr ?_) | fail)
  try simp only [size_alloc1, Act.put, List.setIfInBounds_toArray, List.set_cons_succ, List.set_cons_zero]
  generalize ((w.alloc (.cells (chc key n) 29)).alloc (.cells (chc (zr 32) 0) 29)) = w0 at *
  refine (cS w0 hB0).mono ?_
  rintro e_ w1 ⟨v, rfl, hv, rc, hb⟩
  have hw := (But.of (g := c) hB0).trans hb
  replace R0 := hb.row R0 (by omega)
  replace R1 := hb.row R1 (by omega)
  have hs1 := hb.size
  have hvl := hv.lt
  clear hb cS hB0
  go_wp2_with (first | (refine wpList_load_want rfl 29 _ rfl (w.heap.size) rfl 29 (chc key n) (0, 0) _ R0 Tryd.underlying29 rfl (infoR _ hkl _) ?_) | fail)
  refine (cR w1).mono ?_
  rintro e_ w2 ⟨u, rfl, hu, hb⟩
  have hs2 := hb.size
  replace R1 := keep hb R1
  replace rc := keep hb rc
  replace hv := hv.keep hb
  replace hw := hw.trans (But.of hb)
  clear hb cR R0
  have ze0 := hp1_0 w2 (.cells (chc (zr 32) 0) 29)
  have ye00 := setRow_heap (w2.alloc (.cells (chc (zr 32) 0) 29)) (w2.heap.size) _ (chc key' n') _ _ ze0
  have hbF : Below w2.heap.size w2 ((w2.alloc (.cells (chc (zr 32) 0) 29)).setRow (w2.heap.size) (chc key' n')) := (below_setRow ((Below.refl _ _).alloc (Nat.le_refl _) _) (show w2.heap.size ≤ w2.heap.size by omega) (chc key' n'))
  go_wp2_with (first | (refine wpList_alloc rfl 29 rfl (chc (zr 32) 0) zchr ?_) | (refine wpList_store_row rfl 29 _ _ rfl (w2.heap.size) (chc key' n') rfl rfl 29 _ ze0 (infoR _ hk' _) (by rw [chc_size _ (zr_len 32), chc_size _ hk']) (chc_one _ _) ?_; refine wpList_stay ?_) | fail)
  unfold WpStay
  replace R1 := keep hbF R1
  replace rc := keep hbF rc
  replace hv := hv.keep hbF
  replace hu := hu.keep hbF
  replace hw := hw.trans (But.of hbF)
  have hs3 := lt_of_row ye00
  clear hbF
  generalize ((w2.alloc (.cells (chc (zr 32) 0) 29)).setRow (w2.heap.size) (chc key' n')) = w3 at *
  generalize w2.heap.size = g2 at *
  have H2 := keepr ye00
  have c32 := cell_n key' hk' ye00
  have hek := eqKs _ hk'
  go_upto_region 3 with (fail)
  have k32 : ∀ p : Regrown, (grow (redrawn w3 p.d) p.os).cell? ⟨g2, 32, none⟩ = some (.int .u32 n') := fun p => cell_regrown (c32) p.d p.os
  refine wp_region_quiet_below (by kernel_rfl) (by kernel_rfl) ?_
  go_big_quiet_step (fail)
  go_big_quiet_step (fail)
  go_big_quiet_step (fail)
  go_big_quiet_step (fail)
  go_big_quiet_step (fail)
  go_big_quiet_step (fail)
  go_big_quiet_step (exact Calls.regrown_of (l_alike ks hl hs _ _ _ _ _ (hv.keep (below_regrown _ _ _)) (hu.keep (below_regrown _ _ _))))
  go_big_quiet_step (fail)
  go_big_quiet_step (fail)
  go_big_quiet_step (fail)
  go_big_quiet_step (fail)
  go_big_quiet_step (exact Calls.regrown_of (a_Key key' hk' n' _ c (keep (below_regrown _ _ _) rc)))
  go_big_quiet_step (fail)
  refine wpQuiet_load_part rfl 26 _ rfl g2 0 rfl 29 (chc key' n') (0, 0) (irow .u8 key') _ H2.out (chc_key _ hk' _) Tryd.underlying26 rfl (infok8 _ hk') ?_
  simp only [Act.put, List.setIfInBounds_toArray, List.set_cons_succ, List.set_cons_zero]
  go_big_quiet_step (fail)
  go_big_quiet_step (fail)
  go_big_quiet_step (fail)
  go_big_quiet_step (fail)
  go_big_quiet_step (exact Calls.regrown_of (a_N key' hk' n' _ c (keep (below_regrown _ _ _) rc)))
  go_big_quiet_step (fail)
  go_big_quiet_step (fail)
  go_big_quiet_step (fail)
  go_big_quiet_step (fail)
  refine wpQuiet_nil ?_
  rintro _ ⟨p, rfl⟩
  have hb := below_regrown w3 p.d p.os
  generalize grow (redrawn w3 p.d) p.os = w4 at *
  clear k32
  replace R1 := keep hb R1
  replace ye00 := keep hb ye00
  replace rc := keep hb rc
  replace hv := hv.keep hb
  replace hw := hw.trans (But.of hb)
  have hs4 := hb.size
  clear hb

  clear H2 c32 hu
  obtain ⟨vo, vc, rfl, hblk⟩ := hv.blk
  have hblk2 : 0 < ks.length → ∃ g cur, vo = some ⟨g, 0, none⟩ ∧ w.heap.size + 2 ≤ g ∧ g < g2 ∧ w4.heap[g]? = some (.cells cur 26 (0, 0)) ∧ ks.length * 32 ≤ cur.size := fun h => by
    obtain ⟨g, cur, e1, h1, h2, h3⟩ := hblk h
    refine ⟨g, cur, e1, by omega, ?_, h2, h3⟩
    have := (hvl g (by rw [e1]; rfl)).2
    omega
  clear hblk hv hvl
  generalize ks.length = L at *
  go_wp2_with (fail)
  go_loopw [15] (fun i wr => ∃ k : Nat, k ≤ L ∧ i = .int .i64 k ∧ (0 < L → ∃ g cur, vo = some ⟨g, 0, none⟩ ∧ w.heap.size + 2 ≤ g ∧ g < g2 ∧ wr.heap[g]? = some (.cells cur 26 (0, 0)) ∧ L * 32 ≤ cur.size) ∧ wr.heap[w.heap.size + 1]? = some (.cells (chc (zr 32) 0) 29 (0, 0)) ∧ wr.heap[g2]? = some (.cells (chc key' n') 29 (0, 0)) ∧ wr.heap[c]? = some (.cells (chc key' n') 48 (0, 0)) ∧ But c w wr) (fun i _ => L - (intOf i).toNat)
  case atStart => exact ⟨0, by omega, rfl, hblk2, R1, ye00, rc, hw⟩
  case round =>
    clear hblk2 R1 ye00 rc hw
    obtain ⟨k, hk, rfl, hblk, R1, r2, rc, hw⟩ := hrel
    by_cases hlt : k < L
    · have hd : decide ((k : Int) < (L : Int)) = true := by simp; omega
      obtain ⟨g, cur, rfl, hg1, hg2, rg, hcs⟩ := hblk (by omega)
      have hth : wr.there g (k * 32) ((irow .u8 (1 :: zr 31)) : Array Value).size := there_row rg (by rw [show ((irow .u8 (1 :: zr 31)) : Array Value).size = 32 from rfl]; omega)
      have x1 := (hp_setCells_else (g := g) (k := w.heap.size + 1) (by omega) ((irow .u8 (1 :: zr 31)) : Array Value).toList (k * 32) wr).trans R1
      have x2 := (hp_setCells_else (g := g) (k := g2) (by omega) ((irow .u8 (1 :: zr 31)) : Array Value).toList (k * 32) wr).trans r2
      have x3 := (hp_setCells_else (g := g) (k := c) (by omega) ((irow .u8 (1 :: zr 31)) : Array Value).toList (k * 32) wr).trans rc
      have x4 := hp_setCells g 26 ((irow .u8 (1 :: zr 31)) : Array Value).toList (k * 32) wr cur rg
      have x5 := but_below hw (below_setCells5 (g := g) (n := w.heap.size) (by omega) ((irow .u8 (1 :: zr 31)) : Array Value).toList (k * 32) wr (Below.refl _ _))
      generalize hON : ((irow .u8 (1 :: zr 31)) : Array Value) = ON at *
      clear R1 r2 rc hw hblk
      have hkone : Tryd.prog.built 26 [(0, .int .u8 1)] = some ON := by rw [← hON]; exact kone
      have hinf : (Tryd.prog.info? 26).map (·.size) = some ON.size := by rw [← hON]; exact infoK1
      have hone : ON.all (·.oneCell') = true := by rw [← hON]; exact irow_one _ _
      clear hON
      go_wp2_with (first | (refine wpList_build_as rfl 26 _ rfl [(0, .int .u8 1)] rfl ON hkone ?_) | (refine wpList_store_mid rfl 26 _ _ rfl g (k * 32) ON rfl rfl hth hinf hone ?_) | fail)
      refine ⟨⟨k + 1, by omega, by go_num, fun _ => ⟨g, _, rfl, hg1, hg2, x4, by rw [setL_size]; exact hcs⟩, x1, x2, x3, x5⟩, ?_⟩
      simp [intOf]; omega
    · obtain rfl : k = L := by omega
      have hd : decide ((k : Int) < (k : Int)) = false := by simp
      clear hblk
      go_upto_region 9 with (fail)
      have hbd : Below wr.heap.size wr wr.drew := below_drN (Below.refl _ _) 1
      replace R1 := keep hbd R1
      replace r2 := keep hbd r2
      replace rc := keep hbd rc
      replace hw := hw.trans (But.of hbd)
      clear hbd
      refine wp_region_noPanic ?_
      refine wp_region_held (S := fun W => W.heap[g2]? = some (.cells (chc key' n') 29 (0, 0))) (by kernel_rfl) ?_
      change wpAnyH _ _ _ _ _ _ _ _ (World.drew _)
      generalize wr.drew = wq at *
      refine wpAnyH_take (i := 0) (v := .agg (chc key' n')) rfl (by kernel_rfl) (by kernel_rfl) (by kernel_rfl) (fun _ _ _ h => h) (Or.inl ⟨by rfl, ?y10⟩) (r2) ?r10
      case y10 =>
        intro w_ hS_
        simp only [List.getElem_toArray, List.getElem_cons_zero]
        exact run_load_part 29 _ (by rfl) (g2) 0 (by rfl) 29 (chc key' n') (0, 0) (chc key' n') _ (hS_) (all_row _) Tryd.underlying29 rfl (infoR _ hk' _)
      simp only [Act.put, List.getElem_toArray, List.getElem_cons_zero, List.setIfInBounds_toArray, List.set_cons_succ, List.set_cons_zero]
      refine wpAnyH_take (i := 1) (v := ?v11) rfl (by kernel_rfl) (by kernel_rfl) (by kernel_rfl) (fun _ _ _ h => h) (Or.inl ⟨by rfl, ?y11⟩) (r2) ?r11
      case y11 =>
        intro w_ hS_
        go_simp
        try with_reducible rfl
      simp only [Act.put, List.getElem_toArray, List.getElem_cons_succ, List.getElem_cons_zero, List.setIfInBounds_toArray, List.set_cons_succ, List.set_cons_zero]
      refine wpAnyH_take (i := 3) (v := ?v12) rfl (by kernel_rfl) (by kernel_rfl) (by kernel_rfl) (fun _ _ _ h => h) (Or.inl ⟨by rfl, ?y12⟩) (r2) ?r12
      case y12 =>
        intro w_ hS_
        go_simp
        try with_reducible rfl
      simp only [Act.put, List.getElem_toArray, List.getElem_cons_succ, List.getElem_cons_zero, List.setIfInBounds_toArray, List.set_cons_succ, List.set_cons_zero]
      refine wpAnyH_take (i := 4) (v := .agg (irow .u8 key')) rfl (by kernel_rfl) (by kernel_rfl) (by kernel_rfl) (fun _ _ _ h => h) (Or.inl ⟨by rfl, ?y13⟩) (r2) ?r13
      case y13 =>
        intro w_ hS_
        simp only [List.getElem_toArray, List.getElem_cons_succ, List.getElem_cons_zero]
        exact run_load_part 26 _ (by rfl) (g2) 0 (by rfl) 29 (chc key' n') (0, 0) (irow .u8 key') _ (hS_) (chc_key _ hk' _) Tryd.underlying26 rfl (infok8 _ hk')
      simp only [Act.put, List.getElem_toArray, List.getElem_cons_succ, List.getElem_cons_zero, List.setIfInBounds_toArray, List.set_cons_succ, List.set_cons_zero]
      refine wpAnyH_one (k := 2) (fuel := 3) (by kernel_rfl) rfl (by kernel_rfl) (fun K_ hK_ => ?_)
      refine wp_call_ex (f := 5) (by kernel_rfl) (ex1 (a_Key key' hk' n' _ c rc)) (fun v_ q3 hX_ => ?_)
      obtain ⟨rfl, hb_⟩ := hX_
      replace R1 := keep hb_ R1
      replace r2 := keep hb_ r2
      replace rc := keep hb_ rc
      replace hw := hw.trans (But.of hb_)
      clear hb_
      refine hK_ _ _ (r2) ?_
      simp only [Act.put, List.getElem_toArray, List.getElem_cons_succ, List.getElem_cons_zero, List.setIfInBounds_toArray, List.set_cons_succ, List.set_cons_zero]
      clear hK_
      refine wpAnyH_take (i := 5) (v := ?v14) rfl (by kernel_rfl) (by kernel_rfl) (by kernel_rfl) (fun _ _ _ h => h) (Or.inl ⟨by rfl, ?y14⟩) (r2) ?r14
      case y14 =>
        intro w_ hS_
        go_simp
        try with_reducible rfl
      simp only [Act.put, List.getElem_toArray, List.getElem_cons_succ, List.getElem_cons_zero, List.setIfInBounds_toArray, List.set_cons_succ, List.set_cons_zero]
      refine wpAnyH_one (k := 6) (fuel := 1) (by kernel_rfl) rfl (by kernel_rfl) (fun K_ hK_ => ?_)
      refine wp_store_row 29 _ _ rfl (w.heap.size + 1) (chc key' n') rfl rfl 29 _ R1 (infoR _ hk' _) (by rw [chc_size _ (zr_len 32), chc_size _ hk']) (chc_one _ _) ?_
      replace r2 := (setRow_other q3 (w.heap.size + 1) (g2) (chc key' n') (by omega)).trans r2
      replace rc := (setRow_other q3 (w.heap.size + 1) (c) (chc key' n') (by omega)).trans rc
      replace R1 := setRow_heap q3 (w.heap.size + 1) _ (chc key' n') _ _ R1
      replace hw := but_row hw (w.heap.size + 1) (chc key' n') (.inl (by omega))
      refine hK_ _ _ (r2) ?_
      simp only [Act.put]
      clear hK_
      generalize q3.setRow (w.heap.size + 1) (chc key' n') = q4 at *
      refine wpAnyH_take (i := 7) (v := ?v15) rfl (by kernel_rfl) (by kernel_rfl) (by kernel_rfl) (fun _ _ _ h => h) (Or.inl ⟨by rfl, ?y15⟩) (r2) ?r15
      case y15 =>
        intro w_ hS_
        go_simp
        try with_reducible rfl
      simp only [Act.put, List.getElem_toArray, List.getElem_cons_succ, List.getElem_cons_zero, List.setIfInBounds_toArray, List.set_cons_succ, List.set_cons_zero]
      refine wpAnyH_done (by kernel_rfl) ?_ _
      refine NoPanic.normal ?_
      go_wp2
      exact bodyPost_ret (results_cell_slot Tryd.results11 _ _ (w.heap.size + 1) _ _ _ _ rfl R1 Tryd.underlying29 rfl (infoR _ hk' _)) rfl ⟨rfl, rc, hw⟩

end Go.Proofs.YtilgicikcjcdjaaDoor

namespace Go.Proofs.YtilgicikcjcdjaaDoor
set_option maxRecDepth 100000
open Go Go.RowKit Go.Sort
attribute [local go_sem] setCell_drewN alloc_drewN

attribute [local go_sem] Oper.semAt_some
theorem ecutW {G : Prop} {A : World → Prop} (T : World → Prop) (h1 : (∀ W, T W → A W) → G) (h2 : ∀ W, T W → A W) : G := h1 h2
def AhJ (w w7 : World) (e g11 : Nat) (r : Loop) (i : Nat) (A : World) : Prop :=
  A.heap[e + 1]? = some (.loop r) ∧ A.heap[e]? = some (.deferred (some [])) ∧ A.heap[g11]? = some (.cells #[.int .i64 (i : Int)] 3 (0, 0)) ∧ (∀ g, g < e → g ≠ g11 → A.heap[g]? = w7.heap[g]?) ∧ Below w.heap.size w A ∧ e + 2 ≤ A.heap.size
theorem bInt (v : Int) (W : World) : (Instr.box 3 (.int .i64 v)).run Tryd.prog W = .ok (.pointer (some ⟨W.heap.size, 0, none⟩)) (W.alloc (.cells #[.int .i64 v] 3)) := by kernel_rfl
set_option maxRecDepth 100000 in
set_option maxHeartbeats 4000000 in
theorem l_ahead (key : List Int) (hkl : key.length = 32) (hkz : ∀ z ∈ key, 0 ≤ z ∧ z < 256) (n : Int) (hn0 : 0 ≤ n) (hn1 : n ≤ 4294967295) (k : Int) (hk : k ≤ 100000) (stop : Int) (w : World) (hS : Sta w) (hK : Kon w) (c : Nat) (rc : w.heap[c]? = some (.cells (chc key n) 48 (0, 0))) :
    Calls Tryd.prog 12 #[.pointer (some ⟨c, 0, none⟩), .agg (chc key n), .int .i64 k, .int .i64 stop] w fun e w' => e = .returned (.bool true) ∧ Below w.heap.size w w' := by
  have R0 := hp3_0 w (.cells (chc key n) 29) (.cells #[.int .i64 stop] 3) (.cells #[.bool false] 4)
  have R1 := hp3_1 w (.cells (chc key n) 29) (.cells #[.int .i64 stop] 3) (.cells #[.bool false] 4)
  have R2 := hp3_2 w (.cells (chc key n) 29) (.cells #[.int .i64 stop] 3) (.cells #[.bool false] 4)
  have hw : Below w.heap.size w (((w.alloc (.cells (chc key n) 29)).alloc (.cells #[.int .i64 stop] 3)).alloc (.cells #[.bool false] 4)) := ((((Below.refl _ _).alloc (Nat.le_refl _) _).alloc (by simp) _).alloc (by simp; omega) _)
  refine (callsIn_wide (n := 4)).1 (callsIn_of_wp_marks Tryd.func12 rfl trivial ?_)
  refine wpIn_wide.2 ?_
  simp only [Tryd.ntmps12, List.size_toArray, List.length_cons, List.length_nil, Nat.reduceAdd, Nat.reduceSub, Array.replicate_succ, Array.replicate_zero, List.push_toArray, List.append_toArray, List.nil_append, List.cons_append]
  go_wp2_with (first | (refine wpList_box rfl 29 _ rfl _ rfl (bR _) ?_) | (refine wpList_load_want rfl 29 _ rfl (w.heap.size) rfl 29 (chc key n) (0, 0) _ R0 Tryd.underlying29 rfl (infoR _ hkl _) ?_) | fail)
  try simp only [size_alloc1, Act.put, List.setIfInBounds_toArray, List.set_cons_succ, List.set_cons_zero]
  have zz : w.heap.size + 3 = (((w.alloc (.cells (chc key n) 29)).alloc (.cells #[.int .i64 stop] 3)).alloc (.cells #[.bool false] 4)).heap.size := by simp
  have lc := lt_of_row rc
  replace rc := keep hw rc
  generalize (((w.alloc (.cells (chc key n) 29)).alloc (.cells #[.int .i64 stop] 3)).alloc (.cells #[.bool false] 4)) = w0 at *
  have cA := r_Ahead key hkl hkz n hn0 hn1 k hk w0
  refine cA.mono ?_
  rintro e_ w4 ⟨v, u, rfl, hV, hU, hAp, hb⟩
  have sz4 := hb.size
  replace R0 := keep hb R0
  replace R1 := keep hb R1
  replace R2 := keep hb R2
  replace rc := keep hb rc
  replace hw := Below.after hw hb
  clear hb cA
  obtain ⟨va, vc, hve⟩ := slen_own hV
  obtain ⟨ua, uc, hue⟩ := slen_own hU
  rw [nums_len] at hve
  rw [msgs_len] at hue
  obtain ⟨M, hM⟩ : ∃ M_, ahm n k = M_ := ⟨_, rfl⟩
  rw [hM] at hve hue hV hU
  have hM1 : n + (M : Int) ≤ 4294967295 := by rw [← hM]; unfold ahm; omega
  have hM2 : M ≤ 100000 := by rw [← hM]; unfold ahm; omega
  replace hM := hide hM
  subst hve
  subst hue
  have O0 := hp3_0 w4 (.cells #[.slice va M vc] 60) (.cells #[.slice ua M uc] 54) (.cells #[.int .i64 0] 3)
  have O1 := hp3_1 w4 (.cells #[.slice va M vc] 60) (.cells #[.slice ua M uc] 54) (.cells #[.int .i64 0] 3)
  have QN := hp3_2 w4 (.cells #[.slice va M vc] 60) (.cells #[.slice ua M uc] 54) (.cells #[.int .i64 0] 3)
  have hb : Below w4.heap.size w4 (((w4.alloc (.cells #[.slice va M vc] 60)).alloc (.cells #[.slice ua M uc] 54)).alloc (.cells #[.int .i64 0] 3)) := (((Below.refl _ _).alloc (Nat.le_refl _) _).alloc (by simp) _).alloc (by simp; omega) _
  have sz5 : w4.heap.size + 3 = (((w4.alloc (.cells #[.slice va M vc] 60)).alloc (.cells #[.slice ua M uc] 54)).alloc (.cells #[.int .i64 0] 3)).heap.size := by simp
  have hVl : ∀ k, (Value.slice va M vc).ownBlock = some k → w0.heap.size ≤ k ∧ k < w4.heap.size := fun k e => hV.lt k e
  have hUl : ∀ k, (Value.slice ua M uc).ownBlock = some k → w0.heap.size ≤ k ∧ k < w4.heap.size := fun k e => hU.lt k e
  replace R0 := keep hb R0
  replace R1 := keep hb R1
  replace R2 := keep hb R2
  replace rc := keep hb rc
  replace hw := Below.after hw hb
  replace hV := OwnU.keep hV hb
  replace hU := hU.keep hb
  clear hb
  go_upto_region 3 with fail
  try simp only [size_alloc1, Act.put, List.setIfInBounds_toArray, List.set_cons_succ, List.set_cons_zero]
  generalize (((w4.alloc (.cells #[.slice va M vc] 60)).alloc (.cells #[.slice ua M uc] 54)).alloc (.cells #[.int .i64 0] 3)) = w5 at *
  generalize w4.heap.size = gn at *
  go_wp2_with (fail)
  refine (a_Ahead c k w5).mono ?_
  rintro e_ w6 ⟨rfl, hw6⟩
  have Q0 := hp2_0 w5 (.cells #[.pointer (some ⟨c, 0, none⟩)] 23) (.cells #[.int .i64 k] 3)
  have Q1 := hp2_1 w5 (.cells #[.pointer (some ⟨c, 0, none⟩)] 23) (.cells #[.int .i64 k] 3)
  have hb : Below w5.heap.size w5 ((w5.alloc (.cells #[.pointer (some ⟨c, 0, none⟩)] 23)).alloc (.cells #[.int .i64 k] 3)) := ((Below.refl _ _).alloc (Nat.le_refl _) _).alloc (by simp) _
  have sz7 : w5.heap.size + 2 = ((w5.alloc (.cells #[.pointer (some ⟨c, 0, none⟩)] 23)).alloc (.cells #[.int .i64 k] 3)).heap.size := by simp
  replace R0 := keep hb R0
  replace R1 := keep hb R1
  replace R2 := keep hb R2
  replace rc := keep hb rc
  replace O0 := keep hb O0
  replace O1 := keep hb O1
  replace QN := keep hb QN
  replace hw := Below.after hw hb
  replace hV := OwnU.keep hV hb
  replace hU := hU.keep hb
  clear hb
  have hnf := nilfn #[.pointer (some ⟨w5.heap.size, 0, none⟩), .pointer (some ⟨w5.heap.size + 1, 0, none⟩)]
  subst hw6
  go_upto_region 6 with fail
  try simp only [size_alloc1, Act.put, List.setIfInBounds_toArray, List.set_cons_succ, List.set_cons_zero]
  generalize ((w5.alloc (.cells #[.pointer (some ⟨c, 0, none⟩)] 23)).alloc (.cells #[.int .i64 k] 3)) = w7 at *
  generalize w5.heap.size = e at *
  clear hnf
  have hgi : Hid (∀ i, i < M → (msgs key M).getD i [] = mat key i) := hide (msgs_get key M)
  have hma : Hid (∀ k ∈ msgs key M, k.length = 32) := hide (msgs_all key M)
  have lgn2 : w.heap.size + 3 ≤ gn := by omega
  have le2 : gn + 3 = e := sz5
  have lw0 : w.heap.size + 3 ≤ w0.heap.size := by omega
  replace le2 : gn + 2 < e := by omega
  clear zz sz4 sz5
  go_wp2_with (fail)
  replace sz7 := hide sz7
  apply ecutW (fun W : World => ∃ m : Nat, W.heap[gn + 1 + 1]? = some (.cells #[.int .i64 (m : Int)] 3 (0, 0)) ∧ ((m : Int) = (M : Int) ∨ (m : Int) = stop) ∧ W.heap[e + 2]? = some (.deferred (some [])) ∧ (∀ g, g < e + 2 → g ≠ gn + 1 + 1 → W.heap[g]? = w7.heap[g]?) ∧ Below w.heap.size w W ∧ e + 4 ≤ W.heap.size)
  · intro key_
    refine wp_range_clo (gf := 24) (lb := #[.pointer (some ⟨e, 0, none⟩), .pointer (some ⟨e + 1, 0, none⟩)]) rfl (enters_of Tryd.func24 (by kernel_rfl) rfl) ?_
    intro fn rec hrec
    rw [← sz7.out] at hrec ⊢
    have y0 := hp2_0 w7 (.deferred (some [])) (.loop (rec .ready none))
    have y1 := hp2_1 w7 (.deferred (some [])) (.loop (rec .ready none))
    have hb0 : Below w7.heap.size w7 ((w7.alloc (.deferred (some []))).alloc (.loop (rec .ready none))) := ((Below.refl _ _).alloc (Nat.le_refl _) _).alloc (by simp) _
    have hs6 : ((w7.alloc (.deferred (some []))).alloc (.loop (rec .ready none))).heap.size = e + 4 := by rw [size_alloc1, size_alloc1, ← sz7.out]
    rw [← sz7.out] at y0 y1
    have zq0 := keep hb0 Q0
    have zq1 := keep hb0 Q1
    have zqN := keep hb0 QN
    have zc := keep hb0 rc
    have zw := Below.after hw hb0
    have zf : ∀ g, g < e + 2 → ((w7.alloc (.deferred (some []))).alloc (.loop (rec .ready none))).heap[g]? = w7.heap[g]? := fun g hg => hb0.block g (by have := sz7.out; omega)
    generalize (w7.alloc (.deferred (some []))).alloc (.loop (rec .ready none)) = W1 at *
    clear hb0
    have hy_ : ∀ (i : Nat) A, i < ahm n k → AhJ w w7 (e + 2) (gn + 1 + 1) (rec .ready none) i A → W1.heap.size + 3 ≤ A.heap.size → YieldAt Fence.wide 2 Tryd.prog (e + 2 + 1) #[.int .u32 (n + (i : Int)), .agg (irow .u8 (mat key i))] A fun x A' => (x = .returned (.bool true) ∧ AhJ w w7 (e + 2) (gn + 1 + 1) (rec .ready none) (i + 1) A' ∧ A.heap.size ≤ A'.heap.size ∧ ∀ g, W1.heap.size ≤ g → g < W1.heap.size + 3 → A'.heap[g]? = A.heap[g]?) ∨ (x = .returned (.bool false) ∧ AhJ w w7 (e + 2) (gn + 1 + 1) (rec .done (some (.exit 0))) (i + 1) A' ∧ ((i + 1 : Nat) : Int) = stop) := by
      clear y0 y1 zq0 zq1 zqN zc zw zf
      rw [hs6, hM.out]
      clear hs6
      rintro i A hi ⟨g1, g2, gN, g6, g7, g8⟩ hAs
      have hy := run_yield (P := Tryd.prog) (args := #[.int .u32 (n + (i : Int)), .agg (irow .u8 (mat key i))]) g1 (by rw [hrec]; rfl)
      rw [hrec] at hy
      refine ⟨fn, _, _, _, hy, roundIn_of_wpIn trivial ?_⟩
      clear hy
      have hml := mat_len key i
      have hmi := hgi.out i hi
      obtain ⟨bU, capU, curU, hUe, hUr, hUx⟩ := hU.part hma.out i (by rw [msgs_len]; exact hi)
      rw [hmi] at hUx
      replace hmi := hide hmi
      obtain ⟨X, hX⟩ : ∃ X_, mat key i = X_ := ⟨_, rfl⟩
      rw [hX] at hml hUx ⊢
      replace hX := hide hX
      have r0 := hp1_0 A (.cells (irow .u8 (zr 32)) 26)
      have hbx : Below A.heap.size A ((A.alloc (.cells (irow .u8 (zr 32)) 26)).setRow A.heap.size (irow .u8 X)) := below_setRow ((Below.refl _ _).alloc (Nat.le_refl _) _) (Nat.le_refl _) _
      have rB := setRow_heap _ A.heap.size _ (irow .u8 X) _ _ r0
      gi_wp2_with (first | (refine wpListIn_alloc rfl 26 rfl (irow .u8 (zr 32)) zkey ?_) | (refine wpListIn_store_row rfl 26 _ _ rfl A.heap.size (irow .u8 X) rfl rfl 26 _ r0 (infok8 _ hml) (fit32 _ _ (zr_len 32) hml) (irow_one _ _) ?_) | fail)
      have hsC : A.heap.size < ((A.alloc (.cells (irow .u8 (zr 32)) 26)).setRow A.heap.size (irow .u8 X)).heap.size := lt_of_row rB
      generalize (A.alloc (.cells (irow .u8 (zr 32)) 26)).setRow A.heap.size (irow .u8 X) = C1 at *
      clear r0
      have e1 := keep hbx g1
      refine ⟨_, run_beginRound e1 (by rw [hrec]), ?_⟩
      have hoth : ∀ g, g ≠ e + 2 + 1 → (C1.putObj (e + 2 + 1) (.loop { rec .ready none with state := .busy })).heap[g]? = C1.heap[g]? := fun g hg => World.putObj_heap_other hg
      have e1' : (C1.putObj (e + 2 + 1) (.loop { rec .ready none with state := .busy })).heap[e + 2 + 1]? = some (.loop { rec .ready none with state := .busy }) := World.putObj_heap_same (lt_of_row e1)
      have e2 := (hoth (e + 2) (by omega)).trans (keep hbx g2)
      have eN := (hoth (gn + 1 + 1) (by omega)).trans (keep hbx gN)
      have e6 : ∀ g, g < e + 2 → g ≠ gn + 1 + 1 → (C1.putObj (e + 2 + 1) (.loop { rec .ready none with state := .busy })).heap[g]? = w7.heap[g]? := fun g hg h3 => (hoth g (by omega)).trans ((hbx.block g (by omega)).trans (g6 g hg h3))
      have e7 : Below w.heap.size w (C1.putObj (e + 2 + 1) (.loop { rec .ready none with state := .busy })) := (Below.after g7 hbx).grown (grownBy_putObj' _ _ _) (by have := g7.size; have := hbx.size; omega) (fun k e => by cases e; omega)
      have e8 : Hid (∀ g, e + 4 ≤ g → g < A.heap.size → (C1.putObj (e + 2 + 1) (.loop { rec .ready none with state := .busy })).heap[g]? = A.heap[g]?) := hide (fun g hg hl => (hoth g (by omega)).trans (hbx.block g hl))
      have rB2 := (hoth A.heap.size (by omega)).trans rB
      have hszC : (C1.putObj (e + 2 + 1) (.loop { rec .ready none with state := .busy })).heap.size = C1.heap.size := World.putObj_size
      generalize C1.putObj (e + 2 + 1) (.loop { rec .ready none with state := .busy }) = C2 at *
      clear hoth rB hbx e1 g1 g2 gN g6
      rw [← hszC] at hsC
      clear hszC
      rw [msgs_len] at hUe
      injection hUe with h1_ h2_ h3_
      subst h1_
      subst h3_
      clear h2_
      have hbU := hUl bU rfl
      obtain ⟨bV, capV, hVe, hbV, cV⟩ : ∃ bV capV, Value.slice va M vc = Value.slice (some ⟨bV, 0, none⟩) M capV ∧ (w0.heap.size ≤ bV ∧ bV < gn) ∧ w7.cell? ⟨bV, i, none⟩ = some (.int .u32 (n + (i : Int))) := by
        rcases hV.2 with ⟨_, h0⟩ | ⟨bV, capV, curV, he, _⟩
        · rw [nums_len] at h0; omega
        · rw [nums_len] at he
          have hb_ := hVl bV (by rw [he]; rfl)
          have hV2 := hV
          rw [he] at hV2
          have hc_ := World.ownsRow.cells hV2 (g := bV) rfl i (.int .u32 (n + (i : Int))) (by simp [nums, hi])
          rw [addr_add, Nat.zero_add] at hc_
          exact ⟨bV, capV, he, hb_, hc_⟩
      injection hVe with h1_ h2_ h3_
      subst h1_
      subst h3_
      clear h2_
      have hUr2 := (e6 bU (by omega) (by omega)).trans hUr
      have cV2 : C2.cell? ⟨bV, i, none⟩ = some (.int .u32 (n + (i : Int))) := by
        have hh := e6 bV (by omega) (by omega)
        simp only [World.cell?] at cV ⊢
        rw [hh]
        exact cV
      have eO0 := (e6 gn (by omega) (by omega)).trans O0
      have eO1 := (e6 (gn + 1) (by omega) (by omega)).trans O1
      have q13 : ∀ p : Regrown, (grow (redrawn C2 p.d) p.os).cell? ⟨gn + 1 + 1, 0, none⟩ = some (.int .i64 (i : Int)) := fun p => cell_regrown (by rw [cell_of_row _ _ 0 _ _ _ eN]; rfl) p.d p.os
      have qn : ∀ p : Regrown, (grow (redrawn C2 p.d) p.os).cell? ⟨gn, 0, none⟩ = some (.slice (some ⟨bV, 0, none⟩) M vc) := fun p => cell_regrown (by rw [cell_of_row _ _ 0 _ _ _ eO0]; rfl) p.d p.os
      have qk : ∀ p : Regrown, (grow (redrawn C2 p.d) p.os).cell? ⟨gn + 1, 0, none⟩ = some (.slice (some ⟨bU, 0, none⟩) M uc) := fun p => cell_regrown (by rw [cell_of_row _ _ 0 _ _ _ eO1]; rfl) p.d p.os
      have qv : ∀ p : Regrown, (grow (redrawn C2 p.d) p.os).cell? ⟨bV, i, none⟩ = some (.int .u32 (n + (i : Int))) := fun p => cell_regrown cV2 p.d p.os
      have HB := keepr rB2
      have HU := keepr hUr2
      have hd1 : decide ((i : Int) ≥ (M : Int)) = false := by simp; omega
      have hd2 : decide ((M : Int) ≤ (i : Int)) = false := by simp; omega
      have hd3 : decide (M ≤ i) = false := by simp; omega
      have hd4 : ¬ M ≤ i := by omega
      have hi1 : 0 ≤ (i : Int) ∧ (i : Int) < (M : Int) := by omega
      have eX := eqKs X hml
      gi_wp2_with (fail)
      refine wpIn_region_quiet_round (e + 2 + 1) (by kernel_rfl) (by kernel_rfl) (by kernel_rfl) ?_
      gi_big_quiet_step (fail)
      gi_big_quiet_step (fail)
      gi_big_quiet_step (fail)
      gi_big_quiet_step (fail)
      gi_big_quiet_step (fail)
      gi_big_quiet_step (fail)
      gi_big_quiet_step (fail)
      gi_big_quiet_step (fail)
      gi_big_quiet_step (fail)
      gi_big_quiet_step (fail)
      gi_big_quiet_step (fail)
      gi_big_quiet_step (fail)
      gi_big_quiet_step (fail)
      refine wpQuietIn_load_part rfl 26 _ rfl (A.heap.size) 0 rfl 26 (irow .u8 X) (0, 0) (irow .u8 X) _ HB.out (all_row _) Tryd.underlying26 rfl (infok8 _ hml) ?_
      simp only [Act.put, List.setIfInBounds_toArray, List.set_cons_succ, List.set_cons_zero]
      gi_big_quiet_step (fail)
      gi_big_quiet_step (fail)
      gi_big_quiet_step (fail)
      refine wpQuietIn_load_part rfl 26 _ rfl (bU) (i * 32) rfl 26 curU (0, 0) (irow .u8 X) _ HU.out hUx Tryd.underlying26 rfl (infok8 _ hml) ?_
      simp only [Act.put, List.setIfInBounds_toArray, List.set_cons_succ, List.set_cons_zero]
      gi_big_quiet_step (fail)
      gi_big_quiet_step (fail)
      refine wpQuietIn_nil ?_
      rintro _ ⟨p, rfl⟩
      have hb := below_regrown C2 p.d p.os
      generalize grow (redrawn C2 p.d) p.os = C3 at *
      have k1 := keep hb e1'
      have k2 := keep hb e2
      have kN := keep hb eN
      have k6 : ∀ g, g < e + 2 → g ≠ gn + 1 + 1 → C3.heap[g]? = w7.heap[g]? := fun g hg h3 => (hb.block g (by omega)).trans (e6 g hg h3)
      have k7 := Below.after e7 hb
      have k8 : Hid (∀ g, e + 4 ≤ g → g < A.heap.size → C3.heap[g]? = A.heap[g]?) := hide (fun g hg hl => (hb.block g (by omega)).trans (e8.out g hg hl))
      have k9 : A.heap.size ≤ C3.heap.size := by have := hb.size; omega
      have kW := (k6 (w.heap.size + 1) (by omega) (by omega)).trans R1
      clear e1' e2 eN e6 e7 e8 hb q13 qn qk qv HB HU eX hd1 hd2 hd3 hd4 hi1 cV2 eO0 eO1 hUr2 rB2 hUx
      have c13 : C3.cell? ⟨gn + 1 + 1, 0, none⟩ = some (.int .i64 (i : Int)) := by rw [cell_of_row _ _ 0 _ _ _ kN]; rfl
      have f13 : C3.frozen? ⟨gn + 1 + 1, 0, none⟩ = false := by simp [World.frozen?, kN]
      have hi7 : (i : Int) + 1 < 9223372036854775807 := by omega
      have p1 := heap_other (g := gn + 1 + 1) (j := 0) (v := .int .i64 ((i : Int) + 1)) k1 (by omega)
      have p2 := heap_other (g := gn + 1 + 1) (j := 0) (v := .int .i64 ((i : Int) + 1)) k2 (by omega)
      have pW := heap_other (g := gn + 1 + 1) (j := 0) (v := .int .i64 ((i : Int) + 1)) kW (by omega)
      have pN : (C3.setCell ⟨gn + 1 + 1, 0, none⟩ (.int .i64 ((i : Int) + 1))).heap[gn + 1 + 1]? = some (.cells #[.int .i64 ((i : Int) + 1)] 3 (0, 0)) := row_set kN 0 (.int .i64 ((i : Int) + 1))
      have p6 : ∀ g, g < e + 2 → g ≠ gn + 1 + 1 → (C3.setCell ⟨gn + 1 + 1, 0, none⟩ (.int .i64 ((i : Int) + 1))).heap[g]? = w7.heap[g]? := fun g hg h3 => (heap_setCell_other C3 ⟨gn + 1 + 1, 0, none⟩ g _ h3).trans (k6 g hg h3)
      have p7 := k7.setCell (p := ⟨gn + 1 + 1, 0, none⟩) (show w.heap.size ≤ gn + 1 + 1 by omega) (.int .i64 ((i : Int) + 1))
      have p8 : Hid (∀ g, e + 4 ≤ g → g < A.heap.size → (C3.setCell ⟨gn + 1 + 1, 0, none⟩ (.int .i64 ((i : Int) + 1))).heap[g]? = A.heap[g]?) := hide (fun g hg hl => (heap_setCell_other C3 ⟨gn + 1 + 1, 0, none⟩ g _ (by show g ≠ gn + 1 + 1; omega)).trans (k8.out g hg hl))
      have p9 : A.heap.size ≤ (C3.setCell ⟨gn + 1 + 1, 0, none⟩ (.int .i64 ((i : Int) + 1))).heap.size := by
        have : (C3.setCell ⟨gn + 1 + 1, 0, none⟩ (.int .i64 ((i : Int) + 1))).heap.size = C3.heap.size := by simp [World.setCell]
        omega
      have cN1 : (C3.setCell ⟨gn + 1 + 1, 0, none⟩ (.int .i64 ((i : Int) + 1))).cell? ⟨gn + 1 + 1, 0, none⟩ = some (.int .i64 ((i : Int) + 1)) := by rw [cell_of_row _ _ 0 _ _ _ pN]; rfl
      have cW1 : (C3.setCell ⟨gn + 1 + 1, 0, none⟩ (.int .i64 ((i : Int) + 1))).cell? ⟨w.heap.size + 1, 0, none⟩ = some (.int .i64 stop) := by rw [cell_of_row _ _ 0 _ _ _ pW]; rfl
      clear k1 k2 kN k6 k7 k8 k9 kW pW
      by_cases hst : (i : Int) + 1 = stop
      · have hsb : ((i : Int) + 1 == stop) = true := by simpa using hst
        replace hst := hide hst
        gi_wp2_with (fail)
        refine ⟨_, _, run_endRound (some (.exit 0)) p1, .inr ⟨rfl, ⟨by rw [World.putObj_heap_same (lt_of_row p1)]; simp [hrec], (World.putObj_heap_other (by omega)).trans p2, (World.putObj_heap_other (by omega)).trans pN, fun g hg hne => (World.putObj_heap_other (by omega)).trans (p6 g hg hne), p7.grown (grownBy_putObj' _ _ _) p7.size (fun k h => by cases h; omega), by rw [World.putObj_size]; omega⟩, hst.out⟩⟩
      · have hsb : ((i : Int) + 1 == stop) = false := by simpa using hst
        gi_wp2_with (fail)
        refine ⟨_, _, run_endRound none p1, .inl ⟨rfl, ⟨by rw [World.putObj_heap_same (lt_of_row p1)]; simp [hrec], (World.putObj_heap_other (by omega)).trans p2, (World.putObj_heap_other (by omega)).trans pN, fun g hg hne => (World.putObj_heap_other (by omega)).trans (p6 g hg hne), p7.grown (grownBy_putObj' _ _ _) p7.size (fun k h => by cases h; omega), by rw [World.putObj_size]; omega⟩, by rw [World.putObj_size]; exact p9, fun g hg hl => (World.putObj_heap_other (by omega)).trans (p8.out g hg (by omega))⟩⟩
    refine (a_ahead1 key hkl hkz n hn0 hn1 k c e (e + 1) (e + 2 + 1) (AhJ w w7 (e + 2) (gn + 1 + 1) (rec .ready none)) (fun i A => AhJ w w7 (e + 2) (gn + 1 + 1) (rec .done (some (.exit 0))) i A ∧ (i : Int) = stop) W1 zq0 zq1 zc (fun i A h => ⟨hS.below h.2.2.2.2.1, hK.below h.2.2.2.2.1⟩) ?_ ?_ hy_).mono ?_
    · rintro i A C ⟨j1, j2, j3, j4, j5, j6⟩ hB hA
      rw [hs6] at hB hA
      exact ⟨hB.row j1 (by omega), hB.row j2 (by omega), hB.row j3 (by omega), fun g hg hne => (hB.block g (by omega) (by omega)).trans (j4 g hg hne), j5.trans (hB.below (by have := hw.size; omega) (by have := j5.size; omega)), Nat.le_trans j6 hB.size⟩
    · intro C hC hCs
      rw [hs6] at hCs
      have hC4 : Below (e + 4) W1 C := by rw [← hs6]; exact hC
      exact ⟨keep hC y1, keep hC y0, keep hC zqN, fun g hg _ => (hC4.block g (by omega)).trans (zf g hg), Below.after zw hC, by omega⟩
    · clear hy_ y0 y1 zq0 zq1 zqN zc
      rintro e_ w5' ⟨⟨rv_, rfl⟩, (hJ | ⟨i, hi, hJ, hsp⟩)⟩
      · obtain ⟨j1, j2, j3, j4, j5, j6⟩ := hJ
        refine ⟨⟨_, rfl⟩, .inl ⟨j1, ?_⟩⟩
        rw [hM.out] at j3
        have z3 : (w5'.putObj (e + 2 + 1) (.loop (rec .exhausted none))).heap[gn + 1 + 1]? = _ := (World.putObj_heap_other (by omega)).trans j3
        have z2 : (w5'.putObj (e + 2 + 1) (.loop (rec .exhausted none))).heap[e + 2]? = _ := (World.putObj_heap_other (by omega)).trans j2
        have z4 : ∀ g, g < e + 2 → g ≠ gn + 1 + 1 → (w5'.putObj (e + 2 + 1) (.loop (rec .exhausted none))).heap[g]? = w7.heap[g]? := fun g hg hne => (World.putObj_heap_other (by omega)).trans (j4 g hg hne)
        have z5 : Below w.heap.size w (w5'.putObj (e + 2 + 1) (.loop (rec .exhausted none))) := j5.grown (grownBy_putObj' _ _ _) j5.size (fun k h => by cases h; omega)
        have z6 : e + 4 ≤ (w5'.putObj (e + 2 + 1) (.loop (rec .exhausted none))).heap.size := by rw [World.putObj_size]; omega
        clear j1 j2 j3 j4 j5 j6
        generalize w5'.putObj (e + 2 + 1) (.loop (rec .exhausted none)) = wq at *
        exact key_ wq ⟨M, z3, .inl rfl, z2, z4, z5, z6⟩
      · obtain ⟨j1, j2, j3, j4, j5, j6⟩ := hJ
        refine ⟨⟨_, rfl⟩, .inr ⟨_, j1, ?_⟩⟩
        have z3 : (w5'.putObj (e + 2 + 1) (.loop (rec .exhausted (some (.exit 0))))).heap[gn + 1 + 1]? = _ := (World.putObj_heap_other (by omega)).trans j3
        have z2 : (w5'.putObj (e + 2 + 1) (.loop (rec .exhausted (some (.exit 0))))).heap[e + 2]? = _ := (World.putObj_heap_other (by omega)).trans j2
        have z4 : ∀ g, g < e + 2 → g ≠ gn + 1 + 1 → (w5'.putObj (e + 2 + 1) (.loop (rec .exhausted (some (.exit 0))))).heap[g]? = w7.heap[g]? := fun g hg hne => (World.putObj_heap_other (by omega)).trans (j4 g hg hne)
        have z5 : Below w.heap.size w (w5'.putObj (e + 2 + 1) (.loop (rec .exhausted (some (.exit 0))))) := j5.grown (grownBy_putObj' _ _ _) j5.size (fun k h => by cases h; omega)
        have z6 : e + 4 ≤ (w5'.putObj (e + 2 + 1) (.loop (rec .exhausted (some (.exit 0))))).heap.size := by rw [World.putObj_size]; omega
        clear j1 j2 j3 j4 j5 j6
        generalize w5'.putObj (e + 2 + 1) (.loop (rec .exhausted (some (.exit 0)))) = wq at *
        refine wp_exit ?_
        have hk_ := key_ wq ⟨i + 1, z3, .inr hsp, z2, z4, z5, z6⟩
        simp only [Exit.inBlock, if_true] at hk_ ⊢
        exact hk_
  rintro x8 ⟨m, rN, hms, kD, q4, hw8, hz8⟩
  have x0 := (q4 w.heap.size (by omega) (by omega)).trans R0
  have x1 := (q4 (w.heap.size + 1) (by omega) (by omega)).trans R1
  have x2 := (q4 (w.heap.size + 1 + 1) (by omega) (by omega)).trans R2
  have xO := (q4 gn (by omega) (by omega)).trans O0
  have xc := (q4 c (by omega) (by omega)).trans rc
  clear q4 R0 R1 R2 O0 O1 QN Q0 Q1 rc hw hV hU hVl hUl hAp hgi hma hM
  have cM : x8.cell? ⟨gn + 1 + 1, 0, none⟩ = some (.int .i64 (m : Int)) := by rw [cell_of_row _ _ 0 _ _ _ rN]; rfl
  have cO : x8.cell? ⟨gn, 0, none⟩ = some (.slice va M vc) := by rw [cell_of_row _ _ 0 _ _ _ xO]; rfl
  have cS : x8.cell? ⟨w.heap.size + 1, 0, none⟩ = some (.int .i64 stop) := by rw [cell_of_row _ _ 0 _ _ _ x1]; rfl
  have cD := cell_n key hkl x0
  have H0 := keepr x0
  have eK := eqKs key hkl
  have fin : ∀ x9 : World, x9.heap[w.heap.size + 1 + 1]? = some (.cells #[.bool false] 4 (0, 0)) → x9.heap[e + 2]? = some (.deferred (some [])) → Below w.heap.size w x9 → Hid (x9.cell? ⟨w.heap.size + 1 + 1, 0, none⟩ = some (.bool false)) := fun x9 h _ _ => hide (by rw [cell_of_row _ _ 0 _ _ _ h]; rfl)
  clear fin
  have hms2 : m = M ∨ (m ≠ M ∧ (m : Int) = stop) := by omega
  clear hms
  go_upto_region 13 with fail
  rcases hms2 with rfl | ⟨hne, rfl⟩
  · have hb0 : ((m : Int) == (m : Int)) = true := by simp
    have qM : ∀ p : Regrown, (grow (redrawn x8 p.d) p.os).cell? ⟨gn + 1 + 1, 0, none⟩ = some (.int .i64 (m : Int)) := fun p => cell_regrown (cM) p.d p.os
    have qO : ∀ p : Regrown, (grow (redrawn x8 p.d) p.os).cell? ⟨gn, 0, none⟩ = some (.slice va m vc) := fun p => cell_regrown (cO) p.d p.os
    have qS : ∀ p : Regrown, (grow (redrawn x8 p.d) p.os).cell? ⟨w.heap.size + 1, 0, none⟩ = some (.int .i64 stop) := fun p => cell_regrown (cS) p.d p.os
    have qD : ∀ p : Regrown, (grow (redrawn x8 p.d) p.os).cell? ⟨w.heap.size, 32, none⟩ = some (.int .u32 n) := fun p => cell_regrown (cD) p.d p.os
    refine wp_region_tail (C := fun w' => ∃ p : Regrown, w' = grow (redrawn x8 p.d) p.os) 23 _ rfl rfl rfl (by kernel_rfl) (by kernel_rfl) (by kernel_rfl) (by kernel_rfl) ⟨⟨x8.drawn + 1, #[]⟩, by rw [grow_empty]; rfl⟩ ?_
    dsimp only [List.set, idle]
    go_big_quiet_step (fail)
    go_big_quiet_step (fail)
    go_big_quiet_step (fail)
    go_big_quiet_step (fail)
    go_big_quiet_step (fail)
    go_big_quiet_step (fail)
    go_big_quiet_step (fail)
    go_big_quiet_step (fail)
    go_big_quiet_step (fail)
    go_big_quiet_step (fail)
    go_big_quiet_step (fail)
    go_big_quiet_step (exact Calls.regrown_of (a_Key key hkl n _ c (keep (below_regrown _ _ _) xc)))
    go_big_quiet_step (fail)
    refine wpQuiet_load_part rfl 26 _ rfl w.heap.size 0 rfl 29 (chc key n) (0, 0) (irow .u8 key) _ H0.out (chc_key _ hkl _) Tryd.underlying26 rfl (infok8 _ hkl) ?_
    simp only [Act.put, List.setIfInBounds_toArray, List.set_cons_succ, List.set_cons_zero]
    go_big_quiet_step (fail)
    go_big_quiet_step (fail)
    go_big_quiet_step (fail)
    go_big_quiet_step (fail)
    go_big_quiet_step (exact Calls.regrown_of (a_N key hkl n _ c (keep (below_regrown _ _ _) xc)))
    go_big_quiet_step (fail)
    go_big_quiet_step (fail)
    go_big_quiet_step (fail)
    go_big_quiet_step (fail)
    refine wpQuiet_idle rfl rfl rfl ?_
    rintro _ ⟨p, rfl⟩
    have hb := below_regrown x8 p.d p.os
    generalize grow (redrawn x8 p.d) p.os = x9 at *
    clear qM qO qS qD
    replace x2 := keep hb x2
    replace kD := keep hb kD
    replace hw8 := Below.after hw8 hb
    clear hb
    clear H0 eK cM cO cS cD x0 x1 xO xc rN
    have c2 : x9.cell? ⟨w.heap.size + 1 + 1, 0, none⟩ = some (.bool false) := by rw [cell_of_row _ _ 0 _ _ _ x2]; rfl
    have f2 : x9.frozen? ⟨w.heap.size + 1 + 1, 0, none⟩ = false := by simp [World.frozen?, x2]
    go_wp2_with (fail)
    have D2 := heap_other (g := w.heap.size + 1 + 1) (j := 0) (v := .bool true) kD (by omega)
    have X1 : (x9.setCell ⟨w.heap.size + 1 + 1, 0, none⟩ (.bool true)).heap[w.heap.size + 1 + 1]? = some (.cells #[.bool true] 4 (0, 0)) := row_set x2 0 (.bool true)
    have hw2 := hw8.setCell (p := ⟨w.heap.size + 1 + 1, 0, none⟩) (show w.heap.size ≤ w.heap.size + 1 + 1 by omega) (.bool true)
    generalize x9.setCell ⟨w.heap.size + 1 + 1, 0, none⟩ (.bool true) = x10 at *
    refine ⟨by simp, .inl ⟨_, _, rfl, run_takeDeferred D2, ?_⟩⟩
    replace X1 : (x10.putObj (e + 2) (.deferred none)).heap[w.heap.size + 1 + 1]? = _ := (World.putObj_heap_other (by omega)).trans X1
    replace hw2 := hw2.grown (grownBy_putObj' x10 (e + 2) (.deferred none)) hw2.size (fun k h => by cases h; omega)
    refine ⟨_, results_cell_bool rfl _ _ (w.heap.size + 1 + 1) _ rfl (row_load X1), rfl, hw2⟩
  · have hb1 : ((m : Int) == (M : Int)) = false := by simp; omega
    have hb2 : decide ((m : Int) = (M : Int)) = false := by simp; omega
    clear hne
    have qM : ∀ p : Regrown, (grow (redrawn x8 p.d) p.os).cell? ⟨gn + 1 + 1, 0, none⟩ = some (.int .i64 (m : Int)) := fun p => cell_regrown (cM) p.d p.os
    have qO : ∀ p : Regrown, (grow (redrawn x8 p.d) p.os).cell? ⟨gn, 0, none⟩ = some (.slice va M vc) := fun p => cell_regrown (cO) p.d p.os
    have qS : ∀ p : Regrown, (grow (redrawn x8 p.d) p.os).cell? ⟨w.heap.size + 1, 0, none⟩ = some (.int .i64 (m : Int)) := fun p => cell_regrown (cS) p.d p.os
    have qD : ∀ p : Regrown, (grow (redrawn x8 p.d) p.os).cell? ⟨w.heap.size, 32, none⟩ = some (.int .u32 n) := fun p => cell_regrown (cD) p.d p.os
    refine wp_region_tail (C := fun w' => ∃ p : Regrown, w' = grow (redrawn x8 p.d) p.os) 23 _ rfl rfl rfl (by kernel_rfl) (by kernel_rfl) (by kernel_rfl) (by kernel_rfl) ⟨⟨x8.drawn + 1, #[]⟩, by rw [grow_empty]; rfl⟩ ?_
    dsimp only [List.set, idle]
    go_big_quiet_step (fail)
    go_big_quiet_step (fail)
    go_big_quiet_step (fail)
    go_big_quiet_step (fail)
    go_big_quiet_step (fail)
    go_big_quiet_step (fail)
    go_big_quiet_step (fail)
    go_big_quiet_step (fail)
    go_big_quiet_step (fail)
    go_big_quiet_step (fail)
    go_big_quiet_step (fail)
    go_big_quiet_step (exact Calls.regrown_of (a_Key key hkl n _ c (keep (below_regrown _ _ _) xc)))
    go_big_quiet_step (fail)
    refine wpQuiet_load_part rfl 26 _ rfl w.heap.size 0 rfl 29 (chc key n) (0, 0) (irow .u8 key) _ H0.out (chc_key _ hkl _) Tryd.underlying26 rfl (infok8 _ hkl) ?_
    simp only [Act.put, List.setIfInBounds_toArray, List.set_cons_succ, List.set_cons_zero]
    go_big_quiet_step (fail)
    go_big_quiet_step (fail)
    go_big_quiet_step (fail)
    go_big_quiet_step (fail)
    go_big_quiet_step (exact Calls.regrown_of (a_N key hkl n _ c (keep (below_regrown _ _ _) xc)))
    go_big_quiet_step (fail)
    go_big_quiet_step (fail)
    go_big_quiet_step (fail)
    go_big_quiet_step (fail)
    refine wpQuiet_idle rfl rfl rfl ?_
    rintro _ ⟨p, rfl⟩
    have hb := below_regrown x8 p.d p.os
    generalize grow (redrawn x8 p.d) p.os = x9 at *
    clear qM qO qS qD
    replace x2 := keep hb x2
    replace kD := keep hb kD
    replace hw8 := Below.after hw8 hb
    clear hb
    clear H0 eK cM cO cS cD x0 x1 xO xc rN
    have c2 : x9.cell? ⟨w.heap.size + 1 + 1, 0, none⟩ = some (.bool false) := by rw [cell_of_row _ _ 0 _ _ _ x2]; rfl
    have f2 : x9.frozen? ⟨w.heap.size + 1 + 1, 0, none⟩ = false := by simp [World.frozen?, x2]
    go_wp2_with (fail)
    have D2 := heap_other (g := w.heap.size + 1 + 1) (j := 0) (v := .bool true) kD (by omega)
    have X1 : (x9.setCell ⟨w.heap.size + 1 + 1, 0, none⟩ (.bool true)).heap[w.heap.size + 1 + 1]? = some (.cells #[.bool true] 4 (0, 0)) := row_set x2 0 (.bool true)
    have hw2 := hw8.setCell (p := ⟨w.heap.size + 1 + 1, 0, none⟩) (show w.heap.size ≤ w.heap.size + 1 + 1 by omega) (.bool true)
    generalize x9.setCell ⟨w.heap.size + 1 + 1, 0, none⟩ (.bool true) = x10 at *
    refine ⟨by simp, .inl ⟨_, _, rfl, run_takeDeferred D2, ?_⟩⟩
    replace X1 : (x10.putObj (e + 2) (.deferred none)).heap[w.heap.size + 1 + 1]? = _ := (World.putObj_heap_other (by omega)).trans X1
    replace hw2 := hw2.grown (grownBy_putObj' x10 (e + 2) (.deferred none)) hw2.size (fun k h => by cases h; omega)
    refine ⟨_, results_cell_bool rfl _ _ (w.heap.size + 1 + 1) _ rfl (row_load X1), rfl, hw2⟩

end Go.Proofs.YtilgicikcjcdjaaDoor

namespace Go.Proofs.YtilgicikcjcdjaaDoor
set_option maxRecDepth 100000
open Go Go.RowKit Go.Sort
attribute [local go_sem] setCell_drewN alloc_drewN

def ptr (g : Nat) : Value := .pointer (some ⟨g, 0, none⟩)
def crow (p : Nat → Nat) : Array Value := #[ptr (p 0), ptr (p 1)]
def drow (k : Nat → List Int) (n : Nat → Int) : Array Value := fla [chc (k 0) (n 0), chc (k 1) (n 1)]
def upd {α : Type} (f : Nat → α) (j : Nat) (x : α) (i : Nat) : α := if i = j then x else f i
theorem upd_same {α : Type} (f : Nat → α) (j : Nat) (x : α) : upd f j x j = x := by simp [upd]
theorem upd_other {α : Type} (f : Nat → α) {j i : Nat} (x : α) (h : i ≠ j) : upd f j x i = f i := by simp [upd, h]
theorem upd_all {α : Type} {f : Nat → α} {j : Nat} {x : α} {P : α → Prop} (h : ∀ i, i < 2 → P (f i)) (hx : P x) : ∀ i, i < 2 → P (upd f j x i) := by
  intro i hi
  unfold upd
  split
  · exact hx
  · exact h i hi
theorem two {j : Nat} (h : j < 2) : j = 0 ∨ j = 1 := by omega
theorem crow_size (p : Nat → Nat) : (crow p).size = 2 := rfl
theorem crow_get (p : Nat → Nat) {j : Nat} (h : j < 2) : (crow p)[j]? = some (.pointer (some ⟨p j, 0, none⟩)) := by
  rcases two h with rfl | rfl <;> rfl
theorem crow_set (p : Nat → Nat) {j : Nat} (h : j < 2) (g : Nat) : (crow p).setIfInBounds j (.pointer (some ⟨g, 0, none⟩)) = crow (upd p j g) := by
  rcases two h with rfl | rfl <;> rfl
theorem dsz {k : Nat → List Int} (kl : ∀ i, i < 2 → (k i).length = 32) (n : Nat → Int) : ∀ y ∈ [chc (k 0) (n 0), chc (k 1) (n 1)], y.size = 33 := by
  intro y hy
  simp only [List.mem_cons, List.not_mem_nil, or_false] at hy
  rcases hy with rfl | rfl
  · exact chc_size _ (kl 0 (by omega)) _
  · exact chc_size _ (kl 1 (by omega)) _
theorem drow_size {k : Nat → List Int} (kl : ∀ i, i < 2 → (k i).length = 32) (n : Nat → Int) : (drow k n).size = 66 := fla_size (dsz kl n)
theorem drow_part {k : Nat → List Int} (kl : ∀ i, i < 2 → (k i).length = 32) (n : Nat → Int) {j : Nat} (h : j < 2) : (drow k n).extract (j * 33) (j * 33 + (chc (k j) (n j)).size) = chc (k j) (n j) := by
  rw [Nat.mul_comm j 33]
  rcases two h with rfl | rfl
  · exact fla_part (dsz kl n) rfl
  · exact fla_part (dsz kl n) rfl
theorem drow_set {k : Nat → List Int} (kl : ∀ i, i < 2 → (k i).length = 32) (n : Nat → Int) {j : Nat} (h : j < 2) {k' : List Int} (hk : k'.length = 32) (n' : Int) : setL (drow k n) (j * 33) (chc k' n').toList = drow (upd k j k') (upd n j n') := by
  rw [Nat.mul_comm j 33]
  refine (fla_set (dsz kl n) h (chc_size k' hk n')).trans ?_
  rcases two h with rfl | rfl <;> rfl
theorem drow_n {k : Nat → List Int} (kl : ∀ i, i < 2 → (k i).length = 32) (n : Nat → Int) {j : Nat} (h : j < 2) : (drow k n)[j * 33 + 32]? = some (.int .u32 (n j)) := by
  have e := congrArg (fun a : Array Value => a[32]?) (drow_part kl n h)
  simp only [chc_n _ (kl j h)] at e
  rw [← e, Array.getElem?_extract]
  have := drow_size kl n
  have := chc_size _ (kl j h) (n j)
  simp
  omega
theorem drow_key {k : Nat → List Int} (kl : ∀ i, i < 2 → (k i).length = 32) (n : Nat → Int) {j : Nat} (h : j < 2) : (drow k n).extract (j * 33) (j * 33 + (irow .u8 (k j)).size) = irow .u8 (k j) := by
  have e := congrArg (fun a : Array Value => a.extract 0 (0 + (irow .u8 (k j)).size)) (drow_part kl n h)
  simp only [chc_key _ (kl j h)] at e
  refine Eq.trans ?_ e
  have h1 := chc_size _ (kl j h) (n j)
  have h2 : (irow .u8 (k j)).size = 32 := by simp [irow, kl j h]
  rw [Array.extract_extract, h1, h2]
  congr 1
  omega
/-- Two chains, and the document's two beside them. -/
structure Chs (W : World) (gc gd : Nat) (p : Nat → Nat) (k : Nat → List Int) (n : Nat → Int) (k2 : Nat → List Int) (n2 : Nat → Int) : Prop where
  hc : W.heap[gc]? = some (.cells (crow p) 24 (0, 0))
  hd : W.heap[gd]? = some (.cells (drow k2 n2) 30 (0, 0))
  hp : ∀ i, i < 2 → W.heap[p i]? = some (.cells (chc (k i) (n i)) 48 (0, 0))
  ne : p 0 ≠ p 1
  lo : ∀ i, i < 2 → gd < p i
  gg : gc < gd
  kl : ∀ i, i < 2 → (k i).length = 32
  kb : ∀ i, i < 2 → ∀ z ∈ k i, 0 ≤ z ∧ z < 256
  nb : ∀ i, i < 2 → 0 ≤ n i ∧ n i ≤ 4294967295
  kl2 : ∀ i, i < 2 → (k2 i).length = 32
section
variable {W W' : World} {gc gd : Nat} {p : Nat → Nat} {k k2 : Nat → List Int} {n n2 : Nat → Int}
theorem Chs.keep (h : Chs W gc gd p k n k2 n2) (hb : Below W.heap.size W W') : Chs W' gc gd p k n k2 n2 :=
  ⟨Go.Proofs.YtilgicikcjcdjaaDoor.keep hb h.hc, Go.Proofs.YtilgicikcjcdjaaDoor.keep hb h.hd, fun i hi => Go.Proofs.YtilgicikcjcdjaaDoor.keep hb (h.hp i hi), h.ne, h.lo, h.gg, h.kl, h.kb, h.nb, h.kl2⟩
theorem pne (h : p 0 ≠ p 1) {i j : Nat} (hi : i < 2) (hj : j < 2) (hij : i ≠ j) : p i ≠ p j := by
  rcases two hi with rfl | rfl <;> rcases two hj with rfl | rfl
  · exact absurd rfl hij
  · exact h
  · exact fun e => h e.symm
  · exact absurd rfl hij
/-- One chain's block is turned. -/
theorem Chs.step (h : Chs W gc gd p k n k2 n2) {j : Nat} (hj : j < 2) {k' : List Int} (hk : k'.length = 32) (hz : ∀ z ∈ k', 0 ≤ z ∧ z < 256) {n' : Int} (hn : 0 ≤ n' ∧ n' ≤ 4294967295) (r : W'.heap[p j]? = some (.cells (chc k' n') 48 (0, 0))) (hb : But (p j) W W') : Chs W' gc gd p (upd k j k') (upd n j n') k2 n2 := by
  have l := h.lo j hj
  have g := h.gg
  refine ⟨hb.row h.hc (by omega), hb.row h.hd (by omega), fun i hi => ?_, h.ne, h.lo, h.gg, upd_all (P := fun l : List Int => l.length = 32) h.kl hk, upd_all (P := fun l => ∀ z ∈ l, 0 ≤ z ∧ z < 256) h.kb hz, upd_all (P := fun z => 0 ≤ z ∧ z ≤ 4294967295) h.nb hn, h.kl2⟩
  by_cases e : i = j
  · subst e; rw [upd_same, upd_same]; exact r
  · rw [upd_other _ _ e, upd_other _ _ e]; exact hb.row (h.hp i hi) (pne h.ne hi hj e)
/-- Another chain is put into its place. -/
theorem Chs.setC (h : Chs W gc gd p k n k2 n2) {j : Nat} (hj : j < 2) {k' : List Int} (hk : k'.length = 32) (hz : ∀ z ∈ k', 0 ≤ z ∧ z < 256) {n' : Int} (hn : 0 ≤ n' ∧ n' ≤ 4294967295) {g : Nat} (r : W.heap[g]? = some (.cells (chc k' n') 48 (0, 0))) (hg : gd < g) (h1 : ∀ i, i < 2 → p i ≠ g) : Chs (W.setCell ⟨gc, j, none⟩ (.pointer (some ⟨g, 0, none⟩))) gc gd (upd p j g) (upd k j k') (upd n j n') k2 n2 := by
  have gg := h.gg
  refine ⟨?_, (heap_setCell_other W _ gd _ (by show gd ≠ gc; omega)).trans h.hd, fun i hi => ?_, ?_, upd_all (P := fun x => gd < x) h.lo hg, h.gg, upd_all (P := fun l : List Int => l.length = 32) h.kl hk, upd_all (P := fun l => ∀ z ∈ l, 0 ≤ z ∧ z < 256) h.kb hz, upd_all (P := fun z => 0 ≤ z ∧ z ≤ 4294967295) h.nb hn, h.kl2⟩
  · rw [heap_setCell_same W gc j _ _ _ h.hc, crow_set p hj]
  · by_cases e : i = j
    · subst e; rw [upd_same, upd_same, upd_same]; exact (heap_setCell_other W _ g _ (by show g ≠ gc; omega)).trans r
    · rw [upd_other _ _ e, upd_other _ _ e, upd_other _ _ e]
      have := h.lo i hi
      exact (heap_setCell_other W _ (p i) _ (by show p i ≠ gc; omega)).trans (h.hp i hi)
  · have a := h1 0 (by omega)
    have b := h1 1 (by omega)
    have c := h.ne
    rcases two hj with rfl | rfl
    · exact fun e => b e.symm
    · exact a
/-- The document's chain is turned. -/
theorem Chs.setD (h : Chs W gc gd p k n k2 n2) {j : Nat} (hj : j < 2) {k' : List Int} (hk : k'.length = 32) (n' : Int) : Chs (W.setCells gd (j * 33) (chc k' n').toList) gc gd p k n (upd k2 j k') (upd n2 j n') := by
  have gg := h.gg
  refine ⟨(hp_setCells_else (by omega) _ _ _).trans h.hc, ?_, fun i hi => ?_, h.ne, h.lo, h.gg, h.kl, h.kb, h.nb, upd_all (P := fun l : List Int => l.length = 32) h.kl2 hk⟩
  · rw [hp_setCells gd _ _ _ _ _ h.hd, drow_set h.kl2 n2 hj hk]
  · have := h.lo i hi
    exact (hp_setCells_else (by omega) _ _ _).trans (h.hp i hi)
/-- A chain of the place is there to be stored into. -/
theorem Chs.there (h : Chs W gc gd p k n k2 n2) {j : Nat} (hj : j < 2) {k' : List Int} (hk : k'.length = 32) (n' : Int) : W.there gd (j * 33) (chc k' n').size :=
  there_row h.hd (by rw [drow_size h.kl2, chc_size _ hk]; omega)
theorem Chs.cc (h : Chs W gc gd p k n k2 n2) {j : Nat} (hj : j < 2) : W.cell? ⟨gc, j, none⟩ = some (.pointer (some ⟨p j, 0, none⟩)) := by rw [cell_of_row _ _ _ _ _ _ h.hc]; exact crow_get p hj
theorem Chs.cn (h : Chs W gc gd p k n k2 n2) {j : Nat} (hj : j < 2) : W.cell? ⟨gd, j * 33 + 32, none⟩ = some (.int .u32 (n2 j)) := by rw [cell_of_row _ _ _ _ _ _ h.hd]; exact drow_n h.kl2 n2 hj
end

end Go.Proofs.YtilgicikcjcdjaaDoor


namespace Go.Proofs.YtilgicikcjcdjaaDoor
set_option maxRecDepth 100000
open Go Go.RowKit Go.Sort
attribute [local go_sem] setCell_drewN alloc_drewN

attribute [local go_sem] Oper.semAt_some
def ik (m i : Nat) : List Int := if i < m then (i : Int) :: zr 31 else zr 32
def iN (m i : Nat) : Int := if i < m then (i : Int) else 0
def pv (m : Nat) (p : Nat → Nat) (i : Nat) : Value := if i < m then .pointer (some ⟨p i, 0, none⟩) else .pointer none
structure Ini (W : World) (m gc gd : Nat) (p : Nat → Nat) : Prop where
  hc : W.heap[gc]? = some (.cells #[pv m p 0, pv m p 1] 24 (0, 0))
  hd : W.heap[gd]? = some (.cells (drow (ik m) (iN m)) 30 (0, 0))
  hp : ∀ i, i < m → W.heap[p i]? = some (.cells (chc ((i : Int) :: zr 31) (i : Int)) 48 (0, 0))
  ne : m = 2 → p 0 ≠ p 1
  lo : ∀ i, i < m → gd < p i
  gg : gc < gd
theorem ik_len (m i : Nat) : (ik m i).length = 32 := by unfold ik; split <;> rfl
theorem Ini.keep {W W' : World} {m gc gd : Nat} {p : Nat → Nat} (h : Ini W m gc gd p) (hb : Below W.heap.size W W') : Ini W' m gc gd p :=
  ⟨Go.Proofs.YtilgicikcjcdjaaDoor.keep hb h.hc, Go.Proofs.YtilgicikcjcdjaaDoor.keep hb h.hd, fun i hi => Go.Proofs.YtilgicikcjcdjaaDoor.keep hb (h.hp i hi), h.ne, h.lo, h.gg⟩
theorem Ini.zero {W : World} {gc gd : Nat} (hc : W.heap[gc]? = some (.cells #[.pointer none, .pointer none] 24 (0, 0))) (hd : W.heap[gd]? = some (.cells #[.int .u8 0, .int .u8 0, .int .u8 0, .int .u8 0, .int .u8 0, .int .u8 0, .int .u8 0, .int .u8 0, .int .u8 0, .int .u8 0, .int .u8 0, .int .u8 0, .int .u8 0, .int .u8 0, .int .u8 0, .int .u8 0, .int .u8 0, .int .u8 0, .int .u8 0, .int .u8 0, .int .u8 0, .int .u8 0, .int .u8 0, .int .u8 0, .int .u8 0, .int .u8 0, .int .u8 0, .int .u8 0, .int .u8 0, .int .u8 0, .int .u8 0, .int .u8 0, .int .u32 0, .int .u8 0, .int .u8 0, .int .u8 0, .int .u8 0, .int .u8 0, .int .u8 0, .int .u8 0, .int .u8 0, .int .u8 0, .int .u8 0, .int .u8 0, .int .u8 0, .int .u8 0, .int .u8 0, .int .u8 0, .int .u8 0, .int .u8 0, .int .u8 0, .int .u8 0, .int .u8 0, .int .u8 0, .int .u8 0, .int .u8 0, .int .u8 0, .int .u8 0, .int .u8 0, .int .u8 0, .int .u8 0, .int .u8 0, .int .u8 0, .int .u8 0, .int .u8 0, .int .u32 0] 30 (0, 0))) (h : gc < gd) (p : Nat → Nat) : Ini W 0 gc gd p :=
  ⟨hc, by rw [hd]; exact congrArg (fun c => some (Obj.cells c 30 (0, 0))) (by kernel_rfl), fun i hi => by omega, fun h => by omega, fun i hi => by omega, h⟩
theorem Ini.next {W : World} {m gc gd : Nat} {p : Nat → Nat} (h : Ini W m gc gd p) (hm : m < 2) {g : Nat} (r : W.heap[g]? = some (.cells (chc ((m : Int) :: zr 31) (m : Int)) 48 (0, 0))) (hg : gd < g) (hn : ∀ i, i < m → p i ≠ g) :
    Ini ((W.setCell ⟨gc, m, none⟩ (.pointer (some ⟨g, 0, none⟩))).setCells gd (m * 33) (chc ((m : Int) :: zr 31) (m : Int)).toList) (m + 1) gc gd (upd p m g) := by
  have gg := h.gg
  refine ⟨?_, ?_, ?_, ?_, ?_, h.gg⟩
  · rw [hp_setCells_else (by omega), heap_setCell_same W gc m _ _ _ h.hc]
    rcases two hm with rfl | rfl <;> rfl
  · rw [hp_setCells gd _ _ _ _ _ ((heap_setCell_other W _ gd _ (by show gd ≠ gc; omega)).trans h.hd), drow_set (fun i _ => ik_len m i) _ hm (by simp [zr])]
    rcases two hm with rfl | rfl <;> rfl
  · intro i hi
    by_cases e : i = m
    · subst e
      rw [upd_same, hp_setCells_else (by omega), heap_setCell_other W _ g _ (by show g ≠ gc; omega)]
      exact r
    · rw [upd_other _ _ e]
      have := h.lo i (by omega)
      rw [hp_setCells_else (by omega), heap_setCell_other W _ _ _ (by show p i ≠ gc; omega)]
      exact h.hp i (by omega)
  · intro e
    obtain rfl : m = 1 := by omega
    exact hn 0 (by omega)
  · intro i hi
    by_cases e : i = m
    · subst e; rw [upd_same]; exact hg
    · rw [upd_other _ _ e]; exact h.lo i (by omega)
theorem Ini.done {W : World} {gc gd : Nat} {p : Nat → Nat} (h : Ini W 2 gc gd p) : Chs W gc gd p (ik 2) (iN 2) (ik 2) (iN 2) := by
  refine ⟨h.hc, h.hd, fun i hi => ?_, h.ne rfl, h.lo, h.gg, fun i _ => ik_len 2 i, ?_, ?_, fun i _ => ik_len 2 i⟩
  · unfold ik iN
    rw [if_pos hi, if_pos hi]
    exact h.hp i hi
  · intro i hi z hz
    unfold ik at hz
    rw [if_pos hi] at hz
    simp only [zr, List.mem_cons, List.mem_replicate] at hz
    omega
  · intro i hi
    unfold iN
    rw [if_pos hi]
    omega
theorem Ini.cc {W : World} {m gc gd : Nat} {p : Nat → Nat} (h : Ini W m gc gd p) {j : Nat} (hj : j < m) (h2 : j < 2) : W.cell? ⟨gc, j, none⟩ = some (.pointer (some ⟨p j, 0, none⟩)) := by
  rw [cell_of_row _ _ _ _ _ _ h.hc]
  rcases two h2 with rfl | rfl <;> simp [pv, hj]
theorem Ini.cn {W : World} {m gc gd : Nat} {p : Nat → Nat} (h : Ini W m gc gd p) {j : Nat} (hj : j < m) (h2 : j < 2) : W.cell? ⟨gd, j * 33 + 32, none⟩ = some (.int .u32 (j : Int)) := by
  rw [cell_of_row _ _ _ _ _ _ h.hd, drow_n (fun i _ => ik_len m i) _ h2]
  simp [iN, hj]
theorem Ini.ck {W : World} {m gc gd : Nat} {p : Nat → Nat} (_h : Ini W m gc gd p) {j : Nat} (hj : j < m) (h2 : j < 2) : (drow (ik m) (iN m)).extract (j * 33) (j * 33 + (irow .u8 ((j : Int) :: zr 31)).size) = irow .u8 ((j : Int) :: zr 31) := by
  have e := drow_key (fun i _ => ik_len m i) (iN m) h2
  have : ik m j = (j : Int) :: zr 31 := by unfold ik; rw [if_pos hj]
  rw [this] at e
  exact e
theorem kint (m : Nat) (h : m < 2) : Tryd.prog.built 26 [(0, .int .u8 (m : Int))] = some (irow .u8 ((m : Int) :: zr 31)) := by
  rcases two h with rfl | rfl <;> kernel_rfl
theorem cint (m : Nat) (h : m < 2) : Tryd.prog.built 29 [(0, .agg (irow .u8 ((m : Int) :: zr 31))), (1, .int .u32 (m : Int))] = some (chc ((m : Int) :: zr 31) (m : Int)) := by
  rcases two h with rfl | rfl <;> kernel_rfl

end Go.Proofs.YtilgicikcjcdjaaDoor
