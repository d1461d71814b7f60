import Derived.Test.YtjofbnilhkmpeaaDoorProg
import Derived.WalkKit
import Derived.WalkSpells
import Derived.WalkLawsBesides
import Derived.Lib.QuietBelow
import Derived.BigQuiet
import Derived.OrdersHeld
import Derived.Deep.RegionHeld3
import Derived.OwnWalk
import Derived.Deep.CutRange
import Derived.Test.YtjofbnilhkmpeaaDoorKa
import Derived.Test.YtjofbnilhkmpeaaDoorRtg
import Derived.Test.YtjofbnilhkmpeaaDoorRth
import Derived.Test.YtjofbnilhkmpeaaDoorRtj
namespace Go.Proofs.YtjofbnilhkmpeaaDoor
set_option maxRecDepth 100000
open Go Go.RowKit Go.Sort Go.ChangeMaps Go.MapKept
attribute [local go_sem] setCell_drewN alloc_drewN

theorem l_statesB (s : Stt) (hs : s.ok) (ua : Value) (l : List Sr) (w : World) (hua : SpL w ua l) (hub : SpL w s.sp l) : Calls Tryd.prog 6 #[.agg (strow { s with sp := ua }), .agg (strow s)] w fun e w' => e = .returned (.bool true) ∧ Below w.heap.size w w' := l_states s hs ua s.sp l w hua hub
theorem ex1 {f : FuncId} {args : Array Value} {w : World} {v : Value} {B : World → Prop} (h : Calls Tryd.prog f args w fun e w' => e = .returned v ∧ B w') : Calls Tryd.prog f args w fun e w' => ∃ u, e = .returned u ∧ (u = v ∧ B w') := h.mono fun _ _ ⟨h1, h2⟩ => ⟨v, h1, rfl, h2⟩
theorem rck_sp (s : Stt) (u : Value) (l : List Sr) : rck { s with sp := u } l = rck s l := rfl
def zn (n : Int) : Sr := ⟨zr 32, n, zr 32⟩
theorem zn_ok (n : Int) : (zn n).ok := ⟨rfl, rfl⟩
theorem builtN (n : Int) : Tryd.prog.built 52 [(1, .int .u32 n)] = some (srow (zn n)) := by kernel_rfl
theorem ovw_size : ∀ (vs : List Value) (cs : Array Value) (o : Nat), (ovw cs o vs).size = cs.size
  | [], _, _ => rfl
  | v :: r, cs, o => by
    rw [ovw, ovw_size r]
    simp
/-- A list that may be written over: its block. -/
theorem own_blk {W : World} {base : Nat} {u : Value} {l : List Sr} (h : OwnS W base u l) (hl : 0 < l.length) : ∃ gu cap cur, u = .slice (some ⟨gu, 0, none⟩) l.length cap ∧ base ≤ gu ∧ W.heap[gu]? = some (.cells cur 52 (0, 0)) ∧ l.length * 65 ≤ cur.size := by
  obtain ⟨h1, ⟨_, h3⟩ | ⟨g, cap, cur, rfl, hb, hg, hn, _, hs, _⟩⟩ := h.1
  · omega
  · refine ⟨g, cap, cur, rfl, hb, hg, ?_⟩
    rw [hs]
    exact Nat.mul_le_mul_right _ hn
theorem OwnS.keepF {W V : World} {b : Nat} {v : Value} {l : List Sr} {X : Nat → Prop} (h : OwnS W b v l) (hf : Fr X W V) (hx : ∀ k, X k → v.ownBlock = some k → False) : OwnS V b v l := ⟨own_move h.1 (fun k e => hf.block k (h.1.lt k e).2 (fun x => hx k x e)), h.2⟩
set_option maxRecDepth 100000 in
set_option maxHeartbeats 16000000 in
theorem checks_any (s : Stt) (hs : s.ok) (ha : K8 s.opr) (l : List Sr) (W : World) (hl : SpL W s.sp l) (hF : Lo.Four W) : Calls Tryd.prog 4 #[.agg (strow s)] W fun e w' => e = .returned (.bool true) ∧ Below W.heap.size W w' := by
  have ll := hl.len
  have R0 := hp1_0 W (.cells (strow s) 38)
  have hw : Below W.heap.size W (W.alloc (.cells (strow s) 38)) := (Below.refl _ _).alloc (Nat.le_refl _) _
  have cC := r_Copy s hs l (W.alloc (.cells (strow s) 38)) (hl.keep hw)
  have sz0 : W.heap.size + 1 = (W.alloc (.cells (strow s) 38)).heap.size := by simp
  go_enter Tryd.func4, Tryd.ntmps4
  go_wp2_with (first | (refine wpList_box rfl 38 _ rfl _ rfl (bStA _) ?_) | (refine wpList_load_want rfl 38 _ rfl (W.heap.size) rfl 38 (strow s) (0, 0) _ R0 Tryd.underlying38 rfl (infoSt hs) ?_) | fail)
  refine cC.mono ?_
  rintro e_ w1 ⟨u, rfl, hO, hb⟩
  have sz1 := hb.size
  have hu := hs.put (own_one hO)
  replace R0 := keep hb R0
  replace hw := Below.after hw hb
  clear hb cC
  have lt0 := lt_of_row R0
  have hugc : ∀ k, u.ownBlock = some k → k < w1.heap.size := fun k e => (hO.1.lt k e).2
  have z_ := hp1_0 w1 (.cells (strow zst) 38)
  go_wp2_with (first | (refine wpList_alloc rfl 38 rfl (strow zst) zStA ?_) | (refine wpList_store_row rfl 38 _ _ rfl (w1.heap.size) (strow { s with sp := u }) rfl rfl 38 _ z_ (infoSt hu) (by rw [strow_size zst_ok, strow_size hu]) (strow_one hu) ?_; refine wpList_stay ?_) | fail)
  unfold WpStay
  try simp only [Act.put, List.setIfInBounds_toArray, List.set_cons_succ, List.set_cons_zero]
  have Rc := setRow_heap (w1.alloc (.cells (strow zst) 38)) w1.heap.size _ (strow { s with sp := u }) _ _ z_
  have hb_ : Below w1.heap.size w1 ((w1.alloc (.cells (strow zst) 38)).setRow w1.heap.size (strow { s with sp := u })) := below_setRow ((Below.refl _ _).alloc (Nat.le_refl _) _) (Nat.le_refl _) _
  have sz_gc := hb_.size
  have lt_R0_gc := lt_of_row R0
  replace R0 := keep hb_ R0
  replace hO := hO.keep hb_
  replace hw := Below.after hw hb_
  clear hb_ z_
  generalize ((w1.alloc (.cells (strow zst) 38)).setRow w1.heap.size (strow { s with sp := u })) = w2 at *
  generalize w1.heap.size = gc at *
  have cK := r_Check s hs ha l w2 (hl.keep hw)
  obtain ⟨E, hE⟩ : ∃ E_, rck s l = E_ := ⟨_, rfl⟩
  rw [hE] at cK
  replace hE := hide hE
  go_wp2_with (first | (refine wpList_load_want rfl 38 _ rfl (W.heap.size) rfl 38 (strow s) (0, 0) _ R0 Tryd.underlying38 rfl (infoSt hs) ?_) | fail)
  refine cK.mono ?_
  rintro e_ w3 ⟨rfl, hb⟩
  replace R0 := keep hb R0
  replace Rc := keep hb Rc
  replace hO := hO.keep hb
  replace hw := Below.after hw hb
  clear hb cK
  have cF := a_From { s with sp := u } hu ha l w3 (hO.spl (by omega)) (hF.below hw)
  have sz3 : gc < w3.heap.size := lt_of_row Rc
  go_wp2_with (first | (refine wpList_load_want rfl 38 _ rfl (gc) rfl 38 (strow { s with sp := u }) (0, 0) _ Rc Tryd.underlying38 rfl (infoSt hu) ?_) | fail)
  refine cF.mono ?_
  rintro e_ w4 h
  clear cF
  rcases h with ⟨E', hne, hk, rfl, hb⟩ | ⟨g, b, v, hk, rfl, hS, hb⟩
  · obtain rfl : E = E' := by rw [← hE.out, ← hk]; rfl
    clear hk
    have h4 := hb
    replace R0 := keep hb R0
    replace Rc := keep hb Rc
    replace hO := hO.keep hb
    replace hw := Below.after hw hb
    clear hb h4
    have cK := a_Check { s with sp := u } hu ha l w4 (hO.spl (by omega)) (hF.below hw)
    rw [rck_sp, hE.out] at cK
    have hd1 : (E != 0) = true := by simpa using hne
    go_wp2_with (first | (refine wpList_load_want rfl 38 _ rfl (gc) rfl 38 (strow { s with sp := u }) (0, 0) _ Rc Tryd.underlying38 rfl (infoSt hu) ?_) | fail)
    refine cK.mono ?_
    rintro e_ w5 ⟨rfl, hb⟩
    replace R0 := keep hb R0
    replace Rc := keep hb Rc
    replace hO := hO.keep hb
    replace hw := Below.after hw hb
    clear hb cK
    have cS := l_statesB s hs u l w5 (hO.spl (by omega)) (hl.keep hw)
    go_wp2_with (first | (refine wpList_load_want rfl 38 _ rfl (gc) rfl 38 (strow { s with sp := u }) (0, 0) _ Rc Tryd.underlying38 rfl (infoSt hu) ?_) | (refine wpList_load_want rfl 38 _ rfl (W.heap.size) rfl 38 (strow s) (0, 0) _ R0 Tryd.underlying38 rfl (infoSt hs) ?_) | fail)
    refine cS.mono ?_
    rintro e_ w6 ⟨rfl, hb⟩
    replace R0 := keep hb R0
    replace Rc := keep hb Rc
    replace hO := hO.keep hb
    replace hw := Below.after hw hb
    clear hb cS
    go_wp2_with (fail)
    go_ret
    exact ⟨rfl, hw⟩
  · obtain rfl : E = 0 := by rw [← hE.out, ← hk]; rfl
    clear hk
    have hlo : ∀ k, own3 g b v k → w3.heap.size ≤ k := fun k hk => (hS.low k hk).1
    replace R0 := keep hb R0
    replace Rc := keep hb Rc
    have hult : ∀ k, u.ownBlock = some k → k < w3.heap.size := fun k e => (hO.1.lt k e).2
    replace hO := hO.keep hb
    replace hw := Below.after hw hb
    clear hb
    have cK := a_Check { s with sp := u } hu ha l w4 (hO.spl (by omega)) (hF.below hw)
    rw [rck_sp, hE.out] at cK
    go_wp2_with (first | (refine wpList_load_want rfl 38 _ rfl (gc) rfl 38 (strow { s with sp := u }) (0, 0) _ Rc Tryd.underlying38 rfl (infoSt hu) ?_) | fail)
    refine cK.mono ?_
    rintro e_ w5 ⟨rfl, hb⟩
    replace R0 := keep hb R0
    replace Rc := keep hb Rc
    replace hO := hO.keep hb
    replace hw := Below.after hw hb
    replace hS := hS.keep hb
    clear hb cK
    have cS := l_statesB s hs u l w5 (hO.spl (by omega)) (hl.keep hw)
    go_wp2_with (first | (refine wpList_load_want rfl 38 _ rfl (gc) rfl 38 (strow { s with sp := u }) (0, 0) _ Rc Tryd.underlying38 rfl (infoSt hu) ?_) | (refine wpList_load_want rfl 38 _ rfl (W.heap.size) rfl 38 (strow s) (0, 0) _ R0 Tryd.underlying38 rfl (infoSt hs) ?_) | fail)
    refine cS.mono ?_
    rintro e_ w6 ⟨rfl, hb⟩
    replace R0 := keep hb R0
    replace Rc := keep hb Rc
    replace hO := hO.keep hb
    replace hw := Below.after hw hb
    replace hS := hS.keep hb
    clear hb cS
    go_wp2_with (fail)
    obtain ⟨ao_u, cap_u, hue_u⟩ := slen_own hO.1
    replace hue_u := hide hue_u
    have lc_u := lt_of_row Rc
    go_loopw [7] (fun iv wr => ∃ k : Nat, k ≤ l.length ∧ iv = .int .i64 k ∧ Fr (fun j => u.ownBlock = some j) w6 wr ∧ (∀ gu, u.ownBlock = some gu → ∃ cur, wr.heap[gu]? = some (.cells cur 52 (0, 0)) ∧ l.length * 65 ≤ cur.size)) (fun iv _ => l.length - (intOf iv).toNat)
    case atStart =>
      refine ⟨0, by omega, rfl, Fr.refl _ _, fun gu e => ?_⟩
      rcases Nat.eq_zero_or_pos l.length with h0 | h0
      · obtain ⟨h1, ⟨h2, h3⟩ | ⟨g, cap, cur, h2, hb, hg, hn, _, hs, _⟩⟩ := hO.1
        · rw [h2] at e; cases e
        · rw [h2] at e; cases e
          exact ⟨cur, hg, by rw [h0]; omega⟩
      · obtain ⟨g, cap, cur, h2, _, hg, hz⟩ := own_blk hO h0
        rw [h2] at e; cases e
        exact ⟨cur, hg, hz⟩
    case round =>
      obtain ⟨k, hk, rfl, hfr, hcur⟩ := hrel
      have RW := hfr.row Rc (fun e => by have := hugc _ e; omega)
      have c331 : wr.cell? ⟨gc, 331, none⟩ = some u := (cell_of_row _ _ _ _ _ _ RW).trans (st_sp hu [])
      rw [hue_u.out] at c331
      by_cases hlt : k < l.length
      · have hd : decide ((k : Int) < (l.length : Int)) = true := by simp; omega
        obtain ⟨gu, cap, cur0, hue2, hbu, _, _⟩ := own_blk hO (by omega)
        rw [hue_u.out] at hue2
        injection hue2 with e1 e2 e3
        clear e2
        subst e1
        subst e3
        have hug : u.ownBlock = some gu := by rw [hue_u.out]; rfl
        obtain ⟨cur, hg, hz⟩ := hcur gu hug
        have hk1 : 0 ≤ (k : Int) ∧ (k : Int) < (l.length : Int) := by omega
        have hth : wr.there gu (k * 65) (srow (zn 77)).size := by
          rw [srow_size (zn_ok 77)]
          exact there_row hg (by omega)
        have hset : wr.setCells gu (k * 65) (srow (zn 77)).toList = wr.setRow gu (ovw cur (k * 65) (srow (zn 77)).toList) := setCells_eq _ _ wr cur hg
        have hfr2 := hfr.setRow (b := gu) hug (ovw cur (k * 65) (srow (zn 77)).toList)
        have hg2 := setRow_heap wr gu _ (ovw cur (k * 65) (srow (zn 77)).toList) _ _ hg
        have hz2 : l.length * 65 ≤ (ovw cur (k * 65) (srow (zn 77)).toList).size := by rw [ovw_size]; exact hz
        rw [← hset] at hfr2 hg2
        replace hug := hide hug
        replace hfr2 := hide hfr2
        replace hg2 := hide hg2
        clear hfr hcur hset RW hg hz
        repeat ((fail_if_success (refine wpList_build_as rfl 52 _ rfl [(1, .int .u32 77)] rfl (srow (zn 77)) (builtN 77) ?_)); first | go_skip | go_step)
        refine wpList_build_as rfl 52 _ rfl [(1, .int .u32 77)] rfl (srow (zn 77)) (builtN 77) ?_
        repeat ((fail_if_success (refine wpList_store_mid rfl 52 _ _ rfl gu (k * 65) (srow (zn 77)) rfl rfl hth (infoS (zn_ok 77)) (srow_one _) ?_)); first | go_skip | go_step)
        refine wpList_store_mid rfl 52 _ _ rfl gu (k * 65) (srow (zn 77)) rfl rfl hth (infoS (zn_ok 77)) (srow_one _) ?_
        go_wp2_with (fail)
        refine ⟨⟨k + 1, by omega, by go_num, hfr2.out, fun g_ e_ => ?_⟩, ?_⟩
        · rw [hug.out] at e_; cases e_
          exact ⟨_, hg2.out, hz2⟩
        · simp [intOf]; omega
      · obtain rfl : k = l.length := by omega
        have hd : decide ((l.length : Int) < (l.length : Int)) = false := by simp
        clear hcur RW
        go_upto_region 12 with fail
        clear hk hd c331
        replace hS := hS.move (fun k hk => hfr.block k (hS.low k hk).2 (fun e => by have := hult k e; have := hlo k hk; omega))
        replace R0 := hfr.row R0 (fun e => by have := (hO.1.lt _ e).1; omega)
        replace hw := Below.trans hw (hfr.below (B := W.heap.size) (fun k e => by have := (hO.1.lt k e).1; omega) hw.size)
        have szl : gc < wr.heap.size := by have := hfr.size; omega
        clear hfr hO Rc
        have hSlt : ∀ k, own3 g b v k → k < wr.heap.size := fun k hk => (hS.low k hk).2
        have cA := (show Calls Tryd.prog 7 #[.pointer (some ⟨g, 0, none⟩)] wr (fun e w' => ∃ x, e = .returned (.agg (strow { s with sp := x })) ∧ OwnS w' wr.heap.size x l ∧ Below wr.heap.size wr w') from a_State w3.heap.size g b v s.cs l { s with sp := .slice none 0 0 } wr hS)
        go_wp2_with (fail)
        refine cA.mono ?_
        rintro e_ w7 ⟨x, rfl, hX, hb⟩
        have sz7 := hb.size
        replace R0 := keep hb R0
        replace hS := hS.keep hb
        replace hw := Below.after hw hb
        clear hb cA
        have hx1 := hs.put (own_one hX)
        have hxb : ∀ k, x.ownBlock = some k → wr.heap.size ≤ k ∧ k < w7.heap.size := fun k e => hX.1.lt k e
        have cA := (show Calls Tryd.prog 7 #[.pointer (some ⟨g, 0, none⟩)] w7 (fun e w' => ∃ x, e = .returned (.agg (strow { s with sp := x })) ∧ OwnS w' w7.heap.size x l ∧ Below w7.heap.size w7 w') from a_State w3.heap.size g b v s.cs l { s with sp := .slice none 0 0 } w7 hS)
        go_wp2_with (fail)
        refine cA.mono ?_
        rintro e_ w8 ⟨y, rfl, hY, hb⟩
        have sz8 := hb.size
        replace R0 := keep hb R0
        replace hS := hS.keep hb
        replace hX := hX.keep hb
        replace hw := Below.after hw hb
        clear hb cA
        have hy1 := hs.put (own_one hY)
        have hyb : ∀ k, y.ownBlock = some k → w7.heap.size ≤ k ∧ k < w8.heap.size := fun k e => hY.1.lt k e
        have z1 := hp2_0 w8 (.cells (strow zst) 38) (.cells (strow zst) 38)
        have z2 := hp2_1 w8 (.cells (strow zst) 38) (.cells (strow zst) 38)
        have z3 := (setRow_other ((w8.alloc (.cells (strow zst) 38)).alloc (.cells (strow zst) 38)) (w8.heap.size) (w8.heap.size + 1) (strow { s with sp := x }) (by omega)).trans z2
        have Rx := (setRow_other (((w8.alloc (.cells (strow zst) 38)).alloc (.cells (strow zst) 38)).setRow (w8.heap.size) (strow { s with sp := x })) (w8.heap.size + 1) (w8.heap.size) (strow { s with sp := y }) (by omega)).trans (setRow_heap ((w8.alloc (.cells (strow zst) 38)).alloc (.cells (strow zst) 38)) (w8.heap.size) _ (strow { s with sp := x }) _ _ z1)
        have Ry := setRow_heap (((w8.alloc (.cells (strow zst) 38)).alloc (.cells (strow zst) 38)).setRow (w8.heap.size) (strow { s with sp := x })) (w8.heap.size + 1) _ (strow { s with sp := y }) _ _ z3
        have hbF : Below w8.heap.size w8 ((((w8.alloc (.cells (strow zst) 38)).alloc (.cells (strow zst) 38)).setRow (w8.heap.size) (strow { s with sp := x })).setRow (w8.heap.size + 1) (strow { s with sp := y })) := below_setRow (below_setRow (((Below.refl _ _).alloc (Nat.le_refl _) _).alloc (by simp) _) (Nat.le_refl _) (strow { s with sp := x })) (Nat.le_succ _) (strow { s with sp := y })
        go_wp2_with (first | (refine wpList_alloc rfl 38 rfl (strow zst) zStA ?_) | (refine wpList_store_row rfl 38 _ _ rfl (w8.heap.size) (strow { s with sp := x }) rfl rfl 38 _ z1 (infoSt hx1) (by rw [strow_size zst_ok, strow_size hx1]) (strow_one hx1) ?_; refine wpList_stay ?_) | fail)
        unfold WpStay
        go_wp2_with (first | (refine wpList_store_row rfl 38 _ _ rfl (w8.heap.size + 1) (strow { s with sp := y }) rfl rfl 38 _ z3 (infoSt hy1) (by rw [strow_size zst_ok, strow_size hy1]) (strow_one hy1) ?_; refine wpList_stay ?_) | fail)
        unfold WpStay
        replace R0 := keep hbF R0
        replace hS := hS.keep hbF
        replace hX := hX.keep hbF
        replace hY := hY.keep hbF
        replace hw := Below.after hw hbF
        have ltF := hbF.size
        clear hbF z1 z2 z3
        generalize ((((w8.alloc (.cells (strow zst) 38)).alloc (.cells (strow zst) 38)).setRow (w8.heap.size) (strow { s with sp := x })).setRow (w8.heap.size + 1) (strow { s with sp := y })) = w9 at *
        generalize hgz : w8.heap.size = gx at *

        have hgy : gx + 1 < w9.heap.size := lt_of_row Ry
        generalize hgy2 : gx + 1 = gy at *
        have cS := l_statesB s hs x l w9 (hX.spl (by omega)) (hl.keep hw)
        go_wp2_with (first | (refine wpList_load_want rfl 38 _ rfl (gx) rfl 38 (strow { s with sp := x }) (0, 0) _ Rx Tryd.underlying38 rfl (infoSt hx1) ?_) | (refine wpList_load_want rfl 38 _ rfl (W.heap.size) rfl 38 (strow s) (0, 0) _ R0 Tryd.underlying38 rfl (infoSt hs) ?_) | fail)
        refine cS.mono ?_
        rintro e_ wa ⟨rfl, hb⟩
        replace R0 := keep hb R0
        replace Rx := keep hb Rx
        replace Ry := keep hb Ry
        replace hS := hS.keep hb
        replace hX := hX.keep hb
        replace hY := hY.keep hb
        replace hw := Below.after hw hb
        clear hb cS
        have cS := l_statesB s hs y l wa (hY.spl (by omega)) (hl.keep hw)
        go_wp2_with (first | (refine wpList_load_want rfl 38 _ rfl (gy) rfl 38 (strow { s with sp := y }) (0, 0) _ Ry Tryd.underlying38 rfl (infoSt hy1) ?_) | (refine wpList_load_want rfl 38 _ rfl (W.heap.size) rfl 38 (strow s) (0, 0) _ R0 Tryd.underlying38 rfl (infoSt hs) ?_) | fail)
        refine cS.mono ?_
        rintro e_ wb ⟨rfl, hb⟩
        replace R0 := keep hb R0
        replace Rx := keep hb Rx
        replace Ry := keep hb Ry
        replace hS := hS.keep hb
        replace hX := hX.keep hb
        replace hY := hY.keep hb
        replace hw := Below.after hw hb
        clear hb cS
        go_wp2_with (fail)
        obtain ⟨ao_x, cap_x, hue_x⟩ := slen_own hX.1
        replace hue_x := hide hue_x
        have lc_x := lt_of_row Rx
        go_loopw [10] (fun iv wr => ∃ k : Nat, k ≤ l.length ∧ iv = .int .i64 k ∧ Fr (fun j => x.ownBlock = some j) wb wr ∧ (∀ gu, x.ownBlock = some gu → ∃ cur, wr.heap[gu]? = some (.cells cur 52 (0, 0)) ∧ l.length * 65 ≤ cur.size)) (fun iv _ => l.length - (intOf iv).toNat)
        case atStart =>
          refine ⟨0, by omega, rfl, Fr.refl _ _, fun gu e => ?_⟩
          rcases Nat.eq_zero_or_pos l.length with h0 | h0
          · obtain ⟨h1, ⟨h2, h3⟩ | ⟨g, cap, cur, h2, hb, hg, hn, _, hs, _⟩⟩ := hX.1
            · rw [h2] at e; cases e
            · rw [h2] at e; cases e
              exact ⟨cur, hg, by rw [h0]; omega⟩
          · obtain ⟨g, cap, cur, h2, _, hg, hz⟩ := own_blk hX h0
            rw [h2] at e; cases e
            exact ⟨cur, hg, hz⟩
        case round =>
          obtain ⟨k, hk, rfl, hfr, hcur⟩ := hrel
          have RW := hfr.row Rx (fun e => by have := hxb _ e; omega)
          have c331 : wr.cell? ⟨gx, 331, none⟩ = some x := (cell_of_row _ _ _ _ _ _ RW).trans (st_sp hx1 [])
          rw [hue_x.out] at c331
          by_cases hlt : k < l.length
          · have hd : decide ((k : Int) < (l.length : Int)) = true := by simp; omega
            obtain ⟨gu, cap, cur0, hue2, hbu, _, _⟩ := own_blk hX (by omega)
            rw [hue_x.out] at hue2
            injection hue2 with e1 e2 e3
            clear e2
            subst e1
            subst e3
            have hug : x.ownBlock = some gu := by rw [hue_x.out]; rfl
            obtain ⟨cur, hg, hz⟩ := hcur gu hug
            have hk1 : 0 ≤ (k : Int) ∧ (k : Int) < (l.length : Int) := by omega
            have hth : wr.there gu (k * 65) (srow (zn 78)).size := by
              rw [srow_size (zn_ok 78)]
              exact there_row hg (by omega)
            have hset : wr.setCells gu (k * 65) (srow (zn 78)).toList = wr.setRow gu (ovw cur (k * 65) (srow (zn 78)).toList) := setCells_eq _ _ wr cur hg
            have hfr2 := hfr.setRow (b := gu) hug (ovw cur (k * 65) (srow (zn 78)).toList)
            have hg2 := setRow_heap wr gu _ (ovw cur (k * 65) (srow (zn 78)).toList) _ _ hg
            have hz2 : l.length * 65 ≤ (ovw cur (k * 65) (srow (zn 78)).toList).size := by rw [ovw_size]; exact hz
            rw [← hset] at hfr2 hg2
            replace hug := hide hug
            replace hfr2 := hide hfr2
            replace hg2 := hide hg2
            clear hfr hcur hset RW hg hz
            repeat ((fail_if_success (refine wpList_build_as rfl 52 _ rfl [(1, .int .u32 78)] rfl (srow (zn 78)) (builtN 78) ?_)); first | go_skip | go_step)
            refine wpList_build_as rfl 52 _ rfl [(1, .int .u32 78)] rfl (srow (zn 78)) (builtN 78) ?_
            repeat ((fail_if_success (refine wpList_store_mid rfl 52 _ _ rfl gu (k * 65) (srow (zn 78)) rfl rfl hth (infoS (zn_ok 78)) (srow_one _) ?_)); first | go_skip | go_step)
            refine wpList_store_mid rfl 52 _ _ rfl gu (k * 65) (srow (zn 78)) rfl rfl hth (infoS (zn_ok 78)) (srow_one _) ?_
            go_wp2_with (fail)
            refine ⟨⟨k + 1, by omega, by go_num, hfr2.out, fun g_ e_ => ?_⟩, ?_⟩
            · rw [hug.out] at e_; cases e_
              exact ⟨_, hg2.out, hz2⟩
            · simp [intOf]; omega
          · obtain rfl : k = l.length := by omega
            have hd : decide ((l.length : Int) < (l.length : Int)) = false := by simp
            clear hcur RW
            go_upto_region 19 with fail
            clear hk hd c331
            replace hS := hS.move (fun k hk => hfr.block k (hS.low k hk).2 (fun e => by have := hSlt k hk; have := hxb k e; omega))
            replace hY := hY.keepF hfr (fun k e e2 => by have := hxb k e; have := hyb k e2; omega)
            replace R0 := hfr.row R0 (fun e => by have := hxb _ e; omega)
            replace Ry := hfr.row Ry (fun e => by have := hxb _ e; omega)
            replace hw := Below.trans hw (hfr.below (B := W.heap.size) (fun k e => by have := hxb k e; omega) hw.size)
            clear hfr
            have hbd : Below wr.heap.size wr wr.drew := below_drN (Below.refl _ _) 1
            replace R0 := keep hbd R0
            replace Ry := keep hbd Ry
            replace hY := hY.keep hbd
            replace hS := hS.keep hbd
            replace hw := Below.after hw hbd
            clear hbd
            refine wp_region_noPanic ?_
            refine wp_region_held (S := fun V => V.heap[gy]? = some (.cells (strow { s with sp := y }) 38 (0, 0)) ∧ V.heap[W.heap.size]? = some (.cells (strow s) 38 (0, 0))) (by kernel_rfl) ?_
            change wpAnyH _ _ _ _ _ _ _ _ (World.drew _)
            generalize wr.drew = wd at *
            refine wpAnyH_take (i := 0) (v := .agg (strow { s with sp := y })) rfl (by kernel_rfl) (by kernel_rfl) (by kernel_rfl) (fun _ _ _ h => h) (Or.inl ⟨by rfl, ?y1⟩) ⟨Ry, R0⟩ ?r1
            case y1 =>
              intro w_ hS_
              simp only [List.getElem_toArray, List.getElem_cons_zero]
              exact run_load_part 38 _ (by rfl) (gy) 0 (by rfl) 38 (strow { s with sp := y }) (0, 0) (strow { s with sp := y }) _ hS_.1 (all_row _) Tryd.underlying38 rfl (infoSt hy1)
            simp only [Act.put, List.getElem_toArray, List.getElem_cons_zero, List.setIfInBounds_toArray, List.set_cons_succ, List.set_cons_zero]
            refine wpAnyH_take (i := 1) (v := .agg (strow s)) rfl (by kernel_rfl) (by kernel_rfl) (by kernel_rfl) (fun _ _ _ h => h) (Or.inl ⟨by rfl, ?y2⟩) ⟨Ry, R0⟩ ?r2
            case y2 =>
              intro w_ hS_
              simp only [List.getElem_toArray, List.getElem_cons_succ, List.getElem_cons_zero]
              exact run_load_part 38 _ (by rfl) (W.heap.size) 0 (by rfl) 38 (strow s) (0, 0) (strow s) _ hS_.2 (all_row _) Tryd.underlying38 rfl (infoSt hs)
            simp only [Act.put, List.getElem_toArray, List.getElem_cons_succ, List.getElem_cons_zero, List.setIfInBounds_toArray, List.set_cons_succ, List.set_cons_zero]
            refine wpAnyH_one (k := 2) (fuel := 7) (by kernel_rfl) rfl (by rfl) (fun K_ hK => ?_)
            refine wp_call_ex (f := 6) (by kernel_rfl) (ex1 (l_statesB s hs y l wd (hY.spl (by omega)) (hl.keep hw))) (fun v_ we hX_ => ?_)
            obtain ⟨rfl, hb⟩ := hX_
            replace R0 := keep hb R0
            replace Ry := keep hb Ry
            replace hY := hY.keep hb
            replace hS := hS.keep hb
            replace hw := Below.after hw hb
            clear hb
            refine hK _ _ ⟨Ry, R0⟩ ?_
            simp only [Act.put, List.getElem_toArray, List.getElem_cons_succ, List.getElem_cons_zero, List.setIfInBounds_toArray, List.set_cons_succ, List.set_cons_zero]
            clear hK
            refine wpAnyH_take (i := 3) (v := ?v3) rfl (by kernel_rfl) (by kernel_rfl) (by kernel_rfl) (fun _ _ _ h => h) (Or.inl ⟨by rfl, ?y3⟩) ⟨Ry, R0⟩ ?r3
            case y3 =>
              intro w_ hS_
              go_simp
              try with_reducible rfl
            simp only [Act.put, List.getElem_toArray, List.getElem_cons_succ, List.getElem_cons_zero, List.setIfInBounds_toArray, List.set_cons_succ, List.set_cons_zero]
            refine wpAnyH_take (i := 4) (v := ?v4) rfl (by kernel_rfl) (by kernel_rfl) (by kernel_rfl) (fun _ _ _ h => h) (Or.inl ⟨by rfl, ?y4⟩) ⟨Ry, R0⟩ ?r4
            case y4 =>
              intro w_ hS_
              go_simp
              try with_reducible rfl
            simp only [Act.put, List.getElem_toArray, List.getElem_cons_succ, List.getElem_cons_zero, List.setIfInBounds_toArray, List.set_cons_succ, List.set_cons_zero]
            refine wpAnyH_take (i := 6) (v := .agg (strow s)) rfl (by kernel_rfl) (by kernel_rfl) (by kernel_rfl) (fun _ _ _ h => h) (Or.inl ⟨by rfl, ?y5⟩) ⟨Ry, R0⟩ ?r5
            case y5 =>
              intro w_ hS_
              simp only [List.getElem_toArray, List.getElem_cons_succ, List.getElem_cons_zero]
              exact run_load_part 38 _ (by rfl) (W.heap.size) 0 (by rfl) 38 (strow s) (0, 0) (strow s) _ hS_.2 (all_row _) Tryd.underlying38 rfl (infoSt hs)
            simp only [Act.put, List.getElem_toArray, List.getElem_cons_succ, List.getElem_cons_zero, List.setIfInBounds_toArray, List.set_cons_succ, List.set_cons_zero]
            refine wpAnyH_one (k := 5) (fuel := 3) (by kernel_rfl) rfl (by rfl) (fun K_ hK => ?_)
            refine wp_call_ex (f := 7) (by kernel_rfl) ((show Calls Tryd.prog 7 #[.pointer (some ⟨g, 0, none⟩)] we (fun e w' => ∃ vv, e = .returned vv ∧ (∃ z, vv = .agg (strow { s with sp := z }) ∧ OwnS w' we.heap.size z l ∧ Below we.heap.size we w')) from ((show Calls Tryd.prog 7 #[.pointer (some ⟨g, 0, none⟩)] we (fun e w' => ∃ x, e = .returned (.agg (strow { s with sp := x })) ∧ OwnS w' we.heap.size x l ∧ Below we.heap.size we w') from a_State w3.heap.size g b v s.cs l { s with sp := .slice none 0 0 } we hS)).mono (fun e w' h => by obtain ⟨z, h1, h2, h3⟩ := h; exact ⟨_, h1, z, rfl, h2, h3⟩))) (fun v_ wf hX_ => ?_)
            obtain ⟨z, rfl, hZ, hb⟩ := hX_
            replace R0 := keep hb R0
            replace Ry := keep hb Ry
            replace hY := hY.keep hb
            replace hS := hS.keep hb
            replace hw := Below.after hw hb
            clear hb
            refine hK _ _ ⟨Ry, R0⟩ ?_
            simp only [Act.put, List.getElem_toArray, List.getElem_cons_succ, List.getElem_cons_zero, List.setIfInBounds_toArray, List.set_cons_succ, List.set_cons_zero]
            clear hK
            refine wpAnyH_one (k := 7) (fuel := 2) (by kernel_rfl) rfl (by rfl) (fun K_ hK => ?_)
            refine wp_call_ex (f := 6) (by kernel_rfl) (ex1 (l_statesB s hs z l wf (hZ.spl (by omega)) (hl.keep hw))) (fun v_ wg hX_ => ?_)
            obtain ⟨rfl, hb⟩ := hX_
            replace R0 := keep hb R0
            replace Ry := keep hb Ry
            replace hY := hY.keep hb
            replace hS := hS.keep hb
            replace hw := Below.after hw hb
            clear hb
            refine hK _ _ ⟨Ry, R0⟩ ?_
            simp only [Act.put, List.getElem_toArray, List.getElem_cons_succ, List.getElem_cons_zero, List.setIfInBounds_toArray, List.set_cons_succ, List.set_cons_zero]
            clear hK
            refine wpAnyH_take (i := 8) (v := ?v6) rfl (by kernel_rfl) (by kernel_rfl) (by kernel_rfl) (fun _ _ _ h => h) (Or.inl ⟨by rfl, ?y6⟩) ⟨Ry, R0⟩ ?r6
            case y6 =>
              intro w_ hS_
              go_simp
              try with_reducible rfl
            simp only [Act.put, List.getElem_toArray, List.getElem_cons_succ, List.getElem_cons_zero, List.setIfInBounds_toArray, List.set_cons_succ, List.set_cons_zero]
            refine wpAnyH_take (i := 9) (v := ?v7) rfl (by kernel_rfl) (by kernel_rfl) (by kernel_rfl) (fun _ _ _ h => h) (Or.inl ⟨by rfl, ?y7⟩) ⟨Ry, R0⟩ ?r7
            case y7 =>
              intro w_ hS_
              go_simp
              try with_reducible rfl
            simp only [Act.put, List.getElem_toArray, List.getElem_cons_succ, List.getElem_cons_zero, List.setIfInBounds_toArray, List.set_cons_succ, List.set_cons_zero]
            refine wpAnyH_done (by kernel_rfl) ?_ _
            refine NoPanic.normal ?_
            go_wp2_with (fail)
            go_ret
            exact ⟨rfl, hw⟩

end Go.Proofs.YtjofbnilhkmpeaaDoor
