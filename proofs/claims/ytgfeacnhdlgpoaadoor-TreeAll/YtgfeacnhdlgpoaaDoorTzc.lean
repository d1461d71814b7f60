import Derived.Test.YtgfeacnhdlgpoaaDoorProg
import Derived.WalkKit
import Derived.WalkSpells
import Derived.WalkLawsBesides
import Derived.Lib.QuietBelow
import Derived.BigQuiet
import Derived.OrdersHeld
import Derived.OwnWalk
import Derived.Deep.RegionHeld3
import Derived.Deep.Cut
import Derived.Deep.CutRange
import Derived.Test.YtgfeacnhdlgpoaaDoorTzb
namespace Go.Proofs.YtgfeacnhdlgpoaaDoor
set_option maxRecDepth 100000
open Go Go.RowKit Go.Sort
attribute [local go_sem] setCell_drewN alloc_drewN
theorem as_size (kd m n : Int) (k : List Int) (hk : k.length = 32) : (askrow kd m n k).size = 35 := by simp [askrow, hk]
theorem as_one (kd m n : Int) (k : List Int) : (askrow kd m n k).all (·.oneCell') = true := by
  rw [Array.all_eq_true_iff_forall_mem]
  intro x hx
  simp only [askrow, List.mem_toArray, List.mem_cons, List.mem_map] at hx
  rcases hx with rfl | rfl | rfl | ⟨z, _, rfl⟩ <;> rfl
theorem infoAs (kd m n : Int) (k : List Int) (hk : k.length = 32) : (Tryd.prog.info? 45).map (·.size) = some (askrow kd m n k).size := by
  rw [as_size _ _ _ _ hk]
  kernel_rfl
theorem zA (W : World) : (Instr.alloc 45 true (.tuple #[])).run Tryd.prog W = .ok (.pointer (some ⟨W.heap.size, 0, none⟩)) (W.alloc (.cells (askrow 0 0 0 (zr 32)) 45)) := by kernel_rfl
/-- Asks that are handed in. -/
def Asks (W : World) (v : Value) (N : Nat) : Prop := ∃ ao cap, v = .slice ao N cap ∧ N ≤ 4398046511000 ∧ ∀ i, i < N → ∃ g off cs t fr kd m n lf, ao = some ⟨g, off, none⟩ ∧ W.heap[g]? = some (.cells cs t fr) ∧ Ky lf ∧ cs.extract (off + i * 35) (off + i * 35 + (askrow kd m n lf).size) = askrow kd m n lf
theorem Asks.keep {W W' : World} {v : Value} {N : Nat} (h : Asks W v N) (hb : Below W.heap.size W W') : Asks W' v N := by
  obtain ⟨ao, cap, h1, h2, h3⟩ := h
  refine ⟨ao, cap, h1, h2, fun i hi => ?_⟩
  obtain ⟨g, off, cs, t, fr, kd, m, n, lf, q1, q2, q3⟩ := h3 i hi
  exact ⟨g, off, cs, t, fr, kd, m, n, lf, q1, Go.Proofs.YtgfeacnhdlgpoaaDoor.keep hb q2, q3⟩
theorem LogS.down {W : World} {b c g : Nat} {v : Value} {l : List (List Int)} (h : LogS W b g v l) (hc : c ≤ b) : LogS W c g v l := ⟨h.1, h.2.1.down hc, by have := h.2.2.1; omega, h.2.2.2⟩
theorem LogS.setg {W : World} {c g x : Nat} {v : Value} {l : List (List Int)} (h : LogS W c g v l) (hx : x < c) (z : Array Value) : LogS (W.setRow x z) c g v l := ⟨(setRow_other _ _ _ _ (by have := h.2.2.1; omega)).trans h.1, h.2.1.setg hx z, h.2.2⟩
/-- The log, and the list beside it, which lies elsewhere. -/
def St (W : World) (b g : Nat) (v s : Value) (l : List (List Int)) : Prop := LogS W b g v l ∧ OwnK W b s l ∧ ∀ j, s.ownBlock = some j → j ≠ g ∧ v.ownBlock ≠ some j
theorem St.keep {W W' : World} {b g : Nat} {v s : Value} {l : List (List Int)} (h : St W b g v s l) (hb : Below W.heap.size W W') : St W' b g v s l := ⟨h.1.keep hb, h.2.1.keep hb, h.2.2⟩
theorem St.of {W W' : World} {b g : Nat} {v s : Value} {l : List (List Int)} (h : LogS W b g v l) (hb : Below W.heap.size W W') (hs : OwnK W' W.heap.size s l) (hw : b ≤ W.heap.size) : St W' b g v s l :=
  ⟨h.keep hb, hs.down hw, fun j e => by
    have h1 := hs.lt j e
    have h2 := lt_of_row h.1
    exact ⟨by omega, fun e2 => by have := h.2.1.lt j e2; omega⟩⟩
theorem St.ap {W W' : World} {b g : Nat} {v v' s : Value} {l : List (List Int)} (h : St W b g v s l) (hf : ApF W W' b g v) (hx : Nx W v v') : OwnK W' b s l ∧ ∀ j, s.ownBlock = some j → j ≠ g ∧ v'.ownBlock ≠ some j :=
  ⟨h.2.1.move fun j _ e hj => (hf.2 j (lt_of_row hj) (h.2.2 j e).1 (h.2.2 j e).2).trans hj, fun j e => ⟨(h.2.2 j e).1, hx.ne (h.2.1.lt j e).2 (h.2.2 j e).2⟩⟩
theorem St.push {W W' : World} {o : Obj} {b g : Nat} {v s s' : Value} {l p : List (List Int)} (hG : LogS W b g v l) (_hs : OwnK W b s p) (sep : ∀ j, s.ownBlock = some j → j ≠ g ∧ v.ownBlock ≠ some j) (h1 : OwnK W' b s' l) (h2 : (W.alloc o).grownBy W' s.ownBlock) (h3 : Nx (W.alloc o) s s') : St W' b g v s' l := by
  have hg := lt_of_row hG.1
  have old : ∀ j, j < W.heap.size → s.ownBlock ≠ some j → W'.heap[j]? = W.heap[j]? := fun j hj hn => (h2.block j (by simp; omega) (fun e => hn e.symm)).trans (((Below.refl W.heap.size W).alloc (Nat.le_refl _) o).block j hj)
  refine ⟨⟨(old g hg (fun e => (sep g e).1 rfl)).trans hG.1, hG.2.1.move fun j o e hj => (old j (lt_of_row hj) (fun e2 => (sep j e2).2 e)).trans hj, hG.2.2⟩, h1, fun j e => ?_⟩
  rcases h3.unalloc with q | ⟨k, q, hk⟩
  · exact sep j (by rw [← q]; exact e)
  · rw [q] at e
    have e' : k = j := Option.some.inj e
    exact ⟨by omega, fun e2 => by have := (hG.2.1.lt j e2).2; omega⟩
set_option maxRecDepth 100000 in
set_option maxHeartbeats 8000000 in
theorem all_big (l : List (List Int)) (N : Nat) (w : World) (vo : Option Addr) (vc : Nat) (u : Value) (hL : Ksl w (.slice vo l.length vc) l) (_hA : Asks w u N) (hb4 : l.length ≤ 4398046510990) (hbig : 65536 < l.length) : Calls Tryd.prog 5 #[.slice vo l.length vc, u] w fun e w' => e = .returned (.bool true) ∧ Below w.heap.size w w' := by
  have db : decide ((l.length : Int) > 65536) = true := by simp; omega
  have dbn : decide (65536 < l.length) = true := by simp; omega
  obtain ⟨uo, uc, rfl, _, _⟩ := id _hA
  have hw : Below w.heap.size w w := Below.refl _ _
  go_enter Tryd.func5, Tryd.ntmps5
  go_wp2_with (fail)
  refine (l_loan l _ _ (hL.keep hw) hb4).mono ?_
  rintro e_ w1 ⟨ao, cap, rfl, hO, hb⟩
  replace hw := Below.after hw hb
  clear hb
  have hc := hO.ksl (hL.ok.app mks_ok) (by simp [mks]; omega)
  replace hc := hc.head (k := l.length) (by simp)
  rw [List.take_left] at hc
  go_wp2_with (fail)
  refine (a_From_no l _ _ hc hbig).mono ?_
  rintro e_ w2 ⟨rfl, hb⟩
  replace hw := Below.after hw hb
  clear hb
  clear hO hc
  go_wp2_with (fail)
  refine (a_New _).mono ?_
  rintro e_ w3 ⟨rfl, hG0, hb⟩
  replace hw := Below.after hw hb
  clear hb
  go_wp2_with (first | fail)
  refine (a_Len _ _ _ _ _ hG0).mono ?_
  rintro e_ w4 ⟨rfl, hb⟩
  replace hG0 := hG0.keep hb
  replace hw := Below.after hw hb
  clear hb
  go_wp2_with (first | fail)
  go_ret
  exact ⟨rfl, hw⟩
set_option maxRecDepth 100000 in
set_option maxHeartbeats 8000000 in
theorem all_go (l : List (List Int)) (N : Nat) (w : World) (vo : Option Addr) (vc : Nat) (u : Value) (hL : Ksl w (.slice vo l.length vc) l) (hA : Asks w u N) (hb4 : l.length ≤ 4398046510990) (hle : l.length ≤ 65536) (hS : Sta w) (hK : Kon w) : Calls Tryd.prog 5 #[.slice vo l.length vc, u] w fun e w' => e = .returned (.bool true) ∧ Below w.heap.size w w' := by
  have db : decide ((l.length : Int) > 65536) = false := by simp; omega
  have dbn : decide (65536 < l.length) = false := by simp; omega
  have hw : Below w.heap.size w w := Below.refl _ _
  go_enter Tryd.func5, Tryd.ntmps5
  go_wp2_with (fail)
  refine (l_loan l _ _ (hL.keep hw) hb4).mono ?_
  rintro e_ w1 ⟨ao, cap, rfl, hO, hb⟩
  replace hw := Below.after hw hb
  clear hb
  have hc := hO.ksl (hL.ok.app mks_ok) (by simp [mks]; omega)
  replace hc := hc.head (k := l.length) (by simp)
  rw [List.take_left] at hc
  go_wp2_with (fail)
  have hcx : ∃ c, c = w1.heap.size := ⟨_, rfl⟩
  obtain ⟨c, hc_⟩ := hcx
  have hnc : w.heap.size ≤ c := by have := hw.size; omega
  have hWr : Wrb w1 w.heap.size c ao l.length := Wrb.of hO (by simp) (by omega)
  refine (a_From l _ _ hc hle).mono ?_
  rintro e_ w2 ⟨_, g, rfl, lv, rfl, hG, hb⟩
  clear hc
  rw [← hc_] at hG
  replace hO := hO.keep hb
  replace hWr := hWr.keep hb
  replace hw := Below.after hw hb
  clear hb
  go_wp2_with (fail)
  refine (a_New _).mono ?_
  rintro e_ w3 ⟨rfl, hG0, hb⟩
  replace hO := hO.keep hb
  replace hWr := hWr.keep hb
  replace hG := hG.keep hb
  replace hw := Below.after hw hb
  clear hb
  go_wp2_with (first | fail)
  refine (a_Len _ _ _ _ _ hG0).mono ?_
  rintro e_ w4 ⟨rfl, hb⟩
  replace hO := hO.keep hb
  replace hWr := hWr.keep hb
  replace hG := hG.keep hb
  replace hG0 := hG0.keep hb
  replace hw := Below.after hw hb
  clear hb
  clear hG0
  go_wp2_with (first | fail)
  refine (l_whole l _ _ _ _ _ hO (hL.keep hw) hb4).mono ?_
  rintro e_ w5 ⟨rfl, hb⟩
  replace hO := hO.keep hb
  replace hWr := hWr.keep hb
  replace hG := hG.keep hb
  replace hw := Below.after hw hb
  clear hb
  clear hO
  go_wp2_with (first | fail)
  go_loopw [10] (fun i wr => ∃ k : Nat, k ≤ l.length ∧ i = .int .i64 k ∧ Wrb wr w.heap.size c ao l.length ∧ LogS wr c g lv l ∧ Below w.heap.size w wr) (fun i _ => l.length - (intOf i).toNat)
  case atStart => exact ⟨0, by omega, rfl, hWr, hG, hw⟩
  case round =>
    obtain ⟨k, hk, rfl, hWr, hG, hw⟩ := hrel
    by_cases hlt : k < l.length
    · have hd : decide ((k : Int) < (l.length : Int)) = true := by simp; omega
      have jm : (k : Int) < (l.length : Int) := by omega
      rcases hWr with hWr | ⟨gx, cur, rfl, rx, sz, l1, l2⟩
      · omega
      go_wp2_with (first | (refine wpList_build_as rfl 24 _ rfl [(0, .int .u8 7)] rfl _ mk7 ?_) | (refine wpList_store_part rfl 24 _ _ rfl gx (k * 32) (irow .u8 (7 :: zr 31)) rfl rfl 24 cur _ rx (by rw [irow_size, mkz]; omega) rfl (infok8 _ (mkz _)) (irow_one8 _) ?_) | (refine wpList_store_part rfl 24 _ _ rfl gx (0 + k * 32) (irow .u8 (7 :: zr 31)) rfl rfl 24 cur _ rx (by rw [irow_size, mkz]; omega) rfl (infok8 _ (mkz _)) (irow_one8 _) ?_) | fail)
      refine ⟨⟨k + 1, by omega, by go_num, Wrb.set rx sz l1 l2 _ _, hG.setg l2 _, below_setRow hw (by omega) _⟩, ?_⟩
      simp [intOf]; omega
    · obtain rfl : k = l.length := by omega
      have hd : decide (((l.length : Nat) : Int) < (l.length : Int)) = false := by simp
      clear hWr
      have hO : OwnK (wr.alloc (.cells #[] 24)) wr.heap.size (.slice (some ⟨wr.heap.size, 0, none⟩) 0 0) [] := OwnK.empty wr (Nat.le_refl _)
      have hs1 := hw.size
      have hb1 : Below wr.heap.size wr (wr.alloc (.cells #[] 24)) := (Below.refl _ _).alloc (Nat.le_refl _) _
      go_wp2_with (at_builtin; refine wpList_append_Ks rfl (.tmp 65) (.tmp 66) rfl wr.heap.size _ [] rfl hO _ l rfl (hL.keep (Below.after hw hb1)) (by simp only [List.length_nil]; omega) hb1.size ?_)
      intro vc_ wc_ hC hgr _
      have hb : Below wr.heap.size wr wc_ := hb1.grown hgr hb1.size (fun k e => (hO.lt k e).1)
      clear hO hgr hb1
      replace hC : OwnK wc_ wr.heap.size vc_ l := hC
      have hSt := St.of (hG.down hnc) hb hC hs1
      clear hC hG
      replace hw := Below.after hw hb
      clear hb
      clear hs1 hd
      generalize hls : l = ls at hSt
      clear hls
      generalize vc_ = sv at *
      have hNN := hA
      obtain ⟨uo, uc, rfl, hN, _⟩ := hNN
      generalize wc_ = wS at *
      go_wp2_with (fail)
      go_loopw [11, 12] (fun s i wr => ∃ (k : Nat) (lv : Value) (ls : List (List Int)), k ≤ N ∧ i = .int .i64 k ∧ St wr w.heap.size g lv s ls ∧ Below w.heap.size w wr) (fun _ i _ => N - (intOf i).toNat)
      case atStart => exact ⟨0, lv, ls, by omega, rfl, hSt, hw⟩
      case round =>
        clear hSt hw
        obtain ⟨k, lv, ls, hk, rfl, hSt, hw⟩ := hrel
        by_cases hlt : k < N
        · skip
          have hd : decide ((k : Int) < (N : Int)) = true := by simp; omega
          have jm : (k : Int) < (N : Int) := by omega
          obtain ⟨_, _, e, _, hp⟩ := hA.keep hw
          injection e with e1 e2 e3
          subst e1 e3
          clear e2
          obtain ⟨ga, off, cs, t, fr, kd, m, n, lf, rfl, ra, hlf, hx⟩ := hp k hlt
          clear hp
          have hgl := lt_of_row hSt.1.1
          have hvl := hSt.1.2.1.lt
          have hsl := hSt.2.1.lt
          have hll := hSt.1.le
          have hLok := hSt.1.2.2.2.2.1
          go_wp2_with (first | (refine wpList_store_row rfl 45 _ _ rfl (wr.heap.size) (askrow kd m n lf) rfl rfl 45 (askrow 0 0 0 (zr 32)) (hp1_0 wr _) (infoAs _ _ _ _ hlf.1) ((as_size _ _ _ _ (zr_len 32)).trans (as_size _ _ _ _ hlf.1).symm) (as_one _ _ _ _) ?_; rw [setRow_alloc_new _ _ _ _ _ _ (by simp)]; refine wpList_stay ?_) | (refine wpList_load_part rfl 45 _ rfl ga (off + k * 35) rfl t cs fr (askrow kd m n lf) _ ra hx Tryd.underlying45 rfl (infoAs _ _ _ _ hlf.1) ?_) | (refine wpList_alloc rfl 45 rfl (askrow 0 0 0 (zr 32)) zA ?_) | fail)
          unfold WpStay
          try simp only [Act.put]
          have rl13 : (wr.alloc (.cells (askrow kd m n lf) 45)).heap[wr.heap.size]? = some (.cells (askrow kd m n lf) 45 (0, 0)) := hp1_0 wr _
          have hb : Below wr.heap.size wr (wr.alloc (.cells (askrow kd m n lf) 45)) := ((Below.refl _ _).alloc (Nat.le_refl _) _)
          generalize (wr.alloc (.cells (askrow kd m n lf) 45)) = w6 at *
          have sz_ga_ := hw.size
          replace hSt := hSt.keep hb
          replace ra := keep hb ra
          replace hw := Below.after hw hb
          clear hb
          generalize wr.heap.size = ga_ at *
          clear wr
          clear ra
          have k0 : w6.cell? ⟨ga_, 0, none⟩ = some (.int .i64 kd) := cell_of rl13 (ask_0 _ _ _ _)
          by_cases hk0 : kd = 0
          · skip
            subst hk0
            by_cases hfull : 65536 ≤ ls.length
            · skip
              have db : decide ((ls.length : Int) ≥ 65536) = true := by simp; omega
              have dbn : decide (65536 ≤ ls.length) = true := by simp; omega
              obtain ⟨so, sc, es, _, _⟩ := hSt.2.1.slc
              subst es
              go_wp2_with (first | (refine wpList_load_part rfl 45 _ rfl (ga_) 0 rfl 45 (askrow 0 m n lf) (0, 0) (askrow 0 m n lf) _ rl13 (all_rowe _) Tryd.underlying45 rfl (infoAs _ _ _ _ hlf.1) ?_) | (refine wpList_load_part rfl 24 _ rfl ga_ 3 rfl 45 (askrow 0 m n lf) (0, 0) (irow .u8 lf) _ rl13 (ask_k _ _ _ _ hlf.1) Tryd.underlying24 rfl (infok8 _ hlf.1) ?_) | fail)
              refine (a_Append_no ls lf hlf _ _ g _ hSt.1 hfull).mono ?_
              rintro e_ w7 ⟨rfl, hb⟩
              replace rl13 := keep hb rl13
              replace hSt := hSt.keep hb
              replace hw := Below.after hw hb
              clear hb
              go_wp2_with (first | (refine wpList_load_part rfl 45 _ rfl (ga_) 0 rfl 45 (askrow 0 m n lf) (0, 0) (askrow 0 m n lf) _ rl13 (all_rowe _) Tryd.underlying45 rfl (infoAs _ _ _ _ hlf.1) ?_) | (refine wpList_load_part rfl 24 _ rfl ga_ 3 rfl 45 (askrow 0 m n lf) (0, 0) (irow .u8 lf) _ rl13 (ask_k _ _ _ _ hlf.1) Tryd.underlying24 rfl (infok8 _ hlf.1) ?_) | fail)
              refine ⟨⟨k + 1, _, _, by omega, by go_num, hSt, hw⟩, ?_⟩
              simp [intOf]; omega
            · skip
              have db : decide ((ls.length : Int) ≥ 65536) = false := by simp; omega
              have dbn : decide (65536 ≤ ls.length) = false := by simp; omega
              obtain ⟨so, sc, es, _, _⟩ := hSt.2.1.slc
              subst es
              go_wp2_with (first | (refine wpList_load_part rfl 45 _ rfl (ga_) 0 rfl 45 (askrow 0 m n lf) (0, 0) (askrow 0 m n lf) _ rl13 (all_rowe _) Tryd.underlying45 rfl (infoAs _ _ _ _ hlf.1) ?_) | (refine wpList_load_part rfl 24 _ rfl ga_ 3 rfl 45 (askrow 0 m n lf) (0, 0) (irow .u8 lf) _ rl13 (ask_k _ _ _ _ hlf.1) Tryd.underlying24 rfl (infok8 _ hlf.1) ?_) | fail)
              refine (a_Append ls lf hlf _ _ g _ hSt.1 (by omega)).mono ?_
              rintro e_ w7 ⟨rfl, lv', hG', hNx, hAp⟩
              obtain ⟨hs, sep⟩ := hSt.ap hAp hNx
              clear hSt k0
              have lr := lt_of_row rl13
              replace rl13 := (hAp.2 _ lr (by omega) (fun e => by have := (hvl _ e).2; omega)).trans rl13
              replace hw := hw.trans hAp.1
              clear hAp hNx
              have rg := hp1_0 w7 (.cells (irow .u8 lf) 24)
              have hb1 : Below w7.heap.size w7 (w7.alloc (.cells (irow .u8 lf) 24)) := (Below.refl _ _).alloc (Nat.le_refl _) _
              have hw7 := Below.after hw hb1
              have hsA := hs.keep hb1
              have k0 : w7.cell? ⟨ga_, 0, none⟩ = some (.int .i64 0) := cell_of rl13 (ask_0 _ _ _ _)
              go_wp2_with (first | (refine wpList_load_part rfl 24 _ rfl ga_ 3 rfl 45 (askrow 0 m n lf) (0, 0) (irow .u8 lf) _ rl13 (ask_k _ _ _ _ hlf.1) Tryd.underlying24 rfl (infok8 _ hlf.1) ?_) | (refine wpList_bslK rfl _ rfl lf hlf.1 rfl ?_) | (at_builtin; refine wpList_append_K rfl (.tmp 105) (.tmp 108) rfl w.heap.size _ ls rfl hsA w7.heap.size lf hlf.1 rfl rg (by omega) hw7.size ?_))
              intro v8 w8 hO8 hgr hNx
              have hSt := St.push hG' hs sep hO8 hgr hNx
              have lr8 := lt_of_row rl13
              replace rl13 := (hgr.block _ (by simp; omega) (fun e => by have := (hsl _ e.symm).2; omega)).trans (keep hb1 rl13)
              replace hw := hw7.grown hgr hw7.size (fun k e => (hs.lt k e).1)
              clear hG' hs sep hO8 hgr hNx hsA hw7 hb1 rg k0 db dbn hfull hll hLok
              generalize ls ++ [lf] = l2 at hSt
              obtain ⟨so', sc', es, _, _⟩ := hSt.2.1.slc
              subst es
              have k0 : w8.cell? ⟨ga_, 0, none⟩ = some (.int .i64 0) := cell_of rl13 (ask_0 _ _ _ _)
              go_wp2_with (first | (refine wpList_load_part rfl 45 _ rfl (ga_) 0 rfl 45 (askrow 0 m n lf) (0, 0) (askrow 0 m n lf) _ rl13 (all_rowe _) Tryd.underlying45 rfl (infoAs _ _ _ _ hlf.1) ?_) | (refine wpList_load_part rfl 24 _ rfl ga_ 3 rfl 45 (askrow 0 m n lf) (0, 0) (irow .u8 lf) _ rl13 (ask_k _ _ _ _ hlf.1) Tryd.underlying24 rfl (infok8 _ hlf.1) ?_) | fail)
              have hLk := hSt.2.1.ksl hSt.1.2.2.2.2.1 (by have := hSt.1.le; omega)
              have hS_ := hS.below hw
              have hK_ := hK.below hw
              refine (asked_any l2 0 m n lf _ _ g _ _ _ hS_ hK_ hSt.1 hLk).mono ?_
              rintro e_ w8 ⟨rfl, hb⟩
              replace rl13 := keep hb rl13
              replace hSt := hSt.keep hb
              replace hw := Below.after hw hb
              clear hb
              clear hLk hS_ hK_
              go_wp2_with (first | (refine wpList_load_part rfl 45 _ rfl (ga_) 0 rfl 45 (askrow 0 m n lf) (0, 0) (askrow 0 m n lf) _ rl13 (all_rowe _) Tryd.underlying45 rfl (infoAs _ _ _ _ hlf.1) ?_) | (refine wpList_load_part rfl 24 _ rfl ga_ 3 rfl 45 (askrow 0 m n lf) (0, 0) (irow .u8 lf) _ rl13 (ask_k _ _ _ _ hlf.1) Tryd.underlying24 rfl (infok8 _ hlf.1) ?_) | fail)
              refine (a_Len l2 _ _ _ _ hSt.1).mono ?_
              rintro e_ w9 ⟨rfl, hb⟩
              replace rl13 := keep hb rl13
              replace hSt := hSt.keep hb
              replace hw := Below.after hw hb
              clear hb
              go_wp2_with (first | (refine wpList_load_part rfl 45 _ rfl (ga_) 0 rfl 45 (askrow 0 m n lf) (0, 0) (askrow 0 m n lf) _ rl13 (all_rowe _) Tryd.underlying45 rfl (infoAs _ _ _ _ hlf.1) ?_) | (refine wpList_load_part rfl 24 _ rfl ga_ 3 rfl 45 (askrow 0 m n lf) (0, 0) (irow .u8 lf) _ rl13 (ask_k _ _ _ _ hlf.1) Tryd.underlying24 rfl (infok8 _ hlf.1) ?_) | fail)
              refine ⟨⟨k + 1, _, _, by omega, by go_num, hSt, hw⟩, ?_⟩
              simp [intOf]; omega
          · skip
            have z0 : (kd == 0) = false := by simp [hk0]
            obtain ⟨so, sc, es, _, _⟩ := hSt.2.1.slc
            subst es
            go_wp2_with (first | (refine wpList_load_part rfl 45 _ rfl (ga_) 0 rfl 45 (askrow kd m n lf) (0, 0) (askrow kd m n lf) _ rl13 (all_rowe _) Tryd.underlying45 rfl (infoAs _ _ _ _ hlf.1) ?_) | (refine wpList_load_part rfl 24 _ rfl ga_ 3 rfl 45 (askrow kd m n lf) (0, 0) (irow .u8 lf) _ rl13 (ask_k _ _ _ _ hlf.1) Tryd.underlying24 rfl (infok8 _ hlf.1) ?_) | fail)
            have hLk := hSt.2.1.ksl hSt.1.2.2.2.2.1 (by have := hSt.1.le; omega)
            have hS_ := hS.below hw
            have hK_ := hK.below hw
            refine (asked_any ls kd m n lf _ _ g _ _ _ hS_ hK_ hSt.1 hLk).mono ?_
            rintro e_ w8 ⟨rfl, hb⟩
            replace rl13 := keep hb rl13
            replace hSt := hSt.keep hb
            replace hw := Below.after hw hb
            clear hb
            clear hLk hS_ hK_
            go_wp2_with (first | (refine wpList_load_part rfl 45 _ rfl (ga_) 0 rfl 45 (askrow kd m n lf) (0, 0) (askrow kd m n lf) _ rl13 (all_rowe _) Tryd.underlying45 rfl (infoAs _ _ _ _ hlf.1) ?_) | (refine wpList_load_part rfl 24 _ rfl ga_ 3 rfl 45 (askrow kd m n lf) (0, 0) (irow .u8 lf) _ rl13 (ask_k _ _ _ _ hlf.1) Tryd.underlying24 rfl (infok8 _ hlf.1) ?_) | fail)
            refine (a_Len ls _ _ _ _ hSt.1).mono ?_
            rintro e_ w9 ⟨rfl, hb⟩
            replace rl13 := keep hb rl13
            replace hSt := hSt.keep hb
            replace hw := Below.after hw hb
            clear hb
            go_wp2_with (first | (refine wpList_load_part rfl 45 _ rfl (ga_) 0 rfl 45 (askrow kd m n lf) (0, 0) (askrow kd m n lf) _ rl13 (all_rowe _) Tryd.underlying45 rfl (infoAs _ _ _ _ hlf.1) ?_) | (refine wpList_load_part rfl 24 _ rfl ga_ 3 rfl 45 (askrow kd m n lf) (0, 0) (irow .u8 lf) _ rl13 (ask_k _ _ _ _ hlf.1) Tryd.underlying24 rfl (infok8 _ hlf.1) ?_) | fail)
            refine ⟨⟨k + 1, _, _, by omega, by go_num, hSt, hw⟩, ?_⟩
            simp [intOf]; omega
        · obtain rfl : k = N := by omega
          have hd : decide ((k : Int) < (k : Int)) = false := by simp
          obtain ⟨so, sc, es, _, _⟩ := hSt.2.1.slc
          subst es
          go_wp2_with (fail)
          refine (a_Leaves ls _ _ g _ hSt.1).mono ?_
          rintro e_ wy ⟨yv, rfl, hy, hb⟩
          replace hSt := hSt.keep hb
          replace hw := Below.after hw hb
          clear hb
          obtain ⟨yo, yc, ey, _, _⟩ := hy.slc
          subst ey
          have hlk := hSt.1.2.2.2.2.1
          have hll := hSt.1.le
          go_wp2_with (fail)
          refine (l_keys _ _ _ _ (hy.ksl hlk (by omega)) (hSt.2.1.ksl hlk (by omega))).mono ?_
          rintro e_ x3 ⟨rfl, hb⟩
          replace hSt := hSt.keep hb
          replace hy := hy.keep hb
          replace hw := Below.after hw hb
          clear hb
          go_wp2_with (fail)
          go_ret
          exact ⟨rfl, hw⟩
theorem all_any (l : List (List Int)) (N : Nat) (w : World) (v u : Value) (hS : Sta w) (hK : Kon w) (hL : Ksl w v l) (hA : Asks w u N) (hb4 : l.length ≤ 4398046510990) : Calls Tryd.prog 5 #[v, u] w fun e w' => e = .returned (.bool true) ∧ Below w.heap.size w w' := by
  obtain ⟨vo, vc, rfl, _, _⟩ := hL.slc
  by_cases hbig : 65536 < l.length
  · exact all_big l N w vo vc u hL hA hb4 hbig
  · exact all_go l N w vo vc u hL hA hb4 (by omega) hS hK
end Go.Proofs.YtgfeacnhdlgpoaaDoor
