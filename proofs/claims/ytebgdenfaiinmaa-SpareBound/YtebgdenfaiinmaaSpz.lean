import Derived.Test.YtebgdenfaiinmaaProg
import Derived.WalkKit
import Derived.WalkSpells
import Derived.WalkLawsBesides
import Derived.Lib.QuietBelow
import Derived.BigQuiet
import Derived.OrdersHeld
import Derived.Deep.RegionHeld3
import Derived.OwnWalk
import Derived.Test.YtebgdenfaiinmaaKit
import Derived.Test.YtebgdenfaiinmaaSpy
namespace Go.Proofs.Ytebgdenfaiinmaa
open Go Go.RowKit Go.Sort Go.ChangeMaps Go.MapKept
attribute [local go_sem] setCell_drewN alloc_drewN

theorem SpL.head {W : World} {ao : Option Addr} {n cap : Nat} {l : List Sr} (h : SpL W (.slice ao n cap) l) (k : Nat) (hk : k ≤ l.length) : SpL W (.slice ao k cap) (l.take k) := by
  obtain ⟨ao', cap', e, h1, h2, h3, h4, h5⟩ := h
  cases e
  refine ⟨ao, cap, by rw [List.length_take, Nat.min_eq_left hk], by rw [List.length_take]; omega, by rw [List.length_take]; omega, h3, h4.take k, fun i hi => ?_⟩
  rw [List.length_take] at hi
  obtain ⟨b, off, e, hb, hr⟩ := h5 i (by omega)
  refine ⟨b, off, e, hb, ?_⟩
  have : gs (l.take k) i = gs l i := by
    rw [gs, gs, List.getD_eq_getElem?_getD, List.getD_eq_getElem?_getD, List.getElem?_take_of_lt (by omega)]
  rw [this]
  exact hr
theorem SpL.cap {W : World} {ao : Option Addr} {n cap : Nat} {l : List Sr} (h : SpL W (.slice ao n cap) l) : l.length ≤ cap := by
  obtain ⟨ao', cap', e, _, hc, _⟩ := h
  cases e
  exact hc
theorem plz_ge (o : Option Nat) : decide (plz o ≥ 0) = o.isSome := by
  cases o with
  | none => rfl
  | some i => simp [plz]
def RPut (base g : Nat) (most : Int) (l q : List Sr) (w : World) (e : Ending) (w' : World) : Prop := (mts l q = true ∧ e = .returned (.int .i64 121) ∧ Below w.heap.size w w') ∨ (mts l q = false ∧ most - l.length < q.length ∧ e = .returned (.int .i64 120) ∧ Below w.heap.size w w') ∨ (mts l q = false ∧ ¬ most - l.length < q.length ∧ ∃ v', e = .returned (.int .i64 0) ∧ Rst w' (min base w.heap.size) g v' most (l ++ q) ∧ Fr (fun k => k = g) w w')
set_option maxRecDepth 100000 in
set_option maxHeartbeats 4000000 in
theorem r_Put_all (base g : Nat) (v : Value) (most : Int) (l : List Sr) (q : List Sr) (u : Value) (w : World) (hR : Rst w base g v most l) (hq : SpL w u q) : Calls Try.prog 30 #[.pointer (some ⟨g, 0, none⟩), u] w fun e w' => RPut base g most l q w e w' := by
  have hqo := hq.ok
  have hql := hq.len
  have hm0 := hR.most0
  have hln := hR.len
  have lg := lt_of_row hR.row
  have hbg := hR.bg
  have nd0 := hR.nod
  obtain ⟨ao, cap, rfl⟩ := hq.form
  go_enter Try.func30, Try.ntmps30
  go_wp2_with (fail)
  go_loopw [5] (fun i wr => ∃ k : Nat, k ≤ q.length ∧ i = .int .i64 k ∧ Hid (((l ++ q.take k).map Sr.lb).Nodup) ∧ Below w.heap.size w wr) (fun i _ => q.length - (intOf i).toNat)
  case atStart => exact ⟨0, by omega, rfl, hide (by simpa using nd0), Below.refl _ _⟩
  case round =>
    clear nd0
    obtain ⟨k, hk, rfl, hnd, hw⟩ := hrel
    by_cases hlt : k < q.length
    · have hd : decide ((k : Int) < (q.length : Int)) = true := by simp; omega
      obtain ⟨b1, o1, rfl, hb1, r1⟩ := hq.at hlt
      have hko := hqo.at hlt
      have hk1 : 0 ≤ (k : Int) ∧ (k : Int) < (q.length : Int) := by omega
      have hk2 : 0 ≤ (k : Int) ∧ (k : Int) ≤ (cap : Int) := by have := hq.cap; omega
      replace hR := hR.keep hw
      replace hq := hq.keep hw
      replace r1 := rangeAt_keep r1 (hw.block b1 hb1)
      have hb9 : b1 < wr.heap.size := Nat.lt_of_lt_of_le hb1 hw.size
      go_wp2_with (fail)
      have hbd : Below wr.heap.size wr wr.drew := below_drN (Below.refl _ _) 1
      replace r1 := rangeAt_keep r1 (hbd.block b1 hb9)
      replace hb9 := Nat.lt_of_lt_of_le hb9 hbd.size
      replace hR := hR.keep hbd
      replace hq := hq.keep hbd
      have c1 := hR.c1
      replace hw := Below.after hw hbd
      clear hbd
      have hA1 := plz_ge (plc (gs q k).lb (l.map Sr.lb))
      have hA2 := plz_ge (plc (gs q k).lb ((q.take k).map Sr.lb))
      have cP1 := fun W (h : Rst W base g v most l) => r_place l (gs q k).h hko.1 (gs q k).n W v h.spl
      have cP2 := fun W (h : SpL W (.slice (some ⟨b1, o1, none⟩) q.length cap) q) => r_place (q.take k) (gs q k).h hko.1 (gs q k).n W _ (h.head k (by omega))
      change ∀ W, _ → Calls _ _ _ _ fun e w' => e = .returned (.int .i64 (plz (plc (gs q k).lb (l.map Sr.lb)))) ∧ _ at cP1
      change ∀ W, _ → Calls _ _ _ _ fun e w' => e = .returned (.int .i64 (plz (plc (gs q k).lb ((q.take k).map Sr.lb)))) ∧ _ at cP2
      have hn1 : (plc (gs q k).lb (l.map Sr.lb)).isSome = false → (plc (gs q k).lb ((q.take k).map Sr.lb)).isSome = false → Hid (((l ++ q.take (k + 1)).map Sr.lb).Nodup) := fun h1 h2 => hide (nod_snoc hlt hnd.out (by rw [fnd, Option.isSome_map]; exact h1) h2)
      have hn2 : (plc (gs q k).lb (l.map Sr.lb)).isSome = true → mts l q = true := fun h => not_nod hlt (.inl (by rw [fnd, Option.isSome_map]; exact h))
      have hn3 : (plc (gs q k).lb ((q.take k).map Sr.lb)).isSome = true → mts l q = true := fun h => not_nod hlt (.inr h)
      clear hnd
      generalize (plc (gs q k).lb (l.map Sr.lb)).isSome = B1 at *
      generalize (plc (gs q k).lb ((q.take k).map Sr.lb)).isSome = B2 at *
      generalize plz (plc (gs q k).lb (l.map Sr.lb)) = A1 at *
      generalize plz (plc (gs q k).lb ((q.take k).map Sr.lb)) = A2 at *
      cases B1
      · cases B2
        · have nd := hn1 rfl rfl
          clear hn1 hn2 hn3
          refine wp_region_noPanic ?_
          refine wp_region_held (S := fun W => W.cell? ⟨g, 1, none⟩ = some v ∧ W.rangeAt b1 (o1 + k * 65) (srl (gs q k))) (by kernel_rfl) ?_
          change wpAnyH _ _ _ _ _ _ _ _ (World.drew _)
          generalize wr.drew = w1 at *
          refine wpAnyH_take (i := 0) (v := ?v80) rfl (by kernel_rfl) (by kernel_rfl) (by kernel_rfl) (fun _ _ _ h => h) (Or.inl ⟨by rfl, ?y80⟩) ⟨c1, r1⟩ ?r80
          case y80 =>
            intro w_ hS_
            go_simp
            try with_reducible rfl
          simp only [Act.put, List.getElem_toArray, List.getElem_cons_zero, List.setIfInBounds_toArray, List.set_cons_succ, List.set_cons_zero]
          refine wpAnyH_take (i := 1) (v := ?v81) rfl (by kernel_rfl) (by kernel_rfl) (by kernel_rfl) (fun _ _ _ h => h) (Or.inl ⟨by rfl, ?y81⟩) ⟨c1, r1⟩ ?r81
          case y81 =>
            intro w_ hS_
            go_simp
            try with_reducible rfl
          simp only [Act.put, List.getElem_toArray, List.getElem_cons_succ, List.getElem_cons_zero, List.setIfInBounds_toArray, List.set_cons_succ, List.set_cons_zero]
          refine wpAnyH_take (i := 2) (v := ?v82) rfl (by kernel_rfl) (by kernel_rfl) (by kernel_rfl) (fun _ _ _ h => h) (Or.inl ⟨by rfl, ?y82⟩) ⟨c1, r1⟩ ?r82
          case y82 =>
            intro w_ hS_
            go_simp
            try with_reducible rfl
          simp only [Act.put, List.getElem_toArray, List.getElem_cons_succ, List.getElem_cons_zero, List.setIfInBounds_toArray, List.set_cons_succ, List.set_cons_zero]
          refine wpAnyH_take (i := 3) (v := v) rfl (by kernel_rfl) (by kernel_rfl) (by kernel_rfl) (fun _ _ _ h => h) (Or.inl ⟨by rfl, ?y83⟩) ⟨c1, r1⟩ ?r83
          case y83 =>
            intro w_ hS_
            have c_ := hS_.1
            go_simp
            try with_reducible rfl
          simp only [Act.put, List.getElem_toArray, List.getElem_cons_succ, List.getElem_cons_zero, List.setIfInBounds_toArray, List.set_cons_succ, List.set_cons_zero]
          refine wpAnyH_take (i := 4) (v := ?v84) rfl (by kernel_rfl) (by kernel_rfl) (by kernel_rfl) (fun _ _ _ h => h) (Or.inl ⟨by rfl, ?y84⟩) ⟨c1, r1⟩ ?r84
          case y84 =>
            intro w_ hS_
            go_simp
            try with_reducible rfl
          simp only [Act.put, List.getElem_toArray, List.getElem_cons_succ, List.getElem_cons_zero, List.setIfInBounds_toArray, List.set_cons_succ, List.set_cons_zero]
          refine wpAnyH_take (i := 5) (v := ?v85) rfl (by kernel_rfl) (by kernel_rfl) (by kernel_rfl) (fun _ _ _ h => h) (Or.inl ⟨by rfl, ?y85⟩) ⟨c1, r1⟩ ?r85
          case y85 =>
            intro w_ hS_
            go_simp
            try with_reducible rfl
          simp only [Act.put, List.getElem_toArray, List.getElem_cons_succ, List.getElem_cons_zero, List.setIfInBounds_toArray, List.set_cons_succ, List.set_cons_zero]
          refine wpAnyH_take (i := 6) (v := ?v86) rfl (by kernel_rfl) (by kernel_rfl) (by kernel_rfl) (fun _ _ _ h => h) (Or.inl ⟨by rfl, ?y86⟩) ⟨c1, r1⟩ ?r86
          case y86 =>
            intro w_ hS_
            go_simp
            try with_reducible rfl
          simp only [Act.put, List.getElem_toArray, List.getElem_cons_succ, List.getElem_cons_zero, List.setIfInBounds_toArray, List.set_cons_succ, List.set_cons_zero]
          refine wpAnyH_take (i := 7) (v := ?v87) rfl (by kernel_rfl) (by kernel_rfl) (by kernel_rfl) (fun _ _ _ h => h) (Or.inl ⟨by rfl, ?y87⟩) ⟨c1, r1⟩ ?r87
          case y87 =>
            intro w_ hS_
            go_simp
            try with_reducible rfl
          simp only [Act.put, List.getElem_toArray, List.getElem_cons_succ, List.getElem_cons_zero, List.setIfInBounds_toArray, List.set_cons_succ, List.set_cons_zero]
          refine wpAnyH_take (i := 8) (v := .agg (irow .u8 (gs q k).h)) rfl (by kernel_rfl) (by kernel_rfl) (by kernel_rfl) (fun _ _ _ h => h) (Or.inl ⟨by rfl, ?y88⟩) ⟨c1, r1⟩ ?r88
          case y88 =>
            intro w_ hS_
            simp only [List.getElem_toArray, List.getElem_cons_succ, List.getElem_cons_zero]
            exact run_load_range 40 _ (by rfl) b1 (o1 + k * 65) (by rfl) ((gs q k).h.map (Value.int .u8)) _ (range_h hS_.2) Try.underlying40 rfl (infoh _ hko.1)
          simp only [Act.put, List.getElem_toArray, List.getElem_cons_succ, List.getElem_cons_zero, List.setIfInBounds_toArray, List.set_cons_succ, List.set_cons_zero]
          refine wpAnyH_take (i := 9) (v := ?v89) rfl (by kernel_rfl) (by kernel_rfl) (by kernel_rfl) (fun _ _ _ h => h) (Or.inl ⟨by rfl, ?y89⟩) ⟨c1, r1⟩ ?r89
          case y89 =>
            intro w_ hS_
            go_simp
            try with_reducible rfl
          simp only [Act.put, List.getElem_toArray, List.getElem_cons_succ, List.getElem_cons_zero, List.setIfInBounds_toArray, List.set_cons_succ, List.set_cons_zero]
          refine wpAnyH_take (i := 10) (v := ?v90) rfl (by kernel_rfl) (by kernel_rfl) (by kernel_rfl) (fun _ _ _ h => h) (Or.inl ⟨by rfl, ?y90⟩) ⟨c1, r1⟩ ?r90
          case y90 =>
            intro w_ hS_
            go_simp
            try with_reducible rfl
          simp only [Act.put, List.getElem_toArray, List.getElem_cons_succ, List.getElem_cons_zero, List.setIfInBounds_toArray, List.set_cons_succ, List.set_cons_zero]
          refine wpAnyH_take (i := 11) (v := ?v91) rfl (by kernel_rfl) (by kernel_rfl) (by kernel_rfl) (fun _ _ _ h => h) (Or.inl ⟨by rfl, ?y91⟩) ⟨c1, r1⟩ ?r91
          case y91 =>
            intro w_ hS_
            go_simp
            try with_reducible rfl
          simp only [Act.put, List.getElem_toArray, List.getElem_cons_succ, List.getElem_cons_zero, List.setIfInBounds_toArray, List.set_cons_succ, List.set_cons_zero]
          refine wpAnyH_take (i := 12) (v := ?v92) rfl (by kernel_rfl) (by kernel_rfl) (by kernel_rfl) (fun _ _ _ h => h) (Or.inl ⟨by rfl, ?y92⟩) ⟨c1, r1⟩ ?r92
          case y92 =>
            intro w_ hS_
            go_simp
            try with_reducible rfl
          simp only [Act.put, List.getElem_toArray, List.getElem_cons_succ, List.getElem_cons_zero, List.setIfInBounds_toArray, List.set_cons_succ, List.set_cons_zero]
          refine wpAnyH_take (i := 13) (v := .int .u32 (gs q k).n) rfl (by kernel_rfl) (by kernel_rfl) (by kernel_rfl) (fun _ _ _ h => h) (Or.inl ⟨by rfl, ?y93⟩) ⟨c1, r1⟩ ?r93
          case y93 =>
            intro w_ hS_
            have c_ := range_n hko hS_.2
            go_simp
            try with_reducible rfl
          simp only [Act.put, List.getElem_toArray, List.getElem_cons_succ, List.getElem_cons_zero, List.setIfInBounds_toArray, List.set_cons_succ, List.set_cons_zero]
          refine wpAnyH_one (k := 14) (fuel := 18) (by kernel_rfl) rfl (by rfl) (fun K_ hK => ?_)
          refine wp_call_ex (f := 54) (R := fun v_ w_ => v_ = .int .i64 A1 ∧ Below w1.heap.size w1 w_) (by kernel_rfl) ((cP1 w1 hR).mono (fun e_ w_ h_ => ⟨_, h_.1, rfl, h_.2⟩)) (fun v_ w2 hX_ => ?_)
          obtain ⟨rfl, hb_⟩ := hX_
          replace r1 := rangeAt_keep r1 (hb_.block b1 hb9)
          replace hb9 := Nat.lt_of_lt_of_le hb9 hb_.size
          replace hR := hR.keep hb_
          replace hq := hq.keep hb_
          replace c1 := hR.c1
          replace hw := Below.after hw hb_
          clear hb_
          refine hK _ _ ⟨c1, r1⟩ ?_
          simp only [Act.put, List.getElem_toArray, List.getElem_cons_succ, List.getElem_cons_zero, List.setIfInBounds_toArray, List.set_cons_succ, List.set_cons_zero]
          clear hK
          refine wpAnyH_take (i := 15) (v := .bool false) rfl (by kernel_rfl) (by kernel_rfl) (by kernel_rfl) (fun _ _ _ h => h) (Or.inl ⟨by rfl, ?y94⟩) ⟨c1, r1⟩ ?r94
          case y94 =>
            intro w_ hS_
            go_simp
            try simpa using hA1
          simp only [Act.put, List.getElem_toArray, List.getElem_cons_succ, List.getElem_cons_zero, List.setIfInBounds_toArray, List.set_cons_succ, List.set_cons_zero]
          refine wpAnyH_take (i := 16) (v := ?v95) rfl (by kernel_rfl) (by kernel_rfl) (by kernel_rfl) (fun _ _ _ h => h) (Or.inl ⟨by rfl, ?y95⟩) ⟨c1, r1⟩ ?r95
          case y95 =>
            intro w_ hS_
            go_simp
            try with_reducible rfl
          simp only [Act.put, List.getElem_toArray, List.getElem_cons_succ, List.getElem_cons_zero, List.setIfInBounds_toArray, List.set_cons_succ, List.set_cons_zero]
          refine wpAnyH_take (i := 17) (v := ?v96) rfl (by kernel_rfl) (by kernel_rfl) (by kernel_rfl) (fun _ _ _ h => h) (Or.inl ⟨by rfl, ?y96⟩) ⟨c1, r1⟩ ?r96
          case y96 =>
            intro w_ hS_
            go_simp
            try with_reducible rfl
          simp only [Act.put, List.getElem_toArray, List.getElem_cons_succ, List.getElem_cons_zero, List.setIfInBounds_toArray, List.set_cons_succ, List.set_cons_zero]
          refine wpAnyH_take (i := 18) (v := ?v97) rfl (by kernel_rfl) (by kernel_rfl) (by kernel_rfl) (fun _ _ _ h => h) (Or.inl ⟨by rfl, ?y97⟩) ⟨c1, r1⟩ ?r97
          case y97 =>
            intro w_ hS_
            go_simp
            try with_reducible rfl
          simp only [Act.put, List.getElem_toArray, List.getElem_cons_succ, List.getElem_cons_zero, List.setIfInBounds_toArray, List.set_cons_succ, List.set_cons_zero]
          refine wpAnyH_take (i := 19) (v := ?v98) rfl (by kernel_rfl) (by kernel_rfl) (by kernel_rfl) (fun _ _ _ h => h) (Or.inl ⟨by rfl, ?y98⟩) ⟨c1, r1⟩ ?r98
          case y98 =>
            intro w_ hS_
            go_simp
            try with_reducible rfl
          simp only [Act.put, List.getElem_toArray, List.getElem_cons_succ, List.getElem_cons_zero, List.setIfInBounds_toArray, List.set_cons_succ, List.set_cons_zero]
          refine wpAnyH_take (i := 20) (v := ?v99) rfl (by kernel_rfl) (by kernel_rfl) (by kernel_rfl) (fun _ _ _ h => h) (Or.inl ⟨by rfl, ?y99⟩) ⟨c1, r1⟩ ?r99
          case y99 =>
            intro w_ hS_
            go_simp
            try with_reducible rfl
          simp only [Act.put, List.getElem_toArray, List.getElem_cons_succ, List.getElem_cons_zero, List.setIfInBounds_toArray, List.set_cons_succ, List.set_cons_zero]
          refine wpAnyH_take (i := 21) (v := ?v100) rfl (by kernel_rfl) (by kernel_rfl) (by kernel_rfl) (fun _ _ _ h => h) (Or.inl ⟨by rfl, ?y100⟩) ⟨c1, r1⟩ ?r100
          case y100 =>
            intro w_ hS_
            go_simp
            try with_reducible rfl
          simp only [Act.put, List.getElem_toArray, List.getElem_cons_succ, List.getElem_cons_zero, List.setIfInBounds_toArray, List.set_cons_succ, List.set_cons_zero]
          refine wpAnyH_take (i := 22) (v := ?v101) rfl (by kernel_rfl) (by kernel_rfl) (by kernel_rfl) (fun _ _ _ h => h) (Or.inl ⟨by rfl, ?y101⟩) ⟨c1, r1⟩ ?r101
          case y101 =>
            intro w_ hS_
            go_simp
            try with_reducible rfl
          simp only [Act.put, List.getElem_toArray, List.getElem_cons_succ, List.getElem_cons_zero, List.setIfInBounds_toArray, List.set_cons_succ, List.set_cons_zero]
          refine wpAnyH_take (i := 23) (v := ?v102) rfl (by kernel_rfl) (by kernel_rfl) (by kernel_rfl) (fun _ _ _ h => h) (Or.inl ⟨by rfl, ?y102⟩) ⟨c1, r1⟩ ?r102
          case y102 =>
            intro w_ hS_
            go_simp
            try with_reducible rfl
          simp only [Act.put, List.getElem_toArray, List.getElem_cons_succ, List.getElem_cons_zero, List.setIfInBounds_toArray, List.set_cons_succ, List.set_cons_zero]
          refine wpAnyH_take (i := 24) (v := .agg (irow .u8 (gs q k).h)) rfl (by kernel_rfl) (by kernel_rfl) (by kernel_rfl) (fun _ _ _ h => h) (Or.inl ⟨by rfl, ?y103⟩) ⟨c1, r1⟩ ?r103
          case y103 =>
            intro w_ hS_
            simp only [List.getElem_toArray, List.getElem_cons_succ, List.getElem_cons_zero]
            exact run_load_range 40 _ (by rfl) b1 (o1 + k * 65) (by rfl) ((gs q k).h.map (Value.int .u8)) _ (range_h hS_.2) Try.underlying40 rfl (infoh _ hko.1)
          simp only [Act.put, List.getElem_toArray, List.getElem_cons_succ, List.getElem_cons_zero, List.setIfInBounds_toArray, List.set_cons_succ, List.set_cons_zero]
          refine wpAnyH_take (i := 25) (v := ?v104) rfl (by kernel_rfl) (by kernel_rfl) (by kernel_rfl) (fun _ _ _ h => h) (Or.inl ⟨by rfl, ?y104⟩) ⟨c1, r1⟩ ?r104
          case y104 =>
            intro w_ hS_
            go_simp
            try with_reducible rfl
          simp only [Act.put, List.getElem_toArray, List.getElem_cons_succ, List.getElem_cons_zero, List.setIfInBounds_toArray, List.set_cons_succ, List.set_cons_zero]
          refine wpAnyH_take (i := 26) (v := ?v105) rfl (by kernel_rfl) (by kernel_rfl) (by kernel_rfl) (fun _ _ _ h => h) (Or.inl ⟨by rfl, ?y105⟩) ⟨c1, r1⟩ ?r105
          case y105 =>
            intro w_ hS_
            go_simp
            try with_reducible rfl
          simp only [Act.put, List.getElem_toArray, List.getElem_cons_succ, List.getElem_cons_zero, List.setIfInBounds_toArray, List.set_cons_succ, List.set_cons_zero]
          refine wpAnyH_take (i := 27) (v := ?v106) rfl (by kernel_rfl) (by kernel_rfl) (by kernel_rfl) (fun _ _ _ h => h) (Or.inl ⟨by rfl, ?y106⟩) ⟨c1, r1⟩ ?r106
          case y106 =>
            intro w_ hS_
            go_simp
            try with_reducible rfl
          simp only [Act.put, List.getElem_toArray, List.getElem_cons_succ, List.getElem_cons_zero, List.setIfInBounds_toArray, List.set_cons_succ, List.set_cons_zero]
          refine wpAnyH_take (i := 28) (v := ?v107) rfl (by kernel_rfl) (by kernel_rfl) (by kernel_rfl) (fun _ _ _ h => h) (Or.inl ⟨by rfl, ?y107⟩) ⟨c1, r1⟩ ?r107
          case y107 =>
            intro w_ hS_
            go_simp
            try with_reducible rfl
          simp only [Act.put, List.getElem_toArray, List.getElem_cons_succ, List.getElem_cons_zero, List.setIfInBounds_toArray, List.set_cons_succ, List.set_cons_zero]
          refine wpAnyH_take (i := 29) (v := .int .u32 (gs q k).n) rfl (by kernel_rfl) (by kernel_rfl) (by kernel_rfl) (fun _ _ _ h => h) (Or.inl ⟨by rfl, ?y108⟩) ⟨c1, r1⟩ ?r108
          case y108 =>
            intro w_ hS_
            have c_ := range_n hko hS_.2
            go_simp
            try with_reducible rfl
          simp only [Act.put, List.getElem_toArray, List.getElem_cons_succ, List.getElem_cons_zero, List.setIfInBounds_toArray, List.set_cons_succ, List.set_cons_zero]
          refine wpAnyH_one (k := 30) (fuel := 2) (by kernel_rfl) rfl (by rfl) (fun K_ hK => ?_)
          refine wp_call_ex (f := 54) (R := fun v_ w_ => v_ = .int .i64 A2 ∧ Below w2.heap.size w2 w_) (by kernel_rfl) ((cP2 w2 hq).mono (fun e_ w_ h_ => ⟨_, h_.1, rfl, h_.2⟩)) (fun v_ w3 hX_ => ?_)
          obtain ⟨rfl, hb_⟩ := hX_
          replace r1 := rangeAt_keep r1 (hb_.block b1 hb9)
          replace hb9 := Nat.lt_of_lt_of_le hb9 hb_.size
          replace hR := hR.keep hb_
          replace hq := hq.keep hb_
          replace c1 := hR.c1
          replace hw := Below.after hw hb_
          clear hb_
          refine hK _ _ ⟨c1, r1⟩ ?_
          simp only [Act.put, List.getElem_toArray, List.getElem_cons_succ, List.getElem_cons_zero, List.setIfInBounds_toArray, List.set_cons_succ, List.set_cons_zero]
          clear hK
          refine wpAnyH_take (i := 31) (v := .bool false) rfl (by kernel_rfl) (by kernel_rfl) (by kernel_rfl) (fun _ _ _ h => h) (Or.inl ⟨by rfl, ?y109⟩) ⟨c1, r1⟩ ?r109
          case y109 =>
            intro w_ hS_
            go_simp
            try simpa using hA2
          simp only [Act.put, List.getElem_toArray, List.getElem_cons_succ, List.getElem_cons_zero, List.setIfInBounds_toArray, List.set_cons_succ, List.set_cons_zero]
          refine wpAnyH_take (i := 32) (v := ?v110) rfl (by kernel_rfl) (by kernel_rfl) (by kernel_rfl) (fun _ _ _ h => h) (Or.inl ⟨by rfl, ?y110⟩) ⟨c1, r1⟩ ?r110
          case y110 =>
            intro w_ hS_
            go_simp
            try with_reducible rfl
          simp only [Act.put, List.getElem_toArray, List.getElem_cons_succ, List.getElem_cons_zero, List.setIfInBounds_toArray, List.set_cons_succ, List.set_cons_zero]
          refine wpAnyH_done (by kernel_rfl) ?_ _
          refine NoPanic.normal ?_
          go_wp2_with (fail)
          refine ⟨⟨k + 1, by omega, by go_num, nd, hw⟩, ?_⟩
          simp [intOf]; omega
        · have hm := hn3 rfl
          clear hn1 hn2 hn3
          refine wp_region_noPanic ?_
          refine wp_region_held (S := fun W => W.cell? ⟨g, 1, none⟩ = some v ∧ W.rangeAt b1 (o1 + k * 65) (srl (gs q k))) (by kernel_rfl) ?_
          change wpAnyH _ _ _ _ _ _ _ _ (World.drew _)
          generalize wr.drew = w1 at *
          refine wpAnyH_take (i := 0) (v := ?v111) rfl (by kernel_rfl) (by kernel_rfl) (by kernel_rfl) (fun _ _ _ h => h) (Or.inl ⟨by rfl, ?y111⟩) ⟨c1, r1⟩ ?r111
          case y111 =>
            intro w_ hS_
            go_simp
            try with_reducible rfl
          simp only [Act.put, List.getElem_toArray, List.getElem_cons_zero, List.setIfInBounds_toArray, List.set_cons_succ, List.set_cons_zero]
          refine wpAnyH_take (i := 1) (v := ?v112) rfl (by kernel_rfl) (by kernel_rfl) (by kernel_rfl) (fun _ _ _ h => h) (Or.inl ⟨by rfl, ?y112⟩) ⟨c1, r1⟩ ?r112
          case y112 =>
            intro w_ hS_
            go_simp
            try with_reducible rfl
          simp only [Act.put, List.getElem_toArray, List.getElem_cons_succ, List.getElem_cons_zero, List.setIfInBounds_toArray, List.set_cons_succ, List.set_cons_zero]
          refine wpAnyH_take (i := 2) (v := ?v113) rfl (by kernel_rfl) (by kernel_rfl) (by kernel_rfl) (fun _ _ _ h => h) (Or.inl ⟨by rfl, ?y113⟩) ⟨c1, r1⟩ ?r113
          case y113 =>
            intro w_ hS_
            go_simp
            try with_reducible rfl
          simp only [Act.put, List.getElem_toArray, List.getElem_cons_succ, List.getElem_cons_zero, List.setIfInBounds_toArray, List.set_cons_succ, List.set_cons_zero]
          refine wpAnyH_take (i := 3) (v := v) rfl (by kernel_rfl) (by kernel_rfl) (by kernel_rfl) (fun _ _ _ h => h) (Or.inl ⟨by rfl, ?y114⟩) ⟨c1, r1⟩ ?r114
          case y114 =>
            intro w_ hS_
            have c_ := hS_.1
            go_simp
            try with_reducible rfl
          simp only [Act.put, List.getElem_toArray, List.getElem_cons_succ, List.getElem_cons_zero, List.setIfInBounds_toArray, List.set_cons_succ, List.set_cons_zero]
          refine wpAnyH_take (i := 4) (v := ?v115) rfl (by kernel_rfl) (by kernel_rfl) (by kernel_rfl) (fun _ _ _ h => h) (Or.inl ⟨by rfl, ?y115⟩) ⟨c1, r1⟩ ?r115
          case y115 =>
            intro w_ hS_
            go_simp
            try with_reducible rfl
          simp only [Act.put, List.getElem_toArray, List.getElem_cons_succ, List.getElem_cons_zero, List.setIfInBounds_toArray, List.set_cons_succ, List.set_cons_zero]
          refine wpAnyH_take (i := 5) (v := ?v116) rfl (by kernel_rfl) (by kernel_rfl) (by kernel_rfl) (fun _ _ _ h => h) (Or.inl ⟨by rfl, ?y116⟩) ⟨c1, r1⟩ ?r116
          case y116 =>
            intro w_ hS_
            go_simp
            try with_reducible rfl
          simp only [Act.put, List.getElem_toArray, List.getElem_cons_succ, List.getElem_cons_zero, List.setIfInBounds_toArray, List.set_cons_succ, List.set_cons_zero]
          refine wpAnyH_take (i := 6) (v := ?v117) rfl (by kernel_rfl) (by kernel_rfl) (by kernel_rfl) (fun _ _ _ h => h) (Or.inl ⟨by rfl, ?y117⟩) ⟨c1, r1⟩ ?r117
          case y117 =>
            intro w_ hS_
            go_simp
            try with_reducible rfl
          simp only [Act.put, List.getElem_toArray, List.getElem_cons_succ, List.getElem_cons_zero, List.setIfInBounds_toArray, List.set_cons_succ, List.set_cons_zero]
          refine wpAnyH_take (i := 7) (v := ?v118) rfl (by kernel_rfl) (by kernel_rfl) (by kernel_rfl) (fun _ _ _ h => h) (Or.inl ⟨by rfl, ?y118⟩) ⟨c1, r1⟩ ?r118
          case y118 =>
            intro w_ hS_
            go_simp
            try with_reducible rfl
          simp only [Act.put, List.getElem_toArray, List.getElem_cons_succ, List.getElem_cons_zero, List.setIfInBounds_toArray, List.set_cons_succ, List.set_cons_zero]
          refine wpAnyH_take (i := 8) (v := .agg (irow .u8 (gs q k).h)) rfl (by kernel_rfl) (by kernel_rfl) (by kernel_rfl) (fun _ _ _ h => h) (Or.inl ⟨by rfl, ?y119⟩) ⟨c1, r1⟩ ?r119
          case y119 =>
            intro w_ hS_
            simp only [List.getElem_toArray, List.getElem_cons_succ, List.getElem_cons_zero]
            exact run_load_range 40 _ (by rfl) b1 (o1 + k * 65) (by rfl) ((gs q k).h.map (Value.int .u8)) _ (range_h hS_.2) Try.underlying40 rfl (infoh _ hko.1)
          simp only [Act.put, List.getElem_toArray, List.getElem_cons_succ, List.getElem_cons_zero, List.setIfInBounds_toArray, List.set_cons_succ, List.set_cons_zero]
          refine wpAnyH_take (i := 9) (v := ?v120) rfl (by kernel_rfl) (by kernel_rfl) (by kernel_rfl) (fun _ _ _ h => h) (Or.inl ⟨by rfl, ?y120⟩) ⟨c1, r1⟩ ?r120
          case y120 =>
            intro w_ hS_
            go_simp
            try with_reducible rfl
          simp only [Act.put, List.getElem_toArray, List.getElem_cons_succ, List.getElem_cons_zero, List.setIfInBounds_toArray, List.set_cons_succ, List.set_cons_zero]
          refine wpAnyH_take (i := 10) (v := ?v121) rfl (by kernel_rfl) (by kernel_rfl) (by kernel_rfl) (fun _ _ _ h => h) (Or.inl ⟨by rfl, ?y121⟩) ⟨c1, r1⟩ ?r121
          case y121 =>
            intro w_ hS_
            go_simp
            try with_reducible rfl
          simp only [Act.put, List.getElem_toArray, List.getElem_cons_succ, List.getElem_cons_zero, List.setIfInBounds_toArray, List.set_cons_succ, List.set_cons_zero]
          refine wpAnyH_take (i := 11) (v := ?v122) rfl (by kernel_rfl) (by kernel_rfl) (by kernel_rfl) (fun _ _ _ h => h) (Or.inl ⟨by rfl, ?y122⟩) ⟨c1, r1⟩ ?r122
          case y122 =>
            intro w_ hS_
            go_simp
            try with_reducible rfl
          simp only [Act.put, List.getElem_toArray, List.getElem_cons_succ, List.getElem_cons_zero, List.setIfInBounds_toArray, List.set_cons_succ, List.set_cons_zero]
          refine wpAnyH_take (i := 12) (v := ?v123) rfl (by kernel_rfl) (by kernel_rfl) (by kernel_rfl) (fun _ _ _ h => h) (Or.inl ⟨by rfl, ?y123⟩) ⟨c1, r1⟩ ?r123
          case y123 =>
            intro w_ hS_
            go_simp
            try with_reducible rfl
          simp only [Act.put, List.getElem_toArray, List.getElem_cons_succ, List.getElem_cons_zero, List.setIfInBounds_toArray, List.set_cons_succ, List.set_cons_zero]
          refine wpAnyH_take (i := 13) (v := .int .u32 (gs q k).n) rfl (by kernel_rfl) (by kernel_rfl) (by kernel_rfl) (fun _ _ _ h => h) (Or.inl ⟨by rfl, ?y124⟩) ⟨c1, r1⟩ ?r124
          case y124 =>
            intro w_ hS_
            have c_ := range_n hko hS_.2
            go_simp
            try with_reducible rfl
          simp only [Act.put, List.getElem_toArray, List.getElem_cons_succ, List.getElem_cons_zero, List.setIfInBounds_toArray, List.set_cons_succ, List.set_cons_zero]
          refine wpAnyH_one (k := 14) (fuel := 18) (by kernel_rfl) rfl (by rfl) (fun K_ hK => ?_)
          refine wp_call_ex (f := 54) (R := fun v_ w_ => v_ = .int .i64 A1 ∧ Below w1.heap.size w1 w_) (by kernel_rfl) ((cP1 w1 hR).mono (fun e_ w_ h_ => ⟨_, h_.1, rfl, h_.2⟩)) (fun v_ w2 hX_ => ?_)
          obtain ⟨rfl, hb_⟩ := hX_
          replace r1 := rangeAt_keep r1 (hb_.block b1 hb9)
          replace hb9 := Nat.lt_of_lt_of_le hb9 hb_.size
          replace hR := hR.keep hb_
          replace hq := hq.keep hb_
          replace c1 := hR.c1
          replace hw := Below.after hw hb_
          clear hb_
          refine hK _ _ ⟨c1, r1⟩ ?_
          simp only [Act.put, List.getElem_toArray, List.getElem_cons_succ, List.getElem_cons_zero, List.setIfInBounds_toArray, List.set_cons_succ, List.set_cons_zero]
          clear hK
          refine wpAnyH_take (i := 15) (v := .bool false) rfl (by kernel_rfl) (by kernel_rfl) (by kernel_rfl) (fun _ _ _ h => h) (Or.inl ⟨by rfl, ?y125⟩) ⟨c1, r1⟩ ?r125
          case y125 =>
            intro w_ hS_
            go_simp
            try simpa using hA1
          simp only [Act.put, List.getElem_toArray, List.getElem_cons_succ, List.getElem_cons_zero, List.setIfInBounds_toArray, List.set_cons_succ, List.set_cons_zero]
          refine wpAnyH_take (i := 16) (v := ?v126) rfl (by kernel_rfl) (by kernel_rfl) (by kernel_rfl) (fun _ _ _ h => h) (Or.inl ⟨by rfl, ?y126⟩) ⟨c1, r1⟩ ?r126
          case y126 =>
            intro w_ hS_
            go_simp
            try with_reducible rfl
          simp only [Act.put, List.getElem_toArray, List.getElem_cons_succ, List.getElem_cons_zero, List.setIfInBounds_toArray, List.set_cons_succ, List.set_cons_zero]
          refine wpAnyH_take (i := 17) (v := ?v127) rfl (by kernel_rfl) (by kernel_rfl) (by kernel_rfl) (fun _ _ _ h => h) (Or.inl ⟨by rfl, ?y127⟩) ⟨c1, r1⟩ ?r127
          case y127 =>
            intro w_ hS_
            go_simp
            try with_reducible rfl
          simp only [Act.put, List.getElem_toArray, List.getElem_cons_succ, List.getElem_cons_zero, List.setIfInBounds_toArray, List.set_cons_succ, List.set_cons_zero]
          refine wpAnyH_take (i := 18) (v := ?v128) rfl (by kernel_rfl) (by kernel_rfl) (by kernel_rfl) (fun _ _ _ h => h) (Or.inl ⟨by rfl, ?y128⟩) ⟨c1, r1⟩ ?r128
          case y128 =>
            intro w_ hS_
            go_simp
            try with_reducible rfl
          simp only [Act.put, List.getElem_toArray, List.getElem_cons_succ, List.getElem_cons_zero, List.setIfInBounds_toArray, List.set_cons_succ, List.set_cons_zero]
          refine wpAnyH_take (i := 19) (v := ?v129) rfl (by kernel_rfl) (by kernel_rfl) (by kernel_rfl) (fun _ _ _ h => h) (Or.inl ⟨by rfl, ?y129⟩) ⟨c1, r1⟩ ?r129
          case y129 =>
            intro w_ hS_
            go_simp
            try with_reducible rfl
          simp only [Act.put, List.getElem_toArray, List.getElem_cons_succ, List.getElem_cons_zero, List.setIfInBounds_toArray, List.set_cons_succ, List.set_cons_zero]
          refine wpAnyH_take (i := 20) (v := ?v130) rfl (by kernel_rfl) (by kernel_rfl) (by kernel_rfl) (fun _ _ _ h => h) (Or.inl ⟨by rfl, ?y130⟩) ⟨c1, r1⟩ ?r130
          case y130 =>
            intro w_ hS_
            go_simp
            try with_reducible rfl
          simp only [Act.put, List.getElem_toArray, List.getElem_cons_succ, List.getElem_cons_zero, List.setIfInBounds_toArray, List.set_cons_succ, List.set_cons_zero]
          refine wpAnyH_take (i := 21) (v := ?v131) rfl (by kernel_rfl) (by kernel_rfl) (by kernel_rfl) (fun _ _ _ h => h) (Or.inl ⟨by rfl, ?y131⟩) ⟨c1, r1⟩ ?r131
          case y131 =>
            intro w_ hS_
            go_simp
            try with_reducible rfl
          simp only [Act.put, List.getElem_toArray, List.getElem_cons_succ, List.getElem_cons_zero, List.setIfInBounds_toArray, List.set_cons_succ, List.set_cons_zero]
          refine wpAnyH_take (i := 22) (v := ?v132) rfl (by kernel_rfl) (by kernel_rfl) (by kernel_rfl) (fun _ _ _ h => h) (Or.inl ⟨by rfl, ?y132⟩) ⟨c1, r1⟩ ?r132
          case y132 =>
            intro w_ hS_
            go_simp
            try with_reducible rfl
          simp only [Act.put, List.getElem_toArray, List.getElem_cons_succ, List.getElem_cons_zero, List.setIfInBounds_toArray, List.set_cons_succ, List.set_cons_zero]
          refine wpAnyH_take (i := 23) (v := ?v133) rfl (by kernel_rfl) (by kernel_rfl) (by kernel_rfl) (fun _ _ _ h => h) (Or.inl ⟨by rfl, ?y133⟩) ⟨c1, r1⟩ ?r133
          case y133 =>
            intro w_ hS_
            go_simp
            try with_reducible rfl
          simp only [Act.put, List.getElem_toArray, List.getElem_cons_succ, List.getElem_cons_zero, List.setIfInBounds_toArray, List.set_cons_succ, List.set_cons_zero]
          refine wpAnyH_take (i := 24) (v := .agg (irow .u8 (gs q k).h)) rfl (by kernel_rfl) (by kernel_rfl) (by kernel_rfl) (fun _ _ _ h => h) (Or.inl ⟨by rfl, ?y134⟩) ⟨c1, r1⟩ ?r134
          case y134 =>
            intro w_ hS_
            simp only [List.getElem_toArray, List.getElem_cons_succ, List.getElem_cons_zero]
            exact run_load_range 40 _ (by rfl) b1 (o1 + k * 65) (by rfl) ((gs q k).h.map (Value.int .u8)) _ (range_h hS_.2) Try.underlying40 rfl (infoh _ hko.1)
          simp only [Act.put, List.getElem_toArray, List.getElem_cons_succ, List.getElem_cons_zero, List.setIfInBounds_toArray, List.set_cons_succ, List.set_cons_zero]
          refine wpAnyH_take (i := 25) (v := ?v135) rfl (by kernel_rfl) (by kernel_rfl) (by kernel_rfl) (fun _ _ _ h => h) (Or.inl ⟨by rfl, ?y135⟩) ⟨c1, r1⟩ ?r135
          case y135 =>
            intro w_ hS_
            go_simp
            try with_reducible rfl
          simp only [Act.put, List.getElem_toArray, List.getElem_cons_succ, List.getElem_cons_zero, List.setIfInBounds_toArray, List.set_cons_succ, List.set_cons_zero]
          refine wpAnyH_take (i := 26) (v := ?v136) rfl (by kernel_rfl) (by kernel_rfl) (by kernel_rfl) (fun _ _ _ h => h) (Or.inl ⟨by rfl, ?y136⟩) ⟨c1, r1⟩ ?r136
          case y136 =>
            intro w_ hS_
            go_simp
            try with_reducible rfl
          simp only [Act.put, List.getElem_toArray, List.getElem_cons_succ, List.getElem_cons_zero, List.setIfInBounds_toArray, List.set_cons_succ, List.set_cons_zero]
          refine wpAnyH_take (i := 27) (v := ?v137) rfl (by kernel_rfl) (by kernel_rfl) (by kernel_rfl) (fun _ _ _ h => h) (Or.inl ⟨by rfl, ?y137⟩) ⟨c1, r1⟩ ?r137
          case y137 =>
            intro w_ hS_
            go_simp
            try with_reducible rfl
          simp only [Act.put, List.getElem_toArray, List.getElem_cons_succ, List.getElem_cons_zero, List.setIfInBounds_toArray, List.set_cons_succ, List.set_cons_zero]
          refine wpAnyH_take (i := 28) (v := ?v138) rfl (by kernel_rfl) (by kernel_rfl) (by kernel_rfl) (fun _ _ _ h => h) (Or.inl ⟨by rfl, ?y138⟩) ⟨c1, r1⟩ ?r138
          case y138 =>
            intro w_ hS_
            go_simp
            try with_reducible rfl
          simp only [Act.put, List.getElem_toArray, List.getElem_cons_succ, List.getElem_cons_zero, List.setIfInBounds_toArray, List.set_cons_succ, List.set_cons_zero]
          refine wpAnyH_take (i := 29) (v := .int .u32 (gs q k).n) rfl (by kernel_rfl) (by kernel_rfl) (by kernel_rfl) (fun _ _ _ h => h) (Or.inl ⟨by rfl, ?y139⟩) ⟨c1, r1⟩ ?r139
          case y139 =>
            intro w_ hS_
            have c_ := range_n hko hS_.2
            go_simp
            try with_reducible rfl
          simp only [Act.put, List.getElem_toArray, List.getElem_cons_succ, List.getElem_cons_zero, List.setIfInBounds_toArray, List.set_cons_succ, List.set_cons_zero]
          refine wpAnyH_one (k := 30) (fuel := 2) (by kernel_rfl) rfl (by rfl) (fun K_ hK => ?_)
          refine wp_call_ex (f := 54) (R := fun v_ w_ => v_ = .int .i64 A2 ∧ Below w2.heap.size w2 w_) (by kernel_rfl) ((cP2 w2 hq).mono (fun e_ w_ h_ => ⟨_, h_.1, rfl, h_.2⟩)) (fun v_ w3 hX_ => ?_)
          obtain ⟨rfl, hb_⟩ := hX_
          replace r1 := rangeAt_keep r1 (hb_.block b1 hb9)
          replace hb9 := Nat.lt_of_lt_of_le hb9 hb_.size
          replace hR := hR.keep hb_
          replace hq := hq.keep hb_
          replace c1 := hR.c1
          replace hw := Below.after hw hb_
          clear hb_
          refine hK _ _ ⟨c1, r1⟩ ?_
          simp only [Act.put, List.getElem_toArray, List.getElem_cons_succ, List.getElem_cons_zero, List.setIfInBounds_toArray, List.set_cons_succ, List.set_cons_zero]
          clear hK
          refine wpAnyH_take (i := 31) (v := .bool true) rfl (by kernel_rfl) (by kernel_rfl) (by kernel_rfl) (fun _ _ _ h => h) (Or.inl ⟨by rfl, ?y140⟩) ⟨c1, r1⟩ ?r140
          case y140 =>
            intro w_ hS_
            go_simp
            try simpa using hA2
          simp only [Act.put, List.getElem_toArray, List.getElem_cons_succ, List.getElem_cons_zero, List.setIfInBounds_toArray, List.set_cons_succ, List.set_cons_zero]
          refine wpAnyH_take (i := 32) (v := ?v141) rfl (by kernel_rfl) (by kernel_rfl) (by kernel_rfl) (fun _ _ _ h => h) (Or.inl ⟨by rfl, ?y141⟩) ⟨c1, r1⟩ ?r141
          case y141 =>
            intro w_ hS_
            go_simp
            try with_reducible rfl
          simp only [Act.put, List.getElem_toArray, List.getElem_cons_succ, List.getElem_cons_zero, List.setIfInBounds_toArray, List.set_cons_succ, List.set_cons_zero]
          refine wpAnyH_done (by kernel_rfl) ?_ _
          refine NoPanic.normal ?_
          go_wp2_with (fail)
          go_ret
          exact Or.inl ⟨hm, rfl, hw⟩
      · have hm := hn2 rfl
        clear hn1 hn2 hn3
        refine wp_region_noPanic ?_
        refine wp_region_held (S := fun W => W.cell? ⟨g, 1, none⟩ = some v ∧ W.rangeAt b1 (o1 + k * 65) (srl (gs q k))) (by kernel_rfl) ?_
        change wpAnyH _ _ _ _ _ _ _ _ (World.drew _)
        generalize wr.drew = w1 at *
        refine wpAnyH_take (i := 0) (v := ?v49) rfl (by kernel_rfl) (by kernel_rfl) (by kernel_rfl) (fun _ _ _ h => h) (Or.inl ⟨by rfl, ?y49⟩) ⟨c1, r1⟩ ?r49
        case y49 =>
          intro w_ hS_
          go_simp
          try with_reducible rfl
        simp only [Act.put, List.getElem_toArray, List.getElem_cons_zero, List.setIfInBounds_toArray, List.set_cons_succ, List.set_cons_zero]
        refine wpAnyH_take (i := 1) (v := ?v50) rfl (by kernel_rfl) (by kernel_rfl) (by kernel_rfl) (fun _ _ _ h => h) (Or.inl ⟨by rfl, ?y50⟩) ⟨c1, r1⟩ ?r50
        case y50 =>
          intro w_ hS_
          go_simp
          try with_reducible rfl
        simp only [Act.put, List.getElem_toArray, List.getElem_cons_succ, List.getElem_cons_zero, List.setIfInBounds_toArray, List.set_cons_succ, List.set_cons_zero]
        refine wpAnyH_take (i := 2) (v := ?v51) rfl (by kernel_rfl) (by kernel_rfl) (by kernel_rfl) (fun _ _ _ h => h) (Or.inl ⟨by rfl, ?y51⟩) ⟨c1, r1⟩ ?r51
        case y51 =>
          intro w_ hS_
          go_simp
          try with_reducible rfl
        simp only [Act.put, List.getElem_toArray, List.getElem_cons_succ, List.getElem_cons_zero, List.setIfInBounds_toArray, List.set_cons_succ, List.set_cons_zero]
        refine wpAnyH_take (i := 3) (v := v) rfl (by kernel_rfl) (by kernel_rfl) (by kernel_rfl) (fun _ _ _ h => h) (Or.inl ⟨by rfl, ?y52⟩) ⟨c1, r1⟩ ?r52
        case y52 =>
          intro w_ hS_
          have c_ := hS_.1
          go_simp
          try with_reducible rfl
        simp only [Act.put, List.getElem_toArray, List.getElem_cons_succ, List.getElem_cons_zero, List.setIfInBounds_toArray, List.set_cons_succ, List.set_cons_zero]
        refine wpAnyH_take (i := 4) (v := ?v53) rfl (by kernel_rfl) (by kernel_rfl) (by kernel_rfl) (fun _ _ _ h => h) (Or.inl ⟨by rfl, ?y53⟩) ⟨c1, r1⟩ ?r53
        case y53 =>
          intro w_ hS_
          go_simp
          try with_reducible rfl
        simp only [Act.put, List.getElem_toArray, List.getElem_cons_succ, List.getElem_cons_zero, List.setIfInBounds_toArray, List.set_cons_succ, List.set_cons_zero]
        refine wpAnyH_take (i := 5) (v := ?v54) rfl (by kernel_rfl) (by kernel_rfl) (by kernel_rfl) (fun _ _ _ h => h) (Or.inl ⟨by rfl, ?y54⟩) ⟨c1, r1⟩ ?r54
        case y54 =>
          intro w_ hS_
          go_simp
          try with_reducible rfl
        simp only [Act.put, List.getElem_toArray, List.getElem_cons_succ, List.getElem_cons_zero, List.setIfInBounds_toArray, List.set_cons_succ, List.set_cons_zero]
        refine wpAnyH_take (i := 6) (v := ?v55) rfl (by kernel_rfl) (by kernel_rfl) (by kernel_rfl) (fun _ _ _ h => h) (Or.inl ⟨by rfl, ?y55⟩) ⟨c1, r1⟩ ?r55
        case y55 =>
          intro w_ hS_
          go_simp
          try with_reducible rfl
        simp only [Act.put, List.getElem_toArray, List.getElem_cons_succ, List.getElem_cons_zero, List.setIfInBounds_toArray, List.set_cons_succ, List.set_cons_zero]
        refine wpAnyH_take (i := 7) (v := ?v56) rfl (by kernel_rfl) (by kernel_rfl) (by kernel_rfl) (fun _ _ _ h => h) (Or.inl ⟨by rfl, ?y56⟩) ⟨c1, r1⟩ ?r56
        case y56 =>
          intro w_ hS_
          go_simp
          try with_reducible rfl
        simp only [Act.put, List.getElem_toArray, List.getElem_cons_succ, List.getElem_cons_zero, List.setIfInBounds_toArray, List.set_cons_succ, List.set_cons_zero]
        refine wpAnyH_take (i := 8) (v := .agg (irow .u8 (gs q k).h)) rfl (by kernel_rfl) (by kernel_rfl) (by kernel_rfl) (fun _ _ _ h => h) (Or.inl ⟨by rfl, ?y57⟩) ⟨c1, r1⟩ ?r57
        case y57 =>
          intro w_ hS_
          simp only [List.getElem_toArray, List.getElem_cons_succ, List.getElem_cons_zero]
          exact run_load_range 40 _ (by rfl) b1 (o1 + k * 65) (by rfl) ((gs q k).h.map (Value.int .u8)) _ (range_h hS_.2) Try.underlying40 rfl (infoh _ hko.1)
        simp only [Act.put, List.getElem_toArray, List.getElem_cons_succ, List.getElem_cons_zero, List.setIfInBounds_toArray, List.set_cons_succ, List.set_cons_zero]
        refine wpAnyH_take (i := 9) (v := ?v58) rfl (by kernel_rfl) (by kernel_rfl) (by kernel_rfl) (fun _ _ _ h => h) (Or.inl ⟨by rfl, ?y58⟩) ⟨c1, r1⟩ ?r58
        case y58 =>
          intro w_ hS_
          go_simp
          try with_reducible rfl
        simp only [Act.put, List.getElem_toArray, List.getElem_cons_succ, List.getElem_cons_zero, List.setIfInBounds_toArray, List.set_cons_succ, List.set_cons_zero]
        refine wpAnyH_take (i := 10) (v := ?v59) rfl (by kernel_rfl) (by kernel_rfl) (by kernel_rfl) (fun _ _ _ h => h) (Or.inl ⟨by rfl, ?y59⟩) ⟨c1, r1⟩ ?r59
        case y59 =>
          intro w_ hS_
          go_simp
          try with_reducible rfl
        simp only [Act.put, List.getElem_toArray, List.getElem_cons_succ, List.getElem_cons_zero, List.setIfInBounds_toArray, List.set_cons_succ, List.set_cons_zero]
        refine wpAnyH_take (i := 11) (v := ?v60) rfl (by kernel_rfl) (by kernel_rfl) (by kernel_rfl) (fun _ _ _ h => h) (Or.inl ⟨by rfl, ?y60⟩) ⟨c1, r1⟩ ?r60
        case y60 =>
          intro w_ hS_
          go_simp
          try with_reducible rfl
        simp only [Act.put, List.getElem_toArray, List.getElem_cons_succ, List.getElem_cons_zero, List.setIfInBounds_toArray, List.set_cons_succ, List.set_cons_zero]
        refine wpAnyH_take (i := 12) (v := ?v61) rfl (by kernel_rfl) (by kernel_rfl) (by kernel_rfl) (fun _ _ _ h => h) (Or.inl ⟨by rfl, ?y61⟩) ⟨c1, r1⟩ ?r61
        case y61 =>
          intro w_ hS_
          go_simp
          try with_reducible rfl
        simp only [Act.put, List.getElem_toArray, List.getElem_cons_succ, List.getElem_cons_zero, List.setIfInBounds_toArray, List.set_cons_succ, List.set_cons_zero]
        refine wpAnyH_take (i := 13) (v := .int .u32 (gs q k).n) rfl (by kernel_rfl) (by kernel_rfl) (by kernel_rfl) (fun _ _ _ h => h) (Or.inl ⟨by rfl, ?y62⟩) ⟨c1, r1⟩ ?r62
        case y62 =>
          intro w_ hS_
          have c_ := range_n hko hS_.2
          go_simp
          try with_reducible rfl
        simp only [Act.put, List.getElem_toArray, List.getElem_cons_succ, List.getElem_cons_zero, List.setIfInBounds_toArray, List.set_cons_succ, List.set_cons_zero]
        refine wpAnyH_one (k := 14) (fuel := 18) (by kernel_rfl) rfl (by rfl) (fun K_ hK => ?_)
        refine wp_call_ex (f := 54) (R := fun v_ w_ => v_ = .int .i64 A1 ∧ Below w1.heap.size w1 w_) (by kernel_rfl) ((cP1 w1 hR).mono (fun e_ w_ h_ => ⟨_, h_.1, rfl, h_.2⟩)) (fun v_ w2 hX_ => ?_)
        obtain ⟨rfl, hb_⟩ := hX_
        replace r1 := rangeAt_keep r1 (hb_.block b1 hb9)
        replace hb9 := Nat.lt_of_lt_of_le hb9 hb_.size
        replace hR := hR.keep hb_
        replace hq := hq.keep hb_
        replace c1 := hR.c1
        replace hw := Below.after hw hb_
        clear hb_
        refine hK _ _ ⟨c1, r1⟩ ?_
        simp only [Act.put, List.getElem_toArray, List.getElem_cons_succ, List.getElem_cons_zero, List.setIfInBounds_toArray, List.set_cons_succ, List.set_cons_zero]
        clear hK
        refine wpAnyH_take (i := 15) (v := .bool true) rfl (by kernel_rfl) (by kernel_rfl) (by kernel_rfl) (fun _ _ _ h => h) (Or.inl ⟨by rfl, ?y63⟩) ⟨c1, r1⟩ ?r63
        case y63 =>
          intro w_ hS_
          go_simp
          try simpa using hA1
        simp only [Act.put, List.getElem_toArray, List.getElem_cons_succ, List.getElem_cons_zero, List.setIfInBounds_toArray, List.set_cons_succ, List.set_cons_zero]
        refine wpAnyH_take (i := 16) (v := ?v64) rfl (by kernel_rfl) (by kernel_rfl) (by kernel_rfl) (fun _ _ _ h => h) (Or.inl ⟨by rfl, ?y64⟩) ⟨c1, r1⟩ ?r64
        case y64 =>
          intro w_ hS_
          go_simp
          try with_reducible rfl
        simp only [Act.put, List.getElem_toArray, List.getElem_cons_succ, List.getElem_cons_zero, List.setIfInBounds_toArray, List.set_cons_succ, List.set_cons_zero]
        refine wpAnyH_take (i := 17) (v := undef) rfl (by kernel_rfl) (by kernel_rfl) (by kernel_rfl) (fun _ _ _ h => h) (Or.inr ⟨by rfl, rfl⟩) ⟨c1, r1⟩ ?r65
        simp only [Act.put, List.getElem_toArray, List.getElem_cons_succ, List.getElem_cons_zero, List.setIfInBounds_toArray, List.set_cons_succ, List.set_cons_zero]
        refine wpAnyH_take (i := 18) (v := undef) rfl (by kernel_rfl) (by kernel_rfl) (by kernel_rfl) (fun _ _ _ h => h) (Or.inr ⟨by rfl, rfl⟩) ⟨c1, r1⟩ ?r66
        simp only [Act.put, List.getElem_toArray, List.getElem_cons_succ, List.getElem_cons_zero, List.setIfInBounds_toArray, List.set_cons_succ, List.set_cons_zero]
        refine wpAnyH_take (i := 19) (v := undef) rfl (by kernel_rfl) (by kernel_rfl) (by kernel_rfl) (fun _ _ _ h => h) (Or.inr ⟨by rfl, rfl⟩) ⟨c1, r1⟩ ?r67
        simp only [Act.put, List.getElem_toArray, List.getElem_cons_succ, List.getElem_cons_zero, List.setIfInBounds_toArray, List.set_cons_succ, List.set_cons_zero]
        refine wpAnyH_take (i := 20) (v := undef) rfl (by kernel_rfl) (by kernel_rfl) (by kernel_rfl) (fun _ _ _ h => h) (Or.inr ⟨by rfl, rfl⟩) ⟨c1, r1⟩ ?r68
        simp only [Act.put, List.getElem_toArray, List.getElem_cons_succ, List.getElem_cons_zero, List.setIfInBounds_toArray, List.set_cons_succ, List.set_cons_zero]
        refine wpAnyH_take (i := 21) (v := undef) rfl (by kernel_rfl) (by kernel_rfl) (by kernel_rfl) (fun _ _ _ h => h) (Or.inr ⟨by rfl, rfl⟩) ⟨c1, r1⟩ ?r69
        simp only [Act.put, List.getElem_toArray, List.getElem_cons_succ, List.getElem_cons_zero, List.setIfInBounds_toArray, List.set_cons_succ, List.set_cons_zero]
        refine wpAnyH_take (i := 22) (v := undef) rfl (by kernel_rfl) (by kernel_rfl) (by kernel_rfl) (fun _ _ _ h => h) (Or.inr ⟨by rfl, rfl⟩) ⟨c1, r1⟩ ?r70
        simp only [Act.put, List.getElem_toArray, List.getElem_cons_succ, List.getElem_cons_zero, List.setIfInBounds_toArray, List.set_cons_succ, List.set_cons_zero]
        refine wpAnyH_take (i := 23) (v := undef) rfl (by kernel_rfl) (by kernel_rfl) (by kernel_rfl) (fun _ _ _ h => h) (Or.inr ⟨by rfl, rfl⟩) ⟨c1, r1⟩ ?r71
        simp only [Act.put, List.getElem_toArray, List.getElem_cons_succ, List.getElem_cons_zero, List.setIfInBounds_toArray, List.set_cons_succ, List.set_cons_zero]
        refine wpAnyH_take (i := 24) (v := undef) rfl (by kernel_rfl) (by kernel_rfl) (by kernel_rfl) (fun _ _ _ h => h) (Or.inr ⟨by rfl, rfl⟩) ⟨c1, r1⟩ ?r72
        simp only [Act.put, List.getElem_toArray, List.getElem_cons_succ, List.getElem_cons_zero, List.setIfInBounds_toArray, List.set_cons_succ, List.set_cons_zero]
        refine wpAnyH_take (i := 25) (v := undef) rfl (by kernel_rfl) (by kernel_rfl) (by kernel_rfl) (fun _ _ _ h => h) (Or.inr ⟨by rfl, rfl⟩) ⟨c1, r1⟩ ?r73
        simp only [Act.put, List.getElem_toArray, List.getElem_cons_succ, List.getElem_cons_zero, List.setIfInBounds_toArray, List.set_cons_succ, List.set_cons_zero]
        refine wpAnyH_take (i := 26) (v := undef) rfl (by kernel_rfl) (by kernel_rfl) (by kernel_rfl) (fun _ _ _ h => h) (Or.inr ⟨by rfl, rfl⟩) ⟨c1, r1⟩ ?r74
        simp only [Act.put, List.getElem_toArray, List.getElem_cons_succ, List.getElem_cons_zero, List.setIfInBounds_toArray, List.set_cons_succ, List.set_cons_zero]
        refine wpAnyH_take (i := 27) (v := undef) rfl (by kernel_rfl) (by kernel_rfl) (by kernel_rfl) (fun _ _ _ h => h) (Or.inr ⟨by rfl, rfl⟩) ⟨c1, r1⟩ ?r75
        simp only [Act.put, List.getElem_toArray, List.getElem_cons_succ, List.getElem_cons_zero, List.setIfInBounds_toArray, List.set_cons_succ, List.set_cons_zero]
        refine wpAnyH_take (i := 28) (v := undef) rfl (by kernel_rfl) (by kernel_rfl) (by kernel_rfl) (fun _ _ _ h => h) (Or.inr ⟨by rfl, rfl⟩) ⟨c1, r1⟩ ?r76
        simp only [Act.put, List.getElem_toArray, List.getElem_cons_succ, List.getElem_cons_zero, List.setIfInBounds_toArray, List.set_cons_succ, List.set_cons_zero]
        refine wpAnyH_take (i := 29) (v := undef) rfl (by kernel_rfl) (by kernel_rfl) (by kernel_rfl) (fun _ _ _ h => h) (Or.inr ⟨by rfl, rfl⟩) ⟨c1, r1⟩ ?r77
        simp only [Act.put, List.getElem_toArray, List.getElem_cons_succ, List.getElem_cons_zero, List.setIfInBounds_toArray, List.set_cons_succ, List.set_cons_zero]
        refine wpAnyH_skip (k := 30) (fuel := 2) (by kernel_rfl) rfl (by rfl) ⟨c1, r1⟩ ?_
        simp only [Act.put, List.getElem_toArray, List.getElem_cons_succ, List.getElem_cons_zero, List.setIfInBounds_toArray, List.set_cons_succ, List.set_cons_zero]
        refine wpAnyH_take (i := 31) (v := undef) rfl (by kernel_rfl) (by kernel_rfl) (by kernel_rfl) (fun _ _ _ h => h) (Or.inr ⟨by rfl, rfl⟩) ⟨c1, r1⟩ ?r78
        simp only [Act.put, List.getElem_toArray, List.getElem_cons_succ, List.getElem_cons_zero, List.setIfInBounds_toArray, List.set_cons_succ, List.set_cons_zero]
        refine wpAnyH_take (i := 32) (v := ?v79) rfl (by kernel_rfl) (by kernel_rfl) (by kernel_rfl) (fun _ _ _ h => h) (Or.inl ⟨by rfl, ?y79⟩) ⟨c1, r1⟩ ?r79
        case y79 =>
          intro w_ hS_
          go_simp
          try with_reducible rfl
        simp only [Act.put, List.getElem_toArray, List.getElem_cons_succ, List.getElem_cons_zero, List.setIfInBounds_toArray, List.set_cons_succ, List.set_cons_zero]
        refine wpAnyH_done (by kernel_rfl) ?_ _
        refine NoPanic.normal ?_
        go_wp2_with (fail)
        go_ret
        exact Or.inl ⟨hm, rfl, hw⟩
    · obtain rfl : k = q.length := by omega
      have hd : decide ((q.length : Int) < (q.length : Int)) = false := by simp
      have nd := hnd.out
      rw [List.take_length] at nd
      have hmf : mts l q = false := mts_false.2 nd
      replace hR := hR.keep hw
      replace hq := hq.keep hw
      have cR := r_Room base g v most l wr hR
      go_wp2_with (fail)
      refine cR.mono ?_
      rintro e_ w1 ⟨rfl, hb⟩
      replace hR := hR.keep hb
      replace hq := hq.keep hb
      replace hw := Below.after hw hb
      clear hb cR
      by_cases hlr : most - l.length < q.length
      · have hd1 : decide ((q.length : Int) > most - l.length) = true := by simp; omega
        go_wp2_with (fail)
        go_ret
        exact Or.inr (Or.inl ⟨hmf, hlr, rfl, hw⟩)
      · have hd1 : decide ((q.length : Int) > most - l.length) = false := by simp; omega
        have cL := r_List base g v most l w1 hR
        go_wp2_with (fail)
        refine cL.mono ?_
        rintro e_ w2 ⟨u2, rfl, hO, hb⟩
        have sz1 := hw.size
        have lg1 := lt_of_row hR.row
        replace hR := hR.keep hb
        replace hq := hq.keep hb
        replace hw := Below.after hw hb
        have sz2 := hb.size
        clear hb cL
        obtain ⟨ao2, n2, cap2, rfl⟩ : ∃ ao n c, u2 = .slice ao n c := by obtain ⟨a_, c_, h_⟩ := slen_own hO.1; exact ⟨a_, _, c_, h_⟩
        go_wp2_with (first | (at_builtin; refine wpList_append_Sw rfl _ _ rfl w1.heap.size _ l rfl hO _ q rfl hq (by omega) (by omega) ?_) | fail)
        intro uN wN hON hgN hxN
        have hwN : Below w.heap.size w wN := hw.grown hgN hw.size (fun k_ e_ => by have := (hO.1.lt k_ e_).1; omega)
        have rN : wN.heap[g]? = some (.cells #[.int .i64 most, v] 73 (0, 0)) := (hgN.block g (lt_of_row hR.row) (fun e_ => by have := (hO.1.lt g e_.symm).1; omega)).trans hR.row
        have c1 : wN.cell? ⟨g, 1, none⟩ = some v := by rw [cell_of_row _ _ _ _ _ _ rN]; rfl
        have f1 := row_frozen rN 1
        have hneN : uN.ownBlock ≠ some g := fun e_ => by have := (hON.1.lt g e_).1; omega
        obtain ⟨aoN, nN, cN, rfl⟩ : ∃ ao n c, uN = .slice ao n c := by obtain ⟨a_, c_, h_⟩ := slen_own hON.1; exact ⟨a_, _, c_, h_⟩
        clear hgN hxN
        obtain ⟨aov, nv, cv, rfl⟩ : ∃ ao n c, v = .slice ao n c := by obtain ⟨a_, c_, h_⟩ := slen_own hR.own.1; exact ⟨a_, _, c_, h_⟩
        go_wp2_with (fail)
        go_ret
        refine Or.inr (Or.inr ⟨hmf, by omega, _, rfl, ⟨?_, ⟨own_move (own_down hON.1 (show min base w.heap.size ≤ w1.heap.size by omega)) (fun k_ e_ => heap_setCell_other _ _ _ _ (fun e2 => hneN (by rw [e_]; exact congrArg some e2))), hON.2⟩, hR.most0, by rw [List.length_append]; omega, nd, by omega, hneN⟩, ?_⟩)
        · rw [heap_setCell_same _ g 1 _ _ _ rN]; rfl
        · exact Fr.setCell (X := fun k => k = g) (Fr.of hwN) (b := g) (o := 1) rfl _
set_option maxRecDepth 100000 in
set_option maxHeartbeats 4000000 in
theorem r_From_bad (most : Int) (h0 : most < 0 ∨ 2000 < most) (u : Value) (w : World) : Calls Try.prog 16 #[.int .i64 most, u] w fun e w' => e = .returned (.tuple #[.pointer none, .int .i64 1]) ∧ Below w.heap.size w w' := by
  have cN := r_New_no most h0 w
  go_enter Try.func16, Try.ntmps16
  go_wp2_with (fail)
  refine cN.mono ?_
  rintro e_ w1 ⟨rfl, rfl⟩
  go_wp2_with (fail)
  go_ret2
  exact ⟨rfl, Below.refl _ _⟩
theorem r_Put_no (base g : Nat) (v : Value) (most : Int) (l : List Sr) (q : List Sr) (u : Value) (w : World) (hR : Rst w base g v most l) (hq : SpL w u q) (E : Int) (hE : pe l q most = E) (hne : E ≠ 0) : Calls Try.prog 30 #[.pointer (some ⟨g, 0, none⟩), u] w fun e w' => e = .returned (.int .i64 E) ∧ Below w.heap.size w w' := by
  refine (r_Put_all base g v most l q u w hR hq).mono (fun e w' h => ?_)
  rcases h with ⟨h1, h2, h3⟩ | ⟨h1, h2, h3, h4⟩ | ⟨h1, h2, _⟩
  · rw [pe, if_pos h1] at hE
    rw [← hE]; exact ⟨h2, h3⟩
  · rw [pe, if_neg (by rw [h1]; decide), if_pos h2] at hE
    rw [← hE]; exact ⟨h3, h4⟩
  · rw [pe, if_neg (by rw [h1]; decide), if_neg h2] at hE
    exact absurd hE.symm hne
theorem r_Put_go (base g : Nat) (v : Value) (most : Int) (l : List Sr) (q : List Sr) (u : Value) (w : World) (hR : Rst w base g v most l) (hq : SpL w u q) (hm : mts l q = false) (hl : (l.length : Int) + q.length ≤ most) : Calls Try.prog 30 #[.pointer (some ⟨g, 0, none⟩), u] w fun e w' => ∃ v', e = .returned (.int .i64 0) ∧ Rst w' (min base w.heap.size) g v' most (l ++ q) ∧ Fr (fun k => k = g) w w' := by
  refine (r_Put_all base g v most l q u w hR hq).mono (fun e w' h => ?_)
  rcases h with ⟨h1, _⟩ | ⟨_, h2, _⟩ | ⟨_, _, h⟩
  · rw [hm] at h1; cases h1
  · omega
  · exact h
set_option maxRecDepth 100000 in
set_option maxHeartbeats 4000000 in
theorem r_From_no (most : Int) (h0 : 0 ≤ most) (h1 : most ≤ 2000) (q : List Sr) (u : Value) (w : World) (hq : SpL w u q) (E : Int) (hE : pe [] q most = E) (hne : E ≠ 0) : Calls Try.prog 16 #[.int .i64 most, u] w fun e w' => e = .returned (.tuple #[.pointer none, .int .i64 E]) ∧ Below w.heap.size w w' := by
  have cN := r_New most h0 h1 w
  have hd : decide (E = 0) = false := by simpa using hne
  go_enter Try.func16, Try.ntmps16
  go_wp2_with (fail)
  refine cN.mono ?_
  rintro e_ w1 ⟨g, rfl, hS, hb⟩
  have cP := r_Put_no w.heap.size g _ most [] q u w1 hS (hq.keep hb) E hE hne
  clear hE
  go_wp2_with (fail)
  refine cP.mono ?_
  rintro e_ w2 ⟨rfl, hb2⟩
  replace hb := Below.after hb hb2
  go_wp2_with (fail)
  go_ret2
  exact ⟨rfl, hb⟩
set_option maxRecDepth 100000 in
set_option maxHeartbeats 4000000 in
theorem r_From_go (most : Int) (h0 : 0 ≤ most) (h1 : most ≤ 2000) (q : List Sr) (u : Value) (w : World) (hq : SpL w u q) (hm : mts [] q = false) (hl : (q.length : Int) ≤ most) : Calls Try.prog 16 #[.int .i64 most, u] w fun e w' => ∃ g v, e = .returned (.tuple #[.pointer (some ⟨g, 0, none⟩), .int .i64 0]) ∧ Rst w' w.heap.size g v most q ∧ Below w.heap.size w w' := by
  have cN := r_New most h0 h1 w
  go_enter Try.func16, Try.ntmps16
  go_wp2_with (fail)
  refine cN.mono ?_
  rintro e_ w1 ⟨g, rfl, hS, hb⟩
  have hb0 := hb.size
  have cP := r_Put_go w.heap.size g _ most [] q u w1 hS (hq.keep hb) hm (by simpa using hl)
  go_wp2_with (fail)
  refine cP.mono ?_
  rintro e_ w2 ⟨v2, rfl, hS2, hf⟩
  replace hb := Below.trans hb (hS.below (hf.mono (fun _ _ e => .inl e)) hb.size)
  rw [List.nil_append, Nat.min_eq_left hb0] at hS2
  clear hf hS
  go_wp2_with (fail)
  go_ret2
  exact ⟨g, v2, rfl, hS2, hb⟩

end Go.Proofs.Ytebgdenfaiinmaa
