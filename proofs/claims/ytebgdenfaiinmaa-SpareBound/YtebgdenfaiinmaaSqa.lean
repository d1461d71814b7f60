import Derived.Test.YtebgdenfaiinmaaProg
import Derived.WalkKit
import Derived.WalkSpells
import Derived.WalkLawsBesides
import Derived.Lib.QuietBelow
import Derived.BigQuiet
import Derived.OrdersHeld
import Derived.Deep.RegionHeld3
import Derived.OwnWalk
import Derived.Test.YtebgdenfaiinmaaKit
import Derived.Test.YtebgdenfaiinmaaSpz
namespace Go.Proofs.Ytebgdenfaiinmaa
open Go Go.RowKit Go.Sort Go.ChangeMaps Go.MapKept
attribute [local go_sem] setCell_drewN alloc_drewN

/-- Is x a header key of the first so many? -/
def shd (l : List Sr) (x : List Int) : Nat → Bool
  | 0 => false
  | j + 1 => shd l x j || decide ((gs l j).h = x)
theorem mem_hdn (l : List Sr) (x : List Int) : ∀ k, x ∈ hdn l k ↔ shd l x k = true
  | 0 => by simp [hdn, shd]
  | k + 1 => by
    have ih := mem_hdn l x k
    have ih2 := mem_hdn l (gs l k).h k
    rw [shd, Bool.or_eq_true, ← ih, decide_eq_true_eq, hdn]
    split
    · rename_i h
      have hm := (plc_t _ _).1 h
      constructor
      · exact fun h => .inl h
      · rintro (h | rfl)
        · exact h
        · exact hm
    · rw [List.mem_append, List.mem_singleton]
      constructor
      · rintro (h | rfl)
        · exact .inl h
        · exact .inr rfl
      · rintro (h | rfl)
        · exact .inl h
        · exact .inr rfl
theorem hdn_y {l : List Sr} {k : Nat} (h : shd l (gs l k).h k = true) : hdn l (k + 1) = hdn l k := by
  rw [hdn, if_pos ((plc_t _ _).2 ((mem_hdn _ _ _).2 h))]
theorem hdn_n {l : List Sr} {k : Nat} (h : shd l (gs l k).h k = false) : hdn l (k + 1) = hdn l k ++ [(gs l k).h] := by
  rw [hdn, if_neg (fun e => by have := (mem_hdn _ _ _).1 ((plc_t _ _).1 e); rw [h] at this; cases this)]
set_option maxRecDepth 100000 in
set_option maxHeartbeats 4000000 in
theorem r_Headers (base g : Nat) (v : Value) (most : Int) (l : List Sr) (w : World) (hR : Rst w base g v most l) : Calls Try.prog 43 #[.pointer (some ⟨g, 0, none⟩)] w fun e w' => ∃ u, e = .returned u ∧ OwnK w' w.heap.size u (hds l) ∧ Below w.heap.size w w' := by
  have hok := hR.own.2
  have hm0 := hR.most0
  have hln := hR.len
  obtain ⟨ao, cap, rfl⟩ := slen_own hR.own.1
  go_enter Try.func43, Try.ntmps43
  go_wp2_with (fail)
  go_loopw [3, 4] (fun u3 i wr => ∃ k : Nat, k ≤ l.length ∧ i = .int .i64 k ∧ OwnK wr w.heap.size u3 (hdn l k) ∧ Below w.heap.size w wr) (fun _ i _ => l.length - (intOf i).toNat)
  case atStart => exact ⟨0, by omega, rfl, ⟨rfl, .inl ⟨rfl, rfl⟩⟩, Below.refl _ _⟩
  case round =>
    obtain ⟨k, hk, rfl, hO, hw⟩ := hrel
    have c1 := (hR.keep hw).c1
    by_cases hlt : k < l.length
    · have hd : decide ((k : Int) < (l.length : Int)) = true := by simp; omega
      obtain ⟨b1, o1, rfl, hb1, r0⟩ := hR.spl.at hlt
      have ok1 := hok.at hlt
      have hk1 : 0 ≤ (k : Int) ∧ (k : Int) < (l.length : Int) := by omega
      have r1 := rangeAt_keep r0 (hw.block b1 hb1)
      go_wp2_with (fail)
      go_loopw [5, 6] (fun sb ji wi => ∃ j : Nat, j ≤ k ∧ ji = .int .i64 j ∧ sb = .bool (shd l (gs l k).h j) ∧ OwnK wi w.heap.size u3 (hdn l k) ∧ Below w.heap.size w wi) (fun _ ji _ => k - (intOf ji).toNat)
      case atStart => exact ⟨0, by omega, rfl, rfl, hO, hw⟩
      case round =>
        clear hO hw c1 r1
        obtain ⟨j, hj, rfl, rfl, hO, hw⟩ := hrel
        replace hR := hR.keep hw
        have c1 := hR.c1
        have r1 := rangeAt_keep r0 (hw.block b1 hb1)
        by_cases hlj : j < k
        · have hd2 : decide ((j : Int) < (k : Int)) = true := by simp; omega
          have okj := hok.at (show j < l.length by omega)
          have hj1 : 0 ≤ (j : Int) ∧ (j : Int) < (l.length : Int) := by omega
          have rj : wr.rangeAt b1 (o1 + j * 65) (srl (gs l j)) := by
            obtain ⟨b_, o_, e_, _, h_⟩ := hR.spl.at (show j < l.length by omega)
            cases e_
            exact h_
          have hb9 : b1 < wr.heap.size := Nat.lt_of_lt_of_le hb1 hw.size
          have htk : Hid (shd l (gs l k).h (j + 1) = (shd l (gs l k).h j || decide ((gs l j).h = (gs l k).h))) := hide rfl
          go_wp2_with (fail)
          have hbd : Below wr.heap.size wr wr.drew := below_drN (Below.refl _ _) 1
          replace r1 := rangeAt_keep r1 (hbd.block b1 hb9)
          replace rj := rangeAt_keep rj (hbd.block b1 hb9)
          replace hR := hR.keep hbd
          replace hO := hO.keep hbd
          replace c1 := hR.c1
          replace hw := Below.after hw hbd
          clear hbd hb9
          cases hsb : shd l (gs l k).h j
          · rw [hsb, Bool.false_or] at htk
            refine wp_region_noPanic ?_
            refine wp_region_held (S := fun W => W.cell? ⟨g, 1, none⟩ = some (.slice (some ⟨b1, o1, none⟩) l.length cap) ∧ W.rangeAt b1 (o1 + j * 65) (srl (gs l j)) ∧ W.rangeAt b1 (o1 + k * 65) (srl (gs l k))) (by kernel_rfl) ?_
            change wpAnyH _ _ _ _ _ _ _ _ (World.drew _)
            generalize wr.drew = w2 at *
            refine wpAnyH_take (i := 0) (v := ?v70) rfl (by kernel_rfl) (by kernel_rfl) (by kernel_rfl) (fun _ _ _ h => h) (Or.inl ⟨by rfl, ?y70⟩) ⟨c1, rj, r1⟩ ?r70
            case y70 =>
              intro w_ hS_
              go_simp
              try with_reducible rfl
            simp only [Act.put, List.getElem_toArray, List.getElem_cons_zero, List.setIfInBounds_toArray, List.set_cons_succ, List.set_cons_zero]
            refine wpAnyH_take (i := 1) (v := ?v71) rfl (by kernel_rfl) (by kernel_rfl) (by kernel_rfl) (fun _ _ _ h => h) (Or.inl ⟨by rfl, ?y71⟩) ⟨c1, rj, r1⟩ ?r71
            case y71 =>
              intro w_ hS_
              go_simp
              try with_reducible rfl
            simp only [Act.put, List.getElem_toArray, List.getElem_cons_succ, List.getElem_cons_zero, List.setIfInBounds_toArray, List.set_cons_succ, List.set_cons_zero]
            refine wpAnyH_take (i := 2) (v := ?v72) rfl (by kernel_rfl) (by kernel_rfl) (by kernel_rfl) (fun _ _ _ h => h) (Or.inl ⟨by rfl, ?y72⟩) ⟨c1, rj, r1⟩ ?r72
            case y72 =>
              intro w_ hS_
              go_simp
              try with_reducible rfl
            simp only [Act.put, List.getElem_toArray, List.getElem_cons_succ, List.getElem_cons_zero, List.setIfInBounds_toArray, List.set_cons_succ, List.set_cons_zero]
            refine wpAnyH_take (i := 3) (v := ?v73) rfl (by kernel_rfl) (by kernel_rfl) (by kernel_rfl) (fun _ _ _ h => h) (Or.inl ⟨by rfl, ?y73⟩) ⟨c1, rj, r1⟩ ?r73
            case y73 =>
              intro w_ hS_
              go_simp
              try with_reducible rfl
            simp only [Act.put, List.getElem_toArray, List.getElem_cons_succ, List.getElem_cons_zero, List.setIfInBounds_toArray, List.set_cons_succ, List.set_cons_zero]
            refine wpAnyH_take (i := 4) (v := ?v74) rfl (by kernel_rfl) (by kernel_rfl) (by kernel_rfl) (fun _ _ _ h => h) (Or.inl ⟨by rfl, ?y74⟩) ⟨c1, rj, r1⟩ ?r74
            case y74 =>
              intro w_ hS_
              go_simp
              try with_reducible rfl
            simp only [Act.put, List.getElem_toArray, List.getElem_cons_succ, List.getElem_cons_zero, List.setIfInBounds_toArray, List.set_cons_succ, List.set_cons_zero]
            refine wpAnyH_take (i := 5) (v := .slice (some ⟨b1, o1, none⟩) l.length cap) rfl (by kernel_rfl) (by kernel_rfl) (by kernel_rfl) (fun _ _ _ h => h) (Or.inl ⟨by rfl, ?y75⟩) ⟨c1, rj, r1⟩ ?r75
            case y75 =>
              intro w_ hS_
              have c_ := hS_.1
              go_simp
              try with_reducible rfl
            simp only [Act.put, List.getElem_toArray, List.getElem_cons_succ, List.getElem_cons_zero, List.setIfInBounds_toArray, List.set_cons_succ, List.set_cons_zero]
            refine wpAnyH_take (i := 6) (v := ?v76) rfl (by kernel_rfl) (by kernel_rfl) (by kernel_rfl) (fun _ _ _ h => h) (Or.inl ⟨by rfl, ?y76⟩) ⟨c1, rj, r1⟩ ?r76
            case y76 =>
              intro w_ hS_
              go_simp
              try with_reducible rfl
            simp only [Act.put, List.getElem_toArray, List.getElem_cons_succ, List.getElem_cons_zero, List.setIfInBounds_toArray, List.set_cons_succ, List.set_cons_zero]
            refine wpAnyH_take (i := 7) (v := ?v77) rfl (by kernel_rfl) (by kernel_rfl) (by kernel_rfl) (fun _ _ _ h => h) (Or.inl ⟨by rfl, ?y77⟩) ⟨c1, rj, r1⟩ ?r77
            case y77 =>
              intro w_ hS_
              go_simp
              try with_reducible rfl
            simp only [Act.put, List.getElem_toArray, List.getElem_cons_succ, List.getElem_cons_zero, List.setIfInBounds_toArray, List.set_cons_succ, List.set_cons_zero]
            refine wpAnyH_take (i := 8) (v := ?v78) rfl (by kernel_rfl) (by kernel_rfl) (by kernel_rfl) (fun _ _ _ h => h) (Or.inl ⟨by rfl, ?y78⟩) ⟨c1, rj, r1⟩ ?r78
            case y78 =>
              intro w_ hS_
              go_simp
              try with_reducible rfl
            simp only [Act.put, List.getElem_toArray, List.getElem_cons_succ, List.getElem_cons_zero, List.setIfInBounds_toArray, List.set_cons_succ, List.set_cons_zero]
            refine wpAnyH_take (i := 9) (v := .agg (irow .u8 (gs l j).h)) rfl (by kernel_rfl) (by kernel_rfl) (by kernel_rfl) (fun _ _ _ h => h) (Or.inl ⟨by rfl, ?y79⟩) ⟨c1, rj, r1⟩ ?r79
            case y79 =>
              intro w_ hS_
              simp only [List.getElem_toArray, List.getElem_cons_succ, List.getElem_cons_zero]
              exact run_load_range 40 _ (by rfl) b1 (o1 + j * 65) (by rfl) ((gs l j).h.map (Value.int .u8)) _ (range_h hS_.2.1) Try.underlying40 rfl (infoh _ okj.1)
            simp only [Act.put, List.getElem_toArray, List.getElem_cons_succ, List.getElem_cons_zero, List.setIfInBounds_toArray, List.set_cons_succ, List.set_cons_zero]
            refine wpAnyH_take (i := 10) (v := ?v80) rfl (by kernel_rfl) (by kernel_rfl) (by kernel_rfl) (fun _ _ _ h => h) (Or.inl ⟨by rfl, ?y80⟩) ⟨c1, rj, r1⟩ ?r80
            case y80 =>
              intro w_ hS_
              go_simp
              try with_reducible rfl
            simp only [Act.put, List.getElem_toArray, List.getElem_cons_succ, List.getElem_cons_zero, List.setIfInBounds_toArray, List.set_cons_succ, List.set_cons_zero]
            refine wpAnyH_take (i := 11) (v := ?v81) rfl (by kernel_rfl) (by kernel_rfl) (by kernel_rfl) (fun _ _ _ h => h) (Or.inl ⟨by rfl, ?y81⟩) ⟨c1, rj, r1⟩ ?r81
            case y81 =>
              intro w_ hS_
              go_simp
              try with_reducible rfl
            simp only [Act.put, List.getElem_toArray, List.getElem_cons_succ, List.getElem_cons_zero, List.setIfInBounds_toArray, List.set_cons_succ, List.set_cons_zero]
            refine wpAnyH_take (i := 12) (v := ?v82) rfl (by kernel_rfl) (by kernel_rfl) (by kernel_rfl) (fun _ _ _ h => h) (Or.inl ⟨by rfl, ?y82⟩) ⟨c1, rj, r1⟩ ?r82
            case y82 =>
              intro w_ hS_
              go_simp
              try with_reducible rfl
            simp only [Act.put, List.getElem_toArray, List.getElem_cons_succ, List.getElem_cons_zero, List.setIfInBounds_toArray, List.set_cons_succ, List.set_cons_zero]
            refine wpAnyH_take (i := 13) (v := .slice (some ⟨b1, o1, none⟩) l.length cap) rfl (by kernel_rfl) (by kernel_rfl) (by kernel_rfl) (fun _ _ _ h => h) (Or.inl ⟨by rfl, ?y83⟩) ⟨c1, rj, r1⟩ ?r83
            case y83 =>
              intro w_ hS_
              have c_ := hS_.1
              go_simp
              try with_reducible rfl
            simp only [Act.put, List.getElem_toArray, List.getElem_cons_succ, List.getElem_cons_zero, List.setIfInBounds_toArray, List.set_cons_succ, List.set_cons_zero]
            refine wpAnyH_take (i := 14) (v := ?v84) rfl (by kernel_rfl) (by kernel_rfl) (by kernel_rfl) (fun _ _ _ h => h) (Or.inl ⟨by rfl, ?y84⟩) ⟨c1, rj, r1⟩ ?r84
            case y84 =>
              intro w_ hS_
              go_simp
              try with_reducible rfl
            simp only [Act.put, List.getElem_toArray, List.getElem_cons_succ, List.getElem_cons_zero, List.setIfInBounds_toArray, List.set_cons_succ, List.set_cons_zero]
            refine wpAnyH_take (i := 15) (v := ?v85) rfl (by kernel_rfl) (by kernel_rfl) (by kernel_rfl) (fun _ _ _ h => h) (Or.inl ⟨by rfl, ?y85⟩) ⟨c1, rj, r1⟩ ?r85
            case y85 =>
              intro w_ hS_
              go_simp
              try with_reducible rfl
            simp only [Act.put, List.getElem_toArray, List.getElem_cons_succ, List.getElem_cons_zero, List.setIfInBounds_toArray, List.set_cons_succ, List.set_cons_zero]
            refine wpAnyH_take (i := 16) (v := ?v86) rfl (by kernel_rfl) (by kernel_rfl) (by kernel_rfl) (fun _ _ _ h => h) (Or.inl ⟨by rfl, ?y86⟩) ⟨c1, rj, r1⟩ ?r86
            case y86 =>
              intro w_ hS_
              go_simp
              try with_reducible rfl
            simp only [Act.put, List.getElem_toArray, List.getElem_cons_succ, List.getElem_cons_zero, List.setIfInBounds_toArray, List.set_cons_succ, List.set_cons_zero]
            refine wpAnyH_take (i := 17) (v := .agg (irow .u8 (gs l k).h)) rfl (by kernel_rfl) (by kernel_rfl) (by kernel_rfl) (fun _ _ _ h => h) (Or.inl ⟨by rfl, ?y87⟩) ⟨c1, rj, r1⟩ ?r87
            case y87 =>
              intro w_ hS_
              simp only [List.getElem_toArray, List.getElem_cons_succ, List.getElem_cons_zero]
              exact run_load_range 40 _ (by rfl) b1 (o1 + k * 65) (by rfl) ((gs l k).h.map (Value.int .u8)) _ (range_h hS_.2.2) Try.underlying40 rfl (infoh _ ok1.1)
            simp only [Act.put, List.getElem_toArray, List.getElem_cons_succ, List.getElem_cons_zero, List.setIfInBounds_toArray, List.set_cons_succ, List.set_cons_zero]
            refine wpAnyH_take (i := 18) (v := .bool (decide ((gs l j).h = (gs l k).h))) rfl (by kernel_rfl) (by kernel_rfl) (by kernel_rfl) (fun _ _ _ h => h) (Or.inl ⟨by rfl, ?y88⟩) ⟨c1, rj, r1⟩ ?r88
            case y88 =>
              intro w_ hS_
              simp only [List.getElem_toArray, List.getElem_cons_succ, List.getElem_cons_zero]
              exact run_eql_op 40 40 _ _ (by rfl) (irow .u8 (gs l j).h) (irow .u8 (gs l k).h) (by rfl) (by rfl) egK _ (eq_key 9998 (gs l j).h (gs l k).h okj.1 ok1.1 w_)
            simp only [Act.put, List.getElem_toArray, List.getElem_cons_succ, List.getElem_cons_zero, List.setIfInBounds_toArray, List.set_cons_succ, List.set_cons_zero]
            refine wpAnyH_take (i := 19) (v := ?v89) rfl (by kernel_rfl) (by kernel_rfl) (by kernel_rfl) (fun _ _ _ h => h) (Or.inl ⟨by rfl, ?y89⟩) ⟨c1, rj, r1⟩ ?r89
            case y89 =>
              intro w_ hS_
              go_simp
              try with_reducible rfl
            simp only [Act.put, List.getElem_toArray, List.getElem_cons_succ, List.getElem_cons_zero, List.setIfInBounds_toArray, List.set_cons_succ, List.set_cons_zero]
            refine wpAnyH_take (i := 20) (v := ?v90) rfl (by kernel_rfl) (by kernel_rfl) (by kernel_rfl) (fun _ _ _ h => h) (Or.inl ⟨by rfl, ?y90⟩) ⟨c1, rj, r1⟩ ?r90
            case y90 =>
              intro w_ hS_
              go_simp
              try with_reducible rfl
            simp only [Act.put, List.getElem_toArray, List.getElem_cons_succ, List.getElem_cons_zero, List.setIfInBounds_toArray, List.set_cons_succ, List.set_cons_zero]
            refine wpAnyH_done (by kernel_rfl) ?_ _
            refine NoPanic.normal ?_
            go_wp2_with (fail)
            refine ⟨⟨j + 1, by omega, by go_num, by rw [htk.out], hO, hw⟩, ?_⟩
            simp [intOf]; omega
          · rw [hsb, Bool.true_or] at htk
            refine wp_region_noPanic ?_
            refine wp_region_held (S := fun W => W.cell? ⟨g, 1, none⟩ = some (.slice (some ⟨b1, o1, none⟩) l.length cap) ∧ W.rangeAt b1 (o1 + j * 65) (srl (gs l j)) ∧ W.rangeAt b1 (o1 + k * 65) (srl (gs l k))) (by kernel_rfl) ?_
            change wpAnyH _ _ _ _ _ _ _ _ (World.drew _)
            generalize wr.drew = w2 at *
            refine wpAnyH_take (i := 0) (v := ?v49) rfl (by kernel_rfl) (by kernel_rfl) (by kernel_rfl) (fun _ _ _ h => h) (Or.inl ⟨by rfl, ?y49⟩) ⟨c1, rj, r1⟩ ?r49
            case y49 =>
              intro w_ hS_
              go_simp
              try with_reducible rfl
            simp only [Act.put, List.getElem_toArray, List.getElem_cons_zero, List.setIfInBounds_toArray, List.set_cons_succ, List.set_cons_zero]
            refine wpAnyH_take (i := 1) (v := ?v50) rfl (by kernel_rfl) (by kernel_rfl) (by kernel_rfl) (fun _ _ _ h => h) (Or.inl ⟨by rfl, ?y50⟩) ⟨c1, rj, r1⟩ ?r50
            case y50 =>
              intro w_ hS_
              go_simp
              try with_reducible rfl
            simp only [Act.put, List.getElem_toArray, List.getElem_cons_succ, List.getElem_cons_zero, List.setIfInBounds_toArray, List.set_cons_succ, List.set_cons_zero]
            refine wpAnyH_take (i := 2) (v := undef) rfl (by kernel_rfl) (by kernel_rfl) (by kernel_rfl) (fun _ _ _ h => h) (Or.inr ⟨by rfl, rfl⟩) ⟨c1, rj, r1⟩ ?r51
            simp only [Act.put, List.getElem_toArray, List.getElem_cons_succ, List.getElem_cons_zero, List.setIfInBounds_toArray, List.set_cons_succ, List.set_cons_zero]
            refine wpAnyH_take (i := 3) (v := undef) rfl (by kernel_rfl) (by kernel_rfl) (by kernel_rfl) (fun _ _ _ h => h) (Or.inr ⟨by rfl, rfl⟩) ⟨c1, rj, r1⟩ ?r52
            simp only [Act.put, List.getElem_toArray, List.getElem_cons_succ, List.getElem_cons_zero, List.setIfInBounds_toArray, List.set_cons_succ, List.set_cons_zero]
            refine wpAnyH_take (i := 4) (v := undef) rfl (by kernel_rfl) (by kernel_rfl) (by kernel_rfl) (fun _ _ _ h => h) (Or.inr ⟨by rfl, rfl⟩) ⟨c1, rj, r1⟩ ?r53
            simp only [Act.put, List.getElem_toArray, List.getElem_cons_succ, List.getElem_cons_zero, List.setIfInBounds_toArray, List.set_cons_succ, List.set_cons_zero]
            refine wpAnyH_take (i := 5) (v := undef) rfl (by kernel_rfl) (by kernel_rfl) (by kernel_rfl) (fun _ _ _ h => h) (Or.inr ⟨by rfl, rfl⟩) ⟨c1, rj, r1⟩ ?r54
            simp only [Act.put, List.getElem_toArray, List.getElem_cons_succ, List.getElem_cons_zero, List.setIfInBounds_toArray, List.set_cons_succ, List.set_cons_zero]
            refine wpAnyH_take (i := 6) (v := undef) rfl (by kernel_rfl) (by kernel_rfl) (by kernel_rfl) (fun _ _ _ h => h) (Or.inr ⟨by rfl, rfl⟩) ⟨c1, rj, r1⟩ ?r55
            simp only [Act.put, List.getElem_toArray, List.getElem_cons_succ, List.getElem_cons_zero, List.setIfInBounds_toArray, List.set_cons_succ, List.set_cons_zero]
            refine wpAnyH_take (i := 7) (v := undef) rfl (by kernel_rfl) (by kernel_rfl) (by kernel_rfl) (fun _ _ _ h => h) (Or.inr ⟨by rfl, rfl⟩) ⟨c1, rj, r1⟩ ?r56
            simp only [Act.put, List.getElem_toArray, List.getElem_cons_succ, List.getElem_cons_zero, List.setIfInBounds_toArray, List.set_cons_succ, List.set_cons_zero]
            refine wpAnyH_take (i := 8) (v := undef) rfl (by kernel_rfl) (by kernel_rfl) (by kernel_rfl) (fun _ _ _ h => h) (Or.inr ⟨by rfl, rfl⟩) ⟨c1, rj, r1⟩ ?r57
            simp only [Act.put, List.getElem_toArray, List.getElem_cons_succ, List.getElem_cons_zero, List.setIfInBounds_toArray, List.set_cons_succ, List.set_cons_zero]
            refine wpAnyH_take (i := 9) (v := undef) rfl (by kernel_rfl) (by kernel_rfl) (by kernel_rfl) (fun _ _ _ h => h) (Or.inr ⟨by rfl, rfl⟩) ⟨c1, rj, r1⟩ ?r58
            simp only [Act.put, List.getElem_toArray, List.getElem_cons_succ, List.getElem_cons_zero, List.setIfInBounds_toArray, List.set_cons_succ, List.set_cons_zero]
            refine wpAnyH_take (i := 10) (v := undef) rfl (by kernel_rfl) (by kernel_rfl) (by kernel_rfl) (fun _ _ _ h => h) (Or.inr ⟨by rfl, rfl⟩) ⟨c1, rj, r1⟩ ?r59
            simp only [Act.put, List.getElem_toArray, List.getElem_cons_succ, List.getElem_cons_zero, List.setIfInBounds_toArray, List.set_cons_succ, List.set_cons_zero]
            refine wpAnyH_take (i := 11) (v := undef) rfl (by kernel_rfl) (by kernel_rfl) (by kernel_rfl) (fun _ _ _ h => h) (Or.inr ⟨by rfl, rfl⟩) ⟨c1, rj, r1⟩ ?r60
            simp only [Act.put, List.getElem_toArray, List.getElem_cons_succ, List.getElem_cons_zero, List.setIfInBounds_toArray, List.set_cons_succ, List.set_cons_zero]
            refine wpAnyH_take (i := 12) (v := undef) rfl (by kernel_rfl) (by kernel_rfl) (by kernel_rfl) (fun _ _ _ h => h) (Or.inr ⟨by rfl, rfl⟩) ⟨c1, rj, r1⟩ ?r61
            simp only [Act.put, List.getElem_toArray, List.getElem_cons_succ, List.getElem_cons_zero, List.setIfInBounds_toArray, List.set_cons_succ, List.set_cons_zero]
            refine wpAnyH_take (i := 13) (v := undef) rfl (by kernel_rfl) (by kernel_rfl) (by kernel_rfl) (fun _ _ _ h => h) (Or.inr ⟨by rfl, rfl⟩) ⟨c1, rj, r1⟩ ?r62
            simp only [Act.put, List.getElem_toArray, List.getElem_cons_succ, List.getElem_cons_zero, List.setIfInBounds_toArray, List.set_cons_succ, List.set_cons_zero]
            refine wpAnyH_take (i := 14) (v := undef) rfl (by kernel_rfl) (by kernel_rfl) (by kernel_rfl) (fun _ _ _ h => h) (Or.inr ⟨by rfl, rfl⟩) ⟨c1, rj, r1⟩ ?r63
            simp only [Act.put, List.getElem_toArray, List.getElem_cons_succ, List.getElem_cons_zero, List.setIfInBounds_toArray, List.set_cons_succ, List.set_cons_zero]
            refine wpAnyH_take (i := 15) (v := undef) rfl (by kernel_rfl) (by kernel_rfl) (by kernel_rfl) (fun _ _ _ h => h) (Or.inr ⟨by rfl, rfl⟩) ⟨c1, rj, r1⟩ ?r64
            simp only [Act.put, List.getElem_toArray, List.getElem_cons_succ, List.getElem_cons_zero, List.setIfInBounds_toArray, List.set_cons_succ, List.set_cons_zero]
            refine wpAnyH_take (i := 16) (v := undef) rfl (by kernel_rfl) (by kernel_rfl) (by kernel_rfl) (fun _ _ _ h => h) (Or.inr ⟨by rfl, rfl⟩) ⟨c1, rj, r1⟩ ?r65
            simp only [Act.put, List.getElem_toArray, List.getElem_cons_succ, List.getElem_cons_zero, List.setIfInBounds_toArray, List.set_cons_succ, List.set_cons_zero]
            refine wpAnyH_take (i := 17) (v := undef) rfl (by kernel_rfl) (by kernel_rfl) (by kernel_rfl) (fun _ _ _ h => h) (Or.inr ⟨by rfl, rfl⟩) ⟨c1, rj, r1⟩ ?r66
            simp only [Act.put, List.getElem_toArray, List.getElem_cons_succ, List.getElem_cons_zero, List.setIfInBounds_toArray, List.set_cons_succ, List.set_cons_zero]
            refine wpAnyH_take (i := 18) (v := undef) rfl (by kernel_rfl) (by kernel_rfl) (by kernel_rfl) (fun _ _ _ h => h) (Or.inr ⟨by rfl, rfl⟩) ⟨c1, rj, r1⟩ ?r67
            simp only [Act.put, List.getElem_toArray, List.getElem_cons_succ, List.getElem_cons_zero, List.setIfInBounds_toArray, List.set_cons_succ, List.set_cons_zero]
            refine wpAnyH_take (i := 19) (v := ?v68) rfl (by kernel_rfl) (by kernel_rfl) (by kernel_rfl) (fun _ _ _ h => h) (Or.inl ⟨by rfl, ?y68⟩) ⟨c1, rj, r1⟩ ?r68
            case y68 =>
              intro w_ hS_
              go_simp
              try with_reducible rfl
            simp only [Act.put, List.getElem_toArray, List.getElem_cons_succ, List.getElem_cons_zero, List.setIfInBounds_toArray, List.set_cons_succ, List.set_cons_zero]
            refine wpAnyH_take (i := 20) (v := ?v69) rfl (by kernel_rfl) (by kernel_rfl) (by kernel_rfl) (fun _ _ _ h => h) (Or.inl ⟨by rfl, ?y69⟩) ⟨c1, rj, r1⟩ ?r69
            case y69 =>
              intro w_ hS_
              go_simp
              try with_reducible rfl
            simp only [Act.put, List.getElem_toArray, List.getElem_cons_succ, List.getElem_cons_zero, List.setIfInBounds_toArray, List.set_cons_succ, List.set_cons_zero]
            refine wpAnyH_done (by kernel_rfl) ?_ _
            refine NoPanic.normal ?_
            go_wp2_with (fail)
            refine ⟨⟨j + 1, by omega, by go_num, by rw [htk.out], hO, hw⟩, ?_⟩
            simp [intOf]; omega
        · obtain rfl : j = k := by omega
          have hd2 : decide ((j : Int) < (j : Int)) = false := by simp
          have hlk1 := hdn_len l j
          cases hsb : shd l (gs l j).h j
          · have hn := hide (hdn_n hsb)
            have hbx : Below wr.heap.size wr (wr.alloc (.cells (irow .u8 (gs l j).h) 40)) := (Below.refl _ _).alloc (Nat.le_refl _) _
            have hOx := hO.keep hbx
            have hwx := Below.after hw hbx
            have Rx := hp1_0 wr (.cells (irow .u8 (gs l j).h) 40)
            have rr := range_h r1
            have swx := hw.size
            go_wp2_with (first | (refine wpList_load_mid rfl 40 _ rfl b1 (o1 + j * 65) rfl ((gs l j).h.map (Value.int .u8)) _ rr Try.underlying40 rfl (infoh _ ok1.1) ?_) | (refine wpList_bslK rfl _ rfl (gs l j).h ok1.1 rfl ?_) | (at_builtin; refine wpList_append_K rfl _ _ rfl w.heap.size u3 (hdn l j) rfl hOx wr.heap.size (gs l j).h ok1.1 rfl Rx (by omega) (by have := hbx.size; omega) ?_) | fail)
            intro uN wN hON hgN hxN
            have hwN : Below w.heap.size w wN := hwx.grown hgN hwx.size (fun k_ e_ => by have := (World.ownsRow.lt hOx k_ e_).1; omega)
            rw [← hn.out] at hON
            obtain ⟨aoN, nN, cN, rfl⟩ : ∃ ao n c, uN = .slice ao n c := by obtain ⟨a_, c_, h_⟩ := slen_own hON; exact ⟨a_, _, c_, h_⟩
            clear hgN hxN hOx hwx Rx hbx hO
            go_wp2_with (fail)
            refine ⟨⟨j + 1, by omega, by go_num, hON, hwN⟩, ?_⟩
            simp [intOf]; omega
          · have hn := hide (hdn_y hsb)
            rw [← hn.out] at hO
            go_wp2_with (fail)
            refine ⟨⟨j + 1, by omega, by go_num, hO, hw⟩, ?_⟩
            simp [intOf]; omega
    · obtain rfl : k = l.length := by omega
      have hd : decide ((l.length : Int) < (l.length : Int)) = false := by simp
      go_wp2_with (fail)
      go_ret
      exact ⟨_, rfl, hO, hw⟩

end Go.Proofs.Ytebgdenfaiinmaa
