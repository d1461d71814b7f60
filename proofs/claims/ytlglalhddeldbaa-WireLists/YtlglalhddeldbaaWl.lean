import Derived.Test.YtlglalhddeldbaaProg
import Derived.WalkKit
import Derived.WalkSpells
import Derived.WalkLawsBesides
import Derived.Lib.QuietBelow
import Derived.Laws.BitsAllLaws
import Derived.BigQuiet
import Derived.WalkMore
import Derived.Test.YtlglalhddeldbaaKit
import Derived.Test.YtlglalhddeldbaaWk
namespace Go.Proofs.Ytlglalhddeldbaa
open Go Go.RowKit Go.Sort
attribute [local go_sem] setCell_drewN alloc_drewN

theorem bys_two (W : World) (x y : B) : BysB (W.alloc (.cells #[.int .u8 (bv x), .int .u8 (bv y)] 5)) (.slice (some ⟨W.heap.size, 0, none⟩) 2 2) [x, y] :=
  bysB_row (bs := [x, y]) (T := []) (hp1_0 W _) (by simp) 2
theorem j_one : jer [[7#8]] = 0 ∧ jout [[7#8]] = [1#8, 7#8] := by
  have h1 : jn [[7#8]] = [1#8, 7#8] := by rw [jn_one, itm, List.length_singleton, en_lo (by decide)]; rfl
  have hnb : ¬ jbad [[7#8]] := by unfold jbad; rw [h1]; simp
  exact ⟨if_neg hnb, (if_neg hnb).trans h1⟩
theorem ps_take_zero (ps : List (List B)) : ps.take 0 = [] := rfl
set_option maxRecDepth 100000 in
set_option maxHeartbeats 4000000 in
theorem joins_any (ps : List (List B)) (W : World) (v : Value) (hB : PcB W v ps) : Calls Try.prog 6 #[v] W fun e w' => e = .returned (.bool true) ∧ Below W.heap.size W w' := by
  obtain ⟨ao, cap, rfl⟩ := hB.form
  have hlen := hB.len
  have hI0 := its_empty W
  have hw0 : Below W.heap.size W (W.alloc (.cells #[] 22)) := (Below.refl _ _).alloc (Nat.le_refl _) _
  go_enter Try.func6, Try.ntmps6
  go_wp2_with (fail)
  generalize W.alloc (.cells #[] 22) = w0 at *
  go_loopw [3, 4] (fun s i wr => ∃ (k : Nat) (us : List Value), k ≤ ps.length ∧ i = .int .i64 k ∧ (∃ so sc, s = .slice so k sc) ∧ Its wr W.heap.size s us (ps.take k) ∧ Below W.heap.size W wr) (fun _ i _ => ps.length - (intOf i).toNat)
  case atStart => exact ⟨0, [], by omega, rfl, ⟨_, _, rfl⟩, hI0, hw0⟩
  case round =>
    clear hI0 hw0
    rename_i s0
    obtain ⟨k, us, hk, rfl, ⟨so, sc, rfl⟩, hI, hw⟩ := hrel
    by_cases hlt : k < ps.length
    · have hd : decide ((k : Int) < (ps.length : Int)) = true := by simp; omega
      obtain ⟨b, off, uo, uc, e, hb1, hb2, hb3, hb4⟩ := hB.at hlt
      subst e
      have hsn : Hid (ps.take (k + 1) = ps.take k ++ [gp ps k]) := hide (take_snoc ps k hlt)
      have hk1 : 0 ≤ (k : Int) ∧ (k : Int) < (ps.length : Int) := by omega
      have hbe : Below wr.heap.size wr (wr.alloc (.cells #[] 5)) := (Below.refl _ _).alloc (Nat.le_refl _) _
      have hwe := Below.after hw hbe
      have hb2' := (hwe.cell (p := ⟨b, off + k, none⟩) hb1).trans hb2
      have hE := hb3.keep hwe
      have hOn := own_nil wr
      have hhi := hI.high
      have hws := hw.size
      have htl : (ps.take k).length ≤ 5864062014634 := by rw [List.length_take]; omega
      generalize hT : ps.take k = T at *
      generalize hG : gp ps k = G at *
      clear hb3
      go_wp2_with (first | (at_builtin; refine wpList_append_B rfl (.tmp 19) (.tmp 23) rfl wr.heap.size _ [] rfl hOn _ G rfl hE (by simp only [List.length_nil]; omega) hbe.size ?_) | fail)
      intro u2 w2 hO2 hgr
      have hbf := hbe.grown hgr hbe.size (own_low hOn)
      clear hgr hOn hE hb2'
      have hI2 := hI.keep hbf
      have hwf := Below.after hw hbf
      obtain ⟨ao2, ac2, hu2⟩ := slen_own hO2
      have hs2 := hbf.size
      have hba : Below w2.heap.size w2 (w2.alloc (.cells #[u2] 22)) := (Below.refl _ _).alloc (Nat.le_refl _) _
      have hI3 := hI2.keep hba
      have hO3 := own_alloc hO2 (.cells #[u2] 22)
      subst hu2
      go_wp2_with (first | (at_builtin; refine wpList_append_I rfl (.tmp 18) (.tmp 25) rfl W.heap.size _ us T rfl wr.heap.size hI3 hhi.1 hhi.2 hws _ G hO3 w2.heap.size rfl (new_cell1 w2 _ _) htl (by rw [size_alloc1]; omega) ?_) | fail)
      intro v4 w4 hI4 hgr
      have hw4 := (hwf.alloc hwf.size (.cells #[Value.slice ao2 G.length ac2] 22)).grown hgr (by rw [size_alloc1]; omega) (fun k e => (own_high_row hI.1 k e).1)
      obtain ⟨ao4, ac4, hv4⟩ := slen_own hI4.1
      have hlen4 : (us ++ [Value.slice ao2 G.length ac2]).length = k + 1 := by rw [List.length_append, hI.2.1, ← hT, List.length_take, List.length_singleton]; omega
      rw [hlen4] at hv4
      subst hv4
      go_wp2_with (fail)
      refine ⟨⟨k + 1, _, by omega, by go_num, ⟨_, _, rfl⟩, by rw [hsn.out]; exact hI4, hw4⟩, ?_⟩
      simp [intOf]; omega
    · obtain rfl : k = ps.length := by omega
      have hd : decide ((ps.length : Int) < (ps.length : Int)) = false := by simp
      rw [List.take_length] at hI
      have hC := hI.pcb (by omega) (fun i hi => by obtain ⟨_, _, _, _, _, _, _, _, h⟩ := hB.at hi; exact h)
      clear hI
      have cX := a_join ps wr _ hC
      go_wp2_with (fail)
      refine cX.mono ?_
      rintro e_ w5 ⟨x, rfl, hx, hb⟩
      replace hw := Below.after hw hb
      replace hC := hC.keep hb
      clear hb cX
      have cX := r_join ps w5 _ (hB.keep hw)
      go_wp2_with (fail)
      refine cX.mono ?_
      rintro e_ w6 ⟨z, rfl, hz, hb⟩
      replace hw := Below.after hw hb
      replace hC := hC.keep hb
      replace hx := hx.keep hb
      clear hb cX
      have hb7 : Below w6.heap.size w6 ((w6.alloc (.cells #[.int .u8 7] 5)).alloc (.cells #[.slice (some ⟨w6.heap.size, 0, none⟩) 1 1] 22)) := ((Below.refl _ _).alloc (Nat.le_refl _) _).alloc (by simp) _
      have hw7 := Below.after hw hb7
      have hx7 := hx.keep hb7
      have hz7 := hz.keep hb7
      have hC7 := hC.keep hb7
      have hP7 : PcB ((w6.alloc (.cells #[.int .u8 7] 5)).alloc (.cells #[.slice (some ⟨w6.heap.size, 0, none⟩) 1 1] 22)) (.slice (some ⟨w6.heap.size + 1, 0, none⟩) 1 1) [[7#8]] := by
        refine ⟨_, _, rfl, by simp, (fun e => by cases e), fun i hi => ?_⟩
        obtain rfl : i = 0 := by simpa using hi
        refine ⟨w6.heap.size + 1, 0, .slice (some ⟨w6.heap.size, 0, none⟩) 1 1, rfl, by simp, cell_of_row _ _ _ _ _ _ (hp2_1 w6 _ _), ?_, by simp [gp]⟩
        exact (bys_one w6 7#8).keep ((Below.refl _ _).alloc (Nat.le_refl _) _)
      have cJ := a_join [[7#8]] _ _ hP7
      rw [j_one.1, j_one.2] at cJ
      clear hx hz hC hw hb7 hP7
      go_wp2_with (fail)
      generalize (w6.alloc (.cells #[.int .u8 7] 5)).alloc (.cells #[.slice (some ⟨w6.heap.size, 0, none⟩) 1 1] 22) = w7 at *
      have hx := hx7
      have hz := hz7
      have hC := hC7
      have hw := hw7
      clear hx7 hz7 hC7 hw7
      refine cJ.mono ?_
      rintro e_ w8 ⟨y, rfl, hy, hb⟩
      replace hw := Below.after hw hb
      replace hx := hx.keep hb
      replace hz := hz.keep hb
      replace hC := hC.keep hb
      clear hb cJ
      have cX := same_any (bl (jout ps)) w8 x z hx.bys hz.bys
      go_wp2_with (fail)
      refine cX.mono ?_
      rintro e_ w9 ⟨rfl, hb⟩
      replace hw := Below.after hw hb
      replace hC := hC.keep hb
      replace hx := hx.keep hb
      replace hz := hz.keep hb
      replace hy := hy.keep hb
      clear hb cX
      have cX := l_items ps w9 _ _ hC (hB.keep hw)
      go_wp2_with (fail)
      refine cX.mono ?_
      rintro e_ w10 ⟨rfl, hb⟩
      replace hw := Below.after hw hb
      replace hC := hC.keep hb
      replace hx := hx.keep hb
      replace hz := hz.keep hb
      replace hy := hy.keep hb
      clear hb cX
      have hb11 : Below w10.heap.size w10 (w10.alloc (.cells #[.int .u8 1, .int .u8 7] 5)) := (Below.refl _ _).alloc (Nat.le_refl _) _
      have hT : BysB (w10.alloc (.cells #[.int .u8 1, .int .u8 7] 5)) (.slice (some ⟨w10.heap.size, 0, none⟩) 2 2) [1#8, 7#8] := bys_two w10 1#8 7#8
      have cS := same_any (bl [1#8, 7#8]) _ y _ (hy.keep hb11).bys hT.1
      replace hw := Below.after hw hb11
      go_wp2_with (fail)
      refine cS.mono ?_
      rintro e_ w12 ⟨rfl, hb⟩
      replace hw := Below.after hw hb
      clear hb cS
      go_wp2_with (fail)
      go_ret
      exact ⟨rfl, hw⟩
end Go.Proofs.Ytlglalhddeldbaa
