import Derived.Test.YtlglalhddeldbaaProg
import Derived.WalkKit
import Derived.WalkSpells
import Derived.WalkLawsBesides
import Derived.Lib.QuietBelow
import Derived.Laws.BitsAllLaws
import Derived.BigQuiet
import Derived.WalkMore
import Derived.Test.YtlglalhddeldbaaKit
import Derived.Test.YtlglalhddeldbaaWf
namespace Go.Proofs.Ytlglalhddeldbaa
open Go Go.RowKit Go.Sort
attribute [local go_sem] setCell_drewN alloc_drewN

theorem bysB_row {W : World} {g : Nat} {bs : List B} {T : List Int} {t : TypeId} (hg : W.heap[g]? = some (.cells (irow .u8 (bl bs ++ T)) t (0, 0))) (hl : bs.length ≤ 140737488355000) (cap : Nat) : BysB W (.slice (some ⟨g, 0, none⟩) bs.length cap) bs := by
  refine ⟨⟨some ⟨g, 0, none⟩, cap, by rw [bl_len], by rw [bl_len]; omega, fun j hj => ⟨g, 0, rfl, lt_of_row hg, ?_⟩, bl_bnd _⟩, hl, fun a l c h h2 => by cases h; cases h2⟩
  have := irow_cell hg (j := j) (by rw [List.length_append]; omega)
  rw [Nat.zero_add, this, List.getD_eq_getElem?_getD, List.getElem?_append_left hj, ← List.getD_eq_getElem?_getD]
theorem l_lent (bs : List B) (w : World) (v : Value) (hB : BysB w v bs) : Calls Try.prog 9 #[v] w fun e w' => ∃ v, e = .returned v ∧ ∃ g, v = .tuple #[.slice (some ⟨g, 0, none⟩) bs.length (bs.length + 80), .slice (some ⟨g, 0, none⟩) (bs.length + 80) (bs.length + 80)] ∧ w.heap.size ≤ g ∧ w'.heap[g]? = some (.cells (irow .u8 (bl bs ++ marks 80)) 5 (0, 0)) ∧ Below w.heap.size w w' := by
  have h := lent_walk (bl bs) w v hB.1 (by rw [bl_len]; have := hB.2.1; omega) hB.2.2
  rw [bl_len] at h
  exact h
theorem l_kept (bs : List B) (g : Nat) (w : World) (v : Value) (hB : BysB w v bs) (hg : w.heap[g]? = some (.cells (irow .u8 (bl bs ++ marks 80)) 5 (0, 0))) : Calls Try.prog 13 #[.slice (some ⟨g, 0, none⟩) (bs.length + 80) (bs.length + 80), v] w fun e w' => e = .returned (.bool true) ∧ Below w.heap.size w w' := by
  have h := kept_walk (bl bs) g w v hB.1 (by rw [bl_len]; have := hB.2.1; omega) hg
  rw [bl_len] at h
  exact h
theorem l_full (w : World) (b : Nat) (v : Value) (d : List B) (x : Int) (hO : Own w b v d) (hd : 0 < d.length) (hl : d.length + 90 ≤ 140737488355328) : ∃ g, v.ownBlock = some g ∧ b ≤ g ∧ g < w.heap.size ∧ Calls Try.prog 16 #[v, .int .u8 x] w fun e w' => e = .returned (.tuple #[]) ∧ w.grownBy w' (some g) := by
  obtain ⟨h1, ⟨_, h0⟩ | ⟨g, cap, cur, rfl, hbg, hg, hn, hm, hs, _⟩⟩ := hO
  · simp at h0; subst h0; simp at hd
  · rw [Nat.mul_one] at hs
    exact ⟨g, rfl, hbg, lt_of_row hg, full_any g d.length cap x cur w hg hs hn hm hl⟩
theorem own_ne {W : World} {b g : Nat} {v : Value} {d : List B} (h : Own W b v d) (hg : g < b) : ∀ k l c, v = .slice (some ⟨k, 0, none⟩) l c → k ≠ g := by
  intro k l c e
  have := own_low h k (by rw [e]; rfl)
  omega
set_option maxRecDepth 100000 in
set_option maxHeartbeats 4000000 in
theorem numbers_any (bs : List B) (n : Nat) (hn : n < 18446744073709551616) (W : World) (v : Value) (hB : BysB W v bs) : Calls Try.prog 3 #[v, .int .u64 (n : Int)] W fun e w' => e = .returned (.bool true) ∧ Below W.heap.size W w' := by
  have hten := en_ten hn
  have hep := en_pos n
  have hl := hB.2.1
  have cL := l_lent bs W v hB
  go_enter Try.func3, Try.ntmps3
  go_wp2_with (fail)
  refine cL.mono ?_
  rintro e_ w1 ⟨_, rfl, g, rfl, hgW, rg, hw⟩
  clear cL
  have hC := bysB_row rg (by omega) (bs.length + 80)
  have cP := a_put bs n hn w1 _ hC
  have lg := lt_of_row rg
  go_wp2_with (fail)
  refine cP.mono ?_
  rintro e_ w2 ⟨x, rfl, hx, hb⟩
  have hxh := own_high hx
  replace hw := Below.after hw hb
  have s1 := hb.size
  replace rg := keep hb rg
  replace hC := hC.keep hb
  clear hb cP
  have cP := a_put bs n hn w2 _ hC
  go_wp2_with (fail)
  refine cP.mono ?_
  rintro e_ w3 ⟨y, rfl, hy, hb⟩
  replace hw := Below.after hw hb
  have s2 := hb.size
  replace rg := keep hb rg
  replace hx := hx.keep hb
  clear hb cP hC
  have cR := r_put bs n hn w3 v (hB.keep hw)
  go_wp2_with (fail)
  refine cR.mono ?_
  rintro e_ w4 ⟨z, rfl, hz, hb⟩
  replace hw := Below.after hw hb
  have s3 := hb.size
  replace rg := keep hb rg
  replace hx := hx.keep hb
  replace hy := hy.keep hb
  clear hb cR
  have cS := same_any (bl (bs ++ en n)) w4 x z hx.bys hz.bys
  go_wp2_with (fail)
  refine cS.mono ?_
  rintro e_ w5 ⟨rfl, hb⟩
  replace hw := Below.after hw hb
  have s4 := hb.size
  replace rg := keep hb rg
  replace hx := hx.keep hb
  replace hy := hy.keep hb
  replace hz := hz.keep hb
  clear hb cS
  have cS := same_any (bl (bs ++ en n)) w5 y z hy.bys hz.bys
  go_wp2_with (fail)
  refine cS.mono ?_
  rintro e_ w6 ⟨rfl, hb⟩
  replace hw := Below.after hw hb
  have s5 := hb.size
  replace rg := keep hb rg
  replace hx := hx.keep hb
  replace hy := hy.keep hb
  replace hz := hz.keep hb
  clear hb cS
  have cK := l_kept bs g w6 v (hB.keep hw) rg
  go_wp2_with (fail)
  refine cK.mono ?_
  rintro e_ w7 ⟨rfl, hb⟩
  replace hw := Below.after hw hb
  have s6 := hb.size
  replace rg := keep hb rg
  replace hx := hx.keep hb
  replace hy := hy.keep hb
  replace hz := hz.keep hb
  clear hb cK
  have cZ := a_size n hn w7
  go_wp2_with (fail)
  refine cZ.mono ?_
  rintro e_ w8 ⟨rfl, hb⟩
  replace hw := Below.after hw hb
  have s7 := hb.size
  replace rg := keep hb rg
  replace hx := hx.keep hb
  replace hy := hy.keep hb
  replace hz := hz.keep hb
  clear hb cZ
  have cZ := r_size n hn w8
  go_wp2_with (fail)
  refine cZ.mono ?_
  rintro e_ w9 ⟨rfl, hb⟩
  replace hw := Below.after hw hb
  have s8 := hb.size
  replace rg := keep hb rg
  replace hx := hx.keep hb
  replace hy := hy.keep hb
  replace hz := hz.keep hb
  clear hb cZ
  obtain ⟨gx, hxo, hxb, hxl, cF⟩ := l_full w9 _ x _ 3 hx (by rw [List.length_append]; omega) (by rw [List.length_append]; omega)
  have hgx : gx < w2.heap.size := hxh gx hxo
  go_wp2_with (fail)
  refine cF.mono ?_
  rintro e_ w10 ⟨rfl, hg⟩
  replace hy := hy.grown hg (own_ne hy hgx)
  replace hz := hz.grown hg (own_ne hz (by omega))
  replace rg : w10.heap[g]? = _ := (hg.block g (by omega) (by intro e; cases e; omega)).trans rg
  replace hw := hw.grown hg hw.size (fun k e => by cases e; have := hw.size; omega)
  have cS := same_any (bl (bs ++ en n)) w10 y z hy.bys hz.bys
  clear cF hg
  go_wp2_with (fail)
  refine cS.mono ?_
  rintro e_ w11 ⟨rfl, hb⟩
  replace hw := Below.after hw hb
  replace rg := keep hb rg
  clear hb cS
  have cK := l_kept bs g w11 v (hB.keep hw) rg
  go_wp2_with (fail)
  refine cK.mono ?_
  rintro e_ w12 ⟨rfl, hb⟩
  replace hw := Below.after hw hb
  clear hb cK
  go_wp2_with (fail)
  go_ret
  exact ⟨rfl, hw⟩
/-- What Number answers, at any place. -/
def nri (bs : List B) (p : Int) : Value := if 0 ≤ p ∧ p ≤ bs.length then nres p.toNat (rd 0 (bs.drop p.toNat)) else .tuple #[.int .u64 0, .int .i64 0, .int .i64 1]
theorem nres_form (p : Nat) (r : RN) : ∃ a b c : Int, nres p r = .tuple #[.int .u64 a, .int .i64 b, .int .i64 c] := by
  cases r <;> exact ⟨_, _, _, rfl⟩
theorem nri_form (bs : List B) (p : Int) : ∃ a b c : Int, nri bs p = .tuple #[.int .u64 a, .int .i64 b, .int .i64 c] := by
  unfold nri
  split
  · exact nres_form _ _
  · exact ⟨_, _, _, rfl⟩
theorem a_num (bs : List B) (p : Int) (w : World) (v : Value) (hB : BysB w v bs) : Calls Try.prog 17 #[v, .int .i64 p] w fun e w' => e = .returned (nri bs p) ∧ Below w.heap.size w w' := by
  by_cases h : 0 ≤ p ∧ p ≤ bs.length
  · have := a_number bs p.toNat (by omega) w v hB
    rw [Int.toNat_of_nonneg h.1] at this
    rw [nri, if_pos h]
    exact this
  · rw [nri, if_neg h]
    exact a_number_out bs p (by omega) w v hB
theorem r_num (bs : List B) (p : Int) (w : World) (v : Value) (hB : BysB w v bs) : Calls Try.prog 18 #[v, .int .i64 p] w fun e w' => e = .returned (nri bs p) ∧ Below w.heap.size w w' := by
  by_cases h : 0 ≤ p ∧ p ≤ bs.length
  · have := r_number bs p.toNat (by omega) w v hB
    rw [Int.toNat_of_nonneg h.1] at this
    rw [nri, if_pos h]
    exact this
  · rw [nri, if_neg h]
    exact r_number_out bs p (by omega) w v hB
theorem en300 : nres 0 (rd 0 ([] ++ en 300)) = .tuple #[.int .u64 300, .int .i64 2, .int .i64 0] := by
  have h := rd0_en (n := 300) (by decide) []
  rw [List.append_nil] at h
  have hl : (en 300).length = 2 := by
    rw [en_hi (by decide), en_lo (by decide)]; rfl
  rw [List.nil_append, h, hl]
  rfl
set_option maxRecDepth 100000 in
set_option maxHeartbeats 4000000 in
theorem reads_any (bs : List B) (p : Int) (W : World) (v : Value) (hB : BysB W v bs) : Calls Try.prog 4 #[v, .int .i64 p] W fun e w' => e = .returned (.bool true) ∧ Below W.heap.size W w' := by
  have hl := hB.2.1
  obtain ⟨a, b, c, hN⟩ := nri_form bs p
  have cL := l_lent bs W v hB
  go_enter Try.func4, Try.ntmps4
  go_wp2_with (fail)
  refine cL.mono ?_
  rintro e_ w1 ⟨_, rfl, g, rfl, hgW, rg, hw⟩
  clear cL
  have hC := bysB_row rg (by omega) (bs.length + 80)
  have cN := a_num bs p w1 _ hC
  rw [hN] at cN
  go_wp2_with (fail)
  refine cN.mono ?_
  rintro e_ w2 ⟨rfl, hb⟩
  replace hw := Below.after hw hb
  replace rg := keep hb rg
  clear hb cN hC
  have cN := r_num bs p w2 v (hB.keep hw)
  rw [hN] at cN
  go_wp2_with (fail)
  refine cN.mono ?_
  rintro e_ w3 ⟨rfl, hb⟩
  replace hw := Below.after hw hb
  replace rg := keep hb rg
  clear hb cN
  have cP := a_put [] 300 (by decide) w3 _ (bys_nil w3)
  go_wp2_with (fail)
  refine cP.mono ?_
  rintro e_ w4 ⟨y, rfl, hy, hb⟩
  replace hw := Below.after hw hb
  replace rg := keep hb rg
  clear hb cP
  have hy2 := hy.bysB (by rw [List.nil_append]; have := en_ten (n := 300) (by decide); omega)
  have cN := a_number _ 0 (by omega) w4 y hy2
  rw [List.drop_zero, en300] at cN
  clear hy hy2
  go_wp2_with (fail)
  refine cN.mono ?_
  rintro e_ w5 ⟨rfl, hb⟩
  replace hw := Below.after hw hb
  replace rg := keep hb rg
  clear hb cN
  have cK := l_kept bs g w5 v (hB.keep hw) rg
  go_wp2_with (fail)
  refine cK.mono ?_
  rintro e_ w6 ⟨rfl, hb⟩
  replace hw := Below.after hw hb
  clear hb cK
  go_wp2_with (fail)
  go_ret
  exact ⟨rfl, hw⟩
end Go.Proofs.Ytlglalhddeldbaa
