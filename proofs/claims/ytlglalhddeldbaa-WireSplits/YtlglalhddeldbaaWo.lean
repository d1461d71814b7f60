import Derived.Test.YtlglalhddeldbaaProg
import Derived.WalkKit
import Derived.WalkSpells
import Derived.WalkLawsBesides
import Derived.Lib.QuietBelow
import Derived.Laws.BitsAllLaws
import Derived.BigQuiet
import Derived.WalkMore
import Derived.Test.YtlglalhddeldbaaKit
import Derived.Test.YtlglalhddeldbaaWn
namespace Go.Proofs.Ytlglalhddeldbaa
open Go Go.RowKit Go.Sort
attribute [local go_sem] setCell_drewN alloc_drewN

theorem after_nil (r : RS) : r.after [] = r := by
  cases r <;> rfl
set_option maxRecDepth 100000 in
set_option maxHeartbeats 4000000 in
theorem a_split (d : List B) (w : World) (v : Value) (hB : BysB w v d) (hcap : ∀ a l c, v = .slice a l c → l ≤ c) : Calls Try.prog 22 #[v] w fun e w' => ∃ u us, e = .returned (.tuple #[u, .int .i64 (spa (sp d)), .int .i64 (spe (sp d))]) ∧ Its w' w.heap.size u us (spp (sp d)) ∧ Below w.heap.size w w' := by
  have hlen := hB.2.1
  obtain ⟨ao, cap, rfl⟩ := hB.form
  by_cases h1 : 4194304 < d.length
  · have hsp : sp d = .er 2 0 := if_pos h1
    have d1 : decide ((d.length : Int) > 4194304) = true := by simp; omega
    rw [hsp]
    simp only [spa, spe, spp]
    go_enter Try.func22, Try.ntmps22
    go_wp2_with (fail)
    go_ret3
    exact ⟨_, [], rfl, its_nil _ _, Below.refl _ _⟩
  · have hsp : sp d = spl d.length 0 0 d := if_neg h1
    have d1 : decide ((d.length : Int) > 4194304) = false := by simp; omega
    go_enter Try.func22, Try.ntmps22
    go_wp2_with (fail)
    go_loopw [5, 6] (fun s i wr => ∃ (q : Nat) (us : List Value) (ps : List (List B)) (so : Option Addr) (sc : Nat), q ≤ d.length ∧ i = .int .i64 (q : Int) ∧ s = .slice so ps.length sc ∧ ps.length ≤ 4096 ∧ Its wr w.heap.size (.slice so ps.length sc) us ps ∧ sp d = (spl (d.drop q).length q ps.length (d.drop q)).after ps ∧ Below w.heap.size w wr) (fun _ i _ => d.length - (intOf i).toNat)
    case atStart => exact ⟨0, [], [], _, _, by omega, rfl, rfl, by simp, its_nil _ _, by rw [hsp]; exact (after_nil _).symm, Below.refl _ _⟩
    case round =>
      skip
      clear hsp
      obtain ⟨q, us, ps, so, sc, hq, rfl, rfl, hps, hI, hsp, hw⟩ := hrel
      have hws := hw.size
      by_cases hlt : q < d.length
      · have hd : decide ((q : Int) < (d.length : Int)) = true := by simp; omega
        have hne : d.drop q ≠ [] := by intro e; have := congrArg List.length e; rw [List.length_drop] at this; simp at this; omega
        by_cases hc : ps.length = 4096
        · rw [hc, spl_full hne] at hsp
          have hfin : Hid (sp d = .er 2 q) := hide hsp
          have d3 : ((ps.length : Int) == 4096) = true := by simp; omega
          clear hsp
          replace hc := hide hc
          generalize ps.length = pl at *
          go_wp2_with (fail)
          go_ret3
          rw [hfin.out]
          exact ⟨_, [], rfl, its_nil _ _, hw⟩
        · have d3 : ((ps.length : Int) == 4096) = false := by simp; omega
          have cR := a_readItem d q hq wr _ (hB.keep hw) hcap
          cases hr : ri (d.drop q) with
          | er e =>
            rw [spl_er hne hc hr] at hsp
            have hfin : Hid (sp d = .er e q) := hide hsp
            rw [hr] at cR
            simp only [rie, rir, rip] at cR
            have he : (e == 0) = false := by rcases ri_er hr with h | h <;> subst h <;> rfl
            clear hsp hr
            generalize ps.length = pl at *
            go_wp2_with (fail)
            refine cR.mono ?_
            rintro e_ w1 ⟨u, rfl, hO, hb⟩
            replace hw := Below.after hw hb
            clear cR hb
            go_wp2_with (fail)
            go_ret3
            rw [hfin.out]
            exact ⟨_, [], rfl, its_nil _ _, hw⟩
          | ok x n =>
            rw [spl_step hne hc hr, after_cons, List.drop_drop] at hsp
            have hro := ri_ok hr
            rw [List.length_drop] at hro
            have hxl : x.length ≤ d.length := by omega
            rw [hr] at cR
            simp only [rie, rir, rip] at cR
            have hnext : Hid (sp d = (spl (d.drop (q + n)).length (q + n) (ps ++ [x]).length (d.drop (q + n))).after (ps ++ [x])) := hide (by rw [hsp, List.length_append, List.length_singleton])
            have hqn : q + n ≤ d.length := by omega
            have hn0 : 0 < n := hro.1
            clear hsp hr hro hne
            generalize hpl : ps.length = pl at *
            go_wp2_with (fail)
            refine cR.mono ?_
            rintro e_ w1 ⟨u, rfl, hO, hb⟩
            have hI1 := hI.keep hb
            have hhi := hI.high
            replace hw := Below.after hw hb
            have hs1 := hb.size
            clear cR hb
            obtain ⟨uo, uc, hu⟩ := slen_own hO
            have hba : Below w1.heap.size w1 (w1.alloc (.cells #[u] 22)) := (Below.refl _ _).alloc (Nat.le_refl _) _
            have hI2 := hI1.keep hba
            have hO2 := own_alloc hO (.cells #[u] 22)
            subst hu
            go_wp2_with (first | (at_builtin; refine wpList_append_I rfl (.tmp 32) (.tmp 34) rfl w.heap.size _ us ps rfl wr.heap.size hI2 hhi.1 hhi.2 hws _ x hO2 w1.heap.size rfl (new_cell1 w1 _ _) (by omega) (by rw [size_alloc1]; omega) ?_) | fail)
            intro v4 w4 hI4 hgr
            have hw4 := (hw.alloc hw.size (.cells #[Value.slice uo x.length uc] 22)).grown hgr (by rw [size_alloc1]; omega) (fun k e => (own_high_row hI.1 k e).1)
            obtain ⟨ao4, ac4, hv4⟩ := slen_own hI4.1
            have hlen4 : (us ++ [Value.slice uo x.length uc]).length = (ps ++ [x]).length := hI4.2.1
            rw [hlen4] at hv4
            have hps2 : (ps ++ [x]).length ≤ 4096 := by rw [List.length_append, List.length_singleton]; omega
            generalize ps ++ [x] = ps2 at *
            subst hv4
            clear hI hI1 hI2 hO hO2 hgr
            go_wp2_with (fail)
            refine ⟨⟨q + n, _, ps2, ao4, ac4, hqn, rfl, rfl, hps2, hI4, hnext.out, hw4⟩, ?_⟩
            simp [intOf]; omega
      · obtain rfl : q = d.length := by omega
        have hd : decide ((d.length : Int) < (d.length : Int)) = false := by simp
        rw [List.drop_length, List.length_nil, spl, RS.after, List.append_nil] at hsp
        have hfin : Hid (sp d = .ok ps) := hide hsp
        clear hsp
        generalize hpl : ps.length = pl at *
        go_wp2_with (fail)
        go_ret3
        rw [hfin.out]
        exact ⟨_, us, rfl, hI, hw⟩
set_option maxRecDepth 100000 in
set_option maxHeartbeats 4000000 in
theorem r_split (d : List B) (w : World) (v : Value) (hB : BysB w v d) (hcap : ∀ a l c, v = .slice a l c → l ≤ c) : Calls Try.prog 23 #[v] w fun e w' => ∃ u us, e = .returned (.tuple #[u, .int .i64 (spa (sp d)), .int .i64 (spe (sp d))]) ∧ Its w' w.heap.size u us (spp (sp d)) ∧ Below w.heap.size w w' := by
  have hlen := hB.2.1
  obtain ⟨ao, cap, rfl⟩ := hB.form
  by_cases h1 : 4194304 < d.length
  · have hsp : sp d = .er 2 0 := if_pos h1
    have d1 : decide ((d.length : Int) > 4194304) = true := by simp; omega
    rw [hsp]
    simp only [spa, spe, spp]
    go_enter Try.func23, Try.ntmps23
    go_wp2_with (fail)
    go_ret3
    exact ⟨_, [], rfl, its_nil _ _, Below.refl _ _⟩
  · have hsp : sp d = spl d.length 0 0 d := if_neg h1
    have d1 : decide ((d.length : Int) > 4194304) = false := by simp; omega
    have hI0 := its_empty w
    have hw0 : Below w.heap.size w (w.alloc (.cells #[] 22)) := (Below.refl _ _).alloc (Nat.le_refl _) _
    go_enter Try.func23, Try.ntmps23
    go_wp2_with (fail)
    generalize w.alloc (.cells #[] 22) = w0 at *
    go_loopw [5, 6] (fun s i wr => ∃ (q : Nat) (us : List Value) (ps : List (List B)) (so : Option Addr) (sc : Nat), q ≤ d.length ∧ i = .int .i64 (q : Int) ∧ s = .slice so ps.length sc ∧ ps.length ≤ 4096 ∧ Its wr w.heap.size (.slice so ps.length sc) us ps ∧ sp d = (spl (d.drop q).length q ps.length (d.drop q)).after ps ∧ Below w.heap.size w wr) (fun _ i _ => d.length - (intOf i).toNat)
    case atStart => exact ⟨0, [], [], _, _, by omega, rfl, rfl, by simp, hI0, by rw [hsp]; exact (after_nil _).symm, hw0⟩
    case round =>
      clear hI0 hw0
      clear hsp
      obtain ⟨q, us, ps, so, sc, hq, rfl, rfl, hps, hI, hsp, hw⟩ := hrel
      have hws := hw.size
      by_cases hlt : q < d.length
      · have hd : decide ((q : Int) < (d.length : Int)) = true := by simp; omega
        have hne : d.drop q ≠ [] := by intro e; have := congrArg List.length e; rw [List.length_drop] at this; simp at this; omega
        by_cases hc : ps.length = 4096
        · rw [hc, spl_full hne] at hsp
          have hfin : Hid (sp d = .er 2 q) := hide hsp
          have d3 : decide ((ps.length : Int) ≥ 4096) = true := by simp; omega
          clear hsp
          replace hc := hide hc
          generalize ps.length = pl at *
          go_wp2_with (fail)
          go_ret3
          rw [hfin.out]
          exact ⟨_, [], rfl, its_nil _ _, hw⟩
        · have d3 : decide ((ps.length : Int) ≥ 4096) = false := by simp; omega
          have cN := r_number d q hq wr _ (hB.keep hw)
          cases hr : rd 0 (d.drop q) with
          | er e =>
            rw [spl_er hne hc (ri_of_er hr)] at hsp
            have hfin : Hid (sp d = .er e q) := hide hsp
            rw [hr] at cN
            unfold nres at cN
            have he : (e == 0) = false := by rcases rd_er _ _ _ hr with h | h <;> subst h <;> rfl
            clear hsp hr
            generalize ps.length = pl at *
            go_wp2_with (fail)
            refine cN.mono ?_
            rintro e_ w1 ⟨rfl, hb⟩
            replace hw := Below.after hw hb
            clear cN hb
            go_wp2_with (fail)
            go_ret3
            rw [hfin.out]
            exact ⟨_, [], rfl, its_nil _ _, hw⟩
          | ok n k =>
            have hk := rd0_len hr
            rw [List.length_drop] at hk
            have hn := (rd0_ok hr).2.2
            have hri := ri_of hr
            rw [hr] at cN
            unfold nres at cN
            rw [List.length_drop, List.drop_drop] at hri
            have hcp := hcap _ _ _ rfl
            by_cases h2 : d.length - q - k < n
            · rw [if_pos h2] at hri
              rw [spl_er hne hc hri] at hsp
              have hfin : Hid (sp d = .er 73 q) := hide hsp
              clear hsp hri hr
              generalize hqk : q + k = r at *
              have d2 : decide ((n : Int) > (d.length : Int) - (r : Int)) = true := by simp; omega
              generalize ps.length = pl at *
              go_wp2_with (fail)
              refine cN.mono ?_
              rintro e_ w1 ⟨rfl, hb⟩
              replace hw := Below.after hw hb
              clear cN hb
              go_wp2_with (fail)
              go_ret3
              rw [hfin.out]
              exact ⟨_, [], rfl, its_nil _ _, hw⟩
            · rw [if_neg h2] at hri
              rw [spl_step hne hc hri, after_cons, List.drop_drop] at hsp
              have hro := ri_ok hri
              generalize hX : (d.drop (q + k)).take n = x at *
              have hxl : x.length = n := by rw [← hX, List.length_take, List.length_drop]; omega
              have hnext : Hid (sp d = (spl (d.drop (q + (k + n))).length (q + (k + n)) (ps ++ [x]).length (d.drop (q + (k + n)))).after (ps ++ [x])) := hide (by rw [hsp, List.length_append, List.length_singleton])
              have hsl := sl_mid ao d.length cap (q + k) (q + k + n) (by omega) (by omega)
              have hbm := fun V (h : BysB V (.slice ao d.length cap) d) => bysB_mid (m := q + k) (n := q + k + n) h (by omega) (by omega) hcp
              rw [Nat.add_sub_cancel_left, hX] at hbm
              clear hsp hri hr hro hne
              replace hX := hide hX
              have hxb : x.length ≤ 140737488355000 := by omega
              replace hxl := hide hxl
              have hqn : Hid (q + (k + n) ≤ d.length) := hide (by omega)
              generalize slc ao cap (q + k) (q + k + n) = u0 at *
              generalize hqk : q + k = r at *
              rw [Int.natCast_add] at hsl
              have d2 : decide ((n : Int) > (d.length : Int) - (r : Int)) = false := by simp; omega
              have hb0' : ∀ V : World, Below V.heap.size V (V.alloc (.cells #[] 5)) := fun V => (Below.refl _ _).alloc (Nat.le_refl _) _
              generalize hpl : ps.length = pl at *
              go_wp2_with (fail)
              refine cN.mono ?_
              rintro e_ w1 ⟨rfl, hb⟩
              have hI1 := hI.keep hb
              have hhi := hI1.high
              replace hw := Below.after hw hb
              clear cN hb
              have hbe := hb0' w1
              have hwe := Below.after hw hbe
              have hE := hbm _ (hB.keep hwe)
              have hOn := own_nil w1
              go_wp2_with (at_builtin; suffices h9 : True ∧ _ from h9.2)
              refine ⟨trivial, ?_⟩
              refine wpList_append_B rfl (.tmp 42) (.tmp 49) rfl w1.heap.size _ [] rfl hOn _ x rfl hE (by simp only [List.length_nil]; omega) hbe.size ?_
              intro u2 w2 hO2 hgr
              rw [List.nil_append] at hO2
              have hbf := hbe.grown hgr hbe.size (own_low hOn)
              clear hgr hOn hE hbm hbe
              have hI2 := hI1.keep hbf
              have hwf := Below.after hw hbf
              obtain ⟨ao2, ac2, hu2⟩ := slen_own hO2
              have hs2 := hbf.size
              have hs1 := hw.size
              have hba : Below w2.heap.size w2 (w2.alloc (.cells #[u2] 22)) := (Below.refl _ _).alloc (Nat.le_refl _) _
              have hI3 := hI2.keep hba
              have hO3 := own_alloc hO2 (.cells #[u2] 22)
              subst hu2
              go_wp2_with (at_builtin; suffices h9 : True ∧ _ from h9.2)
              refine ⟨trivial, ?_⟩
              refine wpList_append_I rfl (.tmp 41) (.tmp 51) rfl w.heap.size _ us ps rfl w1.heap.size hI3 hhi.1 hhi.2 hs1 _ x hO3 w2.heap.size rfl (new_cell1 w2 _ _) (by omega) (by rw [size_alloc1]; omega) ?_
              intro v4 w4 hI4 hgr
              have hw4 := (hwf.alloc hwf.size (.cells #[Value.slice ao2 x.length ac2] 22)).grown hgr (by rw [size_alloc1]; omega) (fun k e => (own_high_row hI.1 k e).1)
              obtain ⟨ao4, ac4, hv4⟩ := slen_own hI4.1
              have hlen4 : (us ++ [Value.slice ao2 x.length ac2]).length = (ps ++ [x]).length := hI4.2.1
              rw [hlen4] at hv4
              have hps2 : (ps ++ [x]).length ≤ 4096 := by rw [List.length_append, List.length_singleton]; omega
              generalize ps ++ [x] = ps2 at *
              subst hv4
              clear hI hI1 hI2 hI3 hO2 hO3 hgr
              go_wp2_with (fail)
              refine ⟨⟨q + (k + n), _, ps2, ao4, ac4, hqn.out, by congr 1; omega, rfl, hps2, hI4, hnext.out, hw4⟩, ?_⟩
              simp [intOf]; omega
      · obtain rfl : q = d.length := by omega
        have hd : decide ((d.length : Int) < (d.length : Int)) = false := by simp
        rw [List.drop_length, List.length_nil, spl, RS.after, List.append_nil] at hsp
        have hfin : Hid (sp d = .ok ps) := hide hsp
        clear hsp
        generalize hpl : ps.length = pl at *
        go_wp2_with (fail)
        go_ret3
        rw [hfin.out]
        exact ⟨_, us, rfl, hI, hw⟩
end Go.Proofs.Ytlglalhddeldbaa
