import Derived.Test.YtohjcdmhejmnfaaProg
import Derived.WalkKit
import Derived.WalkSpells
import Derived.WalkLawsBesides
import Derived.Lib.QuietBelow
import Derived.Laws.BitsAllLaws
import Derived.BigQuiet
import Derived.WalkMore
import Derived.Test.YtohjcdmhejmnfaaKit
import Derived.Test.YtohjcdmhejmnfaaWn
namespace Go.Proofs.Ytohjcdmhejmnfaa
open Go Go.RowKit Go.Sort
attribute [local go_sem] setCell_drewN alloc_drewN

theorem after_nil (r : RS) : r.after [] = r := by
  cases r <;> rfl
set_option maxRecDepth 100000 in
set_option maxHeartbeats 4000000 in
theorem a_split (d : List B) (w : World) (v : Value) (hB : BysB w v d) (hcap : ∀ a l c, v = .slice a l c → l ≤ c) : Calls Try.prog 23 #[v] w fun e w' => ∃ u us, e = .returned (.tuple #[u, .int .i64 (spa (sp d)), .int .i64 (spe (sp d))]) ∧ Its w' w.heap.size u us (spp (sp d)) ∧ Below w.heap.size w w' := by
  have hlen := hB.2.1
  obtain ⟨ao, cap, rfl⟩ := hB.form
  by_cases h1 : 4194304 < d.length
  · have hsp : sp d = .er 2 0 := if_pos h1
    have d1 : decide ((d.length : Int) > 4194304) = true := by simp; omega
    rw [hsp]
    simp only [spa, spe, spp]
    go_enter Try.func23, Try.ntmps23
    go_wp2_with (fail)
    go_ret3
    exact ⟨_, [], rfl, its_nil _ _, Below.refl _ _⟩
  · have hsp : sp d = spl d.length 0 0 d := if_neg h1
    have d1 : decide ((d.length : Int) > 4194304) = false := by simp; omega
    go_enter Try.func23, Try.ntmps23
    go_wp2_with (fail)
    go_loopw [5, 6] (fun s i wr => ∃ (q : Nat) (us : List Value) (ps : List (List B)) (so : Option Addr) (sc : Nat), q ≤ d.length ∧ i = .int .i64 (q : Int) ∧ s = .slice so ps.length sc ∧ ps.length ≤ 4096 ∧ Its wr w.heap.size (.slice so ps.length sc) us ps ∧ sp d = (spl (d.drop q).length q ps.length (d.drop q)).after ps ∧ Below w.heap.size w wr) (fun _ i _ => d.length - (intOf i).toNat)
    case atStart => exact ⟨0, [], [], _, _, by omega, rfl, rfl, by simp, its_nil _ _, by rw [hsp]; exact (after_nil _).symm, Below.refl _ _⟩
    case round =>
      skip
      clear hsp
      obtain ⟨q, us, ps, so, sc, hq, rfl, rfl, hps, hI, hsp, hw⟩ := hrel
      have hws := hw.size
      by_cases hlt : q < d.length
      · have hd : decide ((q : Int) < (d.length : Int)) = true := by simp; omega
        have hne : d.drop q ≠ [] := by intro e; have := congrArg List.length e; rw [List.length_drop] at this; simp at this; omega
        by_cases hc : ps.length = 4096
        · rw [hc, spl_full hne] at hsp
          have hfin : Hid (sp d = .er 2 q) := hide hsp
          have d3 : ((ps.length : Int) == 4096) = true := by simp; omega
          clear hsp
          replace hc := hide hc
          generalize ps.length = pl at *
          go_wp2_with (fail)
          go_ret3
          rw [hfin.out]
          exact ⟨_, [], rfl, its_nil _ _, hw⟩
        · have d3 : ((ps.length : Int) == 4096) = false := by simp; omega
          have cR := a_readItem d q hq wr _ (hB.keep hw) hcap
          cases hr : ri (d.drop q) with
          | er e =>
            rw [spl_er hne hc hr] at hsp
            have hfin : Hid (sp d = .er e q) := hide hsp
            rw [hr] at cR
            simp only [rie, rir, rip] at cR
            have he : (e == 0) = false := by rcases ri_er hr with h | h <;> subst h <;> rfl
            clear hsp hr
            generalize ps.length = pl at *
            go_wp2_with (fail)
            refine cR.mono ?_
            rintro e_ w1 ⟨u, rfl, hO, hb⟩
            replace hw := Below.after hw hb
            clear cR hb
            go_wp2_with (fail)
            go_ret3
            rw [hfin.out]
            exact ⟨_, [], rfl, its_nil _ _, hw⟩
          | ok x n =>
            rw [spl_step hne hc hr, after_cons, List.drop_drop] at hsp
            have hro := ri_ok hr
            rw [List.length_drop] at hro
            have hxl : x.length ≤ d.length := by omega
            rw [hr] at cR
            simp only [rie, rir, rip] at cR
            have hnext : Hid (sp d = (spl (d.drop (q + n)).length (q + n) (ps ++ [x]).length (d.drop (q + n))).after (ps ++ [x])) := hide (by rw [hsp, List.length_append, List.length_singleton])
            have hqn : q + n ≤ d.length := by omega
            have hn0 : 0 < n := hro.1
            clear hsp hr hro hne
            generalize hpl : ps.length = pl at *
            go_wp2_with (fail)
            refine cR.mono ?_
            rintro e_ w1 ⟨u, rfl, hO, hb⟩
            have hI1 := hI.keep hb
            have hhi := hI.high
            replace hw := Below.after hw hb
            have hs1 := hb.size
            clear cR hb
            obtain ⟨uo, uc, hu⟩ := slen_own hO
            have hba : Below w1.heap.size w1 (w1.alloc (.cells #[u] 24)) := (Below.refl _ _).alloc (Nat.le_refl _) _
            have hI2 := hI1.keep hba
            have hO2 := own_alloc hO (.cells #[u] 24)
            subst hu
            go_wp2_with (first | (at_builtin; refine wpList_append_I rfl (.tmp 32) (.tmp 34) rfl w.heap.size _ us ps rfl wr.heap.size hI2 hhi.1 hhi.2 hws _ x hO2 w1.heap.size rfl (new_cell1 w1 _ _) (by omega) (by rw [size_alloc1]; omega) ?_) | fail)
            intro v4 w4 hI4 hgr
            have hw4 := (hw.alloc hw.size (.cells #[Value.slice uo x.length uc] 24)).grown hgr (by rw [size_alloc1]; omega) (fun k e => (own_high_row hI.1 k e).1)
            obtain ⟨ao4, ac4, hv4⟩ := slen_own hI4.1
            have hlen4 : (us ++ [Value.slice uo x.length uc]).length = (ps ++ [x]).length := hI4.2.1
            rw [hlen4] at hv4
            have hps2 : (ps ++ [x]).length ≤ 4096 := by rw [List.length_append, List.length_singleton]; omega
            generalize ps ++ [x] = ps2 at *
            subst hv4
            clear hI hI1 hI2 hO hO2 hgr
            go_wp2_with (fail)
            refine ⟨⟨q + n, _, ps2, ao4, ac4, hqn, rfl, rfl, hps2, hI4, hnext.out, hw4⟩, ?_⟩
            simp [intOf]; omega
      · obtain rfl : q = d.length := by omega
        have hd : decide ((d.length : Int) < (d.length : Int)) = false := by simp
        rw [List.drop_length, List.length_nil, spl, RS.after, List.append_nil] at hsp
        have hfin : Hid (sp d = .ok ps) := hide hsp
        clear hsp
        generalize hpl : ps.length = pl at *
        go_wp2_with (fail)
        go_ret3
        rw [hfin.out]
        exact ⟨_, us, rfl, hI, hw⟩
end Go.Proofs.Ytohjcdmhejmnfaa
