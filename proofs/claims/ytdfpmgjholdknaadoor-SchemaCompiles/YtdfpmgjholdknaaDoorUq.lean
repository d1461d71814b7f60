import Derived.Test.YtdfpmgjholdknaaDoorProg
import Derived.WalkKit
import Derived.WalkSpells
import Derived.WalkLawsBesides
import Derived.Lib.QuietBelow
import Derived.Laws.BitsAllLaws
import Derived.BigQuiet
import Derived.WalkMore
import Derived.Deep.MidRow
import Derived.Test.YtdfpmgjholdknaaDoorKa
import Derived.Test.YtdfpmgjholdknaaDoorUp
namespace Go.Proofs.YtdfpmgjholdknaaDoor
set_option maxRecDepth 100000
open Go Go.RowKit Go.Sort
attribute [local go_sem] setCell_drewN alloc_drewN
set_option maxRecDepth 100000 in
set_option maxHeartbeats 16000000 in
theorem l_left {W : World} {S : Nat → Prop} {v' : Value} {ts : List Slt} (hh : HSl W S v' ts) : ∀ (v : Value), Slo W v ts → ∀ (w : World), Below W.heap.size W w → Calls Tryd.prog 15 #[v', v] w fun e w' => e = .returned (.bool true) ∧ Below w.heap.size w w' := by
  induction hh with
  | mk G ts us hl hG hS hr hm hhs ih =>
    intro v hv w hw
    cases hv with
    | mk ao cap _ us' hl' hc' hn' h hs =>
      have hsl : 0 ≤ (ts.length : Int) + 3 ∧ (ts.length : Int) + 3 ≤ (ts.length : Int) + 3 := by omega
      go_enter Tryd.func15, Tryd.ntmps15
      go_wp2_with (fail)
      go_loopw [6] (fun i wr => ∃ k : Nat, k ≤ ts.length + 3 ∧ i = .int .i64 k ∧ Below w.heap.size w wr) (fun i _ => ts.length + 3 - (intOf i).toNat)
      case atStart => exact ⟨0, by omega, rfl, Below.refl _ _⟩
      case round =>
        obtain ⟨k, hk, rfl, hb⟩ := hrel
        have hww := Below.after hw hb
        by_cases hlt : k < ts.length + 3
        · have hd : decide ((k : Int) < (ts.length : Int) + 3) = true := by simp; omega
          have hk1 : 0 ≤ (k : Int) ∧ (k : Int) < (ts.length : Int) + 3 := by omega
          by_cases hkn : k < ts.length
          · have hd2 : decide ((k : Int) ≥ (ts.length : Int)) = false := by simp; omega
            have hk2 : 0 ≤ (k : Int) ∧ (k : Int) < (ts.length : Int) := by omega
            obtain ⟨b, off, hao, hbl, hra, hok⟩ := h k hkn
            have hSl := hs k hkn
            have hih := ih k hkn _ hSl
            have hrk := (hr k hkn).1
            subst hao
            obtain ⟨ua, uc, hue⟩ := hSl.form
            obtain ⟨G2, hHe, _⟩ := (hhs k hkn).form
            generalize gs ts k = t at *
            generalize gvs us k = u at *
            generalize gvs us' k = u' at *
            subst hHe hue
            have hrk' := rangeS_keep2 hrk hww hG
            have hra' := rangeS_keep2 hra hww hbl
            have cI : GivesB wr 15 #[.slice (some ⟨G2, 0, none⟩) t.sub.length (t.sub.length + 3), .slice ua t.sub.length uc] (.bool true) := fun V hV => hih V (Below.after hww hV)
            have x0 : ∀ p : Regrown, (grow (redrawn wr p.d) p.os).cell? ⟨G, k * 5, none⟩ = _ := fun p => cell_regrown (hrk' 0 _ rfl) p.d p.os
            have y0 : ∀ p : Regrown, (grow (redrawn wr p.d) p.os).cell? ⟨b, off + k * 5, none⟩ = _ := fun p => cell_regrown (hra' 0 _ rfl) p.d p.os
            have x1 : ∀ p : Regrown, (grow (redrawn wr p.d) p.os).cell? ⟨G, k * 5 + 1, none⟩ = _ := fun p => cell_regrown (hrk' 1 _ rfl) p.d p.os
            have y1 : ∀ p : Regrown, (grow (redrawn wr p.d) p.os).cell? ⟨b, off + k * 5 + 1, none⟩ = _ := fun p => cell_regrown (hra' 1 _ rfl) p.d p.os
            have x2 : ∀ p : Regrown, (grow (redrawn wr p.d) p.os).cell? ⟨G, k * 5 + 2, none⟩ = _ := fun p => cell_regrown (hrk' 2 _ rfl) p.d p.os
            have y2 : ∀ p : Regrown, (grow (redrawn wr p.d) p.os).cell? ⟨b, off + k * 5 + 2, none⟩ = _ := fun p => cell_regrown (hra' 2 _ rfl) p.d p.os
            have x3 : ∀ p : Regrown, (grow (redrawn wr p.d) p.os).cell? ⟨G, k * 5 + 3, none⟩ = _ := fun p => cell_regrown (hrk' 3 _ rfl) p.d p.os
            have y3 : ∀ p : Regrown, (grow (redrawn wr p.d) p.os).cell? ⟨b, off + k * 5 + 3, none⟩ = _ := fun p => cell_regrown (hra' 3 _ rfl) p.d p.os
            have x4 : ∀ p : Regrown, (grow (redrawn wr p.d) p.os).cell? ⟨G, k * 5 + 4, none⟩ = _ := fun p => cell_regrown (hrk' 4 _ rfl) p.d p.os
            have y4 : ∀ p : Regrown, (grow (redrawn wr p.d) p.os).cell? ⟨b, off + k * 5 + 4, none⟩ = _ := fun p => cell_regrown (hra' 4 _ rfl) p.d p.os
            clear h hs ih hr hm hhs hrk hra hrk' hra' hih hSl hl' hc' hn' hsl
            go_wp2_with (fail)
            refine wp_region_quiet_below (by kernel_rfl) (by kernel_rfl) ?_
            go_big_quiet_step (fail)
            go_big_quiet_step (fail)
            go_big_quiet_step (fail)
            go_big_quiet_step (fail)
            go_big_quiet_step (fail)
            go_big_quiet_step (fail)
            go_big_quiet_step (fail)
            go_big_quiet_step (fail)
            go_big_quiet_step (fail)
            go_big_quiet_step (fail)
            go_big_quiet_step (fail)
            go_big_quiet_step (fail)
            go_big_quiet_step (fail)
            go_big_quiet_step (fail)
            go_big_quiet_step (fail)
            go_big_quiet_step (fail)
            go_big_quiet_step (fail)
            go_big_quiet_step (fail)
            go_big_quiet_step (fail)
            go_big_quiet_step (fail)
            go_big_quiet_step (fail)
            go_big_quiet_step (fail)
            go_big_quiet_step (fail)
            go_big_quiet_step (fail)
            go_big_quiet_step (fail)
            go_big_quiet_step (fail)
            go_big_quiet_step (fail)
            go_big_quiet_step (fail)
            go_big_quiet_step (fail)
            go_big_quiet_step (fail)
            go_big_quiet_step (fail)
            go_big_quiet_step (fail)
            go_big_quiet_step (fail)
            go_big_quiet_step (fail)
            go_big_quiet_step (fail)
            go_big_quiet_step (fail)
            go_big_quiet_step (fail)
            go_big_quiet_step (fail)
            go_big_quiet_step (fail)
            go_big_quiet_step (fail)
            go_big_quiet_step (fail)
            go_big_quiet_step (fail)
            go_big_quiet_step (fail)
            go_big_quiet_step (fail)
            go_big_quiet_step (fail)
            go_big_quiet_step (fail)
            go_big_quiet_step (fail)
            go_big_quiet_step (fail)
            go_big_quiet_step (fail)
            go_big_quiet_step (fail)
            go_big_quiet_step (fail)
            go_big_quiet_step (fail)
            go_big_quiet_step (fail)
            go_big_quiet_step (fail)
            go_big_quiet_step (fail)
            go_big_quiet_step (fail)
            go_big_quiet_step (fail)
            go_big_quiet_step (fail)
            go_big_quiet_step (fail)
            go_big_quiet_step (fail)
            go_big_quiet_step (fail)
            go_big_quiet_step (exact cI.re)
            go_big_quiet_step (fail)
            go_big_quiet_step (fail)
            refine wpQuiet_nil ?_
            rintro _ ⟨p, rfl⟩
            have hb2 := below_regrown wr p.d p.os
            generalize grow (redrawn wr p.d) p.os = w1 at *
            replace hb := Below.after hb hb2
            clear hb2 cI x0 x1 x2 x3 x4 y0 y1 y2 y3 y4
            go_wp2_with (fail)
            refine ⟨⟨k + 1, by omega, by go_num, hb⟩, ?_⟩
            simp [intOf]; omega
          · have hd2 : decide ((k : Int) ≥ (ts.length : Int)) = true := by simp; omega
            have hmk := rangeS_keep2 (hm k (by omega) hlt) hww hG
            have m0 : wr.cell? ⟨G, k * 5, none⟩ = some (.int .i64 (-77)) := hmk 0 _ rfl
            have m4 : wr.cell? ⟨G, k * 5 + 4, none⟩ = some (.slice none 0 0) := hmk 4 _ rfl
            clear h hs ih hr hm hhs hmk
            go_wp2_with (fail)
            refine ⟨⟨k + 1, by omega, by go_num, hb⟩, ?_⟩
            simp [intOf]; omega
        · have hd : decide ((k : Int) < (ts.length : Int) + 3) = false := by simp; omega
          clear h hs ih hr hm hhs
          go_wp2_with (fail)
          go_ret
          exact ⟨rfl, hb⟩
end Go.Proofs.YtdfpmgjholdknaaDoor
