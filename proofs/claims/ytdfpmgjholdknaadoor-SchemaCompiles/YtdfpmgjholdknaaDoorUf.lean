import Derived.Test.YtdfpmgjholdknaaDoorProg
import Derived.WalkKit
import Derived.WalkSpells
import Derived.WalkLawsBesides
import Derived.Lib.QuietBelow
import Derived.Laws.BitsAllLaws
import Derived.BigQuiet
import Derived.WalkMore
import Derived.Test.YtdfpmgjholdknaaDoorKa
import Derived.Test.YtdfpmgjholdknaaDoorUe
namespace Go.Proofs.YtdfpmgjholdknaaDoor
set_option maxRecDepth 100000
open Go Go.RowKit Go.Sort
attribute [local go_sem] setCell_drewN alloc_drewN
/-- What Valid answers. -/
def vld (ts : List Slt) : Int := if lft ts 1 256 < 0 then 80 else if 4194304 < (spL ts 0 0).2 then 2 else 0
theorem r_valid {W : World} {v : Value} {ts : List Slt} (h : Slo W v ts) : ∀ (w : World), Below W.heap.size W w → Calls Tryd.prog 22 #[v] w fun e w' => e = .returned (.int .i64 (vld ts)) ∧ Below w.heap.size w w' := by
  intro w hw
  have cL := r_left h w 1 256 hw (by omega) (by omega) (by omega) (by omega)
  by_cases h1 : lft ts 1 256 < 0
  · have d1 : decide (lft ts 1 256 < 0) = true := by simpa using h1
    have hv : Hid (vld ts = 80) := hide (if_pos h1)
    generalize lft ts 1 256 = x at *
    clear h1
    go_enter Tryd.func22, Tryd.ntmps22
    go_wp2_with (fail)
    refine cL.mono ?_
    rintro e_ w1 ⟨rfl, hb⟩
    go_wp2_with (fail)
    go_ret
    exact ⟨by rw [hv.out]; rfl, hb⟩
  · have d1 : decide (lft ts 1 256 < 0) = false := by simpa using h1
    have hg := lft_gd ts 1 256 (by omega) (by omega)
    have hv0 : vld ts = if 4194304 < (spL ts 0 0).2 then 2 else 0 := if_neg h1
    generalize lft ts 1 256 = x at *
    clear h1
    go_enter Tryd.func22, Tryd.ntmps22
    go_wp2_with (fail)
    refine cL.mono ?_
    rintro e_ w1 ⟨rfl, hb⟩
    have cS := r_span h hg w1 (Below.after hw hb)
    clear cL
    generalize (spL ts 0 0).1 = a at *
    generalize (spL ts 0 0).2 = b at *
    by_cases h2 : 4194304 < b
    · have d2 : decide ((b : Int) > 4194304) = true := by simp; omega
      rw [if_pos h2] at hv0
      replace hv0 := hide hv0
      clear h2
      go_wp2_with (fail)
      refine cS.mono ?_
      rintro e_ w2 ⟨rfl, hb2⟩
      replace hb := Below.after hb hb2
      go_wp2_with (fail)
      go_ret
      exact ⟨by rw [hv0.out]; rfl, hb⟩
    · have d2 : decide ((b : Int) > 4194304) = false := by simp; omega
      rw [if_neg h2] at hv0
      replace hv0 := hide hv0
      clear h2
      go_wp2_with (fail)
      refine cS.mono ?_
      rintro e_ w2 ⟨rfl, hb2⟩
      replace hb := Below.after hb hb2
      go_wp2_with (fail)
      go_ret
      exact ⟨by rw [hv0.out]; rfl, hb⟩
end Go.Proofs.YtdfpmgjholdknaaDoor
