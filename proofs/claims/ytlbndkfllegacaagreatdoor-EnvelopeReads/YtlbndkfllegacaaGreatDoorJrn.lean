import Derived.Test.YtlbndkfllegacaaGreatDoorQb8
import Derived.Test.YtlbndkfllegacaaGreatDoorQb4
import Derived.OwnWalk
import Derived.Deep.Cut
import Derived.Deep.RegionHeld3
namespace Go.Proofs.YtlbndkfllegacaaGreatDoor
set_option maxRecDepth 100000
open Go Go.RowKit Go.Sort
attribute [local go_sem] setCell_drewN alloc_drewN
section
variable {P : Program} {ops : Array Oper} {Q : Exit → Act → World → Prop} {md : Region.Mode} {S : World → Prop}
/-- Any of three operations may come up. -/
theorem wpAnyH_three {j k l : Nat} {oj ok ol : Oper} {fuel : Nat} {listed : Array Bool} {a : Act} {w : World} (hr : Region.ready md ops listed = [j, k, l]) (hj : ops[j]? = some oj) (hk : ops[k]? = some ok) (hl : ops[l]? = some ol) (wj : Region.wanted oj (yielded ops a.tmps) = true) (wk : Region.wanted ok (yielded ops a.tmps) = true) (wl : Region.wanted ol (yielded ops a.tmps) = true)
    (h1 : ∀ K : Act → World → Prop, (∀ a' w', S w' → wpAnyH P md ops Q S fuel (listed.setIfInBounds j true) a' w' → K a' w') → oj.wp P a w K Q)
    (h2 : ∀ K : Act → World → Prop, (∀ a' w', S w' → wpAnyH P md ops Q S fuel (listed.setIfInBounds k true) a' w' → K a' w') → ok.wp P a w K Q)
    (h3 : ∀ K : Act → World → Prop, (∀ a' w', S w' → wpAnyH P md ops Q S fuel (listed.setIfInBounds l true) a' w' → K a' w') → ol.wp P a w K Q) : wpAnyH P md ops Q S (fuel + 1) listed a w := by
  refine wpAnyH_all hr (by simp) (fun i hi' => ?_)
  obtain rfl | rfl | rfl : i = j ∨ i = k ∨ i = l := by simpa using hi'
  · unfold wpOp
    simp only [hj, wj, if_true]
    exact .inl (h1 _ (fun a' w' hS hn => ⟨hS, hn⟩))
  · unfold wpOp
    simp only [hk, wk, if_true]
    exact .inl (h2 _ (fun a' w' hS hn => ⟨hS, hn⟩))
  · unfold wpOp
    simp only [hl, wl, if_true]
    exact .inl (h3 _ (fun a' w' hS hn => ⟨hS, hn⟩))
end
theorem rdc_keepH {W V : World} {g : Nat} {ts : List Slt} (h : Rdc W g ts) (hb : Below W.heap.size W V) : Rdc V g ts := by
  obtain ⟨u, h1, h2⟩ := h
  exact ⟨u, keep hb h1, h2.keep hb⟩
/-- A header's fields. -/
def hfd (pub : List B) (prev m : Nat) : List Fd := fdk hdr (hxs 0 prev m) [pub, [], []] 3
theorem hfd_at (g : Nat) (pub : List B) (prev m : Nat) : fdk hdr (hxs g prev m) [pub, [], []] 3 = hfd pub prev m := rfl
theorem hfd_at3 (g : Nat) (pub : List B) (prev m : Nat) : fdk hdr (hxs g prev m) [pub, [], []] hdr.length = hfd pub prev m := rfl
theorem hdr_chk (g prev m : Nat) (h1 : prev < 4294967296) (h2 : m < 4294967296) : chF hdr (hxs g prev m) 1 = none := by
  have h := hdr_ck g prev m h1 h2
  unfold ckF at h
  rwa [if_neg (by decide), if_neg (by show ¬ (3 : Nat) ≠ 3; decide)] at h
end Go.Proofs.YtlbndkfllegacaaGreatDoor
