import Derived.Test.YtmiljapieehmgaaProg
import Derived.WalkKit
import Derived.WalkSpells
import Derived.WalkLawsBesides
import Derived.Lib.QuietBelow
import Derived.Laws.BitsAllLaws
import Derived.BigQuiet
import Derived.WalkMore
import Derived.Lib.SlBytesConst
import Derived.Test.YtmiljapieehmgaaKit
import Derived.Test.YtmiljapieehmgaaIi
namespace Go.Proofs.Ytmiljapieehmgaa
open Go Go.RowKit Go.Sort
attribute [local go_sem] setCell_drewN alloc_drewN

/-- Lists of their own, in rows of blocks that follow one another from lo on. -/
def Owns (W : World) : Nat → List (Value × List B) → Nat → Prop
  | lo, [], hi => lo ≤ hi
  | lo, x :: r, hi => ∃ m, lo ≤ m ∧ Own W lo x.1 x.2 ∧ (∀ k, x.1.ownBlock = some k → k < m) ∧ x.2.length ≤ 140737488350000 ∧ Owns W m r hi
theorem Owns.le {W : World} : ∀ {l : List (Value × List B)} {lo hi : Nat}, Owns W lo l hi → lo ≤ hi
  | [], _, _, h => h
  | _ :: _, _, _, ⟨_, h1, _, _, _, h2⟩ => Nat.le_trans h1 h2.le
theorem Owns.ap {W : World} {base : Nat} : ∀ {l : List (Value × List B)} {lo hi : Nat}, base ≤ lo → Owns W lo l hi → ∃ xs : List (Option Nat × Nat × Nat), xs.map apV = l.map Prod.fst ∧ ApR base W xs (fun _ _ => True) ∧ ApD xs ∧ ∀ (i : Nat) g m c, xs[i]? = some (some g, m, c) → lo ≤ g ∧ g < hi ∧ m ≤ 140737488350000
  | [], _, _, _, _ => ⟨[], rfl, fun j g m c h => by simp at h, fun i j g m n c d h => by simp at h, fun i g m c h => by simp at h⟩
  | x :: r, lo, hi, hb, ⟨k, h1, h2, h3, h4, h5⟩ => by
    obtain ⟨xs, q1, q2, q3, q4⟩ := Owns.ap (Nat.le_trans hb h1) h5
    obtain ⟨y, hy, hyy⟩ := own_ap h2
    have hk := h5.le
    have hb1 : ∀ g m c, y = (some g, m, c) → lo ≤ g ∧ g < k := fun g m c e => ⟨(hyy g m c e).2.1, h3 g (by rw [hy, e]; rfl)⟩
    refine ⟨y :: xs, by rw [List.map_cons, List.map_cons, q1, hy], ?_, ?_, ?_⟩
    · intro j g m c hj
      cases j with
      | zero =>
        have e : y = (some g, m, c) := by simpa using hj
        obtain ⟨e1, e2, e3, e4⟩ := hyy g m c e
        exact ⟨bl x.2, by rw [bl_len, e1], or_lower e4 hb, trivial⟩
      | succ j => exact q2 j g m c (by simpa using hj)
    · intro i j g m n c d hi hj
      cases i with
      | zero =>
        cases j with
        | zero => rfl
        | succ j =>
          have := hb1 g m c (by simpa using hi)
          have := q4 j g n d (by simpa using hj)
          omega
      | succ i =>
        cases j with
        | zero =>
          have := hb1 g n d (by simpa using hj)
          have := q4 i g m c (by simpa using hi)
          omega
        | succ j => rw [q3 i j g m n c d (by simpa using hi) (by simpa using hj)]
    · intro i g m c hi'
      cases i with
      | zero =>
        have e : y = (some g, m, c) := by simpa using hi'
        have := hb1 g m c e
        have := (hyy g m c e).1
        omega
      | succ i =>
        have := q4 i g m c (by simpa using hi')
        omega
/-- apart of lists of their own. -/
theorem s_aparts (l : List (Value × List B)) (lo hi gl : Nat) (w : World) (hO : Owns w lo l hi) (hh : hi ≤ gl) (hn : l.length ≤ 50) (hg : w.heap[gl]? = some (.cells (l.map Prod.fst).toArray 26 (0, 0))) : Calls Try.prog 14 #[.slice (some ⟨gl, 0, none⟩) l.length l.length] w fun e w' => e = .returned (.bool true) ∧ Below lo w w' := by
  have hle := hO.le
  have hgl := lt_of_row hg
  obtain ⟨xs, q1, q2, q3, q4⟩ := Owns.ap (Nat.le_refl lo) hO
  have hlen : xs.length = l.length := by have := congrArg List.length q1; simpa using this
  have := s_apart xs gl lo w (by omega) (by omega) (by rw [q1]; exact hg) q2 q3 (fun i g m c h => by have := q4 i g m c h; omega)
  rw [hlen] at this
  exact this
theorem Owns.keep {W V : World} : ∀ {l : List (Value × List B)} {lo hi : Nat}, Owns W lo l hi → Below W.heap.size W V → Owns V lo l hi
  | [], _, _, h, _ => h
  | _ :: _, _, _, ⟨m, h1, h2, h3, h4, h5⟩, hb => ⟨m, h1, h2.keep hb, h3, h4, h5.keep hb⟩
theorem Owns.snoc {W : World} {v : Value} {L : List B} : ∀ {l : List (Value × List B)} {lo hi : Nat}, Owns W lo l hi → Own W hi v L → L.length ≤ 140737488350000 → (hz : hi ≤ W.heap.size) → Owns W lo (l ++ [(v, L)]) W.heap.size
  | [], lo, hi, h, hO, hl, hz => ⟨W.heap.size, by have : lo ≤ hi := h; omega, own_down hO h, own_high hO, hl, Nat.le_refl _⟩
  | _ :: r, _, _, ⟨m, h1, h2, h3, h4, h5⟩, hO, hl, hz => ⟨m, h1, h2, h3, h4, h5.snoc hO hl hz⟩
end Go.Proofs.Ytmiljapieehmgaa
