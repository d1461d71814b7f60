import Derived.Test.YtdfpmgjholdknaaDoorProg
import Derived.WalkKit
import Derived.Test.YtdfpmgjholdknaaDoorKa
import Derived.Test.YtdfpmgjholdknaaDoorUd
namespace Go.Proofs.YtdfpmgjholdknaaDoor
set_option maxRecDepth 100000
open Go Go.RowKit Go.Sort
/-- The slots of a schema and of those within it. -/
def tot : List Slt → Nat
  | [] => 0
  | .mk _ k _ _ sub :: ts => 1 + (if k = 8 ∨ k = 9 then tot sub else 0) + tot ts
/-- All but their number is as it must be. -/
def vok : List Slt → Int → Int → Prop
  | [], _, _ => True
  | .mk no k l m sub :: ts, prev, deep => ((prev < no ∧ 1 ≤ no ∧ no ≤ 536870911) ∧ fitN k (l : Int) (m : Int) sub.length = true ∧ ((k = 8 ∨ k = 9) → sub.length ≤ 16 ∧ deep + 1 ≤ 6 ∧ vok sub 0 (deep + 1))) ∧ vok ts no deep
theorem len_tot : ∀ ts : List Slt, ts.length ≤ tot ts
  | [] => by simp
  | .mk _ k _ _ sub :: ts => by
    have := len_tot ts
    rw [tot, List.length_cons]; omega
theorem lfL_val : ∀ (ts : List Slt) (prev deep room : Int), -1 ≤ room → (vok ts prev deep ∧ (tot ts : Int) ≤ room → lfL ts prev deep room = room - tot ts) ∧ (¬ (vok ts prev deep ∧ (tot ts : Int) ≤ room) → lfL ts prev deep room < 0)
  | [], prev, deep, room, h => by
    rw [lfL, vok, tot]
    exact ⟨fun _ => by omega, fun h2 => by
      have : ¬ ((0 : Nat) : Int) ≤ room := fun x => h2 ⟨trivial, x⟩
      omega⟩
  | .mk no k l m sub :: ts, prev, deep, room, h => by
    rw [lfL, vok, tot]
    by_cases hr : room < 0
    · rw [if_pos hr]
      exact ⟨fun ⟨_, x⟩ => by omega, fun _ => hr⟩
    · rw [if_neg hr]
      by_cases hb : no < 1 ∨ 536870911 < no ∨ no ≤ prev ∨ fitN k (l : Int) (m : Int) sub.length = false
      · rw [if_pos hb]
        refine ⟨fun ⟨⟨⟨h1, h2, _⟩, _⟩, _⟩ => ?_, fun _ => by omega⟩
        rcases hb with x | x | x | x
        · omega
        · omega
        · omega
        · rw [h2] at x; cases x
      · rw [if_neg hb]
        have hn : prev < no ∧ 1 ≤ no ∧ no ≤ 536870911 := ⟨Int.not_le.1 fun x => hb (.inr (.inr (.inl x))), Int.not_lt.1 fun x => hb (.inl x), Int.not_lt.1 fun x => hb (.inr (.inl x))⟩
        have hf : fitN k (l : Int) (m : Int) sub.length = true := by
          cases q : fitN k (l : Int) (m : Int) sub.length with
          | true => rfl
          | false => exact absurd (.inr (.inr (.inr q))) hb
        by_cases hk : k = 8 ∨ k = 9
        · rw [if_pos hk]
          by_cases hr1 : 0 ≤ room - 1
          · rw [if_pos ⟨hk, hr1⟩]
            by_cases hs : 16 < sub.length ∨ 6 < deep + 1
            · rw [if_pos hs, lfL_neg _ _ _ _ (by omega)]
              refine ⟨fun ⟨⟨⟨_, _, h3⟩, _⟩, _⟩ => ?_, fun _ => by omega⟩
              have := h3 hk; omega
            · rw [if_neg hs]
              obtain ⟨i1, i2⟩ := lfL_val sub 0 (deep + 1) (room - 1) (by omega)
              by_cases hv : vok sub 0 (deep + 1) ∧ (tot sub : Int) ≤ room - 1
              · rw [i1 hv]
                obtain ⟨j1, j2⟩ := lfL_val ts no deep (room - 1 - tot sub) (by omega)
                refine ⟨fun ⟨⟨_, h4⟩, h5⟩ => ?_, fun h6 => ?_⟩
                · rw [j1 ⟨h4, by omega⟩]; omega
                · refine j2 fun ⟨a, b⟩ => h6 ⟨⟨⟨hn, hf, fun _ => ⟨by omega, by omega, hv.1⟩⟩, a⟩, by omega⟩
              · have i3 := i2 hv
                rw [lfL_neg _ _ _ _ i3]
                refine ⟨fun ⟨⟨⟨_, _, h3⟩, _⟩, h5⟩ => absurd ⟨(h3 hk).2.2, by omega⟩ hv, fun _ => i3⟩
          · rw [if_neg (fun x => hr1 x.2), lfL_neg _ _ _ _ (by omega)]
            refine ⟨fun ⟨_, h5⟩ => by omega, fun _ => by omega⟩
        · rw [if_neg hk, if_neg (fun x => hk x.1)]
          obtain ⟨j1, j2⟩ := lfL_val ts no deep (room - 1) (by omega)
          refine ⟨fun ⟨⟨_, h4⟩, h5⟩ => ?_, fun h6 => ?_⟩
          · rw [j1 ⟨h4, by omega⟩]; omega
          · exact j2 fun ⟨a, b⟩ => h6 ⟨⟨⟨hn, hf, fun x => absurd x hk⟩, a⟩, by omega⟩
/-- What the program's outliner leaves: a list's slots are counted ahead. -/
def pmL : List Slt → Int → Int → Int → Int
  | [], _, _, L => L
  | .mk no k l m sub :: ts, prev, deep, L => if no ≤ prev ∨ 536870911 < no ∨ fitN k (l : Int) (m : Int) sub.length = false then -1 else
      if k = 8 ∨ k = 9 then
        (if 6 < deep + 1 ∨ 16 < sub.length ∨ L < sub.length then -1 else
          if pmL sub 0 (deep + 1) (L - sub.length) < 0 then -1 else pmL ts no deep (pmL sub 0 (deep + 1) (L - sub.length)))
      else pmL ts no deep L
def pm (ts : List Slt) (deep L : Int) : Int := if 6 < deep ∨ 16 < ts.length ∨ L < ts.length then -1 else pmL ts 0 deep (L - ts.length)
/-- What a slot leaves. -/
def psh (t : Slt) (deep L : Int) : Int := if sfit t = false then -1 else if nst t then pm t.sub (deep + 1) L else L
theorem pmL_cons (t : Slt) (ts : List Slt) (prev deep L : Int) (hL : 0 ≤ L) : pmL (t :: ts) prev deep L = if t.no ≤ prev ∨ 536870911 < t.no then -1 else if psh t deep L < 0 then -1 else pmL ts t.no deep (psh t deep L) := by
  obtain ⟨no, k, l, m, sub⟩ := t
  rw [pmL]
  show _ = if no ≤ prev ∨ 536870911 < no then -1 else if psh (.mk no k l m sub) deep L < 0 then -1 else pmL ts no deep (psh (.mk no k l m sub) deep L)
  by_cases h1 : no ≤ prev ∨ 536870911 < no
  · rw [if_pos (h1.elim .inl fun x => .inr (.inl x)), if_pos h1]
  · rw [if_neg h1]
    by_cases h2 : fitN k (l : Int) (m : Int) sub.length = false
    · have e : psh (.mk no k l m sub) deep L = -1 := if_pos h2
      rw [if_pos (.inr (.inr h2)), e, if_pos (by decide)]
    · rw [if_neg (fun q => q.elim (fun x => h1 (.inl x)) fun q => q.elim (fun x => h1 (.inr x)) h2)]
      have e0 : psh (.mk no k l m sub) deep L = if nst (.mk no k l m sub) then pm sub (deep + 1) L else L := if_neg h2
      by_cases hk : k = 8 ∨ k = 9
      · have e : psh (.mk no k l m sub) deep L = pm sub (deep + 1) L := e0.trans (if_pos hk)
        rw [if_pos hk, e, pm]
        by_cases hs : 6 < deep + 1 ∨ 16 < sub.length ∨ L < sub.length
        · rw [if_pos hs, if_pos hs, if_pos (by decide)]
        · rw [if_neg hs, if_neg hs]
      · have e : psh (.mk no k l m sub) deep L = L := e0.trans (if_neg hk)
        rw [if_neg hk, e, if_neg (by omega)]
theorem pmL_val : ∀ (ts : List Slt) (prev deep L : Int), 0 ≤ prev → 0 ≤ L → (vok ts prev deep ∧ (tot ts : Int) - ts.length ≤ L → pmL ts prev deep L = L - (tot ts - ts.length)) ∧ (¬ (vok ts prev deep ∧ (tot ts : Int) - ts.length ≤ L) → pmL ts prev deep L < 0)
  | [], prev, deep, L, _, h => by
    rw [pmL, vok, tot]
    exact ⟨fun _ => by simp, fun h2 => absurd ⟨trivial, by simpa using h⟩ h2⟩
  | .mk no k l m sub :: ts, prev, deep, L, hp, h => by
    have ht := len_tot ts
    have ht2 := len_tot sub
    rw [pmL, vok, tot, List.length_cons]
    by_cases hb : no ≤ prev ∨ 536870911 < no ∨ fitN k (l : Int) (m : Int) sub.length = false
    · rw [if_pos hb]
      refine ⟨fun ⟨⟨⟨h1, h2, _⟩, _⟩, _⟩ => ?_, fun _ => by omega⟩
      rcases hb with x | x | x
      · omega
      · omega
      · rw [h2] at x; cases x
    · rw [if_neg hb]
      have hn : prev < no ∧ 1 ≤ no ∧ no ≤ 536870911 := by
        have a : ¬ no ≤ prev := fun x => hb (.inl x)
        have b : ¬ 536870911 < no := fun x => hb (.inr (.inl x))
        omega
      have hf : fitN k (l : Int) (m : Int) sub.length = true := by
        cases q : fitN k (l : Int) (m : Int) sub.length with
        | true => rfl
        | false => exact absurd (.inr (.inr q)) hb
      by_cases hk : k = 8 ∨ k = 9
      · rw [if_pos hk, if_pos hk]
        by_cases hs : 6 < deep + 1 ∨ 16 < sub.length ∨ L < sub.length
        · rw [if_pos hs]
          refine ⟨fun ⟨⟨⟨_, _, h3⟩, _⟩, h5⟩ => ?_, fun _ => by omega⟩
          have := h3 hk
          omega
        · rw [if_neg hs]
          obtain ⟨i1, i2⟩ := pmL_val sub 0 (deep + 1) (L - sub.length) (by omega) (by omega)
          by_cases hv : vok sub 0 (deep + 1) ∧ (tot sub : Int) - sub.length ≤ L - sub.length
          · rw [i1 hv, if_neg (by omega)]
            obtain ⟨j1, j2⟩ := pmL_val ts no deep (L - sub.length - (tot sub - sub.length)) (by omega) (by omega)
            refine ⟨fun ⟨⟨_, h4⟩, h5⟩ => ?_, fun h6 => ?_⟩
            · rw [j1 ⟨h4, by omega⟩]; omega
            · exact j2 fun ⟨a, b⟩ => h6 ⟨⟨⟨hn, hf, fun _ => ⟨by omega, by omega, hv.1⟩⟩, a⟩, by omega⟩
          · rw [if_pos (i2 hv)]
            exact ⟨fun ⟨⟨⟨_, _, h3⟩, _⟩, h5⟩ => absurd ⟨(h3 hk).2.2, by omega⟩ hv, fun _ => by omega⟩
      · rw [if_neg hk, if_neg hk]
        obtain ⟨j1, j2⟩ := pmL_val ts no deep L (by omega) h
        refine ⟨fun ⟨⟨_, h4⟩, h5⟩ => ?_, fun h6 => ?_⟩
        · rw [j1 ⟨h4, by omega⟩]; omega
        · exact j2 fun ⟨a, b⟩ => h6 ⟨⟨⟨hn, hf, fun x => absurd x hk⟩, a⟩, by omega⟩
/-- Both refuse the same. -/
theorem pm_lft (ts : List Slt) (deep L : Int) (h : 0 ≤ L) : 0 ≤ pm ts deep L ↔ 0 ≤ lft ts deep L := by
  have ht := len_tot ts
  obtain ⟨a1, a2⟩ := lfL_val ts 0 deep L (by omega)
  unfold pm lft
  by_cases h1 : 6 < deep ∨ 16 < ts.length
  · rw [if_pos (by omega), if_pos (by omega)]
  · rw [if_neg (by omega : ¬ (16 < ts.length ∨ 6 < deep))]
    by_cases h2 : L < ts.length
    · rw [if_pos (by omega)]
      have := a2 fun ⟨_, x⟩ => by omega
      omega
    · rw [if_neg (by omega)]
      obtain ⟨b1, b2⟩ := pmL_val ts 0 deep (L - ts.length) (by omega) (by omega)
      by_cases hv : vok ts 0 deep ∧ (tot ts : Int) ≤ L
      · rw [a1 hv, b1 ⟨hv.1, by omega⟩]; omega
      · have c1 := a2 hv
        have c2 := b2 fun ⟨x, y⟩ => hv ⟨x, by omega⟩
        omega
theorem pmL_le (ts : List Slt) (prev deep L : Int) (hp : 0 ≤ prev) (h : 0 ≤ L) : pmL ts prev deep L ≤ L := by
  have ht := len_tot ts
  obtain ⟨b1, b2⟩ := pmL_val ts prev deep L hp h
  by_cases hv : vok ts prev deep ∧ (tot ts : Int) - ts.length ≤ L
  · rw [b1 hv]; omega
  · have := b2 hv; omega
theorem pm_le (ts : List Slt) (deep L : Int) (h : 0 ≤ L) : pm ts deep L ≤ L := by
  unfold pm
  split
  · omega
  · have := pmL_le ts 0 deep (L - ts.length) (by omega) (by omega)
    omega
theorem psh_le (t : Slt) (deep L : Int) (h : 0 ≤ L) : psh t deep L ≤ L := by
  unfold psh
  split
  · omega
  · split
    · exact pm_le _ _ _ h
    · omega
end Go.Proofs.YtdfpmgjholdknaaDoor
