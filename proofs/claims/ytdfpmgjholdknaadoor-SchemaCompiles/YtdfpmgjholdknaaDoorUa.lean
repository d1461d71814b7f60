import Derived.Test.YtdfpmgjholdknaaDoorProg
import Derived.WalkKit
import Derived.WalkSpells
import Derived.WalkLawsBesides
import Derived.Lib.QuietBelow
import Derived.Laws.BitsAllLaws
import Derived.BigQuiet
import Derived.WalkMore
import Derived.Test.YtdfpmgjholdknaaDoorKa
import Derived.Test.YtdfpmgjholdknaaDoorWj
namespace Go.Proofs.YtdfpmgjholdknaaDoor
set_option maxRecDepth 100000
open Go Go.RowKit Go.Sort
attribute [local go_sem] setCell_drewN alloc_drewN

/-- A slot of a schema, with the slots within it. -/
inductive Slt where
  | mk (no kind : Int) (least most : Nat) (sub : List Slt)
namespace Slt
def no : Slt → Int
  | .mk n _ _ _ _ => n
def kind : Slt → Int
  | .mk _ k _ _ _ => k
def least : Slt → Nat
  | .mk _ _ l _ _ => l
def most : Slt → Nat
  | .mk _ _ _ m _ => m
def sub : Slt → List Slt
  | .mk _ _ _ _ s => s
end Slt
def s0 : Slt := .mk 0 0 0 0 []
def gs (ts : List Slt) (i : Nat) : Slt := ts.getD i s0
def gvs (us : List Value) (i : Nat) : Value := us.getD i undef
def srow (t : Slt) (u : Value) : List Value := [.int .i64 t.no, .int .i64 t.kind, .int .u64 (t.least : Int), .int .u64 (t.most : Int), u]
/-- What a slot's numbers are. -/
def Sok (t : Slt) : Prop := (-9223372036854775808 ≤ t.no ∧ t.no ≤ 9223372036854775807) ∧ (-9223372036854775808 ≤ t.kind ∧ t.kind ≤ 9223372036854775807) ∧ t.least < 18446744073709551616 ∧ t.most < 18446744073709551616
/-- A schema in memory (lists within it may share their memory). -/
inductive Slo (W : World) : Value → List Slt → Prop
  | mk (ao : Option Addr) (cap : Nat) (ts : List Slt) (us : List Value) (hl : ts.length ≤ 2932031007317) (hc : ts.length ≤ cap) (hn : ao = none → cap = 0)
      (h : ∀ i, i < ts.length → ∃ b off, ao = some ⟨b, off, none⟩ ∧ b < W.heap.size ∧ W.rangeAt b (off + i * 5) (srow (gs ts i) (gvs us i)) ∧ Sok (gs ts i))
      (hs : ∀ i, i < ts.length → Slo W (gvs us i) (gs ts i).sub) : Slo W (.slice ao ts.length cap) ts
theorem rangeS_keep2 {w W V : World} {b o : Nat} {cs : List Value} (h : W.rangeAt b o cs) (hb : Below w.heap.size W V) (hlt : b < w.heap.size) : V.rangeAt b o cs := fun j v hv => (hb.cell (p := ⟨b, o + j, none⟩) hlt).trans (h j v hv)
theorem Slo.keep {W V : World} {v : Value} {ts : List Slt} (h : Slo W v ts) (hb : Below W.heap.size W V) : Slo V v ts := by
  induction h with
  | mk ao cap ts us hl hc hn h hs ih =>
    refine .mk ao cap ts us hl hc hn (fun i hi => ?_) ih
    obtain ⟨b, off, h1, h2, h3, h4⟩ := h i hi
    exact ⟨b, off, h1, Nat.lt_of_lt_of_le h2 hb.size, rangeS_keep2 h3 hb h2, h4⟩
theorem Slo.form {W : World} {v : Value} {ts : List Slt} (h : Slo W v ts) : ∃ ao cap, v = .slice ao ts.length cap := by
  cases h
  exact ⟨_, _, rfl⟩
theorem sdrop (ts : List Slt) (j : Nat) (h : j < ts.length) : ts.drop j = gs ts j :: ts.drop (j + 1) := by
  rw [List.drop_eq_getElem_cons h, gs, List.getD_eq_getElem?_getD, List.getElem?_eq_getElem h]
  rfl
/-- How many of so many slots a schema leaves. -/
def slL : List Slt → Int → Int
  | [], l => l
  | .mk _ _ _ _ sub :: ts, l => if 0 ≤ l then slL ts (slL sub (l - 1)) else l
theorem slL_cons (t : Slt) (ts : List Slt) (l : Int) : slL (t :: ts) l = if 0 ≤ l then slL ts (slL t.sub (l - 1)) else l := by
  cases t
  rw [slL]
  rfl
theorem slL_neg (ts : List Slt) (l : Int) (h : l < 0) : slL ts l = l := by
  cases ts with
  | nil => rw [slL]
  | cons t ts => rw [slL_cons, if_neg (by omega)]
theorem slL_le : ∀ (ts : List Slt) (l : Int), slL ts l ≤ l ∧ (-1 ≤ l → -1 ≤ slL ts l)
  | [], l => by rw [slL]; exact ⟨Int.le_refl _, id⟩
  | .mk n k a b sub :: ts, l => by
    rw [slL]
    split
    · have h1 := slL_le sub (l - 1)
      have h2 := slL_le ts (slL sub (l - 1))
      exact ⟨by omega, fun _ => by omega⟩
    · exact ⟨Int.le_refl _, id⟩
set_option maxRecDepth 100000 in
set_option maxHeartbeats 4000000 in
theorem l_slotsLeft {W : World} {v : Value} {ts : List Slt} (h : Slo W v ts) : ∀ (w : World) (l : Int), Below W.heap.size W w → -1 ≤ l → l ≤ 10000 → Calls Tryd.prog 9 #[v, .int .i64 l] w fun e w' => e = .returned (.int .i64 (slL ts l)) ∧ Below w.heap.size w w' := by
  induction h with
  | mk ao cap ts us hl hc hn h hs ih =>
    intro w l hw h1 h2
    go_enter Tryd.func9, Tryd.ntmps9
    go_wp2_with (fail)
    go_loopw [1, 5] (fun s i wr => ∃ (k : Nat) (m : Int), k ≤ ts.length ∧ i = .int .i64 k ∧ s = .int .i64 m ∧ -1 ≤ m ∧ m ≤ 10000 ∧ slL ts l = slL (ts.drop k) m ∧ Below w.heap.size w wr) (fun _ i _ => ts.length - (intOf i).toNat)
    case atStart => exact ⟨0, l, by omega, rfl, rfl, h1, h2, rfl, Below.refl _ _⟩
    case round =>
      obtain ⟨k, m, hk, rfl, rfl, hm1, hm2, he, hb⟩ := hrel
      have hww := Below.after hw hb
      by_cases hlt : k < ts.length
      · have hd : decide ((k : Int) < (ts.length : Int)) = true := by simp; omega
        by_cases hm0 : 0 ≤ m
        · have hd2 : decide (m ≥ 0) = true := by simpa using hm0
          obtain ⟨b, off, hao, hbl, hra, hok⟩ := h k hlt
          subst hao
          have c4 := rangeS_keep2 hra hww hbl 4 _ rfl
          have hk1 : 0 ≤ (k : Int) ∧ (k : Int) < (ts.length : Int) := by omega
          have cR := ih k hlt wr (m - 1) hww (by omega) (by omega)
          rw [sdrop ts k hlt, slL_cons, if_pos hm0] at he
          have hle := slL_le (gs ts k).sub (m - 1)
          have hle2 := hle.2 (by omega)
          replace hle := hle.1
          replace he := hide he
          generalize slL (gs ts k).sub (m - 1) = m2 at *
          generalize gvs us k = u at *
          clear h hs ih hra hok
          go_wp2_with (fail)
          refine cR.mono ?_
          rintro e_ w1 ⟨rfl, hb1⟩
          replace hb := Below.after hb hb1
          clear cR
          go_wp2_with (fail)
          refine ⟨⟨k + 1, m2, by omega, by go_num, rfl, by omega, by omega, he.out, hb⟩, ?_⟩
          simp [intOf]; omega
        · have hd2 : decide (m ≥ 0) = false := by simpa using hm0
          rw [slL_neg (ts.drop k) m (by omega)] at he
          replace he := hide he
          clear h hs ih
          go_wp2_with (fail)
          go_ret
          exact ⟨by rw [he.out]; rfl, hb⟩
      · have hd : decide ((k : Int) < (ts.length : Int)) = false := by simp; omega
        rw [List.drop_eq_nil_of_le (by omega), slL] at he
        replace he := hide he
        clear h hs ih
        go_wp2_with (fail)
        go_ret
        exact ⟨by rw [he.out]; rfl, hb⟩
theorem l_bigSlots {W : World} {v : Value} {ts : List Slt} (h : Slo W v ts) : Calls Tryd.prog 4 #[v] W fun e w' => e = .returned (.bool (decide (slL ts 10000 < 0))) ∧ Below W.heap.size W w' := by
  have cS := l_slotsLeft h W 10000 (Below.refl _ _) (by omega) (by omega)
  generalize slL ts 10000 = m at *
  go_enter Tryd.func4, Tryd.ntmps4
  go_wp2_with (fail)
  refine cS.mono ?_
  rintro e_ w1 ⟨rfl, hb⟩
  go_wp2_with (fail)
  go_ret
  exact ⟨rfl, hb⟩
end Go.Proofs.YtdfpmgjholdknaaDoor
