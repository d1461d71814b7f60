import Derived.Test.YtjoohgkgkabbpaaGreatDoorProg
import Derived.WalkKit
import Derived.WalkSpells
import Derived.WalkLawsBesides
import Derived.Lib.QuietBelow
import Derived.Laws.BitsAllLaws
import Derived.BigQuiet
import Derived.WalkMore
import Derived.Test.YtjoohgkgkabbpaaGreatDoorUOpen
import Derived.Test.YtjoohgkgkabbpaaGreatDoorUQa1
import Derived.Deep.MidRow
namespace Go.Proofs.YtjoohgkgkabbpaaGreatDoor
set_option maxRecDepth 100000
open Go Go.RowKit Go.Sort
attribute [local go_sem] setCell_drewN alloc_drewN
inductive Slt where
 | mk (no kind : Int) (least most : Nat) (sub : List Slt)
namespace Slt
def no : Slt → Int
 | .mk n _ _ _ _ => n
def kind : Slt → Int
 | .mk _ k _ _ _ => k
def least : Slt → Nat
 | .mk _ _ l _ _ => l
def most : Slt → Nat
 | .mk _ _ _ m _ => m
def sub : Slt → List Slt
 | .mk _ _ _ _ s => s
end Slt
def s0 : Slt := .mk 0 0 0 0 []
def gs (ts : List Slt) (i : Nat) : Slt := ts.getD i s0
def gvs (us : List Value) (i : Nat) : Value := us.getD i undef
def srow (t : Slt) (u : Value) : List Value := [.int .i64 t.no, .int .i64 t.kind, .int .u64 (t.least : Int), .int .u64 (t.most : Int), u]
def Sok (t : Slt) : Prop := (-9223372036854775808 ≤ t.no ∧ t.no ≤ 9223372036854775807) ∧ (-9223372036854775808 ≤ t.kind ∧ t.kind ≤ 9223372036854775807) ∧ t.least < 18446744073709551616 ∧ t.most < 18446744073709551616
inductive Slo (W : World) : Value → List Slt → Prop
 | mk (ao : Option Addr) (cap : Nat) (ts : List Slt) (us : List Value) (hl : ts.length ≤ 2932031007317) (hc : ts.length ≤ cap) (hn : ao = none → cap = 0)
  (h : ∀ i, i < ts.length → ∃ b off, ao = some ⟨b, off, none⟩ ∧ b < W.heap.size ∧ W.rangeAt b (off + i * 5) (srow (gs ts i) (gvs us i)) ∧ Sok (gs ts i))
  (hs : ∀ i, i < ts.length → Slo W (gvs us i) (gs ts i).sub) : Slo W (.slice ao ts.length cap) ts
theorem rangeS_keep2 {w W V : World} {b o : Nat} {cs : List Value} (h : W.rangeAt b o cs) (hb : Below w.heap.size W V) (hlt : b < w.heap.size) : V.rangeAt b o cs := fun j v hv => (hb.cell (p := ⟨b, o + j, none⟩) hlt).trans (h j v hv)
theorem Slo.keep {W V : World} {v : Value} {ts : List Slt} (h : Slo W v ts) (hb : Below W.heap.size W V) : Slo V v ts := by
 induction h with
 | mk ao cap ts us hl hc hn h hs ih =>
  refine .mk ao cap ts us hl hc hn (fun i hi => ?_) ih
  obtain ⟨b, off, h1, h2, h3, h4⟩ := h i hi
  exact ⟨b, off, h1, Nat.lt_of_lt_of_le h2 hb.size, rangeS_keep2 h3 hb h2, h4⟩
theorem Slo.form {W : World} {v : Value} {ts : List Slt} (h : Slo W v ts) : ∃ ao cap, v = .slice ao ts.length cap := by
 cases h
 exact ⟨_, _, rfl⟩
theorem sdrop (ts : List Slt) (j : Nat) (h : j < ts.length) : ts.drop j = gs ts j :: ts.drop (j + 1) := by
 rw [List.drop_eq_getElem_cons h, gs, List.getD_eq_getElem?_getD, List.getElem?_eq_getElem h]
 rfl
end Go.Proofs.YtjoohgkgkabbpaaGreatDoor
namespace Go.Proofs.YtjoohgkgkabbpaaGreatDoor
set_option maxRecDepth 100000
open Go Go.RowKit Go.Sort
attribute [local go_sem] setCell_drewN alloc_drewN
def tyOf (k : Int) : Int := if k = 2 then 5 else if k = 3 ∨ k = 7 then 1 else if k = 1 ∨ k = 4 then 0 else 2
theorem kind_cases (k : Int) : k = 1 ∨ k = 2 ∨ k = 3 ∨ k = 4 ∨ k = 5 ∨ k = 6 ∨ k = 7 ∨ k = 8 ∨ k = 9 ∨ (k ≠ 1 ∧ k ≠ 2 ∧ k ≠ 3 ∧ k ≠ 4 ∧ k ≠ 5 ∧ k ≠ 6 ∧ k ≠ 7 ∧ k ≠ 8 ∧ k ≠ 9) := by omega
def cpd (n : Nat) : Nat := if 4194305 < n then 4194305 else n
theorem cpd_le (n : Nat) : cpd n ≤ 4194305 := by unfold cpd; split <;> omega
def frm (n : Nat) : Nat := cpd (n + (en n).length)
def fitB (k : Int) (r l0 m0 al c5 c6 c7 c8 : Bool) : Bool :=
 if k = 1 ∨ k = 3 then r && al else if k = 2 then r && al && c5 else if k = 4 then l0 && m0 && al else if k = 5 ∨ k = 6 then r && al && c6
 else if k = 7 then l0 && c7 && al else if k = 8 then l0 && m0 else if k = 9 then r && c8 else false
def fitN (k l m : Int) (n : Nat) : Bool := fitB k (decide (l ≤ m)) (l == 0) (m == 0) ((n : Int) == 0) (decide (m < 4294967296)) (decide (m ≤ 4194304)) (decide (m ≤ 9007199254740992)) (decide (m ≤ 4096))
theorem infoS : (Tryz.prog.info? 114).map (·.size) = some 5 := by kernel_rfl
theorem bSl (cs : Array Value) (W : World) : (Instr.box 114 (.agg cs)).run Tryz.prog W = .ok (.pointer (some ⟨W.heap.size, 0, none⟩)) (W.alloc (.cells cs 114)) := by kernel_rfl
end Go.Proofs.YtjoohgkgkabbpaaGreatDoor
namespace Go.Proofs.YtjoohgkgkabbpaaGreatDoor
set_option maxRecDepth 100000
open Go Go.RowKit Go.Sort
attribute [local go_sem] setCell_drewN alloc_drewN
def lfL : List Slt → Int → Int → Int → Int
 | [], _, _, room => room
 | .mk no k l m sub :: ts, prev, deep, room => if room < 0 then room else
  if no < 1 ∨ 536870911 < no ∨ no ≤ prev ∨ fitN k (l : Int) (m : Int) sub.length = false then -1 else
  lfL ts no deep (if (k = 8 ∨ k = 9) ∧ 0 ≤ room - 1 then (if 16 < sub.length ∨ 6 < deep + 1 then -1 else lfL sub 0 (deep + 1) (room - 1)) else room - 1)
def lft (ts : List Slt) (deep room : Int) : Int := if 16 < ts.length ∨ 6 < deep then -1 else lfL ts 0 deep room
def nst (t : Slt) : Prop := t.kind = 8 ∨ t.kind = 9
instance (t : Slt) : Decidable (nst t) := by unfold nst; infer_instance
def sfit (t : Slt) : Bool := fitN t.kind (t.least : Int) (t.most : Int) t.sub.length
theorem lfL_cons (t : Slt) (ts : List Slt) (prev deep room : Int) : lfL (t :: ts) prev deep room = if room < 0 then room else
 if t.no < 1 ∨ 536870911 < t.no ∨ t.no ≤ prev ∨ sfit t = false then -1 else
 lfL ts t.no deep (if nst t ∧ 0 ≤ room - 1 then lft t.sub (deep + 1) (room - 1) else room - 1) := by
 cases t
 rw [lfL]
 rfl
theorem lfL_neg (ts : List Slt) (prev deep room : Int) (h : room < 0) : lfL ts prev deep room = room := by
 cases ts with
 | nil => rw [lfL]
 | cons t ts => rw [lfL_cons, if_pos h]
theorem lfL_le : ∀ (ts : List Slt) (prev deep room : Int), -1 ≤ room → lfL ts prev deep room ≤ room ∧ -1 ≤ lfL ts prev deep room
 | [], _, _, room, h => by rw [lfL]; exact ⟨Int.le_refl _, h⟩
 | .mk no k l m sub :: ts, prev, deep, room, h => by
  rw [lfL]
  split
  ·exact ⟨Int.le_refl _, h⟩
  ·split
   ·exact ⟨h, Int.le_refl _⟩
   ·have h1 := lfL_le sub 0 (deep + 1) (room - 1) (by omega)
    have key : ∀ r, -1 ≤ r → r ≤ room → lfL ts no deep r ≤ room ∧ -1 ≤ lfL ts no deep r := fun r q1 q2 => by
     have := lfL_le ts no deep r q1
     omega
    apply key
    ·split
     ·split <;> omega
     ·omega
    ·split
     ·split <;> omega
     ·omega
end Go.Proofs.YtjoohgkgkabbpaaGreatDoor
namespace Go.Proofs.YtjoohgkgkabbpaaGreatDoor
set_option maxRecDepth 100000
open Go Go.RowKit Go.Sort
attribute [local go_sem] setCell_drewN alloc_drewN
def slsz (k : Int) (l m : Nat) (s : Nat × Nat) : Nat × Nat :=
 if k = 1 then ((en l).length, (en m).length) else if k = 2 then (4, 4) else if k = 3 ∨ k = 7 then (8, 8) else if k = 4 then (1, 1) else if k = 5 ∨ k = 6 then (frm l, frm m)
 else if k = 8 then (frm s.1, frm s.2) else (frm (cpd (frm s.1 * l)), frm (cpd (frm s.2 * m)))
def hdl (no k : Int) : Nat := (en (8 * no.toNat + (tyOf k).toNat)).length
def spL : List Slt → Nat → Nat → Nat × Nat
 | [], a, b => (a, b)
 | .mk no k l m sub :: ts, a, b => spL ts (cpd (a + hdl no k + (slsz k l m (spL sub 0 0)).1)) (cpd (b + hdl no k + (slsz k l m (spL sub 0 0)).2))
theorem spL_cons (t : Slt) (ts : List Slt) (a b : Nat) : spL (t :: ts) a b = spL ts (cpd (a + hdl t.no t.kind + (slsz t.kind t.least t.most (spL t.sub 0 0)).1)) (cpd (b + hdl t.no t.kind + (slsz t.kind t.least t.most (spL t.sub 0 0)).2)) := by
 cases t
 rw [spL]
 rfl
def gd : List Slt → Prop
 | [] => True
 | .mk no k l m sub :: ts => ((1 ≤ no ∧ no ≤ 536870911) ∧ fitN k (l : Int) (m : Int) sub.length = true ∧ ((k = 8 ∨ k = 9) → gd sub)) ∧ gd ts
theorem gd_cons (t : Slt) (ts : List Slt) : gd (t :: ts) ↔ ((1 ≤ t.no ∧ t.no ≤ 536870911) ∧ sfit t = true ∧ (nst t → gd t.sub)) ∧ gd ts := by
 cases t
 rw [gd]
 rfl
theorem lfL_gd : ∀ (ts : List Slt) (prev deep room : Int), -1 ≤ room → 0 ≤ lfL ts prev deep room → gd ts
 | [], _, _, _, _, _ => by rw [gd]; trivial
 | .mk no k l m sub :: ts, prev, deep, room, h0, h => by
  rw [gd]
  rw [lfL] at h
  split at h
  ·omega
  ·split at h
   ·omega
   ·rename_i hr hb
    have h1 : ¬ (no < 1) := fun q => hb (.inl q)
    have h2 : ¬ (536870911 < no) := fun q => hb (.inr (.inl q))
    have h3 : fitN k (l : Int) (m : Int) sub.length = true := by
     cases q : fitN k (l : Int) (m : Int) sub.length with
     | true => rfl
     | false => exact absurd (.inr (.inr (.inr q))) hb
    have hl1 := lfL_le sub 0 (deep + 1) (room - 1) (by omega)
    refine ⟨⟨⟨by omega, by omega⟩, h3, fun hk => ?_⟩, ?_⟩
    ·by_cases q : 0 ≤ room - 1
     ·rw [if_pos ⟨hk, q⟩] at h
      by_cases q2 : 16 < sub.length ∨ 6 < deep + 1
      ·rw [if_pos q2, lfL_neg _ _ _ _ (by omega)] at h
       omega
      ·rw [if_neg q2] at h
       by_cases q3 : 0 ≤ lfL sub 0 (deep + 1) (room - 1)
       ·exact lfL_gd sub 0 (deep + 1) (room - 1) (by omega) q3
       ·rw [lfL_neg ts _ _ _ (by omega)] at h
        omega
     ·rw [if_neg (fun x => q x.2), lfL_neg _ _ _ _ (by omega)] at h
      omega
    ·refine lfL_gd ts no deep _ ?_ h
     split
     ·split
      ·omega
      ·exact hl1.2
     ·omega
theorem lft_gd (ts : List Slt) (deep room : Int) (h0 : -1 ≤ room) (h : 0 ≤ lft ts deep room) : gd ts := by
 unfold lft at h
 split at h
 ·omega
 ·exact lfL_gd _ _ _ _ h0 h
theorem gd_at : ∀ (ts : List Slt) (i : Nat), i < ts.length → gd ts → (1 ≤ (gs ts i).no ∧ (gs ts i).no ≤ 536870911) ∧ sfit (gs ts i) = true ∧ (nst (gs ts i) → gd (gs ts i).sub)
 | [], i, hi, _ => by simp at hi
 | t :: ts, 0, _, h => ((gd_cons t ts).1 h).1
 | t :: ts, i + 1, hi, h => gd_at ts i (by simp at hi; omega) ((gd_cons t ts).1 h).2
theorem fit_cases {k : Int} {l m n : Nat} (h : fitN k (l : Int) (m : Int) n = true) : (k = 1 ∧ l ≤ m) ∨ (k = 2 ∧ l ≤ m ∧ m < 4294967296) ∨ (k = 3 ∧ l ≤ m) ∨ k = 4 ∨ ((k = 5 ∨ k = 6) ∧ l ≤ m ∧ m ≤ 4194304) ∨ k = 7 ∨ k = 8 ∨ (k = 9 ∧ l ≤ m ∧ m ≤ 4096) := by
 rcases kind_cases k with rfl | rfl | rfl | rfl | rfl | rfl | rfl | rfl | rfl | ⟨h1, h2, h3, h4, h5, h6, h7, h8, h9⟩
 all_goals try (simp [fitN, fitB] at h; omega)
 simp [fitN, fitB, h1, h2, h3, h4, h5, h6, h7, h8, h9] at h
theorem spL_le : ∀ (ts : List Slt) (a b : Nat), a ≤ 4194305 → b ≤ 4194305 → (spL ts a b).1 ≤ 4194305 ∧ (spL ts a b).2 ≤ 4194305
 | [], a, b, h1, h2 => by rw [spL]; exact ⟨h1, h2⟩
 | t :: ts, a, b, _, _ => by
  rw [spL_cons]
  exact spL_le ts _ _ (cpd_le _) (cpd_le _)
end Go.Proofs.YtjoohgkgkabbpaaGreatDoor
namespace Go.Proofs.YtjoohgkgkabbpaaGreatDoor
set_option maxRecDepth 100000
open Go Go.RowKit Go.Sort
attribute [local go_sem] setCell_drewN alloc_drewN
theorem tyOf_nat (k : Int) : ∃ T : Nat, tyOf k = (T : Int) ∧ T ≤ 5 := by
 unfold tyOf
 split
 ·exact ⟨5, rfl, by omega⟩
 ·split
  ·exact ⟨1, rfl, by omega⟩
  ·split
   ·exact ⟨0, rfl, by omega⟩
   ·exact ⟨2, rfl, by omega⟩
end Go.Proofs.YtjoohgkgkabbpaaGreatDoor
namespace Go.Proofs.YtjoohgkgkabbpaaGreatDoor
set_option maxRecDepth 100000
open Go Go.RowKit Go.Sort
attribute [local go_sem] setCell_drewN alloc_drewN
def vld (ts : List Slt) : Int := if lft ts 1 256 < 0 then 80 else if 4194304 < (spL ts 0 0).2 then 2 else 0
end Go.Proofs.YtjoohgkgkabbpaaGreatDoor
namespace Go.Proofs.YtjoohgkgkabbpaaGreatDoor
set_option maxRecDepth 100000
open Go Go.RowKit Go.Sort
attribute [local go_sem] setCell_drewN alloc_drewN
theorem s_headOf (n : Nat) (hn : n ≤ 536870911) : Gives 114 #[.int .i64 (n : Int)] (.int .u64 ((8 * n : Nat) : Int)) := by
 intro w
 have e : ((8 * n : Nat) : Int) = 8 * (n : Int) := by omega
 rw [e]
 clear e
 go_enter Tryz.func114, Tryz.ntmps114
 go_wp2_with (fail)
 go_ret
 exact ⟨rfl, Below.refl _ _⟩
theorem a_sizeOf (n : Nat) (hn : n < 18446744073709551616) : Gives 122 #[.int .u64 (n : Int)] (.int .u64 ((en n).length : Int)) := by
 intro w
 have cS := a_size n hn w
 have hel := en_ten hn
 generalize (en n).length = m at *
 go_enter Tryz.func122, Tryz.ntmps122
 go_wp2_with (fail)
 refine cS.mono ?_
 rintro e_ w1 ⟨rfl, hb⟩
 go_wp2_with (fail)
 go_ret
 exact ⟨rfl, hb⟩
theorem a_counted (n : Nat) (hn : n < 4611686018427387904) : Gives 217 #[.int .u64 (n : Int)] (.int .u64 (((en n).length + n : Nat) : Int)) := by
 intro w
 have cS := a_sizeOf n (by omega) w
 have hel := en_ten (n := n) (by omega)
 generalize (en n).length = m at *
 have e : ((m + n : Nat) : Int) = (m : Int) + (n : Int) := by omega
 rw [e]
 clear e
 go_enter Tryz.func217, Tryz.ntmps217
 go_wp2_with (fail)
 refine cS.mono ?_
 rintro e_ w1 ⟨rfl, hb⟩
 go_wp2_with (fail)
 go_ret
 exact ⟨rfl, hb⟩
end Go.Proofs.YtjoohgkgkabbpaaGreatDoor
namespace Go.Proofs.YtjoohgkgkabbpaaGreatDoor
set_option maxRecDepth 100000
open Go Go.RowKit Go.Sort
attribute [local go_sem] setCell_drewN alloc_drewN
def ctd (n : Nat) : Nat := (en n).length + n
theorem bNum (cs : Array Value) (W : World) : (Instr.box 232 (.agg cs)).run Tryz.prog W = .ok (.pointer (some ⟨W.heap.size, 0, none⟩)) (W.alloc (.cells cs 232)) := by kernel_rfl
theorem bOct (cs : Array Value) (W : World) : (Instr.box 241 (.agg cs)).run Tryz.prog W = .ok (.pointer (some ⟨W.heap.size, 0, none⟩)) (W.alloc (.cells cs 241)) := by kernel_rfl
theorem bFlt (cs : Array Value) (W : World) : (Instr.box 238 (.agg cs)).run Tryz.prog W = .ok (.pointer (some ⟨W.heap.size, 0, none⟩)) (W.alloc (.cells cs 238)) := by kernel_rfl
def nsz (ty : Int) (l m : Nat) : Nat × Nat := if ty = 5 then (4, 4) else if ty = 1 then (8, 8) else ((en l).length, (en m).length)
set_option maxRecDepth 100000 in
set_option maxHeartbeats 4000000 in
theorem a_numSize (ty : Int) (l m : Nat) (hl : l < 18446744073709551616) (hm : m < 18446744073709551616) : Gives 218 #[.agg #[.int .i64 ty, .int .u64 (l : Int), .int .u64 (m : Int)]] (.tuple #[.int .u64 ((nsz ty l m).1 : Int), .int .u64 ((nsz ty l m).2 : Int)]) := by
 intro w
 have R0 := hp1_0 w (.cells #[.int .i64 ty, .int .u64 (l : Int), .int .u64 (m : Int)] 232)
 have hw : Below w.heap.size w (w.alloc (.cells #[.int .i64 ty, .int .u64 (l : Int), .int .u64 (m : Int)] 232)) := (Below.refl _ _).alloc (Nat.le_refl _) _
 have c0 : (w.alloc (.cells #[.int .i64 ty, .int .u64 (l : Int), .int .u64 (m : Int)] 232)).cell? ⟨w.heap.size, 0, none⟩ = some (.int .i64 ty) := cell_of_row _ _ _ _ _ _ R0
 have c1 : (w.alloc (.cells #[.int .i64 ty, .int .u64 (l : Int), .int .u64 (m : Int)] 232)).cell? ⟨w.heap.size, 1, none⟩ = some (.int .u64 (l : Int)) := cell_of_row _ _ _ _ _ _ R0
 have c2 : (w.alloc (.cells #[.int .i64 ty, .int .u64 (l : Int), .int .u64 (m : Int)] 232)).cell? ⟨w.heap.size, 2, none⟩ = some (.int .u64 (m : Int)) := cell_of_row _ _ _ _ _ _ R0
 clear R0
 by_cases h5 : ty = 5
 ·subst h5
  go_enter Tryz.func218, Tryz.ntmps218
  go_wp2_with (first | (refine wpList_box rfl 232 _ rfl _ rfl (bNum _) ?_) | fail)
  go_ret2
  exact ⟨rfl, hw⟩
 by_cases h1 : ty = 1
 ·subst h1
  go_enter Tryz.func218, Tryz.ntmps218
  go_wp2_with (first | (refine wpList_box rfl 232 _ rfl _ rfl (bNum _) ?_) | fail)
  go_ret2
  exact ⟨rfl, hw⟩
 have q5 : (ty == 5) = false := by simpa using h5
 have q1 : (ty == 1) = false := by simpa using h1
 have hz : nsz ty l m = ((en l).length, (en m).length) := by unfold nsz; rw [if_neg h5, if_neg h1]
 rw [hz]
 have e1 := en_ten hl
 have e2 := en_ten hm
 have s1 : ∀ V, GivesB V 122 #[.int .u64 (l : Int)] (.int .u64 ((en l).length : Int)) := fun _ V _ => a_sizeOf l hl V
 have s2 : ∀ V, GivesB V 122 #[.int .u64 (m : Int)] (.int .u64 ((en m).length : Int)) := fun _ V _ => a_sizeOf m hm V
 simp only
 generalize (en l).length = A at *
 generalize (en m).length = Bm at *
 clear hz h1 h5
 go_enter Tryz.func218, Tryz.ntmps218
 go_wp2_with (first | (refine wpList_box rfl 232 _ rfl _ rfl (bNum _) ?_) | fail)
 generalize hW : (w.alloc (.cells #[.int .i64 ty, .int .u64 (l : Int), .int .u64 (m : Int)] 232)) = w1 at *
 replace hW := hide hW
 have k1 : ∀ p : Regrown, (grow (redrawn w1 p.d) p.os).cell? ⟨w.heap.size, 1, none⟩ = some (.int .u64 (l : Int)) := fun p => cell_regrown c1 p.d p.os
 have k2 : ∀ p : Regrown, (grow (redrawn w1 p.d) p.os).cell? ⟨w.heap.size, 2, none⟩ = some (.int .u64 (m : Int)) := fun p => cell_regrown c2 p.d p.os
 refine wp_region_quiet_below (by kernel_rfl) (by kernel_rfl) ?_
 go_big_quiet_step (fail)
 go_big_quiet_step (fail)
 go_big_quiet_step (exact (s1 w1).re)
 go_big_quiet_step (fail)
 go_big_quiet_step (fail)
 go_big_quiet_step (exact (s2 w1).re)
 go_big_quiet_step (fail)
 go_big_quiet_step (fail)
 refine wpQuiet_nil ?_
 rintro _ ⟨p, rfl⟩
 have hb2 := below_regrown w1 p.d p.os
 generalize grow (redrawn w1 p.d) p.os = w2 at *
 replace hw := Below.after hw hb2
 clear hb2 k1 k2 s1 s2
 go_wp2_with (fail)
 go_ret2
 exact ⟨rfl, hw⟩
set_option maxRecDepth 100000 in
set_option maxHeartbeats 4000000 in
theorem a_octSize (l m : Nat) (t : Bool) (hl : l < 4611686018427387904) (hm : m < 4611686018427387904) : Gives 220 #[.agg #[.int .u64 (l : Int), .int .u64 (m : Int), .bool t]] (.tuple #[.int .u64 (ctd l : Int), .int .u64 (ctd m : Int)]) := by
 intro w
 have R0 := hp1_0 w (.cells #[.int .u64 (l : Int), .int .u64 (m : Int), .bool t] 241)
 have hw : Below w.heap.size w (w.alloc (.cells #[.int .u64 (l : Int), .int .u64 (m : Int), .bool t] 241)) := (Below.refl _ _).alloc (Nat.le_refl _) _
 have c0 : (w.alloc (.cells #[.int .u64 (l : Int), .int .u64 (m : Int), .bool t] 241)).cell? ⟨w.heap.size, 0, none⟩ = some (.int .u64 (l : Int)) := cell_of_row _ _ _ _ _ _ R0
 have c1 : (w.alloc (.cells #[.int .u64 (l : Int), .int .u64 (m : Int), .bool t] 241)).cell? ⟨w.heap.size, 1, none⟩ = some (.int .u64 (m : Int)) := cell_of_row _ _ _ _ _ _ R0
 have c2 : (w.alloc (.cells #[.int .u64 (l : Int), .int .u64 (m : Int), .bool t] 241)).cell? ⟨w.heap.size, 2, none⟩ = some (.bool t) := cell_of_row _ _ _ _ _ _ R0
 clear R0
 have s1 : ∀ V, GivesB V 217 #[.int .u64 (l : Int)] (.int .u64 (ctd l : Int)) := fun _ V _ => a_counted l hl V
 have s2 : ∀ V, GivesB V 217 #[.int .u64 (m : Int)] (.int .u64 (ctd m : Int)) := fun _ V _ => a_counted m hm V
 generalize ctd l = A at *
 generalize ctd m = Bm at *
 go_enter Tryz.func220, Tryz.ntmps220
 go_wp2_with (first | (refine wpList_box rfl 241 _ rfl _ rfl (bOct _) ?_) | fail)
 generalize hW : (w.alloc (.cells #[.int .u64 (l : Int), .int .u64 (m : Int), .bool t] 241)) = w1 at *
 replace hW := hide hW
 have k0 : ∀ p : Regrown, (grow (redrawn w1 p.d) p.os).cell? ⟨w.heap.size, 0, none⟩ = some (.int .u64 (l : Int)) := fun p => cell_regrown c0 p.d p.os
 have k1 : ∀ p : Regrown, (grow (redrawn w1 p.d) p.os).cell? ⟨w.heap.size, 1, none⟩ = some (.int .u64 (m : Int)) := fun p => cell_regrown c1 p.d p.os
 refine wp_region_quiet_below (by kernel_rfl) (by kernel_rfl) ?_
 go_big_quiet_step (fail)
 go_big_quiet_step (fail)
 go_big_quiet_step (exact (s1 w1).re)
 go_big_quiet_step (fail)
 go_big_quiet_step (fail)
 go_big_quiet_step (exact (s2 w1).re)
 go_big_quiet_step (fail)
 go_big_quiet_step (fail)
 refine wpQuiet_nil ?_
 rintro _ ⟨p, rfl⟩
 have hb2 := below_regrown w1 p.d p.os
 generalize grow (redrawn w1 p.d) p.os = w2 at *
 replace hw := Below.after hw hb2
 clear hb2 k0 k1 s1 s2
 go_wp2_with (fail)
 go_ret2
 exact ⟨rfl, hw⟩
theorem a_fltSize (cs : Array Value) : Gives 219 #[.agg cs] (.tuple #[.int .u64 8, .int .u64 8]) := by
 intro w
 go_enter Tryz.func219, Tryz.ntmps219
 go_wp2_with (first | (refine wpList_box rfl 238 _ rfl _ rfl (bFlt _) ?_) | fail)
 go_ret2
 exact ⟨rfl, (Below.refl _ _).alloc (Nat.le_refl _) _⟩
end Go.Proofs.YtjoohgkgkabbpaaGreatDoor
namespace Go.Proofs.YtjoohgkgkabbpaaGreatDoor
set_option maxRecDepth 100000
open Go Go.RowKit Go.Sort
def psz (k : Int) (l m : Nat) (s : Nat × Nat) : Nat × Nat :=
 if k = 1 then ((en l).length, (en m).length) else if k = 2 then (4, 4) else if k = 3 ∨ k = 7 then (8, 8) else if k = 4 then (1, 1) else if k = 5 ∨ k = 6 then (ctd l, ctd m)
 else if k = 8 then (ctd s.1, ctd s.2) else (ctd (l * ctd s.1), ctd (m * ctd s.2))
def phd (no : Int) : Nat := (en (8 * no.toNat)).length
def prL : List Slt → Nat → Nat → Nat × Nat
 | [], a, b => (a, b)
 | .mk no k l m sub :: ts, a, b => prL ts (a + (phd no + (psz k l m (cpd (prL sub 0 0).1, cpd (prL sub 0 0).2)).1)) (b + (phd no + (psz k l m (cpd (prL sub 0 0).1, cpd (prL sub 0 0).2)).2))
def prS (ts : List Slt) : Nat × Nat := (cpd (prL ts 0 0).1, cpd (prL ts 0 0).2)
theorem prL_cons (t : Slt) (ts : List Slt) (a b : Nat) : prL (t :: ts) a b = prL ts (a + (phd t.no + (psz t.kind t.least t.most (prS t.sub)).1)) (b + (phd t.no + (psz t.kind t.least t.most (prS t.sub)).2)) := by
 cases t
 rw [prL]
 rfl
theorem cpd_eq (n : Nat) : cpd n = min n 4194305 := by unfold cpd; split <;> omega
theorem cpd_ctd (n : Nat) : cpd (ctd n) = frm n := by rw [ctd, frm, Nat.add_comm]
theorem cpd_ctd_cpd (n : Nat) : cpd (ctd (cpd n)) = cpd (ctd n) := by
 by_cases h : 4194305 < n
 ·have e : cpd n = 4194305 := if_pos h
  rw [e, cpd_eq, cpd_eq, ctd, ctd]
  omega
 ·have e : cpd n = n := if_neg h
  rw [e]
theorem cpd_mul (x l : Nat) : cpd (cpd x * l) = cpd (l * x) := by
 rw [Nat.mul_comm]
 by_cases h : 4194305 < x
 ·have e : cpd x = 4194305 := if_pos h
  rw [e, cpd_eq, cpd_eq]
  cases l with
  | zero => simp
  | succ l =>
   have h1 : 4194305 ≤ (l + 1) * 4194305 := Nat.le_mul_of_pos_left _ (by omega)
   have h2 : 4194305 ≤ (l + 1) * x := Nat.le_trans (by omega) (Nat.le_mul_of_pos_left x (by omega : 0 < l + 1))
   omega
 ·have e : cpd x = x := if_neg h
  rw [e]
theorem cpd_idem (a : Nat) : cpd (cpd a) = cpd a := by simp only [cpd_eq]; omega
theorem cpd_c1 (n : Nat) : cpd (ctd n) = cpd (frm n) := by rw [← cpd_ctd, cpd_idem]
theorem cpd_c2 (l x : Nat) : cpd (ctd (l * ctd x)) = cpd (frm (cpd (frm x * l))) := by rw [← cpd_ctd, ← cpd_ctd, cpd_mul, cpd_ctd_cpd, cpd_idem]
theorem psz_cpd (k : Int) (l m : Nat) (s : Nat × Nat) : cpd (psz k l m s).1 = cpd (slsz k l m s).1 ∧ cpd (psz k l m s).2 = cpd (slsz k l m s).2 := by
 unfold psz slsz
 split
 ·exact ⟨rfl, rfl⟩
 split
 ·exact ⟨rfl, rfl⟩
 split
 ·exact ⟨rfl, rfl⟩
 split
 ·exact ⟨rfl, rfl⟩
 split
 ·exact ⟨cpd_c1 _, cpd_c1 _⟩
 split
 ·exact ⟨cpd_c1 _, cpd_c1 _⟩
 ·exact ⟨cpd_c2 _ _, cpd_c2 _ _⟩
theorem phd_hdl (no k : Int) : phd no = hdl no k := by
 obtain ⟨T, hT, h5⟩ := tyOf_nat k
 unfold phd hdl
 rw [hT, Int.toNat_natCast]
 generalize no.toNat = n
 have key : ∀ j, 0 < j → ((en (8 * n)).length ≤ j ↔ (en (8 * n + T)).length ≤ j) := by
  intro j hj
  rw [en_len _ j hj, en_len _ j hj]
  obtain ⟨i, rfl⟩ : ∃ i, j = i + 1 := ⟨j - 1, by omega⟩
  have e : 2 ^ (7 * (i + 1)) = 8 * (16 * 2 ^ (7 * i)) := by rw [Nat.mul_add, Nat.pow_add, ← Nat.mul_assoc, Nat.mul_comm]
  rw [e]
  omega
 have p1 : 0 < (en (8 * n)).length := en_pos _
 have p2 : 0 < (en (8 * n + T)).length := en_pos _
 have h1 := (key _ p2).2 (Nat.le_refl _)
 have h2 := (key _ p1).1 (Nat.le_refl _)
 omega
theorem prL_spL : ∀ (ts : List Slt) (a b a' b' : Nat), cpd a = a' → cpd b = b' → (cpd (prL ts a b).1, cpd (prL ts a b).2) = spL ts a' b'
 | [], a, b, a', b', h1, h2 => by rw [prL, spL, h1, h2]
 | .mk no k l m sub :: ts, a, b, a', b', h1, h2 => by
  have hs := prL_spL sub 0 0 0 0 rfl rfl
  rw [prL, spL, ← hs]
  have hp := psz_cpd k l m (cpd (prL sub 0 0).1, cpd (prL sub 0 0).2)
  refine prL_spL ts _ _ _ _ ?_ ?_
  ·rw [← h1, ← phd_hdl, Nat.add_assoc]
   generalize (psz k l m (cpd (prL sub 0 0).1, cpd (prL sub 0 0).2)).1 = x at *
   generalize (slsz k l m (cpd (prL sub 0 0).1, cpd (prL sub 0 0).2)).1 = y at *
   have := hp.1
   simp only [cpd_eq] at *
   omega
  ·rw [← h2, ← phd_hdl, Nat.add_assoc]
   generalize (psz k l m (cpd (prL sub 0 0).1, cpd (prL sub 0 0).2)).2 = x at *
   generalize (slsz k l m (cpd (prL sub 0 0).1, cpd (prL sub 0 0).2)).2 = y at *
   have := hp.2
   simp only [cpd_eq] at *
   omega
theorem prS_spL (ts : List Slt) : prS ts = spL ts 0 0 := prL_spL ts 0 0 0 0 rfl rfl
end Go.Proofs.YtjoohgkgkabbpaaGreatDoor

