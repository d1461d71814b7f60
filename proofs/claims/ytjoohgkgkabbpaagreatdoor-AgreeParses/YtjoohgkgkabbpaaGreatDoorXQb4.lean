import Derived.Test.YtjoohgkgkabbpaaGreatDoorXQa8
import Derived.Test.YtjoohgkgkabbpaaGreatDoorXUa
import Derived.Test.YtjoohgkgkabbpaaGreatDoorProg
import Derived.WalkKit
import Derived.WalkSpells
import Derived.WalkLawsBesides
import Derived.Lib.QuietBelow
import Derived.Laws.BitsAllLaws
import Derived.BigQuiet
import Derived.WalkMore
import Derived.Deep.MidRow
import Derived.Test.YtjoohgkgkabbpaaGreatDoorXOpen
import Derived.Test.YtjoohgkgkabbpaaGreatDoorXQa7
import Derived.Test.YtjoohgkgkabbpaaGreatDoorXQa3
import Derived.Test.YtjoohgkgkabbpaaGreatDoorXJrx
import Derived.OwnWalk
import Derived.Deep.Cut
import Derived.Deep.RegionHeld3
namespace Go.Proofs.YtjoohgkgkabbpaaGreatDoor
set_option maxRecDepth 100000
open Go Go.RowKit Go.Sort
attribute [local go_sem] setCell_drewN alloc_drewN
def hcs : Array Value := #[.int .i64 1, .int .i64 5, .int .u64 32, .int .u64 32, .slice none 0 0, .int .i64 2, .int .i64 2, .int .u64 0, .int .u64 4294967295, .slice none 0 0, .int .i64 3, .int .i64 2, .int .u64 0, .int .u64 4294967295, .slice none 0 0]
end Go.Proofs.YtjoohgkgkabbpaaGreatDoor
namespace Go.Proofs.YtjoohgkgkabbpaaGreatDoor
set_option maxRecDepth 100000
open Go Go.RowKit Go.Sort
attribute [local go_sem] setCell_drewN alloc_drewN
section
variable {P : Program} {ops : Array Oper} {Q : Exit → Act → World → Prop} {md : Region.Mode} {S : World → Prop}
end
def hrw (pub : List B) (prev m : Nat) : Array Value := irow .u8 (bl pub) ++ #[.int .u32 (prev : Int), .int .u32 (m : Int)]
def hxs (g prev m : Nat) : List VR := [⟨0, some ⟨g, 0, none⟩, 32, 32, none, 0, 0⟩, ⟨prev, none, 0, 0, none, 0, 0⟩, ⟨m, none, 0, 0, none, 0, 0⟩]
def hps (g prev m : Nat) : Array Value := #[.int .u64 0, .slice (some ⟨g, 0, none⟩) 32 32, .slice none 0 0, .int .u64 (prev : Int), .slice none 0 0, .slice none 0 0, .int .u64 (m : Int), .slice none 0 0, .slice none 0 0]
end Go.Proofs.YtjoohgkgkabbpaaGreatDoor
namespace Go.Proofs.YtjoohgkgkabbpaaGreatDoor
set_option maxRecDepth 100000
open Go Go.RowKit Go.Sort
attribute [local go_sem] setCell_drewN alloc_drewN
def slr (t : Slt) (u : Value) : Array Value := #[.int .i64 t.no, .int .i64 t.kind, .int .u64 (t.least : Int), .int .u64 (t.most : Int), u]
set_option maxRecDepth 100000 in
set_option maxHeartbeats 4000000 in
theorem r_within (n : Int) (no k l m : Int) (so : Option Addr) (sn sc : Nat) (w : World) : Calls Tryz.prog 120 #[.int .u64 n, .agg #[.int .i64 no, .int .i64 k, .int .u64 l, .int .u64 m, .slice so sn sc]] w fun e w' => e = .returned (.bool (wth n l m == 0)) ∧ Below w.heap.size w w' := by
 have hb : ∀ o, Below w.heap.size w (w.alloc o) := fun o => (Below.refl _ _).alloc (Nat.le_refl _) _
 rcases Int.lt_or_le n l with q | q
 ·have e : (wth n l m == 0) = false := by unfold wth; rw [if_pos (.inl q)]; rfl
  have hd : decide (n ≥ l) = false := by simpa using q
  rw [e]
  go_enter Tryz.func120, Tryz.ntmps120
  go_wp2
  go_ret
  exact ⟨rfl, hb _⟩
 ·have hd : decide (n ≥ l) = true := by simpa using q
  rcases Int.lt_or_le m n with q2 | q2
  ·have e : (wth n l m == 0) = false := by unfold wth; rw [if_pos (.inr q2)]; rfl
   have hd2 : decide (n ≤ m) = false := by simpa using q2
   rw [e]
   go_enter Tryz.func120, Tryz.ntmps120
   go_wp2
   go_ret
   exact ⟨rfl, hb _⟩
  ·have e : (wth n l m == 0) = true := by unfold wth; rw [if_neg (by omega)]; rfl
   have hd2 : decide (n ≤ m) = true := by simpa using q2
   rw [e]
   go_enter Tryz.func120, Tryz.ntmps120
   go_wp2
   go_ret
   exact ⟨rfl, hb _⟩
def plE (t : Slt) (x : VR) : Int := if pbad (t.kind == 5) x.num x.dl x.pl then 84 else ftE t x
theorem infoSlt : (Tryz.prog.info? 114).map (·.size) = some 5 := by kernel_rfl
theorem wth_two (n l m : Int) : wth n l m = 0 ∨ wth n l m = 83 := by unfold wth; split; exact .inr rfl; exact .inl rfl
set_option maxRecDepth 100000 in
set_option maxHeartbeats 8000000 in
theorem r_plainN (no k l m : Int) (hk : k = 1 ∨ k = 2 ∨ k = 3) (so : Option Addr) (sn sc : Nat) (n : Nat) (da : Option Addr) (dl dc : Nat) (pa : Option Addr) (pl pc : Nat) (w : World) :
 Calls Tryz.prog 118 #[.agg #[.int .i64 no, .int .i64 k, .int .u64 l, .int .u64 m, .slice so sn sc], .agg #[.int .u64 (n : Int), .slice da dl dc, .slice pa pl pc]] w fun e w' => e = .returned (.int .i64 (if pbad false n dl pl then 84 else wth (n : Int) l m)) ∧ Below w.heap.size w w' := by
 have hb : Below w.heap.size w ((w.alloc (.cells #[.int .i64 no, .int .i64 k, .int .u64 l, .int .u64 m, .slice so sn sc] 114)).alloc (.cells #[.int .u64 (n : Int), .slice da dl dc, .slice pa pl pc] 78)) := ((Below.refl _ _).alloc (Nat.le_refl _) _).alloc (by simp) _
 have r0 := hp2_0 w (.cells #[.int .i64 no, .int .i64 k, .int .u64 l, .int .u64 m, .slice so sn sc] 114) (.cells #[.int .u64 (n : Int), .slice da dl dc, .slice pa pl pc] 78)
 have cW := r_within (n : Int) no k l m so sn sc
 obtain ⟨R, hR⟩ : ∃ R, (if pbad false n dl pl then 84 else wth (n : Int) l m) = R := ⟨_, rfl⟩
 rw [hR]
 rcases hbad : pbad false n dl pl
 ·rw [hbad, if_neg Bool.false_ne_true] at hR
  obtain rfl : pl = 0 := by
   rcases Nat.eq_zero_or_pos pl with q | q
   ·exact q
   ·simp [pbad, q] at hbad
  obtain rfl : dl = 0 := by
   rcases Nat.eq_zero_or_pos dl with q | q
   ·exact q
   ·simp [pbad, q] at hbad
  clear hbad
  rcases wth_two (n : Int) l m with hz | hz
  ·rw [hz] at cW hR
   replace cW : ∀ V, Calls Tryz.prog 120 #[.int .u64 (n : Int), .agg #[.int .i64 no, .int .i64 k, .int .u64 l, .int .u64 m, .slice so sn sc]] V fun e w' => e = .returned (.bool true) ∧ Below V.heap.size V w' := cW
   replace hR := hide hR
   clear hz
   rcases hk with rfl | rfl | rfl
   all_goals
    go_enter Tryz.func118, Tryz.ntmps118
    go_wp2_with (first | (refine wpList_load_want rfl 114 _ rfl w.heap.size rfl 114 _ (0, 0) _ r0 Tryz.underlying114 rfl infoSlt ?_) | fail)
    refine (cW _).mono ?_
    rintro e_ w1 ⟨rfl, hb1⟩
    replace hb1 := Below.after hb hb1
    go_wp2
    go_ret
    exact ⟨by rw [← hR.out]; rfl, hb1⟩
  ·rw [hz] at cW hR
   replace cW : ∀ V, Calls Tryz.prog 120 #[.int .u64 (n : Int), .agg #[.int .i64 no, .int .i64 k, .int .u64 l, .int .u64 m, .slice so sn sc]] V fun e w' => e = .returned (.bool false) ∧ Below V.heap.size V w' := cW
   replace hR := hide hR
   clear hz
   rcases hk with rfl | rfl | rfl
   all_goals
    go_enter Tryz.func118, Tryz.ntmps118
    go_wp2_with (first | (refine wpList_load_want rfl 114 _ rfl w.heap.size rfl 114 _ (0, 0) _ r0 Tryz.underlying114 rfl infoSlt ?_) | fail)
    refine (cW _).mono ?_
    rintro e_ w1 ⟨rfl, hb1⟩
    replace hb1 := Below.after hb hb1
    go_wp2
    go_ret
    exact ⟨by rw [← hR.out]; rfl, hb1⟩
 ·rw [hbad, if_pos rfl] at hR
  replace hR := hide hR
  rcases Nat.eq_zero_or_pos dl with rfl | hdp
  ·have hq : 0 < pl := by simpa [pbad] using hbad
   have hd : decide ((pl : Int) > 0) = true := by simp; omega
   clear hbad
   rcases hk with rfl | rfl | rfl
   all_goals
    go_enter Tryz.func118, Tryz.ntmps118
    go_wp2
    go_ret
    exact ⟨by rw [← hR.out]; rfl, hb⟩
  ·have hd : decide ((dl : Int) > 0) = true := by simp; omega
   clear hbad
   rcases hk with rfl | rfl | rfl
   all_goals
    go_enter Tryz.func118, Tryz.ntmps118
    go_wp2
    go_ret
    exact ⟨by rw [← hR.out]; rfl, hb⟩
set_option maxRecDepth 100000 in
set_option maxHeartbeats 8000000 in
theorem r_plainB (no k l m : Int) (hk : k = 5) (so : Option Addr) (sn sc : Nat) (n : Nat) (da : Option Addr) (dl dc : Nat) (hdl : dl < 9223372036854775808) (pa : Option Addr) (pl pc : Nat) (w : World) :
 Calls Tryz.prog 118 #[.agg #[.int .i64 no, .int .i64 k, .int .u64 l, .int .u64 m, .slice so sn sc], .agg #[.int .u64 (n : Int), .slice da dl dc, .slice pa pl pc]] w fun e w' => e = .returned (.int .i64 (if pbad true n dl pl then 84 else wth (dl : Int) l m)) ∧ Below w.heap.size w w' := by
 have hb : Below w.heap.size w ((w.alloc (.cells #[.int .i64 no, .int .i64 k, .int .u64 l, .int .u64 m, .slice so sn sc] 114)).alloc (.cells #[.int .u64 (n : Int), .slice da dl dc, .slice pa pl pc] 78)) := ((Below.refl _ _).alloc (Nat.le_refl _) _).alloc (by simp) _
 have r0 := hp2_0 w (.cells #[.int .i64 no, .int .i64 k, .int .u64 l, .int .u64 m, .slice so sn sc] 114) (.cells #[.int .u64 (n : Int), .slice da dl dc, .slice pa pl pc] 78)
 have cW := r_within (dl : Int) no k l m so sn sc
 obtain ⟨R, hR⟩ : ∃ R, (if pbad true n dl pl then 84 else wth (dl : Int) l m) = R := ⟨_, rfl⟩
 rw [hR]
 rcases hbad : pbad true n dl pl
 ·rw [hbad, if_neg Bool.false_ne_true] at hR
  obtain rfl : pl = 0 := by
   rcases Nat.eq_zero_or_pos pl with q | q
   ·exact q
   ·simp [pbad, q] at hbad
  obtain rfl : n = 0 := by
   rcases Nat.eq_zero_or_pos n with q | q
   ·exact q
   ·simp [pbad, show n ≠ 0 by omega] at hbad
  clear hbad
  rcases wth_two (dl : Int) l m with hz | hz
  ·rw [hz] at cW hR
   replace cW : ∀ V, Calls Tryz.prog 120 #[.int .u64 (dl : Int), .agg #[.int .i64 no, .int .i64 k, .int .u64 l, .int .u64 m, .slice so sn sc]] V fun e w' => e = .returned (.bool true) ∧ Below V.heap.size V w' := cW
   replace hR := hide hR
   clear hz
   subst hk
   all_goals
    go_enter Tryz.func118, Tryz.ntmps118
    go_wp2_with (first | (refine wpList_load_want rfl 114 _ rfl w.heap.size rfl 114 _ (0, 0) _ r0 Tryz.underlying114 rfl infoSlt ?_) | fail)
    refine (cW _).mono ?_
    rintro e_ w1 ⟨rfl, hb1⟩
    have c1 : w1.cell? ⟨w.heap.size, 1, none⟩ = some (.int .i64 5) := by rw [cell_of_row _ _ _ _ _ _ (keep hb1 r0)]; rfl
    replace hb1 := Below.after hb hb1
    go_wp2
    go_ret
    exact ⟨by rw [← hR.out]; rfl, hb1⟩
  ·rw [hz] at cW hR
   replace cW : ∀ V, Calls Tryz.prog 120 #[.int .u64 (dl : Int), .agg #[.int .i64 no, .int .i64 k, .int .u64 l, .int .u64 m, .slice so sn sc]] V fun e w' => e = .returned (.bool false) ∧ Below V.heap.size V w' := cW
   replace hR := hide hR
   clear hz
   subst hk
   all_goals
    go_enter Tryz.func118, Tryz.ntmps118
    go_wp2_with (first | (refine wpList_load_want rfl 114 _ rfl w.heap.size rfl 114 _ (0, 0) _ r0 Tryz.underlying114 rfl infoSlt ?_) | fail)
    refine (cW _).mono ?_
    rintro e_ w1 ⟨rfl, hb1⟩
    replace hb1 := Below.after hb hb1
    go_wp2
    go_ret
    exact ⟨by rw [← hR.out]; rfl, hb1⟩
 ·rw [hbad, if_pos rfl] at hR
  replace hR := hide hR
  rcases Nat.eq_zero_or_pos n with rfl | hnp
  ·have hq : 0 < pl := by simpa [pbad] using hbad
   have hd : decide ((pl : Int) > 0) = true := by simp; omega
   clear hbad
   subst hk
   go_enter Tryz.func118, Tryz.ntmps118
   go_wp2
   go_ret
   exact ⟨by rw [← hR.out]; rfl, hb⟩
  ·have hd : ((n : Int) == 0) = false := by simp; omega
   have hd2 : ¬ (n : Int) = 0 := by omega
   clear hbad
   subst hk
   go_enter Tryz.func118, Tryz.ntmps118
   go_wp2
   go_ret
   exact ⟨by rw [← hR.out]; rfl, hb⟩
set_option maxRecDepth 100000 in
set_option maxHeartbeats 8000000 in
theorem r_plainG (no l m : Int) (so : Option Addr) (sn sc : Nat) (n : Nat) (da : Option Addr) (dl dc : Nat) (pa : Option Addr) (pl pc : Nat) (w : World) :
 Calls Tryz.prog 118 #[.agg #[.int .i64 no, .int .i64 4, .int .u64 l, .int .u64 m, .slice so sn sc], .agg #[.int .u64 (n : Int), .slice da dl dc, .slice pa pl pc]] w fun e w' => e = .returned (.int .i64 (if pbad false n dl pl then 84 else wth (n : Int) 0 1)) ∧ Below w.heap.size w w' := by
 have hb : Below w.heap.size w ((w.alloc (.cells #[.int .i64 no, .int .i64 4, .int .u64 l, .int .u64 m, .slice so sn sc] 114)).alloc (.cells #[.int .u64 (n : Int), .slice da dl dc, .slice pa pl pc] 78)) := ((Below.refl _ _).alloc (Nat.le_refl _) _).alloc (by simp) _
 obtain ⟨R, hR⟩ : ∃ R, (if pbad false n dl pl then 84 else wth (n : Int) 0 1) = R := ⟨_, rfl⟩
 rw [hR]
 rcases hbad : pbad false n dl pl
 ·rw [hbad, if_neg Bool.false_ne_true] at hR
  obtain rfl : pl = 0 := by
   rcases Nat.eq_zero_or_pos pl with q | q
   ·exact q
   ·simp [pbad, q] at hbad
  obtain rfl : dl = 0 := by
   rcases Nat.eq_zero_or_pos dl with q | q
   ·exact q
   ·simp [pbad, q] at hbad
  clear hbad
  rcases Int.lt_or_le 1 (n : Int) with q | q
  ·have hz : wth (n : Int) 0 1 = 83 := by unfold wth; rw [if_pos (.inr q)]
   have hd : decide ((n : Int) > 1) = true := by simpa using q
   rw [hz] at hR
   replace hR := hide hR
   clear hz
   go_enter Tryz.func118, Tryz.ntmps118
   go_wp2
   go_ret
   exact ⟨by rw [← hR.out]; rfl, hb⟩
  ·have hz : wth (n : Int) 0 1 = 0 := by unfold wth; rw [if_neg (by omega)]
   have hd : decide ((n : Int) > 1) = false := by simpa using q
   rw [hz] at hR
   replace hR := hide hR
   clear hz
   go_enter Tryz.func118, Tryz.ntmps118
   go_wp2
   go_ret
   exact ⟨by rw [← hR.out]; rfl, hb⟩
 ·rw [hbad, if_pos rfl] at hR
  replace hR := hide hR
  rcases Nat.eq_zero_or_pos dl with rfl | hdp
  ·have hq : 0 < pl := by simpa [pbad] using hbad
   have hd : decide ((pl : Int) > 0) = true := by simp; omega
   clear hbad
   go_enter Tryz.func118, Tryz.ntmps118
   go_wp2
   go_ret
   exact ⟨by rw [← hR.out]; rfl, hb⟩
  ·have hd : decide ((dl : Int) > 0) = true := by simp; omega
   clear hbad
   go_enter Tryz.func118, Tryz.ntmps118
   go_wp2
   go_ret
   exact ⟨by rw [← hR.out]; rfl, hb⟩
theorem r_plainF {t : Slt} (hf : Fla t) (so : Option Addr) (sn sc : Nat) (x : VR) (hx : x.dl < 9223372036854775808) (w : World) : Calls Tryz.prog 118 #[.agg (slr t (.slice so sn sc)), .agg (vrv x)] w fun e w' => e = .returned (.int .i64 (plE t x)) ∧ Below w.heap.size w w' := by
 have key : ∀ (B : Bool) (E : Int), (t.kind == 5) = B → ftE t x = E → plE t x = if pbad B x.num x.dl x.pl then 84 else E := fun B E e1 e2 => by unfold plE; rw [e1, e2]
 rcases hf with hk | hk | hk | hk | hk
 ·rw [key false _ (by rw [hk]; rfl) (by unfold ftE; rw [if_neg (by omega), if_neg (by omega)])]
  exact r_plainN t.no t.kind (t.least : Int) (t.most : Int) (by omega) so sn sc x.num x.da x.dl x.dc x.pa x.pl x.pc w
 ·rw [key false _ (by rw [hk]; rfl) (by unfold ftE; rw [if_neg (by omega), if_neg (by omega)])]
  exact r_plainN t.no t.kind (t.least : Int) (t.most : Int) (by omega) so sn sc x.num x.da x.dl x.dc x.pa x.pl x.pc w
 ·rw [key false _ (by rw [hk]; rfl) (by unfold ftE; rw [if_neg (by omega), if_neg (by omega)])]
  exact r_plainN t.no t.kind (t.least : Int) (t.most : Int) (by omega) so sn sc x.num x.da x.dl x.dc x.pa x.pl x.pc w
 ·rw [key false _ (by rw [hk]; rfl) (by unfold ftE; rw [if_neg (by omega), if_pos hk])]
  have := r_plainG t.no (t.least : Int) (t.most : Int) so sn sc x.num x.da x.dl x.dc x.pa x.pl x.pc w
  unfold slr vrv vrw
  rw [hk]
  exact this
 ·rw [key true _ (by rw [hk]; rfl) (by unfold ftE; rw [if_pos hk])]
  exact r_plainB t.no t.kind (t.least : Int) (t.most : Int) hk so sn sc x.num x.da x.dl x.dc hx x.pa x.pl x.pc w
end Go.Proofs.YtjoohgkgkabbpaaGreatDoor
namespace Go.Proofs.YtjoohgkgkabbpaaGreatDoor
set_option maxRecDepth 100000
open Go Go.RowKit Go.Sort
attribute [local go_sem] setCell_drewN alloc_drewN
theorem infoFt : (Tryz.prog.info? 35).map (·.size) = some 3 := by kernel_rfl
end Go.Proofs.YtjoohgkgkabbpaaGreatDoor
namespace Go.Proofs.YtjoohgkgkabbpaaGreatDoor
set_option maxRecDepth 100000
open Go Go.RowKit Go.Sort
attribute [local go_sem] setCell_drewN alloc_drewN
end Go.Proofs.YtjoohgkgkabbpaaGreatDoor
namespace Go.Proofs.YtjoohgkgkabbpaaGreatDoor
set_option maxRecDepth 100000
open Go Go.RowKit Go.Sort
attribute [local go_sem] setCell_drewN alloc_drewN
def hzr : List Value := [.int .i64 0, .int .i64 0, .int .u64 0, .int .u64 0, .slice none 0 0]
def hmk : List Value := [.int .i64 (-77), .int .i64 0, .int .u64 0, .int .u64 0, .slice none 0 0]
inductive HSl (W : World) (S : Nat → Prop) : Value → List Slt → Prop
 | mk (G : Nat) (ts : List Slt) (us : List Value) (hl : ts.length ≤ 10000) (hG : G < W.heap.size) (hS : S G)
  (h : ∀ i, i < ts.length → W.rangeAt G (i * 5) (srow (gs ts i) (gvs us i)) ∧ Sok (gs ts i))
  (hm : ∀ i, ts.length ≤ i → i < ts.length + 3 → W.rangeAt G (i * 5) hmk)
  (hs : ∀ i, i < ts.length → HSl W S (gvs us i) (gs ts i).sub) : HSl W S (.slice (some ⟨G, 0, none⟩) ts.length (ts.length + 3)) ts
theorem HSl.slo {W : World} {S : Nat → Prop} {v : Value} {ts : List Slt} (h : HSl W S v ts) : Slo W v ts := by
 induction h with
 | mk G ts us hl hG hS h hm hs ih =>
  refine .mk (some ⟨G, 0, none⟩) _ ts us (by omega) (by omega) (fun e => by cases e) (fun i hi => ⟨G, 0, rfl, hG, ?_, (h i hi).2⟩) ih
  rw [Nat.zero_add]
  exact (h i hi).1
theorem HSl.keep {W V : World} {S T : Nat → Prop} {v : Value} {ts : List Slt} (h : HSl W S v ts) (hs : W.heap.size ≤ V.heap.size) (hb : ∀ b, b < W.heap.size → S b → V.heap[b]? = W.heap[b]? ∧ T b) : HSl V T v ts := by
 induction h with
 | mk G ts us hl hG hS h hm _ ih =>
  exact .mk G ts us hl (by omega) (hb G hG hS).2 (fun i hi => ⟨range_same (h i hi).1 (hb G hG hS).1, (h i hi).2⟩) (fun i h1 h2 => range_same (hm i h1 h2) (hb G hG hS).1) ih
theorem HSl.form {W : World} {S : Nat → Prop} {v : Value} {ts : List Slt} (h : HSl W S v ts) : ∃ G, v = .slice (some ⟨G, 0, none⟩) ts.length (ts.length + 3) ∧ S G := by
 cases h with
 | mk G _ us hl hG hS h hm hs => exact ⟨G, rfl, hS⟩
theorem slL_len : ∀ (ts : List Slt) (l : Int), 0 ≤ slL ts l → (ts.length : Int) ≤ l
 | [], l, h => by rw [slL] at h; simpa using h
 | t :: ts, l, h => by
  rw [slL_cons] at h
  split at h
  ·have h1 := slL_len ts _ h
   have h2 := (slL_le t.sub (l - 1)).1
   rw [List.length_cons]; omega
  ·omega
theorem slL_at : ∀ (ts : List Slt) (l : Int) (i : Nat), 0 ≤ slL ts l → i < ts.length → ∃ l', l' ≤ l ∧ 0 ≤ slL (gs ts i).sub l'
 | [], l, i, _, hi => by simp at hi
 | t :: ts, l, i, h, hi => by
  rw [slL_cons] at h
  split at h
  ·have h2 := (slL_le t.sub (l - 1)).1
   cases i with
   | zero => exact ⟨l - 1, by omega, by have := (slL_le ts (slL t.sub (l - 1))).1; show 0 ≤ slL t.sub (l - 1); omega⟩
   | succ i =>
    obtain ⟨l', h3, h4⟩ := slL_at ts _ i h (by simpa using hi)
    exact ⟨l', by omega, h4⟩
  ·omega
def hrow (ts : List Slt) (us : List Value) (k i : Nat) : List Value := if i < k then (if i < ts.length then srow (gs ts i) (gvs us i) else hmk) else hzr
def Hrw (W : World) (G : Nat) (ts : List Slt) (us : List Value) (k : Nat) : Prop := ∃ cs, W.heap[G]? = some (.cells cs 114 (0, 0)) ∧ cs.size = (ts.length + 3) * 5 ∧ ∀ i c, i < ts.length + 3 → c < 5 → cs[i * 5 + c]? = (hrow ts us k i)[c]?
theorem Hrw.keep {W V : World} {G : Nat} {ts : List Slt} {us : List Value} {k : Nat} (h : Hrw W G ts us k) (hb : V.heap[G]? = W.heap[G]?) : Hrw V G ts us k := by
 obtain ⟨cs, h1, h2⟩ := h
 exact ⟨cs, hb.trans h1, h2⟩
theorem Hrw.range {W : World} {G : Nat} {ts : List Slt} {us : List Value} {k i : Nat} (h : Hrw W G ts us k) (hi : i < ts.length + 3) (hl : (hrow ts us k i).length = 5) : W.rangeAt G (i * 5) (hrow ts us k i) := by
 obtain ⟨cs, h1, h2, h3⟩ := h
 intro j v hv
 have hj := (List.getElem?_eq_some_iff.1 hv).1
 rw [cell_of_row _ _ _ _ _ _ h1, h3 i j hi (by omega)]
 exact hv
theorem infoSl : ∃ i, Tryz.prog.info? 114 = some i ∧ i.zero = some (.agg #[.int .i64 0, .int .i64 0, .int .u64 0, .int .u64 0, .slice none 0 0]) ∧ i.size = 5 ∧ i.bytes = 56 := ⟨_, rfl, rfl, rfl, rfl⟩
theorem Hrw.mark {W : World} {G : Nat} {ts : List Slt} {us : List Value} {k : Nat} (h : Hrw W G ts us k) (hk : ts.length ≤ k) (hk3 : k < ts.length + 3) : Hrw (W.setCell ⟨G, k * 5, none⟩ (.int .i64 (-77))) G ts us (k + 1) := by
 obtain ⟨cs, h1, h2, h3⟩ := h
 refine ⟨_, heap_setCell_same W G (k * 5) cs _ _ h1, by simp [h2], fun i c hi hc => ?_⟩
 rw [Array.getElem?_setIfInBounds]
 by_cases e : k * 5 = i * 5 + c
 ·have e1 : i = k := by omega
  have e2 : c = 0 := by omega
  subst e1 e2
  rw [if_pos e, if_pos (by omega)]
  unfold hrow
  rw [if_pos (by omega), if_neg (by omega)]; rfl
 ·rw [if_neg e, h3 i c hi hc]
  by_cases e1 : i = k
  ·subst e1
   have c0 : c ≠ 0 := by omega
   unfold hrow
   rw [if_neg (by omega), if_pos (by omega), if_neg (by omega)]
   rcases (by omega : c = 1 ∨ c = 2 ∨ c = 3 ∨ c = 4) with rfl | rfl | rfl | rfl <;> rfl
  ·unfold hrow
   by_cases e2 : i < k
   ·rw [if_pos e2, if_pos (show i < k + 1 by omega)]
   ·rw [if_neg e2, if_neg (show ¬ i < k + 1 by omega)]
theorem Hrw.slot {W V : World} {G : Nat} {ts : List Slt} {us : List Value} {k : Nat} {u v : Value} (h : Hrw W G ts us k) (hk : k < ts.length) (hu : us.length = k) (hV : V.heap[G]? = ((W.setCell ⟨G, k * 5, none⟩ (.int .i64 (-77))).setCells G (k * 5) (srow (gs ts k) u)).heap[G]?) : Hrw (V.setCell ⟨G, k * 5 + 4, none⟩ v) G ts (us ++ [v]) (k + 1) := by
 obtain ⟨cs, h1, h2, h3⟩ := h
 have s1 := heap_setCell_same W G (k * 5) cs _ (.int .i64 (-77)) h1
 have s2 : ((W.setCell ⟨G, k * 5, none⟩ (.int .i64 (-77))).setCells G (k * 5) (srow (gs ts k) u)).heap[G]? = _ :=
  heap_setCell_same _ G (k * 5 + 1 + 1 + 1 + 1) _ _ u (heap_setCell_same _ G (k * 5 + 1 + 1 + 1) _ _ (.int .u64 ((gs ts k).most : Int)) (heap_setCell_same _ G (k * 5 + 1 + 1) _ _ (.int .u64 ((gs ts k).least : Int)) (heap_setCell_same _ G (k * 5 + 1) _ _ (.int .i64 (gs ts k).kind) (heap_setCell_same _ G (k * 5) _ _ (.int .i64 (gs ts k).no) s1))))
 refine ⟨_, heap_setCell_same V G (k * 5 + 4) _ _ v (hV.trans s2), by simp [h2], fun i c hi hc => ?_⟩
 simp only [Array.getElem?_setIfInBounds, Array.size_setIfInBounds]
 by_cases e1 : i = k
 ·subst e1
  have e3 : hrow ts (us ++ [v]) (i + 1) i = srow (gs ts i) v := by
   unfold hrow; rw [if_pos (by omega), if_pos hk, gvs_top _ _ _ hu]
  rw [e3]
  have hb : i * 5 + c < cs.size := by omega
  rcases (by omega : c = 0 ∨ c = 1 ∨ c = 2 ∨ c = 3 ∨ c = 4) with rfl | rfl | rfl | rfl | rfl
  ·rw [if_neg (by omega), if_neg (by omega), if_neg (by omega), if_neg (by omega), if_neg (by omega), if_pos (by omega), if_pos (by omega)]; rfl
  ·rw [if_neg (by omega), if_neg (by omega), if_neg (by omega), if_neg (by omega), if_pos (by omega), if_pos (by omega)]; rfl
  ·rw [if_neg (by omega), if_neg (by omega), if_neg (by omega), if_pos (by omega), if_pos (by omega)]; rfl
  ·rw [if_neg (by omega), if_neg (by omega), if_pos (by omega), if_pos (by omega)]; rfl
  ·rw [if_pos (by omega), if_pos (by omega)]; rfl
 ·rw [if_neg (by omega), if_neg (by omega), if_neg (by omega), if_neg (by omega), if_neg (by omega), if_neg (by omega), if_neg (by omega), h3 i c hi hc]
  unfold hrow
  by_cases e2 : i < k
  ·rw [if_pos e2, if_pos (by omega), if_pos (by omega), if_pos (by omega), gvs_low _ _ _ (by omega)]
  ·rw [if_neg e2, if_neg (by omega)]
end Go.Proofs.YtjoohgkgkabbpaaGreatDoor
namespace Go.Proofs.YtjoohgkgkabbpaaGreatDoor
set_option maxRecDepth 100000
open Go Go.RowKit Go.Sort
attribute [local go_sem] setCell_drewN alloc_drewN
inductive SlL (W : World) (S : Nat → Prop) : Value → List Slt → Prop
 | mk (ao : Option Addr) (cap : Nat) (ts : List Slt) (us : List Value) (hl : ts.length ≤ 2932031007317) (hc : ts.length ≤ cap) (hn : ao = none → cap = 0)
  (h : ∀ i, i < ts.length → ∃ b off, ao = some ⟨b, off, none⟩ ∧ b < W.heap.size ∧ S b ∧ W.rangeAt b (off + i * 5) (srow (gs ts i) (gvs us i)) ∧ Sok (gs ts i))
  (hs : ∀ i, i < ts.length → SlL W S (gvs us i) (gs ts i).sub) : SlL W S (.slice ao ts.length cap) ts
theorem SlL.slo {W : World} {S : Nat → Prop} {v : Value} {ts : List Slt} (h : SlL W S v ts) : Slo W v ts := by
 induction h with
 | mk ao cap ts us hl hc hn h hs ih =>
  refine .mk ao cap ts us hl hc hn (fun i hi => ?_) ih
  obtain ⟨b, off, h1, h2, _, h4, h5⟩ := h i hi
  exact ⟨b, off, h1, h2, h4, h5⟩
theorem SlL.keep {W V : World} {S T : Nat → Prop} {v : Value} {ts : List Slt} (h : SlL W S v ts) (hs : W.heap.size ≤ V.heap.size) (hb : ∀ b, b < W.heap.size → S b → V.heap[b]? = W.heap[b]? ∧ T b) : SlL V T v ts := by
 induction h with
 | mk ao cap ts us hl hc hn h _ ih =>
  refine .mk ao cap ts us hl hc hn (fun i hi => ?_) ih
  obtain ⟨b, off, h1, h2, h3, h4, h5⟩ := h i hi
  exact ⟨b, off, h1, by omega, (hb b h2 h3).2, range_same h4 (hb b h2 h3).1, h5⟩
theorem SlL.form {W : World} {S : Nat → Prop} {v : Value} {ts : List Slt} (h : SlL W S v ts) : ∃ ao cap, v = .slice ao ts.length cap := by
 cases h
 exact ⟨_, _, rfl⟩
def scl : List Slt → List Value → List Value
 | t :: ts, u :: us => srow t u ++ scl ts us
 | _, _ => []
theorem scl_snoc : ∀ (ts : List Slt) (us : List Value) (t : Slt) (u : Value), ts.length = us.length → scl (ts ++ [t]) (us ++ [u]) = scl ts us ++ srow t u
 | [], [], _, _, _ => by simp [scl]
 | [], _ :: _, _, _, h => by simp at h
 | _ :: _, [], _, _, h => by simp at h
 | t :: ts, u :: us, t', u', h => by
  have := scl_snoc ts us t' u' (by simpa using h)
  simp only [List.cons_append, scl, this, List.append_assoc]
theorem scl_at : ∀ (ts : List Slt) (us : List Value) (i c : Nat), ts.length = us.length → i < ts.length → c < 5 → (scl ts us)[i * 5 + c]? = (srow (gs ts i) (gvs us i))[c]?
 | [], _, _, _, _, h, _ => by simp at h
 | _ :: _, [], _, _, h, _, _ => by simp at h
 | t :: ts, u :: us, 0, c, _, _, hc => by
  rw [scl, List.getElem?_append_left (by show 0 * 5 + c < 5; omega), Nat.zero_mul, Nat.zero_add]; rfl
 | t :: ts, u :: us, i + 1, c, h, hi, hc => by
  have := scl_at ts us i c (by simpa using h) (by simpa using hi) hc
  rw [scl, List.getElem?_append_right (by show 5 ≤ (i + 1) * 5 + c; omega), show (i + 1) * 5 + c - (srow t u).length = i * 5 + c by show (i + 1) * 5 + c - 5 = _; omega]
  exact this
theorem sll_of {w : World} {base : Nat} {v : Value} {ts : List Slt} {us : List Value} (hO : w.ownsRow base 114 5 v ts.length (scl ts us)) (hl : ts.length = us.length) (h16 : ts.length ≤ 10000) (hok : ∀ i, i < ts.length → Sok (gs ts i)) (hs : ∀ i, i < ts.length → SlL w (fun b => base ≤ b) (gvs us i) (gs ts i).sub) : SlL w (fun b => base ≤ b) v ts := by
 rcases hO.2 with ⟨rfl, h0⟩ | ⟨g, cap, cur, rfl, h1, h2, h3, _⟩
 ·have e : ts = [] := List.length_eq_zero_iff.1 h0
  subst e
  exact .mk none 0 [] us (by simp) (by simp) (fun _ => rfl) (fun i hi => by simp at hi) (fun i hi => by simp at hi)
 ·refine .mk (some ⟨g, 0, none⟩) cap ts us (by omega) h3 (fun e => by cases e) (fun i hi => ⟨g, 0, rfl, (Array.getElem?_eq_some_iff.1 h2).1, h1, ?_, hok i hi⟩) hs
  have hc : ∀ j u, (scl ts us)[j]? = some u → w.cell? ((⟨g, 0, none⟩ : Addr).add j) = some u := hO.cells (g := g) rfl
  intro j x hx
  have hj : j < 5 := (List.getElem?_eq_some_iff.1 hx).1
  have := hc (i * 5 + j) x (by rw [scl_at ts us i j hl hi hj]; exact hx)
  rw [add_off] at this
  rw [Nat.zero_add]
  exact this
theorem wpList_append_sl {w : World} {ops : Array Oper} {rest : List Oper} {o : Oper} {a : Act} {Q : Exit → Act → World → Prop} (hgd : o.guard = none) (s x : Operand)
 (ho : o.op = .call { callee := .builtin .append, args := #[s, x], argTypes := #[112, 112] })
 (base : Nat) (v : Value) (k : Nat) (xs : List Value) (hs : a.eval s = v) (hO : w.ownsRow base 114 5 v k xs) (hk : k ≤ 10000)
 (cs : List Value) (hcl : cs.length = 5) (g : Nat) (hx : a.eval x = .slice (some ⟨g, 0, none⟩) 1 1) (hnews : ∀ j y, cs[j]? = some y → w.cell? ((⟨g, 0, none⟩ : Addr).add j) = some y) (h1 : ∀ u ∈ cs, u.oneCell' = true)
 (hbase : base ≤ w.heap.size)
 (h : ∀ v' w', w'.ownsRow base 114 5 v' (k + 1) (xs ++ cs) → w.grownBy w' v.ownBlock → Nx w v v' → wpList Tryz.prog ops Q rest (a.put o.dst v') w') : wpList Tryz.prog ops Q (o :: rest) a w := by
 obtain ⟨i0, hi, hz0, hz1, hz2⟩ := infoSl
 exact wpList_plain hgd fun _ hK => wp_append_nx s x 112 ho base 114 i0 _ 5 56 Tryz.underlying112 hi hz0 hz1 hz2 rfl (by decide) v k xs hs hO ⟨g, 0, none⟩ 1 1 cs hx (by rw [hcl]) hnews h1 (by unfold maxLen; omega) (by omega) hbase (fun v' w' h2 h3 h4 => hK _ _ (h v' w' h2 h3 h4))
set_option maxRecDepth 100000 in
set_option maxHeartbeats 16000000 in
theorem r_twin {W : World} {v : Value} {ts : List Slt} (h : Slo W v ts) : ∀ (l : Int), l ≤ 10000 → 0 ≤ slL ts l → ∀ (w : World), Below W.heap.size W w → Calls Tryz.prog 90 #[v] w fun e w' => ∃ v', e = .returned v' ∧ Below w.heap.size w w' ∧ SlL w' (fun b => w.heap.size ≤ b) v' ts := by
 induction h with
 | mk ao cap ts us hl hc hn h hs ih =>
  intro l hl1 hl2 w hw
  have hlen := slL_len ts l hl2
  have h4 : ts.length ≤ 10000 := by omega
  go_enter Tryz.func90, Tryz.ntmps90
  go_wp2_with (fail)
  go_loopw [3, 4] (fun out i wr => ∃ (k : Nat) (vs : List Value), k ≤ ts.length ∧ i = .int .i64 k ∧ Below w.heap.size w wr ∧ vs.length = k ∧ wr.ownsRow w.heap.size 114 5 out k (scl (ts.take k) vs) ∧ ∀ i, i < k → SlL wr (fun b => w.heap.size ≤ b ∧ out.ownBlock ≠ some b) (gvs vs i) (gs ts i).sub) (fun _ i _ => ts.length - (intOf i).toNat)
  case atStart => exact ⟨0, [], by omega, rfl, Below.refl _ _, rfl, ⟨rfl, .inl ⟨rfl, rfl⟩⟩, fun i hi => by omega⟩
  case round =>
   obtain ⟨k, vs, hk, rfl, hb, hvl, hO, hN⟩ := hrel
   obtain ⟨mo, mc, rfl⟩ := own_slice hO
   have hww := Below.after hw hb
   by_cases hlt : k < ts.length
   ·have hd : decide ((k : Int) < (ts.length : Int)) = true := by simp; omega
    have hk1 : 0 ≤ (k : Int) ∧ (k : Int) < (ts.length : Int) := by omega
    obtain ⟨b, off, hao, hbl, hra, hok⟩ := h k hlt
    have hSl := hs k hlt
    obtain ⟨l', hl3, hl4⟩ := slL_at ts l k hl2 hlt
    have hih := ih k hlt l' (by omega) hl4
    subst hao
    have hgs : ts.take (k + 1) = ts.take k ++ [gs ts k] := by
     rw [List.take_succ_eq_append_getElem hlt, gs, List.getD_eq_getElem?_getD, List.getElem?_eq_getElem hlt]; rfl
    obtain ⟨ua, uc, hue⟩ := hSl.form
    have hrw := rangeS_keep2 hra hww hbl
    generalize hgt : gs ts k = t at *
    replace hgt := hide hgt
    generalize gvs us k = u at *
    subst hue
    have b0 := hrw 0 _ rfl
    have b1 := hrw 1 _ rfl
    have b2 := hrw 2 _ rfl
    have b3 := hrw 3 _ rfl
    have b4 := hrw 4 _ rfl
    rw [Nat.add_zero] at b0
    have r1 := hp1_0 wr (.cells #[.int .i64 t.no, .int .i64 t.kind, .int .u64 (t.least : Int), .int .u64 (t.most : Int), .slice ua t.sub.length uc] 114)
    have hba : Below wr.heap.size wr (wr.alloc (.cells #[.int .i64 t.no, .int .i64 t.kind, .int .u64 (t.least : Int), .int .u64 (t.most : Int), .slice ua t.sub.length uc] 114)) := (Below.refl _ _).alloc (Nat.le_refl _) _
    have hs1 : (wr.alloc (.cells #[.int .i64 t.no, .int .i64 t.kind, .int .u64 (t.least : Int), .int .u64 (t.most : Int), .slice ua t.sub.length uc] 114)).heap.size = wr.heap.size + 1 := size_alloc1 _ _
    have cT := hih (wr.alloc (.cells #[.int .i64 t.no, .int .i64 t.kind, .int .u64 (t.least : Int), .int .u64 (t.most : Int), .slice ua t.sub.length uc] 114)) (Below.after hww hba)
    have A1 := hide r1
    have A2 := hide hba
    have A3 := hide hs1
    have A4 := hide hO
    have A5 := hide hN
    have A6 := hide hb
    clear h hs ih hra hrw r1 hba hs1 hO hN hb hww hih hSl
    go_wp2_with (fail)
    generalize (wr.alloc (.cells #[.int .i64 t.no, .int .i64 t.kind, .int .u64 (t.least : Int), .int .u64 (t.most : Int), .slice ua t.sub.length uc] 114)) = w1 at *
    refine cT.mono ?_
    rintro e_ w2 ⟨x, rfl, hb2, hx⟩
    clear cT b0 b1 b2 b3 b4
    obtain ⟨xa, xc, rfl⟩ := hx.form
    have hs1 := A3.out
    have r2 := keep hb2 A1.out
    have n4 : w2.cell? ⟨wr.heap.size, 4, none⟩ = some (.slice ua t.sub.length uc) := cell_of_row _ _ _ _ _ _ r2
    have n0 : w2.cell? ⟨wr.heap.size, 0, none⟩ = some (.int .i64 t.no) := cell_of_row _ _ _ _ _ _ r2
    have n1 : w2.cell? ⟨wr.heap.size, 1, none⟩ = some (.int .i64 t.kind) := cell_of_row _ _ _ _ _ _ r2
    have n2 : w2.cell? ⟨wr.heap.size, 2, none⟩ = some (.int .u64 (t.least : Int)) := cell_of_row _ _ _ _ _ _ r2
    have n3 : w2.cell? ⟨wr.heap.size, 3, none⟩ = some (.int .u64 (t.most : Int)) := cell_of_row _ _ _ _ _ _ r2
    have z4 : w2.frozen? ⟨wr.heap.size, 4, none⟩ = false := by simp [World.frozen?, r2]
    have hbb := Below.after A2.out hb2
    have hs2 := hb2.size
    have hsS : (w2.setCell ⟨wr.heap.size, 4, none⟩ (.slice xa t.sub.length xc)).heap.size = w2.heap.size := by simp
    have hb3 : Below wr.heap.size wr (w2.setCell ⟨wr.heap.size, 4, none⟩ (.slice xa t.sub.length xc)) := hbb.setCell (Nat.le_refl _) _
    have hB3 := Below.after A6.out hb3
    have hO3 := own_but (w' := (w2.setCell ⟨wr.heap.size, 4, none⟩ (.slice xa t.sub.length xc))) A4.out fun q hq => hb3.block q (own_lt A4.out q hq).2
    have hN3 : ∀ i, i < k → SlL (w2.setCell ⟨wr.heap.size, 4, none⟩ (.slice xa t.sub.length xc)) (fun b => w.heap.size ≤ b ∧ (Value.slice mo k mc).ownBlock ≠ some b ∧ b < (w2.setCell ⟨wr.heap.size, 4, none⟩ (.slice xa t.sub.length xc)).heap.size) (gvs vs i) (gs ts i).sub := fun i hi => (A5.out i hi).keep hb3.size fun q h1 h2 => ⟨hb3.block q h1, h2.1, h2.2, by omega⟩
    have hown := own_lt A4.out
    have hwr := A6.out.size
    have hx3 : SlL (w2.setCell ⟨wr.heap.size, 4, none⟩ (.slice xa t.sub.length xc)) (fun b => w.heap.size ≤ b ∧ (Value.slice mo k mc).ownBlock ≠ some b ∧ b < (w2.setCell ⟨wr.heap.size, 4, none⟩ (.slice xa t.sub.length xc)).heap.size) (.slice xa t.sub.length xc) t.sub := hx.keep (by omega) fun q h1 h2 => ⟨heap_setCell_other _ _ q _ (by show q ≠ wr.heap.size; omega), by omega, fun e => by have := (hown q e).2; omega, by omega⟩
    have hsz3 : w.heap.size ≤ (w2.setCell ⟨wr.heap.size, 4, none⟩ (.slice xa t.sub.length xc)).heap.size := hB3.size
    have A7 := hide hO3
    have A8 := hide hN3
    have A9 := hide hx3
    have AA := hide hB3
    have AB := hide hsz3
    have AC := hide hsS
    clear hO3 hN3 hx3 hB3 hsz3 hb3 hbb hs2 hsS hb2 hx r2 A1 A2 A3 A4 A5 A6 hs1 hown hwr
    go_wp2_with (at_builtin; suffices h9 : True ∧ _ from h9.2)
    refine ⟨trivial, ?_⟩
    generalize (w2.setCell ⟨wr.heap.size, 4, none⟩ (.slice xa t.sub.length xc)) = w3 at *
    clear n0 n1 n2 n3 n4 z4
    have cN1 := hp1_0 w3 (.cells #[.int .i64 t.no, .int .i64 t.kind, .int .u64 (t.least : Int), .int .u64 (t.most : Int), .slice xa t.sub.length xc] 114)
    have hnc : ∀ j y, [.int .i64 t.no, .int .i64 t.kind, .int .u64 (t.least : Int), .int .u64 (t.most : Int), .slice xa t.sub.length xc][j]? = some y → (w3.alloc (.cells #[.int .i64 t.no, .int .i64 t.kind, .int .u64 (t.least : Int), .int .u64 (t.most : Int), .slice xa t.sub.length xc] 114)).cell? ((⟨w2.heap.size, 0, none⟩ : Addr).add j) = some y := fun j y hy => by
     rw [add_off, ← AC.out, cell_of_row _ _ _ _ _ _ cN1]
     simpa using hy
    have hba2 : Below w3.heap.size w3 (w3.alloc (.cells #[.int .i64 t.no, .int .i64 t.kind, .int .u64 (t.least : Int), .int .u64 (t.most : Int), .slice xa t.sub.length xc] 114)) := (Below.refl _ _).alloc (Nat.le_refl _) _
    have hO4 := own_but (w' := w3.alloc (.cells #[.int .i64 t.no, .int .i64 t.kind, .int .u64 (t.least : Int), .int .u64 (t.most : Int), .slice xa t.sub.length xc] 114)) A7.out fun q hq => hba2.block q (own_lt A7.out q hq).2
    have hone : ∀ x ∈ ([.int .i64 t.no, .int .i64 t.kind, .int .u64 (t.least : Int), .int .u64 (t.most : Int), .slice xa t.sub.length xc] : List Value), x.oneCell' = true := fun x hx => by
     simp at hx
     rcases hx with rfl | rfl | rfl | rfl | rfl <;> rfl
    have hwS := AB.out
    refine wpList_append_sl rfl (.tmp 20) (.tmp 22) rfl w.heap.size _ k _ rfl hO4 (by omega) [.int .i64 t.no, .int .i64 t.kind, .int .u64 (t.least : Int), .int .u64 (t.most : Int), .slice xa t.sub.length xc] rfl w2.heap.size rfl hnc hone (by rw [size_alloc1]; omega) ?_
    intro v' w4 h1 h2 h3
    have hsA : (w3.alloc (.cells #[.int .i64 t.no, .int .i64 t.kind, .int .u64 (t.least : Int), .int .u64 (t.most : Int), .slice xa t.sub.length xc] 114)).heap.size = w3.heap.size + 1 := size_alloc1 _ _
    have hown := own_lt A7.out
    have hB4 : Below w.heap.size w w4 := (AA.out.trans (hba2.mono hwS)).grown h2 (by omega) (fun q hq => (hown q hq).1)
    have hs34 : w3.heap.size ≤ w4.heap.size := Nat.le_trans hba2.size h2.size
    have hS4 : ∀ q, q < w3.heap.size → (w.heap.size ≤ q ∧ (Value.slice mo k mc).ownBlock ≠ some q ∧ q < w3.heap.size) → w4.heap[q]? = w3.heap[q]? ∧ (w.heap.size ≤ q ∧ v'.ownBlock ≠ some q) := fun q h4 h5 =>
     ⟨(h2.block q (by omega) (fun e => h5.2.1 e.symm)).trans (hba2.block q h4), h5.1, h3.ne (by omega) h5.2.1⟩
    have hN4 : ∀ i, i < k + 1 → SlL w4 (fun b => w.heap.size ≤ b ∧ v'.ownBlock ≠ some b) (gvs (vs ++ [.slice xa t.sub.length xc]) i) (gs ts i).sub := fun i hi => by
     rcases Nat.lt_or_ge i k with h6 | h6
     ·rw [gvs_low _ _ _ (by omega)]
      exact (A8.out i h6).keep hs34 hS4
     ·have h7 : i = k := by omega
      subst h7
      rw [gvs_top _ _ _ hvl, hgt.out]
      exact A9.out.keep hs34 hS4
    have hO5 : w4.ownsRow w.heap.size 114 5 v' (k + 1) (scl (ts.take (k + 1)) (vs ++ [.slice xa t.sub.length xc])) := by
     rw [hgs, scl_snoc _ _ _ _ (by rw [List.length_take]; omega)]
     exact h1
    obtain ⟨no', co', hv'⟩ := own_slice h1
    subst hv'
    clear h1 h2 h3 hO4 hba2 hnc cN1 hS4 hown hone A7 A8 A9 AA AB hgs
    go_wp2_with (fail)
    refine ⟨⟨k + 1, vs ++ [.slice xa t.sub.length xc], by omega, by go_num, hB4, by simp; omega, hO5, hN4⟩, ?_⟩
    simp [intOf]; omega
   ·have hd : decide ((k : Int) < (ts.length : Int)) = false := by simp; omega
    have hkl : k = ts.length := by omega
    subst hkl
    rw [List.take_length] at hO
    have hm := sll_of hO hvl.symm h4 (fun i hi => (h i hi).elim fun _ q => q.elim fun _ q => q.2.2.2) (fun i hi => (hN i hi).keep (Nat.le_refl _) fun b _ hb => ⟨rfl, hb.1⟩)
    clear h hs ih hN hvl hO
    go_wp2_with (fail)
    go_ret
    exact ⟨_, rfl, hb, hm⟩
end Go.Proofs.YtjoohgkgkabbpaaGreatDoor
namespace Go.Proofs.YtjoohgkgkabbpaaGreatDoor
set_option maxRecDepth 100000
open Go Go.RowKit Go.Sort
attribute [local go_sem] setCell_drewN alloc_drewN
inductive HSx (W : World) : Nat → Nat → Value → List Slt → Prop
 | mk (lo hi : Nat) (ts : List Slt) (us : List Value) (p : Nat → Nat) (hl : ts.length ≤ 10000) (hG : lo < W.heap.size) (hh : hi ≤ W.heap.size) (hp0 : lo < hi)
  (hp : ∀ i, i < ts.length → lo < p i ∧ p i ≤ p (i + 1) ∧ p (i + 1) ≤ hi)
  (hcs : ∃ cs T, W.heap[lo]? = some (.cells cs T (0, 0)) ∧ cs.size = (ts.length + 3) * 5)
  (h : ∀ i, i < ts.length → W.rangeAt lo (i * 5) (srow (gs ts i) (gvs us i)) ∧ Sok (gs ts i))
  (hm : ∀ i, ts.length ≤ i → i < ts.length + 3 → W.rangeAt lo (i * 5) hmk)
  (hs : ∀ i, i < ts.length → HSx W (p i) (p (i + 1)) (gvs us i) (gs ts i).sub) : HSx W lo hi (.slice (some ⟨lo, 0, none⟩) ts.length (ts.length + 3)) ts
theorem HSx.keep {W V : World} {lo hi : Nat} {v : Value} {ts : List Slt} (h : HSx W lo hi v ts) (hs : W.heap.size ≤ V.heap.size) : (∀ b, lo ≤ b → b < hi → V.heap[b]? = W.heap[b]?) → HSx V lo hi v ts := by
 induction h with
 | mk lo hi ts us p hl hG hh hp0 hp hcs h hm _ ih =>
  intro hb
  have h0 := hb lo (Nat.le_refl _) hp0
  refine .mk lo hi ts us p hl (by omega) (by omega) hp0 hp (by rw [h0]; exact hcs) (fun i hi => ⟨range_same (h i hi).1 h0, (h i hi).2⟩) (fun i h1 h2 => range_same (hm i h1 h2) h0) (fun i hi => ih i hi fun b h1 h2 => hb b (by have := hp i hi; omega) (by have := hp i hi; omega))
theorem HSx.form {W : World} {lo hi : Nat} {v : Value} {ts : List Slt} (h : HSx W lo hi v ts) : v = .slice (some ⟨lo, 0, none⟩) ts.length (ts.length + 3) ∧ lo < hi := by
 cases h with
 | mk lo hi _ us p hl hG hh hp0 hp hcs h hm hs => exact ⟨rfl, hp0⟩
end Go.Proofs.YtjoohgkgkabbpaaGreatDoor
namespace Go.Proofs.YtjoohgkgkabbpaaGreatDoor
set_option maxRecDepth 100000
open Go Go.RowKit Go.Sort
attribute [local go_sem] setCell_drewN alloc_drewN
set_option maxRecDepth 100000 in
set_option maxHeartbeats 4000000 in
theorem r_Compile {W : World} {v : Value} {ts : List Slt} (h : Slo W v ts) (hbig : 0 ≤ slL ts 10000) (w : World) (hw : Below W.heap.size W w) : Calls Tryz.prog 63 #[v] w fun e w' => Below w.heap.size w w' ∧ ((vld ts = 0 ∧ ∃ g u, e = .returned (.tuple #[.pointer (some ⟨g, 0, none⟩), .int .i64 0]) ∧ w.heap.size ≤ g ∧ w'.heap[g]? = some (.cells #[u] 126 (0, 0)) ∧ SlL w' (fun b => w.heap.size ≤ b) u ts) ∨ (vld ts ≠ 0 ∧ e = .returned (.tuple #[.pointer none, .int .i64 (vld ts)]))) := by
 have cV := r_valid h w hw
 have cT := fun V hV => r_twin h 10000 (by omega) hbig V hV
 obtain ⟨ao, cap, rfl⟩ := h.form
 generalize hx : vld ts = x at *
 replace hx := hide hx
 by_cases h0 : x = 0
 ·subst h0
  go_enter Tryz.func63, Tryz.ntmps63
  go_wp2_with (fail)
  refine cV.mono ?_
  rintro e_ w1 ⟨rfl, hb1⟩
  clear cV
  go_wp2_with (fail)
  refine (cT w1 (Below.after hw hb1)).mono ?_
  rintro e_ w2 ⟨u, rfl, hb2, hu⟩
  clear cT
  obtain ⟨ua, uc, rfl⟩ := hu.form
  have r1 := hp1_0 w2 (.cells #[.slice ua ts.length uc] 126)
  have hba : Below w2.heap.size w2 (w2.alloc (.cells #[.slice ua ts.length uc] 126)) := (Below.refl _ _).alloc (Nat.le_refl _) _
  have hs1 := hb1.size
  have hs2 := hb2.size
  have hu2 : SlL (w2.alloc (.cells #[.slice ua ts.length uc] 126)) (fun b => w.heap.size ≤ b) (.slice ua ts.length uc) ts := hu.keep hba.size fun q h1 h2 => ⟨hba.block q h1, by omega⟩
  have A1 := hide r1
  have A2 := hide (Below.after (Below.after hb1 hb2) hba)
  have A3 := hide hu2
  clear r1 hba hu hu2 hb1 hb2
  go_wp2_with (fail)
  go_ret2
  exact ⟨A2.out, .inl ⟨trivial, _, _, rfl, by omega, A1.out, A3.out⟩⟩
 ·have hx' : (x == 0) = false := beq_eq_false_iff_ne.2 h0
  go_enter Tryz.func63, Tryz.ntmps63
  go_wp2_with (fail)
  refine cV.mono ?_
  rintro e_ w1 ⟨rfl, hb1⟩
  clear cV cT
  go_wp2_with (fail)
  go_ret2
  exact ⟨hb1, .inr ⟨h0, rfl⟩⟩
structure Out (lo hi : Nat) (w w' : World) : Prop where
 os : w'.os = w.os
 tape : w'.tape = w.tape
 output : w'.output = w.output
 size : w'.heap.size = w.heap.size
 block : ∀ k, (k < lo ∨ hi ≤ k) → w'.heap[k]? = w.heap[k]?
theorem Out.refl (lo hi : Nat) (w : World) : Out lo hi w w := ⟨rfl, rfl, rfl, rfl, fun _ _ => rfl⟩
theorem Out.trans {lo hi lo' hi' : Nat} {a b c : World} (h : Out lo hi a b) (k : Out lo' hi' b c) (h1 : lo ≤ lo') (h2 : hi' ≤ hi) : Out lo hi a c :=
 ⟨k.os.trans h.os, k.tape.trans h.tape, k.output.trans h.output, k.size.trans h.size, fun i hi => (k.block i (by omega)).trans (h.block i hi)⟩
theorem Out.set {lo hi o : Nat} {a b : World} {v : Value} (h : Out lo hi a b) (h1 : lo < hi) : Out lo hi a (b.setCell ⟨lo, o, none⟩ v) :=
 ⟨h.os, h.tape, h.output, by rw [← h.size]; simp, fun i hi => (heap_setCell_other b _ i v (by show i ≠ lo; omega)).trans (h.block i hi)⟩
end Go.Proofs.YtjoohgkgkabbpaaGreatDoor
namespace Go.Proofs.YtjoohgkgkabbpaaGreatDoor
set_option maxRecDepth 100000
open Go Go.RowKit Go.Sort
attribute [local go_sem] setCell_drewN alloc_drewN
def Rdc (W : World) (g : Nat) (ts : List Slt) : Prop := ∃ u, W.heap[g]? = some (.cells #[u] 126 (0, 0)) ∧ Slo W u ts
end Go.Proofs.YtjoohgkgkabbpaaGreatDoor
namespace Go.Proofs.YtjoohgkgkabbpaaGreatDoor
set_option maxRecDepth 100000
open Go Go.RowKit Go.Sort
attribute [local go_sem] setCell_drewN alloc_drewN
end Go.Proofs.YtjoohgkgkabbpaaGreatDoor
namespace Go.Proofs.YtjoohgkgkabbpaaGreatDoor
set_option maxRecDepth 100000
open Go Go.RowKit Go.Sort
attribute [local go_sem] setCell_drewN alloc_drewN
set_option maxHeartbeats 1000000 in
theorem r_known (t : Int) : Gives 130 #[.int .i64 t] (.bool (decide (known t))) := by
 intro w
 by_cases hk : known t
 ·rw [decide_eq_true hk]
  rcases hk with rfl | rfl | rfl | rfl
  all_goals
   go_enter Tryz.func130, Tryz.ntmps130
   go_wp2_with (fail)
   go_ret
   exact ⟨rfl, Below.refl _ _⟩
 ·rw [decide_eq_false hk]
  have q0 : (t == 0) = false := by unfold known at hk; simp; omega
  have q1 : (t == 1) = false := by unfold known at hk; simp; omega
  have q2 : (t == 2) = false := by unfold known at hk; simp; omega
  have q5 : (t == 5) = false := by unfold known at hk; simp; omega
  clear hk
  go_enter Tryz.func130, Tryz.ntmps130
  go_wp2_with (fail)
  go_ret
  exact ⟨rfl, Below.refl _ _⟩
end Go.Proofs.YtjoohgkgkabbpaaGreatDoor
namespace Go.Proofs.YtjoohgkgkabbpaaGreatDoor
set_option maxRecDepth 100000
open Go Go.RowKit Go.Sort
attribute [local go_sem] setCell_drewN alloc_drewN
end Go.Proofs.YtjoohgkgkabbpaaGreatDoor
namespace Go.Proofs.YtjoohgkgkabbpaaGreatDoor
set_option maxRecDepth 100000
open Go Go.RowKit Go.Sort
attribute [local go_sem] setCell_drewN alloc_drewN
theorem wtK_ty {t : Slt} (hf : Fla t) : tyOf t.kind = wtK t := by
 unfold tyOf wtK
 rcases hf with q | q | q | q | q <;> rw [q] <;> rfl
end Go.Proofs.YtjoohgkgkabbpaaGreatDoor
namespace Go.Proofs.YtjoohgkgkabbpaaGreatDoor
set_option maxRecDepth 100000
open Go Go.RowKit Go.Sort
attribute [local go_sem] setCell_drewN alloc_drewN
end Go.Proofs.YtjoohgkgkabbpaaGreatDoor
namespace Go.Proofs.YtjoohgkgkabbpaaGreatDoor
set_option maxRecDepth 100000
open Go Go.RowKit Go.Sort
attribute [local go_sem] setCell_drewN alloc_drewN
theorem bsl_big : 0 ≤ slL bsl 10000 := by simp [bsl, slL]
theorem rdc_keep {W V : World} {g : Nat} {ts : List Slt} (h : Rdc W g ts) (hb : Below W.heap.size W V) : Rdc V g ts := by
 obtain ⟨u, h1, h2⟩ := h
 exact ⟨u, keep hb h1, h2.keep hb⟩
theorem Rdc.keep {W V : World} {g : Nat} {ts : List Slt} (h : Rdc W g ts) (hb : Below W.heap.size W V) : Rdc V g ts := rdc_keep h hb
set_option maxRecDepth 100000 in
set_option maxHeartbeats 8000000 in
theorem r_shape14 (w : World) : Calls Tryz.prog 37 #[] w fun e w' => ∃ v, e = .returned v ∧ (∃ q, v = .pointer (some ⟨q, 0, none⟩) ∧ w.heap.size ≤ q ∧ Rdc w' q bsl) ∧ Below w.heap.size w w' := by
 have cK := r_Compile (W := w.alloc (.cells bcs 114)) (bsl_slo ⟨_, hp1_0 w _⟩) bsl_big (w.alloc (.cells bcs 114)) (Below.refl _ _)
 have hba : Below w.heap.size w (w.alloc (.cells bcs 114)) := (Below.refl _ _).alloc (Nat.le_refl _) _
 have A1 := hide hba
 clear hba
 unfold bcs at *
 go_enter Tryz.func37, Tryz.ntmps37
 go_wp2_with (fail)
 refine cK.mono ?_
 rintro e_ w1 ⟨hb, hq⟩
 rcases hq with ⟨_, q, u, rfl, hq1, hq2, hq3⟩ | ⟨hq, _⟩
 ·have A2 := hide (show Rdc w1 q bsl from ⟨u, hq2, hq3.slo⟩)
  have A3 := hide (Below.after A1.out hb)
  have hs := A1.out.size
  clear cK hq2 hq3 hb
  go_wp2_with (fail)
  go_ret
  exact ⟨_, rfl, ⟨q, rfl, Nat.le_trans hs hq1, A2.out⟩, A3.out⟩
 ·exact absurd bsl_vld hq
end Go.Proofs.YtjoohgkgkabbpaaGreatDoor

