import Derived.Test.YtleeadbceljfbaaGreatDoorQa7
import Derived.Recover
import Derived.Defers
import Derived.Test.YtleeadbceljfbaaGreatDoorQa1
namespace Go.Proofs.YtleeadbceljfbaaGreatDoor
set_option maxRecDepth 100000
open Go Go.RowKit Go.Sort
attribute [local go_sem] setCell_drewN alloc_drewN
/-- A fault: line, place, reason. -/
structure Flt3 where
  line : Int
  at_ : Int
  why : Int
/-- The fault's row. -/
def frw (f : Flt3) : Array Value := #[.int .i64 f.line, .int .i64 f.at_, .int .i64 f.why]
/-- Given up with a fault, in new memory; or all is well and v comes back. -/
def Gup (base : Nat) (f : Option Flt3) (e : Ending) (w' : World) (P : Value → Prop) : Prop :=
  match f with
  | none => ∃ v, e = .returned v ∧ P v
  | some x => ∃ g, e = .panicked [{ v := .iface 83 (.pointer (some ⟨g, 0, none⟩)), recovered := false }] ∧ base ≤ g ∧ w'.heap[g]? = some (.cells (frw x) 65 (0, 0))
set_option maxRecDepth 100000 in
set_option maxHeartbeats 4000000 in
theorem a_giveUp (l a y : Int) (w : World) : Calls Tryz.prog 69 #[.int .i64 l, .int .i64 a, .int .i64 y] w fun e w' => Gup w.heap.size (some ⟨l, a, y⟩) e w' (fun _ => True) ∧ Below w.heap.size w w' := by
  have r0 := hp1_0 w (.cells #[.int .i64 l, .int .i64 a, .int .i64 y] 65)
  have hb : Below w.heap.size w (w.alloc (.cells #[.int .i64 l, .int .i64 a, .int .i64 y] 65)) := (Below.refl _ _).alloc (Nat.le_refl _) _
  go_enter Tryz.func69, Tryz.ntmps69
  go_wp2
  exact ⟨rfl, ⟨_, rfl, Nat.le_refl _, r0⟩, hb⟩
/-- What is wrong with a number between two. -/
def wth (n l m : Int) : Int := if n < l ∨ m < n then 83 else 0
set_option maxRecDepth 100000 in
set_option maxHeartbeats 4000000 in
theorem a_within (n l m : Int) : Gives 98 #[.int .u64 n, .int .u64 l, .int .u64 m] (.int .i64 (wth n l m)) := by
  intro w
  go_enter Tryz.func98, Tryz.ntmps98
  rcases Int.lt_or_le n l with q | q
  · have e : wth n l m = 83 := by unfold wth; rw [if_pos (.inl q)]
    have hd : decide (n < l) = true := by simpa using q
    rw [e]
    go_wp2
    go_ret
    exact ⟨rfl, Below.refl _ _⟩
  · have hd : decide (n < l) = false := by simpa using q
    rcases Int.lt_or_le m n with q2 | q2
    · have e : wth n l m = 83 := by unfold wth; rw [if_pos (.inr q2)]
      have hd2 : decide (n > m) = true := by simpa using q2
      rw [e]
      go_wp2
      go_ret
      exact ⟨rfl, Below.refl _ _⟩
    · have e : wth n l m = 0 := by unfold wth; rw [if_neg (by omega)]
      have hd2 : decide (n > m) = false := by simpa using q2
      rw [e]
      go_wp2
      go_ret
      exact ⟨rfl, Below.refl _ _⟩
/-- A value's row. -/
def vrw (n : Nat) (dv pv : Value) : Array Value := #[.int .u64 (n : Int), dv, pv]
set_option maxRecDepth 100000 in
set_option maxHeartbeats 4000000 in
theorem a_fitNum (n : Nat) (da : Option Addr) (dl dc : Nat) (pa : Option Addr) (pl pc : Nat) (wt l m : Int) (g : Nat) (w : World) (hg : Bx w g #[.int .i64 wt, .int .u64 l, .int .u64 m]) : Calls Tryz.prog 97 #[.agg (vrw n (.slice da dl dc) (.slice pa pl pc)), .pointer (some ⟨g, 0, none⟩)] w fun e w' => e = .returned (.int .i64 (wth (n : Int) l m)) ∧ Below w.heap.size w w' := by
  obtain ⟨T, hg⟩ := hg
  have hlt := lt_of_row hg
  have hne : ¬ w.heap.size = g := by omega
  have hne2 : ¬ g = w.heap.size := by omega
  have c1 : w.cell? ⟨g, 1, none⟩ = some (.int .u64 l) := by rw [cell_of_row _ _ _ _ _ _ hg]; rfl
  have c2 : w.cell? ⟨g, 2, none⟩ = some (.int .u64 m) := by rw [cell_of_row _ _ _ _ _ _ hg]; rfl
  have cW := a_within (n : Int) l m
  have hb : ∀ o, Below w.heap.size w (w.alloc o) := fun o => (Below.refl _ _).alloc (Nat.le_refl _) _
  unfold vrw
  go_enter Tryz.func97, Tryz.ntmps97
  go_wp2_with (fail)
  refine (cW.at _).mono ?_
  rintro e_ w1 ⟨rfl, hb1⟩
  replace hb1 := Below.after (hb _) hb1
  go_wp2
  go_ret
  exact ⟨rfl, hb1⟩
theorem infoOct : (Tryz.prog.info? 198).map (·.size) = some 3 := by kernel_rfl
set_option maxRecDepth 100000 in
set_option maxHeartbeats 4000000 in
theorem a_octets (da : Option Addr) (dl dc : Nat) (l m : Int) (hdl : dl < 9223372036854775808) (w : World) : Calls Tryz.prog 102 #[.agg #[.int .u64 l, .int .u64 m, .bool false], .slice da dl dc] w fun e w' => e = .returned (.int .i64 (wth (dl : Int) l m)) ∧ Below w.heap.size w w' := by
  have cW := a_within (dl : Int) l m
  have hb : ∀ o, Below w.heap.size w (w.alloc o) := fun o => (Below.refl _ _).alloc (Nat.le_refl _) _
  go_enter Tryz.func102, Tryz.ntmps102
  go_wp2_with (fail)
  refine (cW.at _).mono ?_
  rintro e_ w1 ⟨rfl, hb1⟩
  have r0 := keep hb1 (hp1_0 w (.cells #[.int .u64 l, .int .u64 m, .bool false] 198))
  have c2 : w1.cell? ⟨w.heap.size, 2, none⟩ = some (.bool false) := by rw [cell_of_row _ _ _ _ _ _ r0]; rfl
  replace hb1 := Below.after (hb _) hb1
  rcases hz : (wth (dl : Int) l m == 0)
  · have hz2 : ¬ wth (dl : Int) l m = 0 := by simpa using hz
    clear r0 cW
    go_wp2
    go_ret
    exact ⟨rfl, hb1⟩
  · have hz2 : wth (dl : Int) l m = 0 := by simpa using hz
    rw [hz2]
    replace hz2 := hide hz2
    clear r0 cW hz
    go_wp2
    go_ret
    exact ⟨by rw [hz2.out]; rfl, hb1⟩
set_option maxRecDepth 100000 in
set_option maxHeartbeats 4000000 in
theorem a_fitOct (n : Nat) (da : Option Addr) (dl dc : Nat) (pa : Option Addr) (pl pc : Nat) (l m : Int) (hdl : dl < 9223372036854775808) (g : Nat) (w : World) (hg : Bx w g #[.int .u64 l, .int .u64 m, .bool false]) : Calls Tryz.prog 101 #[.agg (vrw n (.slice da dl dc) (.slice pa pl pc)), .pointer (some ⟨g, 0, none⟩)] w fun e w' => e = .returned (.int .i64 (wth (dl : Int) l m)) ∧ Below w.heap.size w w' := by
  obtain ⟨T, hg⟩ := hg
  have hlt := lt_of_row hg
  have hb : ∀ o, Below w.heap.size w (w.alloc o) := fun o => (Below.refl _ _).alloc (Nat.le_refl _) _
  have cO := a_octets da dl dc l m hdl
  have hg2 := fun o => keep (hb o) hg
  unfold vrw
  go_enter Tryz.func101, Tryz.ntmps101
  go_wp2_with (first | (refine wpList_load_want rfl 198 _ rfl g rfl T #[.int .u64 l, .int .u64 m, .bool false] (0, 0) _ (hg2 _) Tryz.underlying198 rfl infoOct ?_) | fail)
  refine (cO _).mono ?_
  rintro e_ w1 ⟨rfl, hb1⟩
  replace hb1 := Below.after (hb _) hb1
  clear cO hg2 hg
  go_wp2
  go_ret
  exact ⟨rfl, hb1⟩
end Go.Proofs.YtleeadbceljfbaaGreatDoor

namespace Go.Proofs.YtleeadbceljfbaaGreatDoor
set_option maxRecDepth 100000
open Go Go.RowKit Go.Sort
attribute [local go_sem] setCell_drewN alloc_drewN
theorem infoV : (Tryz.prog.info? 80).map (·.size) = some 3 := by kernel_rfl
/-- Has a value something that a plain kind has not? -/
def pbad (b : Bool) (n dl pl : Nat) : Bool := decide (0 < pl) || (b && decide (n ≠ 0)) || (!b && decide (0 < dl))
/-- What a plain slot finds: E is what its fits says. -/
def pck (deep no : Int) (b : Bool) (n dl pl : Nat) (E : Int) : Option Flt3 := if pbad b n dl pl then some ⟨deep, no, 84⟩ else if E = 0 then none else some ⟨deep, no, E⟩
set_option maxRecDepth 100000 in
set_option maxHeartbeats 8000000 in
theorem a_plain1 (k : FuncId) (hk : k = 97 ∨ k = 99 ∨ k = 101) (n : Nat) (da : Option Addr) (dl dc : Nat) (pa : Option Addr) (pl pc : Nat) (deep no : Int) (b : Bool) (E : Int) (g4 g0 g2 gs : Nat) (w : World)
    (h4 : Bx w g4 #[.bool b]) (h0 : Bx w g0 #[.int .i64 no]) (h2 : Bx w g2 #[.func (.func k) #[] #[ptr gs]])
    (hF : ∀ V, Below w.heap.size w V → Calls Tryz.prog k #[.agg (vrw n (.slice da dl dc) (.slice pa pl pc)), ptr gs] V fun e w' => e = .returned (.int .i64 E) ∧ Below V.heap.size V w') :
    Calls Tryz.prog 106 #[.agg (vrw n (.slice da dl dc) (.slice pa pl pc)), .int .i64 deep, ptr g4, ptr g0, ptr g2] w fun e w' => Gup w.heap.size (pck deep no b n dl pl E) e w' (fun v => v = .tuple #[]) ∧ Below w.heap.size w w' := by
  obtain ⟨T4, h4⟩ := h4
  obtain ⟨T0, h0⟩ := h0
  obtain ⟨T2, h2⟩ := h2
  have l4 := lt_of_row h4
  have l0 := lt_of_row h0
  have l2 := lt_of_row h2
  have hb0 : Below w.heap.size w (w.alloc (.cells #[.int .u64 (n : Int), .slice da dl dc, .slice pa pl pc] 80)) := (Below.refl _ _).alloc (Nat.le_refl _) _
  have rV := hp1_0 w (.cells #[.int .u64 (n : Int), .slice da dl dc, .slice pa pl pc] 80)
  have n4 : ¬ w.heap.size = g4 := by omega
  have n4' : ¬ g4 = w.heap.size := by omega
  have n0 : ¬ w.heap.size = g0 := by omega
  have n0' : ¬ g0 = w.heap.size := by omega
  have n2 : ¬ w.heap.size = g2 := by omega
  have n2' : ¬ g2 = w.heap.size := by omega
  have c4 : w.cell? ⟨g4, 0, none⟩ = some (.bool b) := by rw [cell_of_row _ _ _ _ _ _ h4]; rfl
  have c0 : w.cell? ⟨g0, 0, none⟩ = some (.int .i64 no) := by rw [cell_of_row _ _ _ _ _ _ h0]; rfl
  have c2 : w.cell? ⟨g2, 0, none⟩ = some (.func (.func k) #[] #[ptr gs]) := by rw [cell_of_row _ _ _ _ _ _ h2]; rfl
  have cG := a_giveUp deep no 84
  have cF := hF _ hb0
  unfold vrw at cF ⊢
  unfold ptr at *
  clear hF h4 h0 h2
  obtain ⟨R, hR⟩ : ∃ R, pck deep no b n dl pl E = R := ⟨_, rfl⟩
  rw [hR]
  rcases hbad : pbad b n dl pl
  · have eR : R = if E = 0 then none else some ⟨deep, no, E⟩ := by rw [← hR, pck, hbad, if_neg Bool.false_ne_true]
    clear hR
    simp only [pbad, Bool.or_eq_false_iff, Bool.and_eq_false_iff, decide_eq_false_iff_not] at hbad
    obtain ⟨⟨q1, q2⟩, q3⟩ := hbad
    obtain rfl : pl = 0 := by omega
    cases b
    · obtain rfl : dl = 0 := by
        rcases q3 with q | q
        · simp at q
        · omega
      clear q1 q2 q3
      have cE := a_giveUp deep no E
      rcases hk with rfl | rfl | rfl
      all_goals
        go_enter Tryz.func106, Tryz.ntmps106
        go_wp2_with (first | (refine wpList_load_want rfl 80 _ rfl w.heap.size rfl 80 #[.int .u64 (n : Int), .slice da dl dc, .slice pa 0 pc] (0, 0) _ rV Tryz.underlying80 rfl infoV ?_) | fail)
        refine cF.mono ?_
        rintro e_ w1 ⟨rfl, hb1⟩
        have c01 : w1.cell? ⟨g0, 0, none⟩ = some (.int .i64 no) := (hb1.cell (p := ⟨g0, 0, none⟩) (by rw [size_alloc1]; exact Nat.lt_succ_of_lt l0)).trans ((hb0.cell (p := ⟨g0, 0, none⟩) l0).trans c0)
        replace hb1 := Below.after hb0 hb1
        clear cF
        rcases hE : (E == 0)
        · have hE2 : ¬ E = 0 := by simpa using hE
          rw [if_neg hE2] at eR
          replace eR := hide eR
          go_wp2_with (fail)
          refine (cE _).mono ?_
          rintro e_ w2 ⟨hg, hb2⟩
          obtain ⟨g, rfl, hgl, hgr⟩ := hg
          replace hb2 := Below.after hb1 hb2
          go_wp2
          rw [eR.out]
          exact ⟨rfl, ⟨g, rfl, Nat.le_trans hb1.size hgl, hgr⟩, hb2⟩
        · obtain rfl : E = 0 := by simpa using hE
          rw [if_pos rfl] at eR
          replace eR := hide eR
          clear cE cG
          go_wp2
          go_end0
          rw [eR.out]
          exact ⟨⟨_, rfl, rfl⟩, hb1⟩
    · obtain rfl : n = 0 := by
        rcases q2 with q | q
        · simp at q
        · omega
      clear q1 q2 q3
      have cE := a_giveUp deep no E
      rcases hk with rfl | rfl | rfl
      all_goals
        go_enter Tryz.func106, Tryz.ntmps106
        go_wp2_with (first | (refine wpList_load_want rfl 80 _ rfl w.heap.size rfl 80 #[.int .u64 ((0 : Nat) : Int), .slice da dl dc, .slice pa 0 pc] (0, 0) _ rV Tryz.underlying80 rfl infoV ?_) | fail)
        refine cF.mono ?_
        rintro e_ w1 ⟨rfl, hb1⟩
        have c01 : w1.cell? ⟨g0, 0, none⟩ = some (.int .i64 no) := (hb1.cell (p := ⟨g0, 0, none⟩) (by rw [size_alloc1]; exact Nat.lt_succ_of_lt l0)).trans ((hb0.cell (p := ⟨g0, 0, none⟩) l0).trans c0)
        replace hb1 := Below.after hb0 hb1
        clear cF
        rcases hE : (E == 0)
        · have hE2 : ¬ E = 0 := by simpa using hE
          rw [if_neg hE2] at eR
          replace eR := hide eR
          go_wp2_with (fail)
          refine (cE _).mono ?_
          rintro e_ w2 ⟨hg, hb2⟩
          obtain ⟨g, rfl, hgl, hgr⟩ := hg
          replace hb2 := Below.after hb1 hb2
          go_wp2
          rw [eR.out]
          exact ⟨rfl, ⟨g, rfl, Nat.le_trans hb1.size hgl, hgr⟩, hb2⟩
        · obtain rfl : E = 0 := by simpa using hE
          rw [if_pos rfl] at eR
          replace eR := hide eR
          clear cE cG
          go_wp2
          go_end0
          rw [eR.out]
          exact ⟨⟨_, rfl, rfl⟩, hb1⟩
  · have eR : R = some ⟨deep, no, 84⟩ := by rw [← hR, pck, hbad, if_pos rfl]
    clear hR cF
    replace eR := hide eR
    rcases Nat.eq_zero_or_pos pl with rfl | hp
    · cases b
      · have hq : 0 < dl := by simpa [pbad] using hbad
        have hd : decide ((dl : Int) > 0) = true := by simp; omega
        clear hbad
        go_enter Tryz.func106, Tryz.ntmps106
        go_wp2_with (fail)
        refine (cG _).mono ?_
        rintro e_ w2 ⟨hg, hb2⟩
        obtain ⟨g, rfl, hgl, hgr⟩ := hg
        replace hb2 := Below.after hb0 hb2
        go_wp2
        rw [eR.out]
        exact ⟨rfl, ⟨g, rfl, Nat.le_trans hb0.size hgl, hgr⟩, hb2⟩
      · have hq : ¬ n = 0 := by simpa [pbad] using hbad
        have hd : ((n : Int) == 0) = false := by simp; omega
        have hd2 : ¬ (n : Int) = 0 := by omega
        clear hbad
        go_enter Tryz.func106, Tryz.ntmps106
        go_wp2_with (fail)
        refine (cG _).mono ?_
        rintro e_ w2 ⟨hg, hb2⟩
        obtain ⟨g, rfl, hgl, hgr⟩ := hg
        replace hb2 := Below.after hb0 hb2
        go_wp2
        rw [eR.out]
        exact ⟨rfl, ⟨g, rfl, Nat.le_trans hb0.size hgl, hgr⟩, hb2⟩
    · have hd : decide ((pl : Int) > 0) = true := by simp; omega
      clear hbad
      go_enter Tryz.func106, Tryz.ntmps106
      go_wp2_with (fail)
      refine (cG _).mono ?_
      rintro e_ w2 ⟨hg, hb2⟩
      obtain ⟨g, rfl, hgl, hgr⟩ := hg
      replace hb2 := Below.after hb0 hb2
      go_wp2
      rw [eR.out]
      exact ⟨rfl, ⟨g, rfl, Nat.le_trans hb0.size hgl, hgr⟩, hb2⟩
end Go.Proofs.YtleeadbceljfbaaGreatDoor

namespace Go.Proofs.YtleeadbceljfbaaGreatDoor
set_option maxRecDepth 100000
open Go Go.RowKit Go.Sort
attribute [local go_sem] setCell_drewN alloc_drewN
theorem hmf : ∀ (fn : Fn) (first cap : Array Value) (w : World), (Instr.makeFunc fn first cap).run Tryz.prog w = .ok (.func fn first cap) w := fun _ _ _ _ => rfl
theorem eql_nils (W : World) : (binOp .eql 20 .nilIface .nilIface).run Tryz.prog W = .ok (.bool true) W := by kernel_rfl
theorem eql_fault (v : Value) (W : World) : (binOp .eql 20 (.iface 83 v) .nilIface).run Tryz.prog W = .ok (.bool false) W := by kernel_rfl
theorem ta_fault (v : Value) (W : World) : (Instr.typeAssert (.iface 83 v) 20 83 true).run Tryz.prog W = .ok (.tuple #[v, .bool true]) W := by kernel_rfl
set_option maxRecDepth 100000 in
/-- The deferred closure of caught, where nothing was given up. -/
theorem catch_idle (p : Addr) (w : World) : CallsD Tryz.prog 68 #[.pointer (some p)] .returning w fun e u' w' => e = .returned (.tuple #[]) ∧ u' = .returning ∧ w' = w := by
  refine callsD_of_wpS Tryz.func68 rfl fun c₀ cs hu => ?_
  apply wpS_seq
  apply wpS_region
  simp [wpOpsS, go_sem, recoverD, hu, Tryz.ntmps68, Exit.thenS, Array.replicate]
  refine wpS_of_wp ?_
  have h1 := eql_nils
  go_wp2
  cases c₀
  simp_all [bodyPostS, results, Tryz.results68]
set_option maxRecDepth 100000 in
theorem catch_panicking (p : Addr) (old : Value) (g : Nat) (older : List PanicEntry) (w : World) (hc : w.cell? p = some old) (hz : w.frozen? p = false) :
    CallsD Tryz.prog 68 #[.pointer (some p)] (.panicking ({ v := .iface 83 (.pointer (some ⟨g, 0, none⟩)), recovered := false } :: older)) w fun e u' w' =>
      e = .returned (.tuple #[]) ∧ u' = .panicking ({ v := .iface 83 (.pointer (some ⟨g, 0, none⟩)), recovered := true } :: older) ∧ w' = w.setCell p (.iface 83 (.pointer (some ⟨g, 0, none⟩))) := by
  refine callsD_of_wpS Tryz.func68 rfl fun c₀ cs hu => ?_
  apply wpS_seq
  apply wpS_region
  simp [wpOpsS, go_sem, recoverD, hu, Tryz.ntmps68, Exit.thenS, Array.replicate]
  refine wpS_of_wp ?_
  have h1 := eql_fault (.pointer (some ⟨g, 0, none⟩))
  have h2 := ta_fault (.pointer (some ⟨g, 0, none⟩))
  go_wp2
  cases c₀
  simp_all [bodyPostS, results, Tryz.results68]
/-- What caught hands back. -/
def Cgt (base : Nat) (f : Option Flt3) (e : Ending) (w' : World) : Prop :=
  match f with
  | none => e = .returned .nilIface
  | some x => ∃ g, e = .returned (.iface 83 (.pointer (some ⟨g, 0, none⟩))) ∧ base ≤ g ∧ w'.heap[g]? = some (.cells (frw x) 65 (0, 0))
set_option maxRecDepth 100000 in
set_option maxHeartbeats 4000000 in
theorem a_caughtC (F : Option Flt3) (ca cb : Value) (w : World)
    (hD : ∀ V, Below w.heap.size w V → Calls Tryz.prog 65 #[ca, cb] V fun e w' => Gup V.heap.size F e w' (fun v => v = .tuple #[]) ∧ Below V.heap.size V w') :
    Calls Tryz.prog 53 #[.func (.func 65) #[] #[ca, cb]] w fun e w' => Cgt w.heap.size F e w' ∧ Below w.heap.size w w' := by
  have h0 := hmf
  have hb0 : Below w.heap.size w (w.alloc (.cells #[.nilIface] 40)) := (Below.refl _ _).alloc (Nat.le_refl _) _
  have r0 := hp1_0 w (.cells #[.nilIface] 40)
  have cD := hD _ hb0
  clear hD
  go_enter_defers Tryz.func53, Tryz.ntmps53
  go_wp2_with (fail)
  refine cD.mono ?_
  rintro e_ w1 ⟨hG, hb1⟩
  cases F with
  | none =>
    obtain ⟨v, rfl, rfl⟩ := hG
    have r1 := keep hb1 r0
    have c1 : w1.cell? ⟨w.heap.size, 0, none⟩ = some .nilIface := by rw [cell_of_row _ _ _ _ _ _ r1]; rfl
    have f1 := row_frozen r1 0
    have hw := Below.after hb0 hb1
    have r2 := heap_setCell_same w1 w.heap.size 0 _ _ .nilIface r1
    have hw2 := hw.setCell (show w.heap.size ≤ (⟨w.heap.size, 0, none⟩ : Addr).block from Nat.le_refl _) .nilIface
    have c2 : (w1.setCell ⟨w.heap.size, 0, none⟩ .nilIface).cell? ⟨w.heap.size, 0, none⟩ = some .nilIface := by rw [cell_of_row _ _ _ _ _ _ r2]; rfl
    go_wp2
    refine leaves_cons (f := 68) (args := #[.pointer (some ⟨w.heap.size, 0, none⟩)]) (by simp) (by simp [go_sem]) ?_
    refine (catch_idle ⟨w.heap.size, 0, none⟩ _).mono ?_
    rintro e u' w'' ⟨rfl, rfl, rfl⟩
    simp [Leaves, settle, results, Tryz.results53, go_sem, c2]
    exact ⟨rfl, hw2⟩
  | some f =>
    obtain ⟨g, rfl, hg1, hg2⟩ := hG
    have r1 := keep hb1 r0
    have c1 : w1.cell? ⟨w.heap.size, 0, none⟩ = some .nilIface := by rw [cell_of_row _ _ _ _ _ _ r1]; rfl
    have f1 := row_frozen r1 0
    have hw := Below.after hb0 hb1
    have r2 := heap_setCell_same w1 w.heap.size 0 _ _ (.iface 83 (.pointer (some ⟨g, 0, none⟩))) r1
    have hw2 := hw.setCell (show w.heap.size ≤ (⟨w.heap.size, 0, none⟩ : Addr).block from Nat.le_refl _) (.iface 83 (.pointer (some ⟨g, 0, none⟩)))
    have c2 : (w1.setCell ⟨w.heap.size, 0, none⟩ (.iface 83 (.pointer (some ⟨g, 0, none⟩)))).cell? ⟨w.heap.size, 0, none⟩ = some (.iface 83 (.pointer (some ⟨g, 0, none⟩))) := by rw [cell_of_row _ _ _ _ _ _ r2]; rfl
    go_wp2
    refine leaves_cons (f := 68) (args := #[.pointer (some ⟨w.heap.size, 0, none⟩)]) (by simp) (by simp [go_sem]) ?_
    refine (catch_panicking ⟨w.heap.size, 0, none⟩ .nilIface g [] _ c1 f1).mono ?_
    rintro e u' w'' ⟨rfl, rfl, rfl⟩
    simp [Leaves, settle, results, Tryz.results53, go_sem, c2]
    rw [size_alloc1] at hg1
    exact ⟨⟨g, rfl, by omega, (heap_setCell_other w1 ⟨w.heap.size, 0, none⟩ g _ (show g ≠ w.heap.size by omega)).trans hg2⟩, hw2⟩
end Go.Proofs.YtleeadbceljfbaaGreatDoor
