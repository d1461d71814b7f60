import Derived.Test.YtjoohgkgkabbpaaGreatDoorProg
import Derived.WalkKit
import Derived.WalkSpells
import Derived.WalkLawsBesides
import Derived.Lib.QuietBelow
import Derived.Laws.BitsAllLaws
import Derived.BigQuiet
import Derived.WalkMore
import Derived.Deep.MidRow
import Derived.Test.YtjoohgkgkabbpaaGreatDoorXOpen
import Derived.Test.YtjoohgkgkabbpaaGreatDoorXUa
namespace Go.Proofs.YtjoohgkgkabbpaaGreatDoor
set_option maxRecDepth 100000
open Go Go.RowKit Go.Sort
attribute [local go_sem] setCell_drewN alloc_drewN
theorem wpQuiet_load_mid {P : Program} {C : World → Prop} {ops : Array Oper} {Q : Act → Prop} {a : Act} {o : Oper} {rest : List Oper} (hw : Region.wanted o (yielded ops a.tmps) = true) (ty : TypeId) (x : Operand) (ho : o.op = .load ty x)
 (b off : Nat) (hx : a.eval x = .pointer (some ⟨b, off, none⟩)) (cs : List Value) (d : TypeDesc) (hg : ∀ w, C w → w.rangeAt b off cs)
 (hu : P.underlying ty = some d) (hd : d.isRow = true) (hi : (P.info? ty).map (·.size) = some cs.length)
 (h : wpQuiet P ops C Q rest (a.put o.dst (.agg cs.toArray))) : wpQuiet P ops C Q (o :: rest) a := by
 refine BigFrame.wpQuiet_want hw fun K hK => ⟨.agg cs.toArray, fun w hw => ?_, hK _ h⟩
 unfold Oper.quietAt execOp
 simp only [ho, hx, Instr.loadAt, Instr.sureAddr, Sem.run_bind, Sem.run_pure, Result.andThen_ok, run_loadVar_mid w b off ty cs d (hg w hw) hu hd hi]
 exact ⟨rfl, rfl⟩
theorem wpQuiet_load_sl {C : World → Prop} {ops : Array Oper} {Q : Act → Prop} {a : Act} {o : Oper} {rest : List Oper} (hw : Region.wanted o (yielded ops a.tmps) = true) (x : Operand) (ho : o.op = .load 114 x)
 (b off : Nat) (hx : a.eval x = .pointer (some ⟨b, off, none⟩)) (c0 c1 c2 c3 c4 : Value) (hg : ∀ w, C w → w.rangeAt b off [c0, c1, c2, c3, c4])
 (h : wpQuiet Tryz.prog ops C Q rest (a.put o.dst (.agg #[c0, c1, c2, c3, c4]))) : wpQuiet Tryz.prog ops C Q (o :: rest) a :=
 wpQuiet_load_mid hw 114 x ho b off hx [c0, c1, c2, c3, c4] _ hg Tryz.underlying114 rfl infoS h
def lfL : List Slt → Int → Int → Int → Int
 | [], _, _, room => room
 | .mk no k l m sub :: ts, prev, deep, room => if room < 0 then room else
  if no < 1 ∨ 536870911 < no ∨ no ≤ prev ∨ fitN k (l : Int) (m : Int) sub.length = false then -1 else
  lfL ts no deep (if (k = 8 ∨ k = 9) ∧ 0 ≤ room - 1 then (if 16 < sub.length ∨ 6 < deep + 1 then -1 else lfL sub 0 (deep + 1) (room - 1)) else room - 1)
def lft (ts : List Slt) (deep room : Int) : Int := if 16 < ts.length ∨ 6 < deep then -1 else lfL ts 0 deep room
def nst (t : Slt) : Prop := t.kind = 8 ∨ t.kind = 9
instance (t : Slt) : Decidable (nst t) := by unfold nst; infer_instance
def sfit (t : Slt) : Bool := fitN t.kind (t.least : Int) (t.most : Int) t.sub.length
theorem lfL_cons (t : Slt) (ts : List Slt) (prev deep room : Int) : lfL (t :: ts) prev deep room = if room < 0 then room else
 if t.no < 1 ∨ 536870911 < t.no ∨ t.no ≤ prev ∨ sfit t = false then -1 else
 lfL ts t.no deep (if nst t ∧ 0 ≤ room - 1 then lft t.sub (deep + 1) (room - 1) else room - 1) := by
 cases t
 rw [lfL]
 rfl
theorem lfL_neg (ts : List Slt) (prev deep room : Int) (h : room < 0) : lfL ts prev deep room = room := by
 cases ts with
 | nil => rw [lfL]
 | cons t ts => rw [lfL_cons, if_pos h]
theorem lfL_le : ∀ (ts : List Slt) (prev deep room : Int), -1 ≤ room → lfL ts prev deep room ≤ room ∧ -1 ≤ lfL ts prev deep room
 | [], _, _, room, h => by rw [lfL]; exact ⟨Int.le_refl _, h⟩
 | .mk no k l m sub :: ts, prev, deep, room, h => by
  rw [lfL]
  split
  ·exact ⟨Int.le_refl _, h⟩
  ·split
   ·exact ⟨h, Int.le_refl _⟩
   ·have h1 := lfL_le sub 0 (deep + 1) (room - 1) (by omega)
    have key : ∀ r, -1 ≤ r → r ≤ room → lfL ts no deep r ≤ room ∧ -1 ≤ lfL ts no deep r := fun r q1 q2 => by
     have := lfL_le ts no deep r q1
     omega
    apply key
    ·split
     ·split <;> omega
     ·omega
    ·split
     ·split <;> omega
     ·omega
theorem lft_le (ts : List Slt) (deep room : Int) (h : -1 ≤ room) : lft ts deep room ≤ room ∧ -1 ≤ lft ts deep room := by
 unfold lft
 split
 ·exact ⟨h, Int.le_refl _⟩
 ·exact lfL_le _ _ _ _ h
def prv (ts : List Slt) (k : Nat) : Int := if k = 0 then 0 else (gs ts (k - 1)).no
set_option maxRecDepth 100000 in
set_option maxHeartbeats 16000000 in
theorem r_left {W : World} {v : Value} {ts : List Slt} (h : Slo W v ts) : ∀ (w : World) (deep room : Int), Below W.heap.size W w → 0 ≤ deep → deep ≤ 7 → -1 ≤ room → room ≤ 256 → Calls Tryz.prog 115 #[v, .int .i64 deep, .int .i64 room] w fun e w' => e = .returned (.int .i64 (lft ts deep room)) ∧ Below w.heap.size w w' := by
 induction h with
 | mk ao cap ts us hl hc hn h hs ih =>
  intro w deep room hw hd0 hd7 hr1 hr2
  by_cases g1 : 16 < ts.length
  ·have e1 : decide ((ts.length : Int) > 16) = true := by simp; omega
   have hf : Hid (lft ts deep room = -1) := hide (if_pos (.inl g1))
   clear h hs ih g1
   go_enter Tryz.func115, Tryz.ntmps115
   go_wp2_with (fail)
   go_ret
   exact ⟨by rw [hf.out]; rfl, Below.refl _ _⟩
  have e1 : decide ((ts.length : Int) > 16) = false := by simp; omega
  by_cases g2 : 6 < deep
  ·have e2 : decide (deep > 6) = true := by simpa using g2
   have hf : Hid (lft ts deep room = -1) := hide (if_pos (.inr g2))
   clear h hs ih g1 g2
   go_enter Tryz.func115, Tryz.ntmps115
   go_wp2_with (fail)
   go_ret
   exact ⟨by rw [hf.out]; rfl, Below.refl _ _⟩
  have e2 : decide (deep > 6) = false := by simpa using g2
  have hlf : lft ts deep room = lfL ts 0 deep room := if_neg (by omega)
  rw [hlf]
  clear hlf
  go_enter Tryz.func115, Tryz.ntmps115
  go_wp2_with (fail)
  go_loopw [2, 7] (fun s i wr => ∃ (k : Nat) (m : Int), k ≤ ts.length ∧ i = .int .i64 k ∧ s = .int .i64 m ∧ -1 ≤ m ∧ m ≤ 256 ∧ lfL ts 0 deep room = lfL (ts.drop k) (prv ts k) deep m ∧ Below w.heap.size w wr) (fun _ i _ => ts.length - (intOf i).toNat)
  case atStart => exact ⟨0, room, by omega, rfl, rfl, hr1, hr2, rfl, Below.refl _ _⟩
  case round =>
   clear e1 e2
   obtain ⟨k, m, hk, rfl, rfl, hm1, hm2, he, hb⟩ := hrel
   have hww := Below.after hw hb
   by_cases hlt : k < ts.length
   ·have hd : decide ((k : Int) < (ts.length : Int)) = true := by simp; omega
    by_cases hm0 : 0 ≤ m
    ·have hd2 : decide (m ≥ 0) = true := by simpa using hm0
     rw [sdrop ts k hlt, lfL_cons, if_neg (by omega)] at he
     obtain ⟨b, off, hao, hbl, hra, hok⟩ := h k hlt
     have hsl := hs k hlt
     obtain ⟨so, sc, hsf⟩ := hsl.form
     have hpv : k ≠ 0 → W.cell? ⟨b, off + (k - 1) * 5, none⟩ = some (.int .i64 (prv ts k)) := fun hk0 => by
      obtain ⟨b2, off2, hao2, _, hra2, _⟩ := h (k - 1) (by omega)
      rw [hao] at hao2
      cases hao2
      have := hra2 0 _ rfl
      rw [prv, if_neg hk0]
      exact this
     have cR := ih k hlt
     subst hao
     have hrw := rangeS_keep2 hra hww hbl
     have ka0 : ∀ p : Regrown, (grow (redrawn wr p.d) p.os).cell? ⟨b, off + k * 5, none⟩ = some (.int .i64 (gs ts k).no) := fun p => cell_regrown (hrw 0 _ rfl) p.d p.os
     have kR : ∀ V, (∃ p : Regrown, V = grow (redrawn wr p.d) p.os) → V.rangeAt b (off + k * 5) (srow (gs ts k) (gvs us k)) := fun V ⟨p, e⟩ j x hx => by rw [e]; exact cell_regrown (hrw j x hx) p.d p.os
     have kb0 : k ≠ 0 → ∀ p : Regrown, (grow (redrawn wr p.d) p.os).cell? ⟨b, off + (k - 1) * 5, none⟩ = some (.int .i64 (prv ts k)) := fun hk0 p => cell_regrown ((hww.cell (p := ⟨b, off + (k - 1) * 5, none⟩) hbl).trans (hpv hk0)) p.d p.os
     have c1 := hrw 1 _ rfl
     have c4 := hrw 4 _ rfl
     have hk1 : 0 ≤ (k : Int) ∧ (k : Int) < (ts.length : Int) := by omega
     have hpn : prv ts (k + 1) = (gs ts k).no := by rw [prv, if_neg (by omega), Nat.add_sub_cancel]
     have hpr : prv ts k = (if k = 0 then 0 else prv ts k) := by by_cases q : k = 0 <;> simp [q, prv]
     have cF : GivesB wr 134 #[.agg #[.int .i64 (gs ts k).no, .int .i64 (gs ts k).kind, .int .u64 ((gs ts k).least : Int), .int .u64 ((gs ts k).most : Int), gvs us k]] (.bool (sfit (gs ts k))) := fun V _ => by
      rw [hsf]
      exact r_fitB _ _ _ _ (by omega) (by omega) _ _ _ V
     clear h hs ih hra hrw hpv hsl
     unfold srow at kR
     generalize gvs us k = u at *
     generalize hsub : (gs ts k).sub = sub at *
     subst hsf
     replace hsub := hide hsub
     generalize hno : (gs ts k).no = no at *
     replace hno := hide hno
     have hnob := hok.1
     rw [hno.out] at hnob
     by_cases n1 : no < 1
     ·have d1 : decide (no < 1) = true := by simpa using n1
      rw [if_pos (.inl n1)] at he
      clear n1 kb0
      replace he := hide he
      clear hpr hok hpn
      go_wp2_with (fail)
      refine wp_region_quiet_below (by kernel_rfl) (by kernel_rfl) ?_
      go_big_quiet_step (fail)
      go_big_quiet_step (fail)
      go_big_quiet_step (fail)
      go_big_quiet_step (fail)
      go_big_quiet_step (fail)
      go_big_quiet_step (fail)
      go_big_quiet_step (fail)
      go_big_quiet_step (fail)
      go_big_quiet_step (fail)
      go_big_quiet_step (fail)
      go_big_quiet_step (fail)
      go_big_quiet_step (fail)
      go_big_quiet_step (fail)
      go_big_quiet_step (fail)
      go_big_quiet_step (fail)
      go_big_quiet_step (fail)
      go_big_quiet_step (fail)
      go_big_quiet_step (fail)
      go_big_quiet_step (fail)
      go_big_quiet_step (fail)
      go_big_quiet_step (fail)
      go_big_quiet_step (fail)
      go_big_quiet_step (fail)
      go_big_quiet_step (fail)
      go_big_quiet_step (fail)
      go_big_quiet_step (fail)
      go_big_quiet_step (fail)
      go_big_quiet_step (fail)
      go_big_quiet_step (fail)
      go_big_quiet_step (fail)
      go_big_quiet_step (fail)
      go_big_quiet_step (fail)
      go_big_quiet_step (fail)
      go_big_quiet_step (fail)
      go_big_quiet_step (fail)
      go_big_quiet_step (fail)
      first | (refine wpQuiet_load_sl rfl _ rfl b (off + k * 5) rfl _ _ _ _ _ kR ?_; simp only [Act.put, List.setIfInBounds_toArray, List.set_cons_succ, List.set_cons_zero]) | go_big_quiet_step (fail)
      go_big_quiet_step (exact cF.re)
      go_big_quiet_step (fail)
      go_big_quiet_step (fail)
      refine wpQuiet_nil ?_
      rintro _ ⟨p, rfl⟩
      have hb2 := below_regrown wr p.d p.os
      generalize grow (redrawn wr p.d) p.os = w1 at *
      replace hb := Below.after hb hb2
      clear hb2 kR cF cR
      go_wp2_with (fail)
      go_ret
      exact ⟨by rw [he.out]; rfl, hb⟩
     have d1 : decide (no < 1) = false := by simpa using n1
     by_cases n2 : 536870911 < no
     ·have d2 : decide (no > 536870911) = true := by simpa using n2
      rw [if_pos (.inr (.inl n2))] at he
      clear n1 n2 kb0
      replace he := hide he
      clear hpr hok hpn
      go_wp2_with (fail)
      refine wp_region_quiet_below (by kernel_rfl) (by kernel_rfl) ?_
      go_big_quiet_step (fail)
      go_big_quiet_step (fail)
      go_big_quiet_step (fail)
      go_big_quiet_step (fail)
      go_big_quiet_step (fail)
      go_big_quiet_step (fail)
      go_big_quiet_step (fail)
      go_big_quiet_step (fail)
      go_big_quiet_step (fail)
      go_big_quiet_step (fail)
      go_big_quiet_step (fail)
      go_big_quiet_step (fail)
      go_big_quiet_step (fail)
      go_big_quiet_step (fail)
      go_big_quiet_step (fail)
      go_big_quiet_step (fail)
      go_big_quiet_step (fail)
      go_big_quiet_step (fail)
      go_big_quiet_step (fail)
      go_big_quiet_step (fail)
      go_big_quiet_step (fail)
      go_big_quiet_step (fail)
      go_big_quiet_step (fail)
      go_big_quiet_step (fail)
      go_big_quiet_step (fail)
      go_big_quiet_step (fail)
      go_big_quiet_step (fail)
      go_big_quiet_step (fail)
      go_big_quiet_step (fail)
      go_big_quiet_step (fail)
      go_big_quiet_step (fail)
      go_big_quiet_step (fail)
      go_big_quiet_step (fail)
      go_big_quiet_step (fail)
      go_big_quiet_step (fail)
      go_big_quiet_step (fail)
      first | (refine wpQuiet_load_sl rfl _ rfl b (off + k * 5) rfl _ _ _ _ _ kR ?_; simp only [Act.put, List.setIfInBounds_toArray, List.set_cons_succ, List.set_cons_zero]) | go_big_quiet_step (fail)
      go_big_quiet_step (exact cF.re)
      go_big_quiet_step (fail)
      go_big_quiet_step (fail)
      refine wpQuiet_nil ?_
      rintro _ ⟨p, rfl⟩
      have hb2 := below_regrown wr p.d p.os
      generalize grow (redrawn wr p.d) p.os = w1 at *
      replace hb := Below.after hb hb2
      clear hb2 kR cF cR
      go_wp2_with (fail)
      go_ret
      exact ⟨by rw [he.out]; rfl, hb⟩
     have d2 : decide (no > 536870911) = false := by simpa using n2
     by_cases hk0 : k = 0
     ·have d3 : decide ((k : Int) > 0) = false := by simp; omega
      have d3b : decide (0 < k) = false := by simp; omega
      have hpz : prv ts k = 0 := by rw [prv, if_pos hk0]
      rw [hpz] at he
      clear kb0 hpr hpz
      have hpr : True := trivial
      cases hFt : sfit (gs ts k) with
      | false =>
       rw [hFt] at cF
       rw [if_pos (.inr (.inr (.inr hFt)))] at he
       replace hFt := hide hFt
       replace hk0 := hide hk0
       clear n1 n2
       replace he := hide he
       clear hpr hok hpn
       go_wp2_with (fail)
       refine wp_region_quiet_below (by kernel_rfl) (by kernel_rfl) ?_
       go_big_quiet_step (fail)
       go_big_quiet_step (fail)
       go_big_quiet_step (fail)
       go_big_quiet_step (fail)
       go_big_quiet_step (fail)
       go_big_quiet_step (fail)
       go_big_quiet_step (fail)
       go_big_quiet_step (fail)
       go_big_quiet_step (fail)
       go_big_quiet_step (fail)
       go_big_quiet_step (fail)
       go_big_quiet_step (fail)
       go_big_quiet_step (fail)
       go_big_quiet_step (fail)
       go_big_quiet_step (fail)
       go_big_quiet_step (fail)
       go_big_quiet_step (fail)
       go_big_quiet_step (fail)
       go_big_quiet_step (fail)
       go_big_quiet_step (fail)
       go_big_quiet_step (fail)
       go_big_quiet_step (fail)
       go_big_quiet_step (fail)
       go_big_quiet_step (fail)
       go_big_quiet_step (fail)
       go_big_quiet_step (fail)
       go_big_quiet_step (fail)
       go_big_quiet_step (fail)
       go_big_quiet_step (fail)
       go_big_quiet_step (fail)
       go_big_quiet_step (fail)
       go_big_quiet_step (fail)
       go_big_quiet_step (fail)
       go_big_quiet_step (fail)
       go_big_quiet_step (fail)
       go_big_quiet_step (fail)
       first | (refine wpQuiet_load_sl rfl _ rfl b (off + k * 5) rfl _ _ _ _ _ kR ?_; simp only [Act.put, List.setIfInBounds_toArray, List.set_cons_succ, List.set_cons_zero]) | go_big_quiet_step (fail)
       go_big_quiet_step (exact cF.re)
       go_big_quiet_step (fail)
       go_big_quiet_step (fail)
       refine wpQuiet_nil ?_
       rintro _ ⟨p, rfl⟩
       have hb2 := below_regrown wr p.d p.os
       generalize grow (redrawn wr p.d) p.os = w1 at *
       replace hb := Below.after hb hb2
       clear hb2 kR cF cR
       go_wp2_with (fail)
       go_ret
       exact ⟨by rw [he.out]; rfl, hb⟩
      | true =>
       rw [hFt] at cF
       rw [if_neg (by simp [hFt]; omega)] at he
       replace hFt := hide hFt
       replace hk0 := hide hk0
       clear n1 n2
       rw [← hpn] at he
       have hnsw : Hid (lfL ts 0 deep room = lfL (ts.drop (k + 1)) (prv ts (k + 1)) deep (if nst (gs ts k) ∧ 0 ≤ m - 1 then lft sub (deep + 1) (m - 1) else m - 1)) := hide he
       clear he hpr hpn
       go_wp2_with (fail)
       refine wp_region_quiet_below (by kernel_rfl) (by kernel_rfl) ?_
       go_big_quiet_step (fail)
       go_big_quiet_step (fail)
       go_big_quiet_step (fail)
       go_big_quiet_step (fail)
       go_big_quiet_step (fail)
       go_big_quiet_step (fail)
       go_big_quiet_step (fail)
       go_big_quiet_step (fail)
       go_big_quiet_step (fail)
       go_big_quiet_step (fail)
       go_big_quiet_step (fail)
       go_big_quiet_step (fail)
       go_big_quiet_step (fail)
       go_big_quiet_step (fail)
       go_big_quiet_step (fail)
       go_big_quiet_step (fail)
       go_big_quiet_step (fail)
       go_big_quiet_step (fail)
       go_big_quiet_step (fail)
       go_big_quiet_step (fail)
       go_big_quiet_step (fail)
       go_big_quiet_step (fail)
       go_big_quiet_step (fail)
       go_big_quiet_step (fail)
       go_big_quiet_step (fail)
       go_big_quiet_step (fail)
       go_big_quiet_step (fail)
       go_big_quiet_step (fail)
       go_big_quiet_step (fail)
       go_big_quiet_step (fail)
       go_big_quiet_step (fail)
       go_big_quiet_step (fail)
       go_big_quiet_step (fail)
       go_big_quiet_step (fail)
       go_big_quiet_step (fail)
       go_big_quiet_step (fail)
       first | (refine wpQuiet_load_sl rfl _ rfl b (off + k * 5) rfl _ _ _ _ _ kR ?_; simp only [Act.put, List.setIfInBounds_toArray, List.set_cons_succ, List.set_cons_zero]) | go_big_quiet_step (fail)
       go_big_quiet_step (exact cF.re)
       go_big_quiet_step (fail)
       go_big_quiet_step (fail)
       refine wpQuiet_nil ?_
       rintro _ ⟨p, rfl⟩
       have hb2 := below_regrown wr p.d p.os
       generalize grow (redrawn wr p.d) p.os = w1 at *
       replace c1 := (hb2.cell (p := ⟨b, off + k * 5 + 1, none⟩) (Nat.lt_of_lt_of_le hbl hww.size)).trans c1
       replace c4 := (hb2.cell (p := ⟨b, off + k * 5 + 4, none⟩) (Nat.lt_of_lt_of_le hbl hww.size)).trans c4
       replace hb := Below.after hb hb2
       replace hww := Below.after hww hb2
       clear hb2 kR cF
       have hnd : nst (gs ts k) ↔ (gs ts k).kind = 8 ∨ (gs ts k).kind = 9 := Iff.rfl
       generalize (gs ts k).kind = kd at *
       by_cases k8 : kd = 8 ∨ kd = 9
       ·by_cases hm9 : 0 ≤ m - 1
        ·have hns := hnsw.out
         rw [if_pos ⟨hnd.2 k8, hm9⟩] at hns
         have hdm : decide (m - 1 ≥ 0) = true := by simpa using hm9
         have cC := cR w1 (deep + 1) (m - 1) hww (by omega) (by omega) (by omega) (by omega)
         have hlb := lft_le sub (deep + 1) (m - 1) (by omega)
         replace hns := hide hns
         generalize lft sub (deep + 1) (m - 1) = m2 at *
         clear hnsw cR hnd
         rcases k8 with rfl | rfl
         all_goals
          go_wp2_with (fail)
          refine cC.mono ?_
          rintro e_ w2 ⟨rfl, hb3⟩
          replace hb := Below.after hb hb3
          clear cC
          go_wp2_with (fail)
          refine ⟨⟨k + 1, m2, by omega, by go_num, rfl, by omega, by omega, hns.out, hb⟩, ?_⟩
          simp [intOf]; omega
        ·have hns := hnsw.out
         rw [if_neg (fun q => hm9 q.2)] at hns
         have hdm : decide (m - 1 ≥ 0) = false := by simpa using hm9
         replace hns := hide hns
         clear hnsw cR hnd
         rcases k8 with rfl | rfl
         all_goals
          go_wp2_with (fail)
          refine ⟨⟨k + 1, m - 1, by omega, by go_num, rfl, by omega, by omega, hns.out, hb⟩, ?_⟩
          simp [intOf]; omega
       ·have hns := hnsw.out
        rw [if_neg (fun q => k8 (hnd.1 q.1))] at hns
        have q8 : (kd == 8) = false := by simp; omega
        have q9 : (kd == 9) = false := by simp; omega
        replace hns := hide hns
        clear hnsw cR hnd k8
        go_wp2_with (fail)
        refine ⟨⟨k + 1, m - 1, by omega, by go_num, rfl, by omega, by omega, hns.out, hb⟩, ?_⟩
        simp [intOf]; omega
     ·have d3 : decide ((k : Int) > 0) = true := by simp; omega
      have d3b : decide (0 < k) = true := by simp; omega
      have kb := kb0 hk0
      have hk2 : 0 ≤ (k : Int) - 1 ∧ (k : Int) - 1 < (ts.length : Int) := by omega
      have hkt : ((k : Int) - 1).toNat = k - 1 := by omega
      generalize hpvv : prv ts k = pv at *
      clear kb0 hpr
      have hpr : True := trivial
      by_cases n3 : no ≤ pv
      ·have d4 : decide (no ≤ pv) = true := by simpa using n3
       rw [if_pos (.inr (.inr (.inl n3)))] at he
       clear n1 n2 n3
       replace he := hide he
       clear hpr hok hpn
       go_wp2_with (fail)
       refine wp_region_quiet_below (by kernel_rfl) (by kernel_rfl) ?_
       go_big_quiet_step (fail)
       go_big_quiet_step (fail)
       go_big_quiet_step (fail)
       go_big_quiet_step (fail)
       go_big_quiet_step (fail)
       go_big_quiet_step (fail)
       go_big_quiet_step (fail)
       go_big_quiet_step (fail)
       go_big_quiet_step (fail)
       go_big_quiet_step (fail)
       go_big_quiet_step (fail)
       go_big_quiet_step (fail)
       go_big_quiet_step (fail)
       go_big_quiet_step (fail)
       go_big_quiet_step (fail)
       go_big_quiet_step (fail)
       go_big_quiet_step (fail)
       go_big_quiet_step (fail)
       go_big_quiet_step (fail)
       go_big_quiet_step (fail)
       go_big_quiet_step (fail)
       go_big_quiet_step (fail)
       go_big_quiet_step (fail)
       go_big_quiet_step (fail)
       go_big_quiet_step (fail)
       go_big_quiet_step (fail)
       go_big_quiet_step (fail)
       go_big_quiet_step (fail)
       go_big_quiet_step (fail)
       go_big_quiet_step (fail)
       go_big_quiet_step (fail)
       go_big_quiet_step (fail)
       go_big_quiet_step (fail)
       go_big_quiet_step (fail)
       go_big_quiet_step (fail)
       go_big_quiet_step (fail)
       first | (refine wpQuiet_load_sl rfl _ rfl b (off + k * 5) rfl _ _ _ _ _ kR ?_; simp only [Act.put, List.setIfInBounds_toArray, List.set_cons_succ, List.set_cons_zero]) | go_big_quiet_step (fail)
       go_big_quiet_step (exact cF.re)
       go_big_quiet_step (fail)
       go_big_quiet_step (fail)
       refine wpQuiet_nil ?_
       rintro _ ⟨p, rfl⟩
       have hb2 := below_regrown wr p.d p.os
       generalize grow (redrawn wr p.d) p.os = w1 at *
       replace hb := Below.after hb hb2
       clear hb2 kR cF cR
       go_wp2_with (fail)
       go_ret
       exact ⟨by rw [he.out]; rfl, hb⟩
      ·have d4 : decide (no ≤ pv) = false := by simpa using n3
       cases hFt : sfit (gs ts k) with
       | false =>
        rw [hFt] at cF
        rw [if_pos (.inr (.inr (.inr hFt)))] at he
        replace hFt := hide hFt
        clear n1 n2 n3
        replace he := hide he
        clear hpr hok hpn
        go_wp2_with (fail)
        refine wp_region_quiet_below (by kernel_rfl) (by kernel_rfl) ?_
        go_big_quiet_step (fail)
        go_big_quiet_step (fail)
        go_big_quiet_step (fail)
        go_big_quiet_step (fail)
        go_big_quiet_step (fail)
        go_big_quiet_step (fail)
        go_big_quiet_step (fail)
        go_big_quiet_step (fail)
        go_big_quiet_step (fail)
        go_big_quiet_step (fail)
        go_big_quiet_step (fail)
        go_big_quiet_step (fail)
        go_big_quiet_step (fail)
        go_big_quiet_step (fail)
        go_big_quiet_step (fail)
        go_big_quiet_step (fail)
        go_big_quiet_step (fail)
        go_big_quiet_step (fail)
        go_big_quiet_step (fail)
        go_big_quiet_step (fail)
        go_big_quiet_step (fail)
        go_big_quiet_step (fail)
        go_big_quiet_step (fail)
        go_big_quiet_step (fail)
        go_big_quiet_step (fail)
        go_big_quiet_step (fail)
        go_big_quiet_step (fail)
        go_big_quiet_step (fail)
        go_big_quiet_step (fail)
        go_big_quiet_step (fail)
        go_big_quiet_step (fail)
        go_big_quiet_step (fail)
        go_big_quiet_step (fail)
        go_big_quiet_step (fail)
        go_big_quiet_step (fail)
        go_big_quiet_step (fail)
        first | (refine wpQuiet_load_sl rfl _ rfl b (off + k * 5) rfl _ _ _ _ _ kR ?_; simp only [Act.put, List.setIfInBounds_toArray, List.set_cons_succ, List.set_cons_zero]) | go_big_quiet_step (fail)
        go_big_quiet_step (exact cF.re)
        go_big_quiet_step (fail)
        go_big_quiet_step (fail)
        refine wpQuiet_nil ?_
        rintro _ ⟨p, rfl⟩
        have hb2 := below_regrown wr p.d p.os
        generalize grow (redrawn wr p.d) p.os = w1 at *
        replace hb := Below.after hb hb2
        clear hb2 kR cF cR
        go_wp2_with (fail)
        go_ret
        exact ⟨by rw [he.out]; rfl, hb⟩
       | true =>
        rw [hFt] at cF
        rw [if_neg (by simp [hFt]; omega)] at he
        replace hFt := hide hFt
        clear n1 n2 n3
        rw [← hpn] at he
        have hnsw : Hid (lfL ts 0 deep room = lfL (ts.drop (k + 1)) (prv ts (k + 1)) deep (if nst (gs ts k) ∧ 0 ≤ m - 1 then lft sub (deep + 1) (m - 1) else m - 1)) := hide he
        clear he hpr hpn
        go_wp2_with (fail)
        refine wp_region_quiet_below (by kernel_rfl) (by kernel_rfl) ?_
        go_big_quiet_step (fail)
        go_big_quiet_step (fail)
        go_big_quiet_step (fail)
        go_big_quiet_step (fail)
        go_big_quiet_step (fail)
        go_big_quiet_step (fail)
        go_big_quiet_step (fail)
        go_big_quiet_step (fail)
        go_big_quiet_step (fail)
        go_big_quiet_step (fail)
        go_big_quiet_step (fail)
        go_big_quiet_step (fail)
        go_big_quiet_step (fail)
        go_big_quiet_step (fail)
        go_big_quiet_step (fail)
        go_big_quiet_step (fail)
        go_big_quiet_step (fail)
        go_big_quiet_step (fail)
        go_big_quiet_step (fail)
        go_big_quiet_step (fail)
        go_big_quiet_step (fail)
        go_big_quiet_step (fail)
        go_big_quiet_step (fail)
        go_big_quiet_step (fail)
        go_big_quiet_step (fail)
        go_big_quiet_step (fail)
        go_big_quiet_step (fail)
        go_big_quiet_step (fail)
        go_big_quiet_step (fail)
        go_big_quiet_step (fail)
        go_big_quiet_step (fail)
        go_big_quiet_step (fail)
        go_big_quiet_step (fail)
        go_big_quiet_step (fail)
        go_big_quiet_step (fail)
        go_big_quiet_step (fail)
        first | (refine wpQuiet_load_sl rfl _ rfl b (off + k * 5) rfl _ _ _ _ _ kR ?_; simp only [Act.put, List.setIfInBounds_toArray, List.set_cons_succ, List.set_cons_zero]) | go_big_quiet_step (fail)
        go_big_quiet_step (exact cF.re)
        go_big_quiet_step (fail)
        go_big_quiet_step (fail)
        refine wpQuiet_nil ?_
        rintro _ ⟨p, rfl⟩
        have hb2 := below_regrown wr p.d p.os
        generalize grow (redrawn wr p.d) p.os = w1 at *
        replace c1 := (hb2.cell (p := ⟨b, off + k * 5 + 1, none⟩) (Nat.lt_of_lt_of_le hbl hww.size)).trans c1
        replace c4 := (hb2.cell (p := ⟨b, off + k * 5 + 4, none⟩) (Nat.lt_of_lt_of_le hbl hww.size)).trans c4
        replace hb := Below.after hb hb2
        replace hww := Below.after hww hb2
        clear hb2 kR cF
        have hnd : nst (gs ts k) ↔ (gs ts k).kind = 8 ∨ (gs ts k).kind = 9 := Iff.rfl
        generalize (gs ts k).kind = kd at *
        by_cases k8 : kd = 8 ∨ kd = 9
        ·by_cases hm9 : 0 ≤ m - 1
         ·have hns := hnsw.out
          rw [if_pos ⟨hnd.2 k8, hm9⟩] at hns
          have hdm : decide (m - 1 ≥ 0) = true := by simpa using hm9
          have cC := cR w1 (deep + 1) (m - 1) hww (by omega) (by omega) (by omega) (by omega)
          have hlb := lft_le sub (deep + 1) (m - 1) (by omega)
          replace hns := hide hns
          generalize lft sub (deep + 1) (m - 1) = m2 at *
          clear hnsw cR hnd
          rcases k8 with rfl | rfl
          all_goals
           go_wp2_with (fail)
           refine cC.mono ?_
           rintro e_ w2 ⟨rfl, hb3⟩
           replace hb := Below.after hb hb3
           clear cC
           go_wp2_with (fail)
           refine ⟨⟨k + 1, m2, by omega, by go_num, rfl, by omega, by omega, hns.out, hb⟩, ?_⟩
           simp [intOf]; omega
         ·have hns := hnsw.out
          rw [if_neg (fun q => hm9 q.2)] at hns
          have hdm : decide (m - 1 ≥ 0) = false := by simpa using hm9
          replace hns := hide hns
          clear hnsw cR hnd
          rcases k8 with rfl | rfl
          all_goals
           go_wp2_with (fail)
           refine ⟨⟨k + 1, m - 1, by omega, by go_num, rfl, by omega, by omega, hns.out, hb⟩, ?_⟩
           simp [intOf]; omega
        ·have hns := hnsw.out
         rw [if_neg (fun q => k8 (hnd.1 q.1))] at hns
         have q8 : (kd == 8) = false := by simp; omega
         have q9 : (kd == 9) = false := by simp; omega
         replace hns := hide hns
         clear hnsw cR hnd k8
         go_wp2_with (fail)
         refine ⟨⟨k + 1, m - 1, by omega, by go_num, rfl, by omega, by omega, hns.out, hb⟩, ?_⟩
         simp [intOf]; omega
    ·have hd2 : decide (m ≥ 0) = false := by simpa using hm0
     rw [lfL_neg (ts.drop k) _ _ _ (by omega)] at he
     replace he := hide he
     clear h hs ih
     go_wp2_with (fail)
     go_ret
     exact ⟨by rw [he.out]; rfl, hb⟩
   ·have hd : decide ((k : Int) < (ts.length : Int)) = false := by simp; omega
    rw [List.drop_eq_nil_of_le (by omega), lfL] at he
    replace he := hide he
    clear h hs ih
    go_wp2_with (fail)
    go_ret
    exact ⟨by rw [he.out]; rfl, hb⟩
end Go.Proofs.YtjoohgkgkabbpaaGreatDoor

