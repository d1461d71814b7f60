import Derived.Test.YtgcpebhjehlacaaDoorWKvl
import Derived.Test.YtgcpebhjehlacaaDoorProg
import Derived.WalkKit
import Derived.WalkSpells
import Derived.WalkLawsBesides
import Derived.Lib.QuietBelow
import Derived.Laws.BitsAllLaws
import Derived.BigQuiet
import Derived.WalkMore
import Derived.Deep.MidRow
import Derived.Test.YtgcpebhjehlacaaDoorWOpen
import Derived.Test.YtgcpebhjehlacaaDoorWWq
import Derived.ProofKit
import Derived.OpenShut
import Derived.ChangeOld
import Derived.Deep.Slices
import Derived.Test.YtgcpebhjehlacaaDoorWKta
import Derived.Test.YtgcpebhjehlacaaDoorWXdc
import Derived.Test.YtgcpebhjehlacaaDoorRows
import Derived.Lib.LaidU8T
import Derived.Lib.LaidIn
import Derived.Laws.EntriesVeiled
namespace Go.Proofs.YtgcpebhjehlacaaDoor
set_option maxRecDepth 100000
open Go Go.RowKit Go.Sort
attribute [local go_sem] setCell_drewN alloc_drewN
theorem slo_one {W : World} {v : Value} {ts : List Slt} (h : Slo W v ts) (no k : Int) (l m : Nat) (hok : Sok (.mk no k l m ts)) : Slo (W.alloc (.cells #[.int .i64 no, .int .i64 k, .int .u64 (l : Int), .int .u64 (m : Int), v] 53)) (.slice (some ⟨W.heap.size, 0, none⟩) 1 1) [.mk no k l m ts] := by
 have r1 := hp1_0 W (.cells #[.int .i64 no, .int .i64 k, .int .u64 (l : Int), .int .u64 (m : Int), v] 53)
 have hb : Below W.heap.size W (W.alloc (.cells #[.int .i64 no, .int .i64 k, .int .u64 (l : Int), .int .u64 (m : Int), v] 53)) := (Below.refl _ _).alloc (Nat.le_refl _) _
 refine .mk (some ⟨W.heap.size, 0, none⟩) 1 [.mk no k l m ts] [v] (by simp) (by simp) (fun e => by cases e) (fun i hi => ?_) (fun i hi => ?_)
 ·obtain rfl : i = 0 := by simpa using hi
  refine ⟨W.heap.size, 0, rfl, lt_of_row r1, fun j x hx => ?_, hok⟩
  have hj : j < 5 := (List.getElem?_eq_some_iff.1 hx).1
  rw [cell_of_row _ _ _ _ _ _ r1]
  match j, hj with
  | 0, _ => exact hx
  | 1, _ => exact hx
  | 2, _ => exact hx
  | 3, _ => exact hx
  | 4, _ => exact hx
 ·obtain rfl : i = 0 := by simpa using hi
  exact h.keep hb
theorem sok8 {no : Int} {ts : List Slt} (h : -9223372036854775808 ≤ no ∧ no ≤ 9223372036854775807) : Sok (.mk no 8 0 0 ts) := ⟨h, by simp [Slt.kind], by simp [Slt.least], by simp [Slt.most]⟩
theorem sok9 {no : Int} {ts : List Slt} (h : -9223372036854775808 ≤ no ∧ no ≤ 9223372036854775807) : Sok (.mk no 9 1 1 ts) := ⟨h, by simp [Slt.kind], by simp [Slt.least], by simp [Slt.most]⟩
def Cq (W : World) (p : Option Addr) (f : Int) (ts : List Slt) : Prop := f = 0 → ∃ g, p = some ⟨g, 0, none⟩ ∧ Cdc W g ts
theorem Cq.keep {W V : World} {p : Option Addr} {f : Int} {ts : List Slt} (h : Cq W p f ts) (hb : Below W.heap.size W V) : Cq V p f ts := fun e => by
 obtain ⟨g, h1, h2⟩ := h e
 exact ⟨g, h1, h2.keep hb⟩
def CmpR (ts : List Slt) (f : Int) (e : Ending) (W : World) (p : Option Addr) : Prop := e = .returned (.tuple #[.pointer p, .int .i64 f]) ∧ Cq W p f ts ∧ (f ≠ 0 → p = none)
theorem cat_nums8 (p q : List Int) : strOfNums p ++ strOfNums q = strOfNums (p ++ q) := by
 apply ByteArray.ext
 simp [strOfNums]
theorem size_nums8 (l : List Int) : (strOfNums l).size = l.length := by
 simp [strOfNums, ByteArray.size]
theorem cat_run (p q : List Int) (hl : p.length + q.length ≤ 9223372036854775807) (W : World) : (binOp .add 9 (.string (strOfNums p)) (.string (strOfNums q))).run Tryd.prog W = .ok (.string (strOfNums (p ++ q))) W := by
 have e : ¬ (((strOfNums p).size + (strOfNums q).size : Nat) : Int) > IntKind.i64.max := by
  rw [size_nums8, size_nums8]
  have : IntKind.i64.max = 9223372036854775807 := by decide
  omega
 simp only [Go.binOp, Op.stringOp, if_neg e, Sem.run_pure, cat_nums8]
theorem op_catW {o : Oper} {a : Act} {W : World} (x y : Operand) (ho : o.op = .binOp .add 9 x y 9) (A B C : ByteArray) (hx : a.eval x = .string A) (hy : a.eval y = .string B) (h : (binOp .add 9 (.string A) (.string B)).run Tryd.prog W = .ok (.string C) W) : (execOp a.eval o).run Tryd.prog W = .ok (.value (.string C)) W := by
 unfold execOp
 simp only [ho, hx, hy, Sem.run_bind, Sem.run_pure]
 first
  | (rw [show Sem.run Tryd.prog (eqGuard BinOp.add 9 x y (.string A) (.string B)) W = .ok () W from rfl, Result.andThen_ok, h, Result.andThen_ok]; done)
  | (simp [eqGuard, h, Result.andThen_ok]; done)
  | (simp [eqGuard, h])
theorem own_geW {W : World} {b : Nat} {v : Value} {d : List B} (h : Own W b v d) : ∀ k, v.ownBlock = some k → b ≤ k := by
 intro k e
 obtain ⟨_, ⟨rfl, _⟩ | ⟨g, cap, cur, rfl, hb, _⟩⟩ := h
 ·cases e
 ·cases e
  exact hb
theorem cmp_of8 {W : World} {v : Value} {ts : List Slt} (h : Slo W v ts) : Calls Tryd.prog 11 #[v] W fun e w' => (∃ p, CmpR ts (vld ts) e w' p) ∧ Below W.heap.size W w' := by
 refine (a_Compile h W (Below.refl _ _)).mono ?_
 rintro e w' ⟨hb, ⟨hz, g, he, _, hC⟩ | ⟨hz, he⟩⟩
 ·exact ⟨⟨some ⟨g, 0, none⟩, by rw [hz]; exact he, fun _ => ⟨g, rfl, hC⟩, fun h => absurd hz h⟩, hb⟩
 ·exact ⟨⟨none, he, fun h => absurd h hz, fun _ => rfl⟩, hb⟩
set_option maxRecDepth 100000 in
theorem tight_of8 {w : World} {g : Nat} {ts : List Slt} (hC : Cdc w g ts) (hbig : 4194284 < (prS ts).2) : Calls Tryd.prog 18 #[.pointer (some ⟨g, 0, none⟩)] w fun e w' => e = .returned (.bool true) ∧ Below w.heap.size w w' := by
 have cR := a_RangeT _ hC
 generalize (prS ts).1 = lo at *
 generalize (prS ts).2 = hi at *
 have z : (4194284 : Int) < (hi : Int) := by omega
 go_enter Tryd.func18, Tryd.ntmps18
 go_wp2_with (fail)
 refine cR.mono ?_
 rintro e_ w1 ⟨rfl, hb⟩
 go_wp2_with (fail)
 go_ret
 exact ⟨rfl, hb⟩
set_option maxRecDepth 100000 in
set_option maxHeartbeats 16000000 in
theorem wraps_any {v : Value} {ts : List Slt} {x : VR} {X : VT} {no : Int} (W : World) (hT : Lib.Utf8Tabs 1 2 W) (hS : Slo W v ts) (hX : VtM W (fun _ => True) x X) (hno : -9223372036854775808 ≤ no ∧ no ≤ 9223372036854775807) : Calls Tryd.prog 7 #[v, .agg (vrv x), .int .i64 no] W fun e W' => e = .returned (.bool true) ∧ Below W.heap.size W W' := by
 obtain ⟨ao, cap, rfl⟩ := hS.form
 have hNm := hX.nm
 obtain ⟨xn, xda, xdl, xdc, xpa, xpl, xpc⟩ := x
 unfold vrv vrw
 have hb := (Below.refl W.heap.size W).alloc (Nat.le_refl _) (.cells #[.int .u64 (xn : Int), .slice xda xdl xdc, .slice xpa xpl xpc] 27)
 have rV := hp1_0 W (.cells #[.int .u64 (xn : Int), .slice xda xdl xdc, .slice xpa xpl xpc] 27)
 replace hT := Utf8Tabs_below hT hb
 replace hS := hS.keep hb
 replace hX := hX.blw hb
 go_enter Tryd.func7, Tryd.ntmps7
 go_wp2_with (fail)
 generalize W.alloc (.cells #[.int .u64 (xn : Int), .slice xda xdl xdc, .slice xpa xpl xpc] 27) = w0 at *
 refine (l_lives8 _ hT).mono ?_
 rintro e_ w1 ⟨rfl, hb1⟩
 replace hT := Utf8Tabs_below hT hb1
 replace hS := hS.keep hb1
 replace hX := hX.blw hb1
 replace rV := keep hb1 rV
 replace hb := Below.after hb hb1
 clear hb1
 go_wp2_with (first | (refine wpList_load_want rfl 27 _ rfl W.heap.size rfl 27 #[.int .u64 (xn : Int), .slice xda xdl xdc, .slice xpa xpl xpc] (0, 0) _ rV Tryd.underlying27 rfl infoV ?_) | fail)
 have cBs := l_bigSlots hS
 generalize decide (slL ts 10000 < 0) = bs at *
 refine (cBs).mono ?_
 rintro e_ w2 ⟨rfl, hb2⟩
 replace hT := Utf8Tabs_below hT hb2
 replace hS := hS.keep hb2
 replace hX := hX.blw hb2
 replace rV := keep hb2 rV
 replace hb := Below.after hb hb2
 clear hb2
 clear cBs
 cases bs
 rotate_left
 ·go_wp2_with (first | (refine wpList_load_want rfl 27 _ rfl W.heap.size rfl 27 #[.int .u64 (xn : Int), .slice xda xdl xdc, .slice xpa xpl xpc] (0, 0) _ rV Tryd.underlying27 rfl infoV ?_) | fail)
  refine (l_lives8 _ hT).mono ?_
  rintro e_ w3 ⟨rfl, hb3⟩
  replace hT := Utf8Tabs_below hT hb3
  replace hS := hS.keep hb3
  replace hX := hX.blw hb3
  replace rV := keep hb3 rV
  replace hb := Below.after hb hb3
  clear hb3
  go_wp2_with (first | (refine wpList_load_want rfl 27 _ rfl W.heap.size rfl 27 #[.int .u64 (xn : Int), .slice xda xdl xdc, .slice xpa xpl xpc] (0, 0) _ rV Tryd.underlying27 rfl infoV ?_) | fail)
  go_ret
  exact ⟨rfl, hb⟩
 go_wp2_with (first | (refine wpList_load_want rfl 27 _ rfl W.heap.size rfl 27 #[.int .u64 (xn : Int), .slice xda xdl xdc, .slice xpa xpl xpc] (0, 0) _ rV Tryd.underlying27 rfl infoV ?_) | fail)
 have cBv := a_bigValue _ hX
 generalize bgV X = bv at *
 unfold vrv vrw at cBv
 refine (cBv).mono ?_
 rintro e_ w3 ⟨rfl, hb3⟩
 replace hT := Utf8Tabs_below hT hb3
 replace hS := hS.keep hb3
 replace hX := hX.blw hb3
 replace rV := keep hb3 rV
 replace hb := Below.after hb hb3
 clear hb3
 clear cBv
 cases bv
 rotate_left
 ·go_wp2_with (first | (refine wpList_load_want rfl 27 _ rfl W.heap.size rfl 27 #[.int .u64 (xn : Int), .slice xda xdl xdc, .slice xpa xpl xpc] (0, 0) _ rV Tryd.underlying27 rfl infoV ?_) | fail)
  refine (l_lives8 _ hT).mono ?_
  rintro e_ w4 ⟨rfl, hb4⟩
  replace hT := Utf8Tabs_below hT hb4
  replace hS := hS.keep hb4
  replace hX := hX.blw hb4
  replace rV := keep hb4 rV
  replace hb := Below.after hb hb4
  clear hb4
  go_wp2_with (first | (refine wpList_load_want rfl 27 _ rfl W.heap.size rfl 27 #[.int .u64 (xn : Int), .slice xda xdl xdc, .slice xpa xpl xpc] (0, 0) _ rV Tryd.underlying27 rfl infoV ?_) | fail)
  go_ret
  exact ⟨rfl, hb⟩
 go_wp2_with (first | (refine wpList_load_want rfl 27 _ rfl W.heap.size rfl 27 #[.int .u64 (xn : Int), .slice xda xdl xdc, .slice xpa xpl xpc] (0, 0) _ rV Tryd.underlying27 rfl infoV ?_) | fail)
 refine (a_Compile hS _ (Below.refl _ _)).mono ?_
 rintro e_ w4 ⟨hb4, hor⟩
 replace hT := Utf8Tabs_below hT hb4
 replace hS := hS.keep hb4
 replace hX := hX.blw hb4
 replace rV := keep hb4 rV
 replace hb := Below.after hb hb4
 clear hb4
 rcases hor with ⟨hz, g, rfl, _, hC⟩ | ⟨hz, rfl⟩
 rotate_left
 ·have hz2 : (vld ts == 0) = false := by simpa using hz
  generalize vld ts = zz at *
  clear hz
  go_wp2_with (first | (refine wpList_load_want rfl 27 _ rfl W.heap.size rfl 27 #[.int .u64 (xn : Int), .slice xda xdl xdc, .slice xpa xpl xpc] (0, 0) _ rV Tryd.underlying27 rfl infoV ?_) | fail)
  go_ret
  exact ⟨rfl, hb⟩
 have ok := vld_ok hz
 clear hz
 have cQ : Calls Tryd.prog 11 #[.slice (some ⟨w4.heap.size, 0, none⟩) 1 1] (w4.alloc (.cells #[.int .i64 no, .int .i64 8, .int .u64 0, .int .u64 0, .slice ao ts.length cap] 53)) _ := cmp_of8 (slo_one hS no 8 0 0 (sok8 hno))
 have hba := (Below.refl w4.heap.size w4).alloc (Nat.le_refl _) (.cells #[.int .i64 no, .int .i64 8, .int .u64 0, .int .u64 0, .slice ao ts.length cap] 53)
 replace hT := Utf8Tabs_below hT hba
 replace hS := hS.keep hba
 replace hX := hX.blw hba
 replace rV := keep hba rV
 replace hb := Below.after hb hba
 replace hC := hC.keep hba
 clear hba
 replace cQ := hide cQ
 go_wp2_with (first | (refine wpList_load_want rfl 27 _ rfl W.heap.size rfl 27 #[.int .u64 (xn : Int), .slice xda xdl xdc, .slice xpa xpl xpc] (0, 0) _ rV Tryd.underlying27 rfl infoV ?_) | fail)
 refine (cQ.out).mono ?_
 rintro e_ w5 ⟨hor, hb5⟩
 replace hT := Utf8Tabs_below hT hb5
 replace hS := hS.keep hb5
 replace hX := hX.blw hb5
 replace rV := keep hb5 rV
 replace hb := Below.after hb hb5
 replace hC := hC.keep hb5
 clear hb5
 clear cQ
 obtain ⟨p8, rfl, hc8, hn8⟩ := hor
 obtain ⟨f8, hf8⟩ : ∃ f, vld [.mk no 8 0 0 ts] = f := ⟨_, rfl⟩
 rw [hf8] at hc8 hn8 ⊢
 replace hn8 := hide hn8
 replace hf8 := hide hf8
 have cQ : Calls Tryd.prog 11 #[.slice (some ⟨w5.heap.size, 0, none⟩) 1 1] (w5.alloc (.cells #[.int .i64 no, .int .i64 9, .int .u64 1, .int .u64 1, .slice ao ts.length cap] 53)) _ := cmp_of8 (slo_one hS no 9 1 1 (sok9 hno))
 have hba := (Below.refl w5.heap.size w5).alloc (Nat.le_refl _) (.cells #[.int .i64 no, .int .i64 9, .int .u64 1, .int .u64 1, .slice ao ts.length cap] 53)
 replace hT := Utf8Tabs_below hT hba
 replace hS := hS.keep hba
 replace hX := hX.blw hba
 replace rV := keep hba rV
 replace hb := Below.after hb hba
 replace hC := hC.keep hba
 replace hc8 := hc8.keep hba
 clear hba
 replace cQ := hide cQ
 go_wp2_with (first | (refine wpList_load_want rfl 27 _ rfl W.heap.size rfl 27 #[.int .u64 (xn : Int), .slice xda xdl xdc, .slice xpa xpl xpc] (0, 0) _ rV Tryd.underlying27 rfl infoV ?_) | fail)
 refine (cQ.out).mono ?_
 rintro e_ w6 ⟨hor, hb6⟩
 replace hT := Utf8Tabs_below hT hb6
 replace hS := hS.keep hb6
 replace hX := hX.blw hb6
 replace rV := keep hb6 rV
 replace hb := Below.after hb hb6
 replace hC := hC.keep hb6
 replace hc8 := hc8.keep hb6
 clear hb6
 clear cQ
 obtain ⟨p9, rfl, hc9, hn9⟩ := hor
 obtain ⟨f9, hf9⟩ : ∃ f, vld [.mk no 9 1 1 ts] = f := ⟨_, rfl⟩
 rw [hf9] at hc9 hn9 ⊢
 replace hn9 := hide hn9
 replace hf9 := hide hf9
 by_cases hcond : f8 ≠ f9 ∨ no < 1 ∨ 536870911 < no
 ·have hw := wrap_vld no ts (by rw [hf8.out, hf9.out]; exact hcond)
  rw [hf8.out, hf9.out] at hw
  clear hS hX rV hc8 hc9
  rcases hw with ⟨na, nb⟩ | ⟨n1, n2, big⟩
  ·have e80 : (f8 == 0) = false := by simp; omega
   have e90 : (f9 == 0) = false := by simp; omega
   by_cases e : f8 = f9
   ·subst e
    rcases Int.lt_or_le no 1 with q | q
    ·have q1 : no < 1 := by omega
     have q1b : decide (no < 1) = true := decide_eq_true q1
     go_wp2_with (fail)
     go_ret
     exact ⟨rfl, hb⟩
    ·have q1 : ¬ no < 1 := by omega
     have q1b : decide (no < 1) = false := decide_eq_false q1
     have q2 : no > 536870911 := by omega
     have q2b : decide (no > 536870911) = true := decide_eq_true q2
     go_wp2_with (fail)
     go_ret
     exact ⟨rfl, hb⟩
   ·have e89 : (f8 == f9) = false := by simp; omega
    go_wp2_with (fail)
    go_ret
    exact ⟨rfl, hb⟩
  ·rw [← prS_spL] at big
   have q1 : no ≥ 1 := by omega
   have q1b : decide (no ≥ 1) = true := decide_eq_true q1
   have q2 : no ≤ 536870911 := by omega
   have q2b : decide (no ≤ 536870911) = true := decide_eq_true q2
   by_cases e8 : f8 = 0
   ·subst e8
    have e9 : (0 == f9) = false := by simp; omega
    have e90 : (f9 == 0) = false := by simp; omega
    go_wp2_with (fail)
    refine (tight_of8 hC big).mono ?_
    rintro e_ w7 ⟨rfl, hb7⟩
    replace hb := Below.after hb hb7
    replace hC := hC.keep hb7
    clear hb7
    go_wp2_with (fail)
    go_ret
    exact ⟨rfl, hb⟩
   ·by_cases e9 : f9 = 0
    ·subst e9
     have e80 : (f8 == 0) = false := by simp; omega
     go_wp2_with (fail)
     refine (tight_of8 hC big).mono ?_
     rintro e_ w7 ⟨rfl, hb7⟩
     replace hb := Below.after hb hb7
     replace hC := hC.keep hb7
     clear hb7
     go_wp2_with (fail)
     go_ret
     exact ⟨rfl, hb⟩
    ·have e80 : (f8 == 0) = false := by simp; omega
     have e90 : (f9 == 0) = false := by simp; omega
     have e89 : (f8 == f9) = false := by simp; omega
     go_wp2_with (fail)
     go_ret
     exact ⟨rfl, hb⟩
 ·obtain rfl : f8 = f9 := by omega
  have hn : 1 ≤ no ∧ no ≤ 536870911 := by omega
  clear hcond
  have q1 : ¬ no < 1 := by omega
  have q1b : decide (no < 1) = false := decide_eq_false q1
  have q2 : ¬ no > 536870911 := by omega
  have q2b : decide (no > 536870911) = false := decide_eq_false q2
  by_cases e8 : f8 = 0
  rotate_left
  ·obtain rfl := hn8.out e8
   obtain rfl := hn9.out e8
   clear hS hX rV hc8 hc9 hT
   have e80 : (f8 == 0) = false := by simp; omega
   go_wp2_with (fail)
   go_ret
   exact ⟨rfl, hb⟩
  subst e8
  obtain ⟨g8, rfl, hC8⟩ := hc8 rfl
  obtain ⟨g9, rfl, hC9⟩ := hc9 rfl
  have ok8 := vld_ok hf8.out
  have ok9 := vld_ok hf9.out
  clear hc8 hc9 hn8 hn9
  go_wp2_with (first | (refine wpList_load_want rfl 27 _ rfl W.heap.size rfl 27 #[.int .u64 (xn : Int), .slice xda xdl xdc, .slice xpa xpl xpc] (0, 0) _ rV Tryd.underlying27 rfl infoV ?_) | fail)
  have cE := a_EncodeT plo8 ok.2.2.1 _ _ X _ hT hC hX ok.2.2.2.2
  obtain ⟨F, hF⟩ : ∃ F, ckT utD flD ts X 1 = F := ⟨_, rfl⟩
  unfold vrv vrw at cE
  rw [hF] at cE
  refine (cE).mono ?_
  rintro e_ w7 ⟨hE, hb7⟩
  replace hT := Utf8Tabs_below hT hb7
  replace hS := hS.keep hb7
  replace hX := hX.blw hb7
  replace rV := keep hb7 rV
  replace hb := Below.after hb hb7
  replace hC := hC.keep hb7
  replace hC8 := hC8.keep hb7
  replace hC9 := hC9.keep hb7
  clear hb7
  clear cE
  cases F with
  | some f =>
   have hF2 : ∃ f2, ckT utD flD ts X 2 = some f2 := by
    cases h : ckT utD flD ts X 2 with
    | some f2 => exact ⟨f2, rfl⟩
    | none => rw [ck_both.1 h] at hF; cases hF
   obtain ⟨f2, hF2⟩ := hF2
   obtain ⟨q, rfl, _, _⟩ := hE
   have e1 := neq_fault (.pointer (some ⟨q, 0, none⟩))
   have hba := (Below.refl w7.heap.size w7).alloc (Nat.le_refl _) (.cells #[.int .u64 (xn : Int), .slice xda xdl xdc, .slice xpa xpl xpc] 27)
   have r13 := hp1_0 w7 (.cells #[.int .u64 (xn : Int), .slice xda xdl xdc, .slice xpa xpl xpc] 27)
   have rV0 := rV
   replace hT := Utf8Tabs_below hT hba
   replace hS := hS.keep hba
   replace hX := hX.blw hba
   replace rV := keep hba rV
   replace hb := Below.after hb hba
   replace hC := hC.keep hba
   replace hC8 := hC8.keep hba
   replace hC9 := hC9.keep hba
   clear hba
   have h13 : VtM (w7.alloc (.cells #[.int .u64 (xn : Int), .slice xda xdl xdc, .slice xpa xpl xpc] 27)) (fun _ => True) (xpL w7.heap.size) (.mk 0 [] [X]) := vtm_ls (xs := [(⟨xn, xda, xdl, xdc, xpa, xpl, xpc⟩ : VR)]) (ps := [X]) rfl (by simp) r13 (fun i hi => by
    obtain rfl : i = 0 := by simpa using hi
    exact hX)
   have hN13 := h13.nm
   have cE : Calls Tryd.prog 12 #[.pointer (some ⟨g8, 0, none⟩), .agg #[.int .u64 0, .slice none 0 0, .slice (some ⟨w7.heap.size, 0, none⟩) 1 1]] (w7.alloc (.cells #[.int .u64 (xn : Int), .slice xda xdl xdc, .slice xpa xpl xpc] 27)) _ := a_EncodeT plo8 ok8.2.2.1 (fun _ => True) (xpL w7.heap.size) (.mk 0 [] [X]) _ hT hC8 h13 ok8.2.2.2.2
   rw [wrap_ck8, hF2] at cE
   replace cE := hide cE
   clear r13 h13
   go_wp2_with (first | (refine wpList_load_want rfl 27 _ rfl W.heap.size rfl 27 #[.int .u64 (xn : Int), .slice xda xdl xdc, .slice xpa xpl xpc] (0, 0) _ rV0 Tryd.underlying27 rfl infoV ?_) | fail)
   refine (cE.out).mono ?_
   rintro e_ w8 ⟨hE, hb8⟩
   replace hT := Utf8Tabs_below hT hb8
   replace hS := hS.keep hb8
   replace hX := hX.blw hb8
   replace rV := keep hb8 rV
   replace hb := Below.after hb hb8
   replace hC := hC.keep hb8
   replace hC8 := hC8.keep hb8
   replace hC9 := hC9.keep hb8
   clear hb8
   clear cE rV0
   obtain ⟨q8, rfl, _, _⟩ := hE
   have e8 := neq_fault (.pointer (some ⟨q8, 0, none⟩))
   have hba := (Below.refl w8.heap.size w8).alloc (Nat.le_refl _) (.cells #[.int .u64 (xn : Int), .slice xda xdl xdc, .slice xpa xpl xpc] 27)
   have r13 := hp1_0 w8 (.cells #[.int .u64 (xn : Int), .slice xda xdl xdc, .slice xpa xpl xpc] 27)
   have hba2 := (Below.refl (w8.alloc (.cells #[.int .u64 (xn : Int), .slice xda xdl xdc, .slice xpa xpl xpc] 27)).heap.size (w8.alloc (.cells #[.int .u64 (xn : Int), .slice xda xdl xdc, .slice xpa xpl xpc] 27))).alloc (Nat.le_refl _) (.cells #[.int .u64 0, .slice none 0 0, .slice (some ⟨w8.heap.size, 0, none⟩) 1 1] 27)
   have r14 := hp1_0 (w8.alloc (.cells #[.int .u64 (xn : Int), .slice xda xdl xdc, .slice xpa xpl xpc] 27)) (.cells #[.int .u64 0, .slice none 0 0, .slice (some ⟨w8.heap.size, 0, none⟩) 1 1] 27)
   rw [size_alloc1] at r14
   have rV0 := rV
   replace hT := Utf8Tabs_below hT hba
   replace hS := hS.keep hba
   replace hX := hX.blw hba
   replace rV := keep hba rV
   replace hb := Below.after hb hba
   replace hC := hC.keep hba
   replace hC8 := hC8.keep hba
   replace hC9 := hC9.keep hba
   replace hT := Utf8Tabs_below hT hba2
   replace hS := hS.keep hba2
   replace hX := hX.blw hba2
   replace rV := keep hba2 rV
   replace hb := Below.after hb hba2
   replace hC := hC.keep hba2
   replace hC8 := hC8.keep hba2
   replace hC9 := hC9.keep hba2
   replace r13 := keep hba2 r13
   clear hba hba2
   have h13 : VtM ((w8.alloc (.cells #[.int .u64 (xn : Int), .slice xda xdl xdc, .slice xpa xpl xpc] 27)).alloc (.cells #[.int .u64 0, .slice none 0 0, .slice (some ⟨w8.heap.size, 0, none⟩) 1 1] 27)) (fun _ => True) (xpL w8.heap.size) (.mk 0 [] [X]) := vtm_ls (xs := [(⟨xn, xda, xdl, xdc, xpa, xpl, xpc⟩ : VR)]) (ps := [X]) rfl (by simp) r13 (fun i hi => by
    obtain rfl : i = 0 := by simpa using hi
    exact hX)
   have h14 : VtM ((w8.alloc (.cells #[.int .u64 (xn : Int), .slice xda xdl xdc, .slice xpa xpl xpc] 27)).alloc (.cells #[.int .u64 0, .slice none 0 0, .slice (some ⟨w8.heap.size, 0, none⟩) 1 1] 27)) (fun _ => True) (xpL (w8.heap.size + 1)) (.mk 0 [] [.mk 0 [] [X]]) := vtm_ls (xs := [xpL w8.heap.size]) (ps := [.mk 0 [] [X]]) rfl (by simp) r14 (fun i hi => by
    obtain rfl : i = 0 := by simpa using hi
    exact h13)
   have hN14 := h14.nm
   have cE : Calls Tryd.prog 12 #[.pointer (some ⟨g9, 0, none⟩), .agg #[.int .u64 0, .slice none 0 0, .slice (some ⟨w8.heap.size + 1, 0, none⟩) 1 1]] ((w8.alloc (.cells #[.int .u64 (xn : Int), .slice xda xdl xdc, .slice xpa xpl xpc] 27)).alloc (.cells #[.int .u64 0, .slice none 0 0, .slice (some ⟨w8.heap.size, 0, none⟩) 1 1] 27)) _ := a_EncodeT plo8 ok9.2.2.1 (fun _ => True) (xpL (w8.heap.size + 1)) (.mk 0 [] [.mk 0 [] [X]]) _ hT hC9 h14 ok9.2.2.2.2
   rw [wrap_ck9, hF2] at cE
   replace cE := hide cE
   clear r13 r14 h13 h14
   go_wp2_with (first | (refine wpList_load_want rfl 27 _ rfl W.heap.size rfl 27 #[.int .u64 (xn : Int), .slice xda xdl xdc, .slice xpa xpl xpc] (0, 0) _ rV0 Tryd.underlying27 rfl infoV ?_) | fail)
   refine (cE.out).mono ?_
   rintro e_ w9 ⟨hE, hb9⟩
   replace hT := Utf8Tabs_below hT hb9
   replace hS := hS.keep hb9
   replace hX := hX.blw hb9
   replace rV := keep hb9 rV
   replace hb := Below.after hb hb9
   replace hC := hC.keep hb9
   replace hC8 := hC8.keep hb9
   replace hC9 := hC9.keep hb9
   clear hb9
   clear cE rV0
   obtain ⟨q9, rfl, _, _⟩ := hE
   have e9 := neq_fault (.pointer (some ⟨q9, 0, none⟩))
   clear hT hS hX rV hC hC8 hC9
   go_wp2_with (fail)
   go_ret
   exact ⟨rfl, hb⟩
  | none =>
   have hF2 := ck_dp 2 hF
   have hN1 := hNm
   have hlen := hide (enc_back utD flD (by have := ok.1; omega) ok.2.1 ok.2.2.2.1 hNm (fr := 0) hF).2.1
   have hit := hide (wrap_itm hf9.out hlen.out)
   have henl : Hid ((en (itm (enT ts X)).length).length ≤ 4 ∧ (en (8 * no.toNat + 2)).length ≤ 5 ∧ (en (enT ts X).length).length ≤ 4) := hide ⟨en_lenk 3 _ (by have := hit.out; omega), en_lenk 4 _ (by omega), en_lenk 3 _ (by have := hlen.out; have := ok.2.2.2.1; omega)⟩
   have hl8 : Hid ((en (8 * no.toNat + 2) ++ itm (enT ts X)).length ≤ 140737488355000) := hide (by have h1 := hit.out; have h2 := henl.out.2.1; rw [List.length_append]; omega)
   have hl9 : Hid ((en (8 * no.toNat + 2) ++ itm (itm (enT ts X))).length ≤ 140737488355000) := hide (by
    have h1 := hit.out
    have h2 := henl.out.2.1
    have h3 := henl.out.1
    have e : (itm (itm (enT ts X))).length = (en (itm (enT ts X)).length).length + (itm (enT ts X)).length := List.length_append ..
    rw [List.length_append, e]
    omega)
   obtain ⟨u, rfl, hU⟩ := hE
   obtain ⟨ua, uc, rfl⟩ := slen_own hU
   have hU1 := hU.bysB (by have := hlen.out; have := ok.2.2.2.1; omega)
   clear hU
   have e1 := neq_nils
   have hba := (Below.refl w7.heap.size w7).alloc (Nat.le_refl _) (.cells #[.int .u64 (xn : Int), .slice xda xdl xdc, .slice xpa xpl xpc] 27)
   have r13 := hp1_0 w7 (.cells #[.int .u64 (xn : Int), .slice xda xdl xdc, .slice xpa xpl xpc] 27)
   have rV0 := rV
   replace hT := Utf8Tabs_below hT hba
   replace hS := hS.keep hba
   replace hX := hX.blw hba
   replace rV := keep hba rV
   replace hb := Below.after hb hba
   replace hC := hC.keep hba
   replace hC8 := hC8.keep hba
   replace hC9 := hC9.keep hba
   replace hU1 := hU1.keep hba
   clear hba
   have h13 : VtM (w7.alloc (.cells #[.int .u64 (xn : Int), .slice xda xdl xdc, .slice xpa xpl xpc] 27)) (fun _ => True) (xpL w7.heap.size) (.mk 0 [] [X]) := vtm_ls (xs := [(⟨xn, xda, xdl, xdc, xpa, xpl, xpc⟩ : VR)]) (ps := [X]) rfl (by simp) r13 (fun i hi => by
    obtain rfl : i = 0 := by simpa using hi
    exact hX)
   have hN13 := h13.nm
   have cE : Calls Tryd.prog 12 #[.pointer (some ⟨g8, 0, none⟩), .agg #[.int .u64 0, .slice none 0 0, .slice (some ⟨w7.heap.size, 0, none⟩) 1 1]] (w7.alloc (.cells #[.int .u64 (xn : Int), .slice xda xdl xdc, .slice xpa xpl xpc] 27)) _ := a_EncodeT plo8 ok8.2.2.1 (fun _ => True) (xpL w7.heap.size) (.mk 0 [] [X]) _ hT hC8 h13 ok8.2.2.2.2
   rw [wrap_ck8, hF2] at cE
   replace cE := hide cE
   clear r13 h13
   go_wp2_with (first | (refine wpList_load_want rfl 27 _ rfl W.heap.size rfl 27 #[.int .u64 (xn : Int), .slice xda xdl xdc, .slice xpa xpl xpc] (0, 0) _ rV0 Tryd.underlying27 rfl infoV ?_) | fail)
   refine (cE.out).mono ?_
   rintro e_ w8 ⟨hE, hb8⟩
   replace hT := Utf8Tabs_below hT hb8
   replace hS := hS.keep hb8
   replace hX := hX.blw hb8
   replace rV := keep hb8 rV
   replace hb := Below.after hb hb8
   replace hC := hC.keep hb8
   replace hC8 := hC8.keep hb8
   replace hC9 := hC9.keep hb8
   replace hU1 := hU1.keep hb8
   clear hb8
   clear cE rV0
   rw [wrap_en8 hn hf8.out hN13 hF] at hE
   generalize hJ8 : en (8 * no.toNat + 2) ++ itm (enT ts X) = J8 at *
   replace hJ8 := hide hJ8
   obtain ⟨u8, rfl, hU⟩ := hE
   obtain ⟨ua8, uc8, rfl⟩ := slen_own hU
   have hU8 := hU.bysB hl8.out
   clear hU
   have hba := (Below.refl w8.heap.size w8).alloc (Nat.le_refl _) (.cells #[.int .u64 (xn : Int), .slice xda xdl xdc, .slice xpa xpl xpc] 27)
   have r13 := hp1_0 w8 (.cells #[.int .u64 (xn : Int), .slice xda xdl xdc, .slice xpa xpl xpc] 27)
   have hba2 := (Below.refl (w8.alloc (.cells #[.int .u64 (xn : Int), .slice xda xdl xdc, .slice xpa xpl xpc] 27)).heap.size (w8.alloc (.cells #[.int .u64 (xn : Int), .slice xda xdl xdc, .slice xpa xpl xpc] 27))).alloc (Nat.le_refl _) (.cells #[.int .u64 0, .slice none 0 0, .slice (some ⟨w8.heap.size, 0, none⟩) 1 1] 27)
   have r14 := hp1_0 (w8.alloc (.cells #[.int .u64 (xn : Int), .slice xda xdl xdc, .slice xpa xpl xpc] 27)) (.cells #[.int .u64 0, .slice none 0 0, .slice (some ⟨w8.heap.size, 0, none⟩) 1 1] 27)
   rw [size_alloc1] at r14
   have rV0 := rV
   replace hT := Utf8Tabs_below hT hba
   replace hS := hS.keep hba
   replace hX := hX.blw hba
   replace rV := keep hba rV
   replace hb := Below.after hb hba
   replace hC := hC.keep hba
   replace hC8 := hC8.keep hba
   replace hC9 := hC9.keep hba
   replace hU1 := hU1.keep hba
   replace hU8 := hU8.keep hba
   replace hT := Utf8Tabs_below hT hba2
   replace hS := hS.keep hba2
   replace hX := hX.blw hba2
   replace rV := keep hba2 rV
   replace hb := Below.after hb hba2
   replace hC := hC.keep hba2
   replace hC8 := hC8.keep hba2
   replace hC9 := hC9.keep hba2
   replace hU1 := hU1.keep hba2
   replace hU8 := hU8.keep hba2
   replace r13 := keep hba2 r13
   clear hba hba2
   have h13 : VtM ((w8.alloc (.cells #[.int .u64 (xn : Int), .slice xda xdl xdc, .slice xpa xpl xpc] 27)).alloc (.cells #[.int .u64 0, .slice none 0 0, .slice (some ⟨w8.heap.size, 0, none⟩) 1 1] 27)) (fun _ => True) (xpL w8.heap.size) (.mk 0 [] [X]) := vtm_ls (xs := [(⟨xn, xda, xdl, xdc, xpa, xpl, xpc⟩ : VR)]) (ps := [X]) rfl (by simp) r13 (fun i hi => by
    obtain rfl : i = 0 := by simpa using hi
    exact hX)
   have h14 : VtM ((w8.alloc (.cells #[.int .u64 (xn : Int), .slice xda xdl xdc, .slice xpa xpl xpc] 27)).alloc (.cells #[.int .u64 0, .slice none 0 0, .slice (some ⟨w8.heap.size, 0, none⟩) 1 1] 27)) (fun _ => True) (xpL (w8.heap.size + 1)) (.mk 0 [] [.mk 0 [] [X]]) := vtm_ls (xs := [xpL w8.heap.size]) (ps := [.mk 0 [] [X]]) rfl (by simp) r14 (fun i hi => by
    obtain rfl : i = 0 := by simpa using hi
    exact h13)
   have hN14 := h14.nm
   have cE : Calls Tryd.prog 12 #[.pointer (some ⟨g9, 0, none⟩), .agg #[.int .u64 0, .slice none 0 0, .slice (some ⟨w8.heap.size + 1, 0, none⟩) 1 1]] ((w8.alloc (.cells #[.int .u64 (xn : Int), .slice xda xdl xdc, .slice xpa xpl xpc] 27)).alloc (.cells #[.int .u64 0, .slice none 0 0, .slice (some ⟨w8.heap.size, 0, none⟩) 1 1] 27)) _ := a_EncodeT plo8 ok9.2.2.1 (fun _ => True) (xpL (w8.heap.size + 1)) (.mk 0 [] [.mk 0 [] [X]]) _ hT hC9 h14 ok9.2.2.2.2
   rw [wrap_ck9, hF2] at cE
   replace cE := hide cE
   clear r13 r14 h13 h14
   go_wp2_with (first | (refine wpList_load_want rfl 27 _ rfl W.heap.size rfl 27 #[.int .u64 (xn : Int), .slice xda xdl xdc, .slice xpa xpl xpc] (0, 0) _ rV0 Tryd.underlying27 rfl infoV ?_) | fail)
   refine (cE.out).mono ?_
   rintro e_ w9 ⟨hE, hb9⟩
   replace hT := Utf8Tabs_below hT hb9
   replace hS := hS.keep hb9
   replace hX := hX.blw hb9
   replace rV := keep hb9 rV
   replace hb := Below.after hb hb9
   replace hC := hC.keep hb9
   replace hC8 := hC8.keep hb9
   replace hC9 := hC9.keep hb9
   replace hU1 := hU1.keep hb9
   replace hU8 := hU8.keep hb9
   clear hb9
   clear cE rV0
   rw [wrap_en9 hn hf9.out hN14 hF (wrap_itm hf9.out hlen.out)] at hE
   generalize hJ9 : en (8 * no.toNat + 2) ++ itm (itm (enT ts X)) = J9 at *
   replace hJ9 := hide hJ9
   obtain ⟨u9, rfl, hU⟩ := hE
   obtain ⟨ua9, uc9, rfl⟩ := slen_own hU
   have hU9 := hU.bysB hl9.out
   clear hU
   clear hX rV hC hC8 hC9 hT hS
   have e2 := eqe_nils
   have hlb : Hid ((enT ts X).length ≤ 4194304) := hide (by have := hlen.out; have := ok.2.2.2.1; omega)
   generalize hbb : enT ts X = b_ at *
   clear hbb
   obtain ⟨N, rfl⟩ := Int.eq_ofNat_of_zero_le (show 0 ≤ no by omega)
   rw [Int.toNat_natCast] at hJ8 hJ9 henl
   clear hF hF2 hf8 hf9 ok8 ok9 hN13 hN14 hNm hN1 ok hlen
   go_wp2_with (fail)
   unfold itm at hJ8 hJ9 hit henl
   generalize hI : en b_.length ++ b_ = I_ at *
   generalize hLL : en I_.length ++ I_ = L_ at *
   replace hI := hide hI
   replace hLL := hide hLL
   have wq1 : IntKind.u64.wrap (b_.length : Int) = (b_.length : Int) := u64_wrap_id _ (by omega) (by have := hlb.out; omega)
   have wq2 : IntKind.u64.wrap (I_.length : Int) = (I_.length : Int) := u64_wrap_id _ (by omega) (by have := hit.out; omega)
   have cP := a_put [] (8 * N + 2) (by omega) w9 (.slice none 0 0) (bysB_nil _ _)
   rw [show ((8 * N + 2 : Nat) : Int) = 8 * (N : Int) + 2 by omega] at cP
   rw [List.nil_append] at cP
   refine cP.mono ?_
   rintro e_ w10 ⟨uh, rfl, hOh, hbP⟩
   clear cP
   replace hb := Below.after hb hbP
   replace hU1 := hU1.keep hbP
   replace hU8 := hU8.keep hbP
   replace hU9 := hU9.keep hbP
   clear hbP
   obtain ⟨pah, pch, rfl⟩ := slen_own hOh
   have hBh := hOh.bysB (by have := henl.out; omega)
   clear hOh
   go_wp2_with (fail)
   generalize en (8 * N + 2) = H_ at *
   have cP := a_put [] (b_.length) (by have := hlb.out; omega) w10 (.slice none 0 0) (bysB_nil _ _)
   rw [List.nil_append] at cP
   refine cP.mono ?_
   rintro e_ w11 ⟨ui, rfl, hOi, hbP⟩
   clear cP
   have hS_ := hU1.keep hbP
   have hz_ := hbP.size
   obtain ⟨pai, pci, rfl⟩ := slen_own hOi
   go_wp2_with (first | (refine wpList_append_B rfl _ _ rfl w10.heap.size (.slice pai (en (b_.length)).length pci) (en (b_.length)) rfl hOi (.slice ua b_.length uc) b_ rfl hS_ (by have := hit.out; have := hlb.out; have := henl.out; omega) hz_ ?_; intro vi w12 hQi hgi; have hbq := Below.grown hbP hgi hz_ (own_geW hOi); rw [hI.out] at hQi; obtain ⟨ia, ic, rfl⟩ := slen_own hQi) | fail)
   replace hb := Below.after hb hbq
   replace hU1 := hU1.keep hbq
   replace hU8 := hU8.keep hbq
   replace hU9 := hU9.keep hbq
   replace hBh := hBh.keep hbq
   clear hbq hbP hOi hgi hS_ hz_
   have hBi := hQi.bysB (by have := hit.out; omega)
   clear hQi
   have cP := a_put [] (I_.length) (by have := hit.out; omega) w12 (.slice none 0 0) (bysB_nil _ _)
   rw [List.nil_append] at cP
   refine cP.mono ?_
   rintro e_ w13 ⟨ul, rfl, hOl, hbP⟩
   clear cP
   have hS_ := hBi.keep hbP
   have hz_ := hbP.size
   obtain ⟨pal, pcl, rfl⟩ := slen_own hOl
   go_upto_region 20 with (first | (refine wpList_append_B rfl _ _ rfl w12.heap.size (.slice pal (en (I_.length)).length pcl) (en (I_.length)) rfl hOl (.slice ia I_.length ic) I_ rfl hS_ (by have := hit.out; have := hlb.out; have := henl.out; omega) hz_ ?_; intro vl w14 hQl hgl; have hbq := Below.grown hbP hgl hz_ (own_geW hOl); rw [hLL.out] at hQl; obtain ⟨la, lc, rfl⟩ := slen_own hQl) | fail)
   replace hb := Below.after hb hbq
   replace hU1 := hU1.keep hbq
   replace hU8 := hU8.keep hbq
   replace hU9 := hU9.keep hbq
   replace hBh := hBh.keep hbq
   replace hBi := hBi.keep hbq
   clear hbq hbP hOl hgl hS_ hz_
   have hBl := hQl.bysB (by have := hl9.out; rw [← hJ9.out, List.length_append] at this; omega)
   clear hQl
   have k8 := conv_byT hU8.1
   have k9 := conv_byT hU9.1
   have kH := conv_byT hBh.1
   have kI := conv_byT hBi.1
   have kL := conv_byT hBl.1
   have kc8 := fun W => cat_run (bl H_) (bl I_) (by rw [bl_len, bl_len]; have := hit.out; have := hl8.out; rw [← hJ8.out, List.length_append] at this; omega) W
   have kc9 := fun W => cat_run (bl H_) (bl L_) (by rw [bl_len, bl_len]; have := hl9.out; rw [← hJ9.out, List.length_append] at this; omega) W
   rw [show bl H_ ++ bl I_ = bl J8 by rw [← hJ8.out]; simp [bl]] at kc8
   rw [show bl H_ ++ bl L_ = bl J9 by rw [← hJ9.out]; simp [bl]] at kc9
   generalize strOfNums (bl J8) = s8 at *
   generalize strOfNums (bl J9) = s9 at *
   generalize strOfNums (bl H_) = sH at *
   generalize strOfNums (bl I_) = sI at *
   generalize strOfNums (bl L_) = sL at *
   clear hU1 hU8 hU9 hBh hBi hBl
   go_wp2_with (first | (refine wpList_val8 rfl (.string s8) (op_catW _ _ rfl sH sI s8 rfl rfl (kc8 _)) ?_) | (refine wpList_val8 rfl (.string s9) (op_catW _ _ rfl sH sL s9 rfl rfl (kc9 _)) ?_) | fail)
   go_ret
   exact ⟨rfl, hb⟩
end Go.Proofs.YtgcpebhjehlacaaDoor
namespace Go.Proofs.YtgcpebhjehlacaaDoor
set_option maxRecDepth 100000
open Go Go.RowKit Go.Sort
attribute [local go_sem] setCell_drewN alloc_drewN
def hzr : List Value := [.int .i64 0, .int .i64 0, .int .u64 0, .int .u64 0, .slice none 0 0]
def hmk : List Value := [.int .i64 (-77), .int .i64 0, .int .u64 0, .int .u64 0, .slice none 0 0]
inductive HSl (W : World) (S : Nat → Prop) : Value → List Slt → Prop
 | mk (G : Nat) (ts : List Slt) (us : List Value) (hl : ts.length ≤ 10000) (hG : G < W.heap.size) (hS : S G)
  (h : ∀ i, i < ts.length → W.rangeAt G (i * 5) (srow (gs ts i) (gvs us i)) ∧ Sok (gs ts i))
  (hm : ∀ i, ts.length ≤ i → i < ts.length + 3 → W.rangeAt G (i * 5) hmk)
  (hs : ∀ i, i < ts.length → HSl W S (gvs us i) (gs ts i).sub) : HSl W S (.slice (some ⟨G, 0, none⟩) ts.length (ts.length + 3)) ts
theorem HSl.keep {W V : World} {S T : Nat → Prop} {v : Value} {ts : List Slt} (h : HSl W S v ts) (hs : W.heap.size ≤ V.heap.size) (hb : ∀ b, b < W.heap.size → S b → V.heap[b]? = W.heap[b]? ∧ T b) : HSl V T v ts := by
 induction h with
 | mk G ts us hl hG hS h hm _ ih =>
  exact .mk G ts us hl (by omega) (hb G hG hS).2 (fun i hi => ⟨range_same (h i hi).1 (hb G hG hS).1, (h i hi).2⟩) (fun i h1 h2 => range_same (hm i h1 h2) (hb G hG hS).1) ih
theorem HSl.form {W : World} {S : Nat → Prop} {v : Value} {ts : List Slt} (h : HSl W S v ts) : ∃ G, v = .slice (some ⟨G, 0, none⟩) ts.length (ts.length + 3) ∧ S G := by
 cases h with
 | mk G _ us hl hG hS h hm hs => exact ⟨G, rfl, hS⟩
def hrow (ts : List Slt) (us : List Value) (k i : Nat) : List Value := if i < k then (if i < ts.length then srow (gs ts i) (gvs us i) else hmk) else hzr
def Hrw (W : World) (G : Nat) (ts : List Slt) (us : List Value) (k : Nat) : Prop := ∃ cs, W.heap[G]? = some (.cells cs 53 (0, 0)) ∧ cs.size = (ts.length + 3) * 5 ∧ ∀ i c, i < ts.length + 3 → c < 5 → cs[i * 5 + c]? = (hrow ts us k i)[c]?
theorem Hrw.keep {W V : World} {G : Nat} {ts : List Slt} {us : List Value} {k : Nat} (h : Hrw W G ts us k) (hb : V.heap[G]? = W.heap[G]?) : Hrw V G ts us k := by
 obtain ⟨cs, h1, h2⟩ := h
 exact ⟨cs, hb.trans h1, h2⟩
theorem Hrw.range {W : World} {G : Nat} {ts : List Slt} {us : List Value} {k i : Nat} (h : Hrw W G ts us k) (hi : i < ts.length + 3) (hl : (hrow ts us k i).length = 5) : W.rangeAt G (i * 5) (hrow ts us k i) := by
 obtain ⟨cs, h1, h2, h3⟩ := h
 intro j v hv
 have hj := (List.getElem?_eq_some_iff.1 hv).1
 rw [cell_of_row _ _ _ _ _ _ h1, h3 i j hi (by omega)]
 exact hv
theorem Hrw.mark {W : World} {G : Nat} {ts : List Slt} {us : List Value} {k : Nat} (h : Hrw W G ts us k) (hk : ts.length ≤ k) (hk3 : k < ts.length + 3) : Hrw (W.setCell ⟨G, k * 5, none⟩ (.int .i64 (-77))) G ts us (k + 1) := by
 obtain ⟨cs, h1, h2, h3⟩ := h
 refine ⟨_, heap_setCell_same W G (k * 5) cs _ _ h1, by simp [h2], fun i c hi hc => ?_⟩
 rw [Array.getElem?_setIfInBounds]
 by_cases e : k * 5 = i * 5 + c
 ·have e1 : i = k := by omega
  have e2 : c = 0 := by omega
  subst e1 e2
  rw [if_pos e, if_pos (by omega)]
  unfold hrow
  rw [if_pos (by omega), if_neg (by omega)]; rfl
 ·rw [if_neg e, h3 i c hi hc]
  by_cases e1 : i = k
  ·subst e1
   have c0 : c ≠ 0 := by omega
   unfold hrow
   rw [if_neg (by omega), if_pos (by omega), if_neg (by omega)]
   rcases (by omega : c = 1 ∨ c = 2 ∨ c = 3 ∨ c = 4) with rfl | rfl | rfl | rfl <;> rfl
  ·unfold hrow
   by_cases e2 : i < k
   ·rw [if_pos e2, if_pos (show i < k + 1 by omega)]
   ·rw [if_neg e2, if_neg (show ¬ i < k + 1 by omega)]
theorem Hrw.slot {W V : World} {G : Nat} {ts : List Slt} {us : List Value} {k : Nat} {u v : Value} (h : Hrw W G ts us k) (hk : k < ts.length) (hu : us.length = k) (hV : V.heap[G]? = ((W.setCell ⟨G, k * 5, none⟩ (.int .i64 (-77))).setCells G (k * 5) (srow (gs ts k) u)).heap[G]?) : Hrw (V.setCell ⟨G, k * 5 + 4, none⟩ v) G ts (us ++ [v]) (k + 1) := by
 obtain ⟨cs, h1, h2, h3⟩ := h
 have s1 := heap_setCell_same W G (k * 5) cs _ (.int .i64 (-77)) h1
 have s2 : ((W.setCell ⟨G, k * 5, none⟩ (.int .i64 (-77))).setCells G (k * 5) (srow (gs ts k) u)).heap[G]? = _ :=
  heap_setCell_same _ G (k * 5 + 1 + 1 + 1 + 1) _ _ u (heap_setCell_same _ G (k * 5 + 1 + 1 + 1) _ _ (.int .u64 ((gs ts k).most : Int)) (heap_setCell_same _ G (k * 5 + 1 + 1) _ _ (.int .u64 ((gs ts k).least : Int)) (heap_setCell_same _ G (k * 5 + 1) _ _ (.int .i64 (gs ts k).kind) (heap_setCell_same _ G (k * 5) _ _ (.int .i64 (gs ts k).no) s1))))
 refine ⟨_, heap_setCell_same V G (k * 5 + 4) _ _ v (hV.trans s2), by simp [h2], fun i c hi hc => ?_⟩
 simp only [Array.getElem?_setIfInBounds, Array.size_setIfInBounds]
 by_cases e1 : i = k
 ·subst e1
  have e3 : hrow ts (us ++ [v]) (i + 1) i = srow (gs ts i) v := by
   unfold hrow; rw [if_pos (by omega), if_pos hk, gvs_top _ _ _ hu]
  rw [e3]
  have hb : i * 5 + c < cs.size := by omega
  rcases (by omega : c = 0 ∨ c = 1 ∨ c = 2 ∨ c = 3 ∨ c = 4) with rfl | rfl | rfl | rfl | rfl
  ·rw [if_neg (by omega), if_neg (by omega), if_neg (by omega), if_neg (by omega), if_neg (by omega), if_pos (by omega), if_pos (by omega)]; rfl
  ·rw [if_neg (by omega), if_neg (by omega), if_neg (by omega), if_neg (by omega), if_pos (by omega), if_pos (by omega)]; rfl
  ·rw [if_neg (by omega), if_neg (by omega), if_neg (by omega), if_pos (by omega), if_pos (by omega)]; rfl
  ·rw [if_neg (by omega), if_neg (by omega), if_pos (by omega), if_pos (by omega)]; rfl
  ·rw [if_pos (by omega), if_pos (by omega)]; rfl
 ·rw [if_neg (by omega), if_neg (by omega), if_neg (by omega), if_neg (by omega), if_neg (by omega), if_neg (by omega), if_neg (by omega), h3 i c hi hc]
  unfold hrow
  by_cases e2 : i < k
  ·rw [if_pos e2, if_pos (by omega), if_pos (by omega), if_pos (by omega), gvs_low _ _ _ (by omega)]
  ·rw [if_neg e2, if_neg (by omega)]
end Go.Proofs.YtgcpebhjehlacaaDoor
namespace Go.Proofs.YtgcpebhjehlacaaDoor
set_option maxRecDepth 100000
open Go Go.RowKit Go.Sort
attribute [local go_sem] setCell_drewN alloc_drewN
end Go.Proofs.YtgcpebhjehlacaaDoor
namespace Go.Proofs.YtgcpebhjehlacaaDoor
set_option maxRecDepth 100000
open Go Go.ChangeShapes Go.WideShapes Go.ChangeAt Go.RowKit Go.Deep
/-! Schemas out of the data. -/
theorem bSl56 : Tryd.prog.bytesOf 53 = 56 := by kernel_rfl
theorem cSl5 : Tryd.prog.cellsOf 53 = 5 := by kernel_rfl
theorem cI1s : Tryd.prog.cellsOf 3 = 1 := by kernel_rfl
theorem cU1s : Tryd.prog.cellsOf 23 = 1 := by kernel_rfl
theorem cSs1 : Tryd.prog.cellsOf 22 = 1 := by kernel_rfl
theorem block_lts {w : World} {b o : Nat} {v : Value} (h : w.cell? ⟨b, o, none⟩ = some v) : b < w.heap.size := by
 rcases Nat.lt_or_ge b w.heap.size with x | x
 ·exact x
 ·have : w.heap[b]? = none := Array.getElem?_eq_none x
  simp [World.cell?, this] at h
theorem weightsAll_inS {H : Type} {P : Program} {e : TypeId} : ∀ {l : List (DataW H)} {d : DataW H}, d ∈ l → ∀ n ∈ d.weights P e, n ∈ DataW.weightsAll P e l
 | x :: r, d, h, n, hn => by
  rw [DataW.weightsAll, List.mem_append]
  rcases List.mem_cons.1 h with rfl | h
  ·exact .inl hn
  ·exact .inr (weightsAll_inS h n hn)
theorem range_gs (PS : Nat → Slt) (n i : Nat) (h : i < n) : gs ((List.range n).map PS) i = PS i := by
 rw [gs, List.getD_eq_getElem?_getD, List.getElem?_map, List.getElem?_range h]; rfl
theorem range_gvs (PS : Nat → Value) (n i : Nat) (h : i < n) : gvs ((List.range n).map PS) i = PS i := by
 rw [gvs, List.getD_eq_getElem?_getD, List.getElem?_map, List.getElem?_range h]; rfl
theorem slot_of_trod {H : Type} {enc : TypeId × Value → H} {W : World} {m : Nat} {cs : List Value} {x : DataW H × List MemPlace} (h : DataW.trod enc Tryd.prog W 0 (fun _ => true) true m 53 cs = some x) :
 ∃ (no k : Int) (l mo : Nat) (u : Value) (n : Nat) (y : DataW H × List MemPlace), (∀ sub, cs = srow (.mk no k l mo sub) u ∧ Sok (.mk no k l mo sub)) ∧ DataW.trod enc Tryd.prog W 0 (fun _ => true) true n 22 [u] = some y ∧ SizeOf.sizeOf y.1 < SizeOf.sizeOf x.1 ∧ ∀ z ∈ y.1.weights Tryd.prog 22, z ∈ x.1.weights Tryd.prog 53 := by
 obtain ⟨xs, m, rfl, rfl, hlen, hxl, hf⟩ := DataW.trod_struct Tryd.underlying53 h
 rw [cSl5] at hlen
 have g0 := hf 0 _ rfl; have g1 := hf 1 _ rfl; have g2 := hf 2 _ rfl; have g3 := hf 3 _ rfl; have g4 := hf 4 _ rfl
 clear hf h
 match cs, hlen, xs, hxl, g0, g1, g2, g3, g4 with
 | [c0, c1, c2, c3, c4], _, [x0, x1, x2, x3, x4], _, g0, g1, g2, g3, g4 =>
  obtain ⟨K, e0, _, wK⟩ := DataW.trod_int Tryd.underlying3 g0
  obtain ⟨A, e1, _, wA⟩ := DataW.trod_int Tryd.underlying3 g1
  obtain ⟨C, e2, _, wC⟩ := DataW.trod_int Tryd.underlying23 g2
  obtain ⟨E, e3, _, wE⟩ := DataW.trod_int Tryd.underlying23 g3
  have q0 : c0 = .int .i64 K := by
   have q : ([c0, c1, c2, c3, c4].drop 0).take (Tryd.prog.cellsOf 3) = [.int .i64 K] := e0
   rw [cI1s] at q
   simpa using q
  have q1 : c1 = .int .i64 A := by
   have q : ([c0, c1, c2, c3, c4].drop 1).take (Tryd.prog.cellsOf 3) = [.int .i64 A] := e1
   rw [cI1s] at q
   simpa using q
  have q2 : c2 = .int .u64 C := by
   have q : ([c0, c1, c2, c3, c4].drop 2).take (Tryd.prog.cellsOf 23) = [.int .u64 C] := e2
   rw [cU1s] at q
   simpa using q
  have q3 : c3 = .int .u64 E := by
   have q : ([c0, c1, c2, c3, c4].drop 3).take (Tryd.prog.cellsOf 23) = [.int .u64 E] := e3
   rw [cU1s] at q
   simpa using q
  have q4 : DataW.trod enc Tryd.prog W 0 (fun _ => true) true m 22 [c4] = some x4 := by
   have q : DataW.trod enc Tryd.prog W 0 (fun _ => true) true m 22 (([c0, c1, c2, c3, c4].drop 4).take (Tryd.prog.cellsOf 22)) = some x4 := g4
   rw [cSs1] at q
   simpa using q
  have bK := bounds_i64 wK
  have bA := bounds_i64 wA
  have bC := bounds_u64 wC
  have bE := bounds_u64 wE
  obtain ⟨N, rfl⟩ := Int.eq_ofNat_of_zero_le bC.1
  obtain ⟨M, rfl⟩ := Int.eq_ofNat_of_zero_le bE.1
  refine ⟨K, A, N, M, c4, m, x4, fun sub => ⟨by rw [q0, q1, q2, q3]; rfl, bK, bA, by show N < _; omega, by show M < _; omega⟩, q4, ?_, fun z hz => ?_⟩
  ·simp only [List.map_cons, List.map_nil, DataW.agg.sizeOf_spec, List.cons.sizeOf_spec]
   omega
  ·simp only [DataW.weights, Tryd.underlying53]
   exact DataW.weights_mem_each (j := 4) rfl rfl z hz
theorem slo_of_size {H : Type} {enc : TypeId × Value → H} {W : World} : ∀ (N : Nat) {m : Nat} {v : Value} {x : DataW H × List MemPlace}, SizeOf.sizeOf x.1 ≤ N → DataW.trod enc Tryd.prog W 0 (fun _ => true) true m 22 [v] = some x → (∀ n ∈ x.1.weights Tryd.prog 22, n ≤ reachBytes) → ∃ ts : List Slt, Slo W v ts
 | 0, m, v, x, hN, _, _ => by
  exfalso
  cases h : x.1 <;> rw [h] at hN <;> simp at hN
 | N + 1, m, v, x, hN, hf, hs => by
  rcases open_slice Tryd.underlying22 hf with ⟨hcs, hx⟩ | ⟨a, len, cap, m, n, D, Pl, hcs, _, hl, hm, hmm, hx, hel⟩
  ·injection hcs with hv _
   subst hv
   exact ⟨[], .mk none 0 [] [] (by simp) (by simp) (fun _ => rfl) (fun i hi => by simp at hi) (fun i hi => by simp at hi)⟩
  ·injection hcs with hv _
   subst hv
   subst hx
   simp only [if_true] at hmm
   subst hmm
   rw [cSl5] at hel
   have hb := hs ((((List.range len).map D).length + ((List.range (m - len)).map fun j => D (len + j)).length) * 56) (by simp [DataW.weights, Tryd.underlying22, bSl56])
   simp only [List.length_map, List.length_range, reachBytes] at hb
   obtain ⟨PS, hPS⟩ := @choose_lt (Slt × Value) ⟨(s0, undef)⟩ len (fun i f => ∃ cs', W.cells? 0 (a.add (i * 5)) 5 = some cs' ∧ cs' = srow f.1 f.2 ∧ Sok f.1 ∧ Slo W f.2 f.1.sub) (fun i hi => by
    obtain ⟨cs', h1, h2⟩ := hel i (by omega)
    obtain ⟨no, k, l, mo, u, n', y, h3, h4, h5, h6⟩ := slot_of_trod h2
    have hmem : D i ∈ (List.range len).map D := List.mem_map.2 ⟨i, List.mem_range.2 hi, rfl⟩
    have hsz : SizeOf.sizeOf (D i) < SizeOf.sizeOf ((List.range len).map D) := List.sizeOf_lt_of_mem hmem
    obtain ⟨sub, hsub⟩ := slo_of_size N (x := y) (by
     simp only [DataW.slice.sizeOf_spec] at hN
     simp only at h5
     omega) h4 (fun z hz => hs z (by
     simp only [DataW.weights, Tryd.underlying22]
     exact List.mem_cons_of_mem _ (List.mem_append_left _ (weightsAll_inS hmem z (h6 z hz)))))
    exact ⟨(.mk no k l mo sub, u), cs', h1, (h3 sub).1, (h3 sub).2, hsub⟩)
   have e : (Value.slice (some a) len m) = .slice (some a) ((List.range len).map fun i => (PS i).1).length m := by simp
   rw [e]
   refine ⟨_, .mk (some a) m _ ((List.range len).map fun i => (PS i).2) (by simp; omega) (by simp; exact hl) (fun e => by cases e) (fun i hi => ?_) (fun i hi => ?_)⟩
   ·have hi' : i < len := by simpa using hi
    obtain ⟨cs', h1, h2, h3, _⟩ := hPS i hi'
    obtain ⟨_, hln, hc⟩ := World.cells?_some h1
    obtain ⟨bb, off, spot⟩ := a
    have hspot : spot = none := by
     obtain ⟨cs0, h0, _⟩ := hel 0 (by omega)
     obtain ⟨_, hl0, hc0⟩ := World.cells?_some h0
     have := hc0 0 (by omega)
     rw [List.getElem?_eq_getElem (by omega)] at this
     simpa [Addr.add] using World.cell?_spot this
    subst hspot
    rw [range_gs _ len i hi', range_gvs _ len i hi']
    have hr : W.rangeAt bb (off + i * 5) cs' := by
     intro j v hv
     have hj : j < 5 := by have := (List.getElem?_eq_some_iff.1 hv).1; omega
     have := hc j hj
     rw [addr_add, addr_add, hv] at this
     exact this
    rw [h2] at hr
    exact ⟨bb, off, rfl, block_lts (hr 0 _ rfl), hr, h3⟩
   ·have hi' : i < len := by simpa using hi
    obtain ⟨_, _, _, _, h4⟩ := hPS i hi'
    rw [range_gs _ len i hi', range_gvs _ len i hi']
    exact h4
theorem slo_of_trod {H : Type} {enc : TypeId × Value → H} {W : World} {m : Nat} {v : Value} {x : DataW H × List MemPlace} (hf : DataW.trod enc Tryd.prog W 0 (fun _ => true) true m 22 [v] = some x) (hs : ∀ n ∈ x.1.weights Tryd.prog 22, n ≤ reachBytes) : ∃ ts : List Slt, Slo W v ts := slo_of_size _ (Nat.le_refl _) hf hs
end Go.Proofs.YtgcpebhjehlacaaDoor
namespace Go.Proofs.YtgcpebhjehlacaaDoor
set_option maxRecDepth 100000
open Go Go.ChangeShapes Go.WideShapes Go.ChangeAt Go.RowKit Go.Deep
/-! Values out of the data. -/
theorem bVl56 : Tryd.prog.bytesOf 27 = 56 := by kernel_rfl
theorem cVl3 : Tryd.prog.cellsOf 27 = 3 := by kernel_rfl
theorem cUv1 : Tryd.prog.cellsOf 23 = 1 := by kernel_rfl
theorem cSv1 : Tryd.prog.cellsOf 25 = 1 := by kernel_rfl
theorem cBv1 : Tryd.prog.cellsOf 24 = 1 := by kernel_rfl
theorem block_ltv {w : World} {b o : Nat} {v : Value} (h : w.cell? ⟨b, o, none⟩ = some v) : b < w.heap.size := by
 rcases Nat.lt_or_ge b w.heap.size with x | x
 ·exact x
 ·have : w.heap[b]? = none := Array.getElem?_eq_none x
  simp [World.cell?, this] at h
theorem weightsAll_inV {H : Type} {P : Program} {e : TypeId} : ∀ {l : List (DataW H)} {d : DataW H}, d ∈ l → ∀ n ∈ d.weights P e, n ∈ DataW.weightsAll P e l
 | x :: r, d, h, n, hn => by
  rw [DataW.weightsAll, List.mem_append]
  rcases List.mem_cons.1 h with rfl | h
  ·exact .inl hn
  ·exact .inr (weightsAll_inV h n hn)
theorem range_gx (PS : Nat → VR) (n i : Nat) (h : i < n) : gx ((List.range n).map PS) i = PS i := by
 rw [gx, List.getD_eq_getElem?_getD, List.getElem?_map, List.getElem?_range h]; rfl
theorem range_gvt (PS : Nat → VT) (n i : Nat) (h : i < n) : gvt ((List.range n).map PS) i = PS i := by
 rw [gvt, List.getD_eq_getElem?_getD, List.getElem?_map, List.getElem?_range h]; rfl
theorem val_of_trod {H : Type} {enc : TypeId × Value → H} {W : World} {m : Nat} {cs : List Value} {x : DataW H × List MemPlace} (h : DataW.trod enc Tryd.prog W 0 (fun _ => true) true m 27 cs = some x) (hs : ∀ n ∈ x.1.weights Tryd.prog 27, n ≤ reachBytes) :
 ∃ (N : Nat) (bs : List B) (v u : Value) (n : Nat) (y : DataW H × List MemPlace), cs = [.int .u64 (N : Int), v, u] ∧ N < 18446744073709551616 ∧ BysC W v bs ∧ DataW.trod enc Tryd.prog W 0 (fun _ => true) true n 25 [u] = some y ∧ SizeOf.sizeOf y.1 < SizeOf.sizeOf x.1 ∧ ∀ z ∈ y.1.weights Tryd.prog 25, z ∈ x.1.weights Tryd.prog 27 := by
 obtain ⟨xs, m, rfl, rfl, hlen, hxl, hf⟩ := DataW.trod_struct Tryd.underlying27 h
 rw [cVl3] at hlen
 have g0 := hf 0 _ rfl; have g1 := hf 1 _ rfl; have g2 := hf 2 _ rfl
 clear hf h
 match cs, hlen, xs, hxl, g0, g1, g2 with
 | [c0, c1, c2], _, [x0, x1, x2], _, g0, g1, g2 =>
  obtain ⟨C, e0, _, wC⟩ := DataW.trod_int Tryd.underlying23 g0
  have q0 : c0 = .int .u64 C := by
   have q : ([c0, c1, c2].drop 0).take (Tryd.prog.cellsOf 23) = [.int .u64 C] := e0
   rw [cUv1] at q
   simpa using q
  have q1 : DataW.trod enc Tryd.prog W 0 (fun _ => true) true m 24 [c1] = some x1 := by
   have q : DataW.trod enc Tryd.prog W 0 (fun _ => true) true m 24 (([c0, c1, c2].drop 1).take (Tryd.prog.cellsOf 24)) = some x1 := g1
   rw [cBv1] at q
   simpa using q
  have q2 : DataW.trod enc Tryd.prog W 0 (fun _ => true) true m 25 [c2] = some x2 := by
   have q : DataW.trod enc Tryd.prog W 0 (fun _ => true) true m 25 (([c0, c1, c2].drop 2).take (Tryd.prog.cellsOf 25)) = some x2 := g2
   rw [cSv1] at q
   simpa using q
  have bC := bounds_u64 wC
  obtain ⟨N, rfl⟩ := Int.eq_ofNat_of_zero_le bC.1
  obtain ⟨v, bs, ev, hB⟩ := bysC_of_trod q1 (fun z hz => hs z (by
   simp only [DataW.weights, Tryd.underlying27]
   exact DataW.weights_mem_each (j := 1) rfl rfl z hz))
  injection ev with ev _
  subst ev
  refine ⟨N, bs, c1, c2, m, x2, by rw [q0], by omega, hB, q2, ?_, fun z hz => ?_⟩
  ·simp only [List.map_cons, List.map_nil, DataW.agg.sizeOf_spec, List.cons.sizeOf_spec]
   omega
  ·simp only [DataW.weights, Tryd.underlying27]
   exact DataW.weights_mem_each (j := 2) rfl rfl z hz
theorem bysC_form {W : World} {v : Value} {bs : List B} (h : BysC W v bs) : ∃ da dc, v = .slice da bs.length dc ∧ bs.length ≤ dc := by
 obtain ⟨⟨⟨ao, cap, e, _⟩, _⟩, _, hc⟩ := h
 rw [bl_len] at e
 exact ⟨ao, cap, e, hc _ _ _ e⟩
theorem inS_data {W : World} {da : Option Addr} {dl dc : Nat} {bs : List B} (h : BysC W (.slice da dl dc) bs) : InS W (fun _ => True) (lv dl da) := by
 intro a e
 have e1 := lv_some e
 subst e1
 obtain ⟨⟨ao, cap, e2, hl, hc, hz⟩, _⟩ := h.1
 injection e2 with e3 e4 e5
 subst e3
 have hpos : 0 < dl := by
  rcases Nat.eq_zero_or_pos dl with h0 | h0
  ·rw [h0] at e
   cases e
  ·exact h0
 obtain ⟨b, off, ea, hb, _⟩ := hc 0 (by omega)
 injection ea with ea
 subst ea
 exact ⟨trivial, hb⟩
theorem vtm_of_size {H : Type} {enc : TypeId × Value → H} {W : World} : ∀ (N : Nat) {m : Nat} {cs : List Value} {x : DataW H × List MemPlace}, SizeOf.sizeOf x.1 ≤ N → DataW.trod enc Tryd.prog W 0 (fun _ => true) true m 27 cs = some x → (∀ n ∈ x.1.weights Tryd.prog 27, n ≤ reachBytes) → ∃ (r : VR) (X : VT), cs = (vrv r).toList ∧ VtM W (fun _ => True) r X
 | 0, m, cs, x, hN, _, _ => by
  exfalso
  cases h : x.1 <;> rw [h] at hN <;> simp at hN
 | N + 1, m, cs, x, hN, hf, hs => by
  obtain ⟨Nn, bs, dv, u, n', y, hcs, hNn, hB, hy, hsz, hw⟩ := val_of_trod hf hs
  obtain ⟨da, dc, rfl, hdc⟩ := bysC_form hB
  have hI := inS_data hB
  rcases open_slice Tryd.underlying25 hy with ⟨hcu, hx⟩ | ⟨a, len, cap, m, n, D, Pl, hcu, _, hl, hm, hmm, hx, hel⟩
  ·injection hcu with hv _
   subst hv
   exact ⟨⟨Nn, da, bs.length, dc, none, 0, 0⟩, .mk Nn bs [], hcs, .mk ⟨Nn, da, bs.length, dc, none, 0, 0⟩ bs [] [] hNn rfl hB.2.1 hB.1 hdc hI rfl rfl (by simp) (by simp) (fun a e => by cases lv_some e) (fun i hi => by simp at hi) (fun i hi => by simp at hi)⟩
  ·injection hcu with hv _
   subst hv
   simp only [if_true] at hmm
   subst hmm
   rw [cVl3] at hel
   have hy1 : y.1 = .slice ((List.range len).map D) ((List.range (m - len)).map fun j => D (len + j)) := by rw [hx]
   have hb := hs ((((List.range len).map D).length + ((List.range (m - len)).map fun j => D (len + j)).length) * 56) (hw _ (by rw [hy1]; simp [DataW.weights, Tryd.underlying25, bVl56]))
   simp only [List.length_map, List.length_range, reachBytes] at hb
   obtain ⟨PS, hPS⟩ := @choose_lt (VR × VT) ⟨(vr0, vt0)⟩ len (fun i f => ∃ cs', W.cells? 0 (a.add (i * 3)) 3 = some cs' ∧ cs' = (vrv f.1).toList ∧ VtM W (fun _ => True) f.1 f.2) (fun i hi => by
    obtain ⟨cs', h1, h2⟩ := hel i (by omega)
    have hmem : D i ∈ (List.range len).map D := List.mem_map.2 ⟨i, List.mem_range.2 hi, rfl⟩
    have hsz2 : SizeOf.sizeOf (D i) < SizeOf.sizeOf ((List.range len).map D) := List.sizeOf_lt_of_mem hmem
    obtain ⟨r, X, e1, e2⟩ := vtm_of_size N (x := (D i, _)) (by
     rw [hy1] at hsz
     simp only [DataW.slice.sizeOf_spec] at hsz
     simp only
     omega) h2 (fun z hz => hs z (hw z (by
     rw [hy1]
     simp only [DataW.weights, Tryd.underlying25]
     exact List.mem_cons_of_mem _ (List.mem_append_left _ (weightsAll_inV hmem z hz)))))
    exact ⟨(r, X), cs', h1, e1, e2⟩)
   have spot : 0 < len → ∃ bb off, a = ⟨bb, off, none⟩ := fun h0 => by
    obtain ⟨bb, off, sp⟩ := a
    obtain ⟨cs0, h0', _⟩ := hel 0 (by omega)
    obtain ⟨_, hl0, hc0⟩ := World.cells?_some h0'
    have := hc0 0 (by omega)
    rw [List.getElem?_eq_getElem (by omega)] at this
    exact ⟨bb, off, by rw [show sp = none by simpa [Addr.add] using World.cell?_spot this]⟩
   have rng : ∀ i, i < len → ∃ b off, some a = some (⟨b, off, none⟩ : Addr) ∧ b < W.heap.size ∧ W.rangeAt b (off + i * 3) (vrv (PS i).1).toList := fun i hi => by
    obtain ⟨cs', h1, h2, _⟩ := hPS i hi
    obtain ⟨_, hln, hc⟩ := World.cells?_some h1
    obtain ⟨bb, off, rfl⟩ := spot (by omega)
    have hr : W.rangeAt bb (off + i * 3) cs' := by
     intro j v hv
     have hj : j < 3 := by have := (List.getElem?_eq_some_iff.1 hv).1; omega
     have := hc j hj
     rw [addr_add, addr_add, hv] at this
     exact this
    rw [h2] at hr
    exact ⟨bb, off, rfl, block_ltv (hr 0 _ rfl), hr⟩
   refine ⟨⟨Nn, da, bs.length, dc, some a, len, m⟩, .mk Nn bs ((List.range len).map fun i => (PS i).2), hcs, .mk ⟨Nn, da, bs.length, dc, some a, len, m⟩ bs ((List.range len).map fun i => (PS i).1) _ hNn rfl hB.2.1 hB.1 hdc hI (by simp) (by simp) (by simp; exact hl) (by simp; omega) (fun b e => ?_) (fun i hi => ?_) (fun i hi => ?_)⟩
   ·have e1 := lv_some e
    injection e1 with e1
    subst e1
    have hpos : 0 < len := by
     rcases Nat.eq_zero_or_pos len with h0 | h0
     ·rw [h0] at e
      cases e
     ·exact h0
    obtain ⟨bb, off, e2, hb2, _⟩ := rng 0 hpos
    injection e2 with e2
    subst e2
    exact ⟨trivial, hb2⟩
   ·have hi' : i < len := by simpa using hi
    obtain ⟨bb, off, e2, hb2, hr⟩ := rng i hi'
    rw [range_gx _ len i hi']
    exact ⟨bb, off, e2, hr⟩
   ·have hi' : i < len := by simpa using hi
    obtain ⟨_, _, _, h4⟩ := hPS i hi'
    rw [range_gx _ len i hi', range_gvt _ len i hi']
    exact h4
theorem val_of_data {H : Type} {enc : TypeId × Value → H} {W : World} {m : Nat} {cs : List Value} {x : DataW H × List MemPlace} (hf : DataW.trod enc Tryd.prog W 0 (fun _ => true) true m 27 cs = some x) (hs : ∀ n ∈ x.1.weights Tryd.prog 27, n ≤ reachBytes) : ∃ (r : VR) (X : VT), cs = (vrv r).toList ∧ VtM W (fun _ => True) r X := vtm_of_size _ (Nat.le_refl _) hf hs
end Go.Proofs.YtgcpebhjehlacaaDoor
namespace Go.Proofs.YtgcpebhjehlacaaDoor
set_option maxRecDepth 100000
open Go Go.RowKit
def rU : Go.Shelf.Ren where
 f := fun n => n
 t := fun n => if n = 5 then 5 else if n = 119 then 154 else if n = 138 then 156 else 157
 g := fun n => if n = 3 then 1 else 2
theorem tabs_of_reads {W : World} (h : laidMet Tryd.prog [("unicode/utf8.acceptRanges", Rows.laid_unicode_utf8_acceptRanges), ("unicode/utf8.first", Rows.laid_unicode_utf8_first)] W) : Lib.Utf8Tabs 1 2 W :=
 utf8Tabs_of_readsT (P := Tryd.prog) (ρ := rU) ⟨by kernel_rfl, by kernel_rfl, by kernel_rfl, by kernel_rfl⟩ ⟨by kernel_rfl, by kernel_rfl, by kernel_rfl, by kernel_rfl, by kernel_rfl, by kernel_rfl, by kernel_rfl⟩ (Lib.laidMet.reads h (.tail _ (.head _))) (Lib.laidMet.reads h (.head _))
end Go.Proofs.YtgcpebhjehlacaaDoor

