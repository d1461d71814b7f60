import Derived.Test.YtejcggjmbjmoeaaGreatDoorProg
import Derived.WalkKit
import Derived.WalkSpells
import Derived.WalkLawsBesides
import Derived.Lib.QuietBelow
import Derived.Laws.BitsAllLaws
import Derived.BigQuiet
import Derived.WalkMore
import Derived.Test.YtejcggjmbjmoeaaGreatDoorQcOpen
namespace Go.Proofs.YtejcggjmbjmoeaaGreatDoor
set_option maxRecDepth 100000
open Go Go.RowKit Go.Sort
attribute [local go_sem] setCell_drewN alloc_drewN
inductive Slt where
 | mk (no kind : Int) (least most : Nat) (sub : List Slt)
namespace Slt
def no : Slt → Int
 | .mk n _ _ _ _ => n
def kind : Slt → Int
 | .mk _ k _ _ _ => k
def least : Slt → Nat
 | .mk _ _ l _ _ => l
def most : Slt → Nat
 | .mk _ _ _ m _ => m
def sub : Slt → List Slt
 | .mk _ _ _ _ s => s
end Slt
def s0 : Slt := .mk 0 0 0 0 []
def gs (ts : List Slt) (i : Nat) : Slt := ts.getD i s0
def gvs (us : List Value) (i : Nat) : Value := us.getD i undef
def srow (t : Slt) (u : Value) : List Value := [.int .i64 t.no, .int .i64 t.kind, .int .u64 (t.least : Int), .int .u64 (t.most : Int), u]
def Sok (t : Slt) : Prop := (-9223372036854775808 ≤ t.no ∧ t.no ≤ 9223372036854775807) ∧ (-9223372036854775808 ≤ t.kind ∧ t.kind ≤ 9223372036854775807) ∧ t.least < 18446744073709551616 ∧ t.most < 18446744073709551616
inductive Slo (W : World) : Value → List Slt → Prop
 | mk (ao : Option Addr) (cap : Nat) (ts : List Slt) (us : List Value) (hl : ts.length ≤ 2932031007317) (hc : ts.length ≤ cap) (hn : ao = none → cap = 0)
  (h : ∀ i, i < ts.length → ∃ b off, ao = some ⟨b, off, none⟩ ∧ b < W.heap.size ∧ W.rangeAt b (off + i * 5) (srow (gs ts i) (gvs us i)) ∧ Sok (gs ts i))
  (hs : ∀ i, i < ts.length → Slo W (gvs us i) (gs ts i).sub) : Slo W (.slice ao ts.length cap) ts
theorem rangeS_keep2 {w W V : World} {b o : Nat} {cs : List Value} (h : W.rangeAt b o cs) (hb : Below w.heap.size W V) (hlt : b < w.heap.size) : V.rangeAt b o cs := fun j v hv => (hb.cell (p := ⟨b, o + j, none⟩) hlt).trans (h j v hv)
theorem Slo.keep {W V : World} {v : Value} {ts : List Slt} (h : Slo W v ts) (hb : Below W.heap.size W V) : Slo V v ts := by
 induction h with
 | mk ao cap ts us hl hc hn h hs ih =>
  refine .mk ao cap ts us hl hc hn (fun i hi => ?_) ih
  obtain ⟨b, off, h1, h2, h3, h4⟩ := h i hi
  exact ⟨b, off, h1, Nat.lt_of_lt_of_le h2 hb.size, rangeS_keep2 h3 hb h2, h4⟩
theorem Slo.form {W : World} {v : Value} {ts : List Slt} (h : Slo W v ts) : ∃ ao cap, v = .slice ao ts.length cap := by
 cases h
 exact ⟨_, _, rfl⟩
theorem sdrop (ts : List Slt) (j : Nat) (h : j < ts.length) : ts.drop j = gs ts j :: ts.drop (j + 1) := by
 rw [List.drop_eq_getElem_cons h, gs, List.getD_eq_getElem?_getD, List.getElem?_eq_getElem h]
 rfl
def slL : List Slt → Int → Int
 | [], l => l
 | .mk _ _ _ _ sub :: ts, l => if 0 ≤ l then slL ts (slL sub (l - 1)) else l
theorem slL_cons (t : Slt) (ts : List Slt) (l : Int) : slL (t :: ts) l = if 0 ≤ l then slL ts (slL t.sub (l - 1)) else l := by
 cases t
 rw [slL]
 rfl
theorem slL_neg (ts : List Slt) (l : Int) (h : l < 0) : slL ts l = l := by
 cases ts with
 | nil => rw [slL]
 | cons t ts => rw [slL_cons, if_neg (by omega)]
theorem slL_le : ∀ (ts : List Slt) (l : Int), slL ts l ≤ l ∧ (-1 ≤ l → -1 ≤ slL ts l)
 | [], l => by rw [slL]; exact ⟨Int.le_refl _, id⟩
 | .mk n k a b sub :: ts, l => by
  rw [slL]
  split
  ·have h1 := slL_le sub (l - 1)
   have h2 := slL_le ts (slL sub (l - 1))
   exact ⟨by omega, fun _ => by omega⟩
  ·exact ⟨Int.le_refl _, id⟩
set_option maxRecDepth 100000 in
set_option maxHeartbeats 4000000 in
theorem l_slotsLeft {W : World} {v : Value} {ts : List Slt} (h : Slo W v ts) : ∀ (w : World) (l : Int), Below W.heap.size W w → -1 ≤ l → l ≤ 10000 → Calls Tryz.prog 23 #[v, .int .i64 l] w fun e w' => e = .returned (.int .i64 (slL ts l)) ∧ Below w.heap.size w w' := by
 induction h with
 | mk ao cap ts us hl hc hn h hs ih =>
  intro w l hw h1 h2
  go_enter Tryz.func23, Tryz.ntmps23
  go_wp2_with (fail)
  go_loopw [1, 5] (fun s i wr => ∃ (k : Nat) (m : Int), k ≤ ts.length ∧ i = .int .i64 k ∧ s = .int .i64 m ∧ -1 ≤ m ∧ m ≤ 10000 ∧ slL ts l = slL (ts.drop k) m ∧ Below w.heap.size w wr) (fun _ i _ => ts.length - (intOf i).toNat)
  case atStart => exact ⟨0, l, by omega, rfl, rfl, h1, h2, rfl, Below.refl _ _⟩
  case round =>
   obtain ⟨k, m, hk, rfl, rfl, hm1, hm2, he, hb⟩ := hrel
   have hww := Below.after hw hb
   by_cases hlt : k < ts.length
   ·have hd : decide ((k : Int) < (ts.length : Int)) = true := by simp; omega
    by_cases hm0 : 0 ≤ m
    ·have hd2 : decide (m ≥ 0) = true := by simpa using hm0
     obtain ⟨b, off, hao, hbl, hra, hok⟩ := h k hlt
     subst hao
     have c4 := rangeS_keep2 hra hww hbl 4 _ rfl
     have hk1 : 0 ≤ (k : Int) ∧ (k : Int) < (ts.length : Int) := by omega
     have cR := ih k hlt wr (m - 1) hww (by omega) (by omega)
     rw [sdrop ts k hlt, slL_cons, if_pos hm0] at he
     have hle := slL_le (gs ts k).sub (m - 1)
     have hle2 := hle.2 (by omega)
     replace hle := hle.1
     replace he := hide he
     generalize slL (gs ts k).sub (m - 1) = m2 at *
     generalize gvs us k = u at *
     clear h hs ih hra hok
     go_wp2_with (fail)
     refine cR.mono ?_
     rintro e_ w1 ⟨rfl, hb1⟩
     replace hb := Below.after hb hb1
     clear cR
     go_wp2_with (fail)
     refine ⟨⟨k + 1, m2, by omega, by go_num, rfl, by omega, by omega, he.out, hb⟩, ?_⟩
     simp [intOf]; omega
    ·have hd2 : decide (m ≥ 0) = false := by simpa using hm0
     rw [slL_neg (ts.drop k) m (by omega)] at he
     replace he := hide he
     clear h hs ih
     go_wp2_with (fail)
     go_ret
     exact ⟨by rw [he.out]; rfl, hb⟩
   ·have hd : decide ((k : Int) < (ts.length : Int)) = false := by simp; omega
    rw [List.drop_eq_nil_of_le (by omega), slL] at he
    replace he := hide he
    clear h hs ih
    go_wp2_with (fail)
    go_ret
    exact ⟨by rw [he.out]; rfl, hb⟩
theorem l_bigSlots {W : World} {v : Value} {ts : List Slt} (h : Slo W v ts) : Calls Tryz.prog 7 #[v] W fun e w' => e = .returned (.bool (decide (slL ts 10000 < 0))) ∧ Below W.heap.size W w' := by
 have cS := l_slotsLeft h W 10000 (Below.refl _ _) (by omega) (by omega)
 generalize slL ts 10000 = m at *
 go_enter Tryz.func7, Tryz.ntmps7
 go_wp2_with (fail)
 refine cS.mono ?_
 rintro e_ w1 ⟨rfl, hb⟩
 go_wp2_with (fail)
 go_ret
 exact ⟨rfl, hb⟩
end Go.Proofs.YtejcggjmbjmoeaaGreatDoor
namespace Go.Proofs.YtejcggjmbjmoeaaGreatDoor
set_option maxRecDepth 100000
open Go Go.RowKit Go.Sort
attribute [local go_sem] setCell_drewN alloc_drewN
def tyOf (k : Int) : Int := if k = 2 then 5 else if k = 3 ∨ k = 7 then 1 else if k = 1 ∨ k = 4 then 0 else 2
theorem kind_cases (k : Int) : k = 1 ∨ k = 2 ∨ k = 3 ∨ k = 4 ∨ k = 5 ∨ k = 6 ∨ k = 7 ∨ k = 8 ∨ k = 9 ∨ (k ≠ 1 ∧ k ≠ 2 ∧ k ≠ 3 ∧ k ≠ 4 ∧ k ≠ 5 ∧ k ≠ 6 ∧ k ≠ 7 ∧ k ≠ 8 ∧ k ≠ 9) := by omega
set_option maxHeartbeats 2000000 in
theorem r_typeOf (k : Int) : Gives 54 #[.int .i64 k] (.int .i64 (tyOf k)) := by
 intro w
 rcases kind_cases k with rfl | rfl | rfl | rfl | rfl | rfl | rfl | rfl | rfl | ⟨h1, h2, h3, h4, h5, h6, h7, h8, h9⟩
 rotate_right
 ·have q1 : (k == 1) = false := by simpa using h1
  have q2 : (k == 2) = false := by simpa using h2
  have q3 : (k == 3) = false := by simpa using h3
  have q4 : (k == 4) = false := by simpa using h4
  have q7 : (k == 7) = false := by simpa using h7
  have ht : tyOf k = 2 := by unfold tyOf; rw [if_neg h2, if_neg (by omega), if_neg (by omega)]
  rw [ht]
  clear h1 h2 h3 h4 h5 h6 h7 h8 h9 ht
  go_enter Tryz.func54, Tryz.ntmps54
  go_wp2_with (fail)
  go_ret
  exact ⟨rfl, Below.refl _ _⟩
 all_goals
  go_enter Tryz.func54, Tryz.ntmps54
  go_wp2_with (fail)
  go_ret
  exact ⟨rfl, Below.refl _ _⟩
def cpd (n : Nat) : Nat := if 4194305 < n then 4194305 else n
theorem cpd_le (n : Nat) : cpd n ≤ 4194305 := by unfold cpd; split <;> omega
theorem r_capped (n : Nat) : Gives 66 #[.int .i64 (n : Int)] (.int .i64 (cpd n : Int)) := by
 intro w
 by_cases h : 4194305 < n
 ·have d1 : decide ((n : Int) > 4194305) = true := by simp; omega
  have e : cpd n = 4194305 := if_pos h
  rw [e]
  clear e h
  go_enter Tryz.func66, Tryz.ntmps66
  go_wp2_with (fail)
  go_ret
  exact ⟨rfl, Below.refl _ _⟩
 ·have d1 : decide ((n : Int) > 4194305) = false := by simp; omega
  have e : cpd n = n := if_neg h
  rw [e]
  clear e h
  go_enter Tryz.func66, Tryz.ntmps66
  go_wp2_with (fail)
  go_ret
  exact ⟨rfl, Below.refl _ _⟩
def frm (n : Nat) : Nat := cpd (n + (en n).length)
theorem r_framed (n : Nat) (hn : n < 4611686018427387904) : Gives 65 #[.int .i64 (n : Int)] (.int .i64 (frm n : Int)) := by
 intro w
 have cS := r_size n (by omega)
 have hel : (en n).length ≤ 10 := en_ten (by omega)
 have cC := r_capped (n + (en n).length)
 unfold frm
 generalize hm : (en n).length = m at *
 rw [Int.natCast_add] at cC
 go_enter Tryz.func65, Tryz.ntmps65
 go_wp2_with (fail)
 refine (cS _).mono ?_
 rintro e_ w1 ⟨rfl, hw⟩
 go_wp2_with (fail)
 refine (cC _).mono ?_
 rintro e_ w2 ⟨rfl, hb⟩
 replace hw := Below.after hw hb
 go_wp2_with (fail)
 go_ret
 exact ⟨rfl, hw⟩
def fitB (k : Int) (r l0 m0 al c5 c6 c7 c8 : Bool) : Bool :=
 if k = 1 ∨ k = 3 then r && al else if k = 2 then r && al && c5 else if k = 4 then l0 && m0 && al else if k = 5 ∨ k = 6 then r && al && c6
 else if k = 7 then l0 && c7 && al else if k = 8 then l0 && m0 else if k = 9 then r && c8 else false
def fitN (k l m : Int) (n : Nat) : Bool := fitB k (decide (l ≤ m)) (l == 0) (m == 0) ((n : Int) == 0) (decide (m < 4294967296)) (decide (m ≤ 4194304)) (decide (m ≤ 9007199254740992)) (decide (m ≤ 4096))
theorem infoS : (Tryz.prog.info? 88).map (·.size) = some 5 := by kernel_rfl
theorem bSl (cs : Array Value) (W : World) : (Instr.box 88 (.agg cs)).run Tryz.prog W = .ok (.pointer (some ⟨W.heap.size, 0, none⟩)) (W.alloc (.cells cs 88)) := by kernel_rfl
theorem zSl (W : World) : (Instr.alloc 88 true (.tuple #[])).run Tryz.prog W = .ok (.pointer (some ⟨W.heap.size, 0, none⟩)) (W.alloc (.cells #[.int .i64 0, .int .i64 0, .int .u64 0, .int .u64 0, .slice none 0 0] 88)) := by kernel_rfl
set_option maxRecDepth 100000 in
set_option maxHeartbeats 16000000 in
theorem r_fitB (no k l m : Int) (hl0 : 0 ≤ l) (hm0 : 0 ≤ m) (n cap : Nat) (ao : Option Addr) : Gives 98 #[.agg #[.int .i64 no, .int .i64 k, .int .u64 l, .int .u64 m, .slice ao n cap]] (.bool (fitN k l m n)) := by
 intro w
 have R0 := hp1_0 w (.cells #[.int .i64 no, .int .i64 k, .int .u64 l, .int .u64 m, .slice ao n cap] 88)
 have hw : Below w.heap.size w (w.alloc (.cells #[.int .i64 no, .int .i64 k, .int .u64 l, .int .u64 m, .slice ao n cap] 88)) := (Below.refl _ _).alloc (Nat.le_refl _) _
 have c0 : (w.alloc (.cells #[.int .i64 no, .int .i64 k, .int .u64 l, .int .u64 m, .slice ao n cap] 88)).cell? ⟨w.heap.size, 0, none⟩ = some (.int .i64 no) := cell_of_row _ _ _ _ _ _ R0
 have c1 : (w.alloc (.cells #[.int .i64 no, .int .i64 k, .int .u64 l, .int .u64 m, .slice ao n cap] 88)).cell? ⟨w.heap.size, 1, none⟩ = some (.int .i64 k) := cell_of_row _ _ _ _ _ _ R0
 have c2 : (w.alloc (.cells #[.int .i64 no, .int .i64 k, .int .u64 l, .int .u64 m, .slice ao n cap] 88)).cell? ⟨w.heap.size, 2, none⟩ = some (.int .u64 l) := cell_of_row _ _ _ _ _ _ R0
 have c3 : (w.alloc (.cells #[.int .i64 no, .int .i64 k, .int .u64 l, .int .u64 m, .slice ao n cap] 88)).cell? ⟨w.heap.size, 3, none⟩ = some (.int .u64 m) := cell_of_row _ _ _ _ _ _ R0
 have c4 : (w.alloc (.cells #[.int .i64 no, .int .i64 k, .int .u64 l, .int .u64 m, .slice ao n cap] 88)).cell? ⟨w.heap.size, 4, none⟩ = some (.slice ao n cap) := cell_of_row _ _ _ _ _ _ R0
 clear R0
 rcases kind_cases k with rfl | rfl | rfl | rfl | rfl | rfl | rfl | rfl | rfl | ⟨h1, h2, h3, h4, h5, h6, h7, h8, h9⟩
 ·skip
  by_cases h_z : l = 0
  ·have e_z : (l == 0) = true := by simp; omega
   by_cases h_r : l ≤ m
   ·have e_r : decide (l ≤ m) = true := by simp; omega
    by_cases h_a : n = 0
    ·have e_a : ((n : Int) == 0) = true := by simp; omega
     have hf : Hid (fitN 1 l m n = true) := hide (by unfold fitN; rw [e_z, e_r, e_a]; rfl)
     clear hl0 hm0 h_z h_r h_a
     go_enter Tryz.func98, Tryz.ntmps98
     go_wp2_with (first | (refine wpList_box rfl 88 _ rfl _ rfl (bSl _) ?_) | fail)
     go_ret
     exact ⟨by rw [hf.out]; rfl, hw⟩
    ·have e_a : ((n : Int) == 0) = false := by simp; omega
     have hf : Hid (fitN 1 l m n = false) := hide (by unfold fitN; rw [e_z, e_r, e_a]; rfl)
     clear hl0 hm0 h_z h_r h_a
     go_enter Tryz.func98, Tryz.ntmps98
     go_wp2_with (first | (refine wpList_box rfl 88 _ rfl _ rfl (bSl _) ?_) | fail)
     go_ret
     exact ⟨by rw [hf.out]; rfl, hw⟩
   ·have e_r : decide (l ≤ m) = false := by simp; omega
    omega
  ·have e_z : (l == 0) = false := by simp; omega
   by_cases h_r : l ≤ m
   ·have e_r : decide (l ≤ m) = true := by simp; omega
    by_cases h_a : n = 0
    ·have e_a : ((n : Int) == 0) = true := by simp; omega
     have hf : Hid (fitN 1 l m n = true) := hide (by unfold fitN; rw [e_z, e_r, e_a]; rfl)
     clear hl0 hm0 h_z h_r h_a
     go_enter Tryz.func98, Tryz.ntmps98
     go_wp2_with (first | (refine wpList_box rfl 88 _ rfl _ rfl (bSl _) ?_) | fail)
     go_ret
     exact ⟨by rw [hf.out]; rfl, hw⟩
    ·have e_a : ((n : Int) == 0) = false := by simp; omega
     have hf : Hid (fitN 1 l m n = false) := hide (by unfold fitN; rw [e_z, e_r, e_a]; rfl)
     clear hl0 hm0 h_z h_r h_a
     go_enter Tryz.func98, Tryz.ntmps98
     go_wp2_with (first | (refine wpList_box rfl 88 _ rfl _ rfl (bSl _) ?_) | fail)
     go_ret
     exact ⟨by rw [hf.out]; rfl, hw⟩
   ·have e_r : decide (l ≤ m) = false := by simp; omega
    by_cases h_a : n = 0
    ·have e_a : ((n : Int) == 0) = true := by simp; omega
     have hf : Hid (fitN 1 l m n = false) := hide (by unfold fitN; rw [e_z, e_r, e_a]; rfl)
     clear hl0 hm0 h_z h_r h_a
     go_enter Tryz.func98, Tryz.ntmps98
     go_wp2_with (first | (refine wpList_box rfl 88 _ rfl _ rfl (bSl _) ?_) | fail)
     go_ret
     exact ⟨by rw [hf.out]; rfl, hw⟩
    ·have e_a : ((n : Int) == 0) = false := by simp; omega
     have hf : Hid (fitN 1 l m n = false) := hide (by unfold fitN; rw [e_z, e_r, e_a]; rfl)
     clear hl0 hm0 h_z h_r h_a
     go_enter Tryz.func98, Tryz.ntmps98
     go_wp2_with (first | (refine wpList_box rfl 88 _ rfl _ rfl (bSl _) ?_) | fail)
     go_ret
     exact ⟨by rw [hf.out]; rfl, hw⟩
 ·skip
  by_cases h_z : l = 0
  ·have e_z : (l == 0) = true := by simp; omega
   by_cases h_r : l ≤ m
   ·have e_r : decide (l ≤ m) = true := by simp; omega
    by_cases h_a : n = 0
    ·have e_a : ((n : Int) == 0) = true := by simp; omega
     by_cases h_5 : m < 4294967296
     ·have e_5 : decide (m < 4294967296) = true := by simp; omega
      have hf : Hid (fitN 2 l m n = true) := hide (by unfold fitN; rw [e_z, e_r, e_a, e_5]; rfl)
      clear hl0 hm0 h_z h_r h_a h_5
      go_enter Tryz.func98, Tryz.ntmps98
      go_wp2_with (first | (refine wpList_box rfl 88 _ rfl _ rfl (bSl _) ?_) | fail)
      go_ret
      exact ⟨by rw [hf.out]; rfl, hw⟩
     ·have e_5 : decide (m < 4294967296) = false := by simp; omega
      have hf : Hid (fitN 2 l m n = false) := hide (by unfold fitN; rw [e_z, e_r, e_a, e_5]; rfl)
      clear hl0 hm0 h_z h_r h_a h_5
      go_enter Tryz.func98, Tryz.ntmps98
      go_wp2_with (first | (refine wpList_box rfl 88 _ rfl _ rfl (bSl _) ?_) | fail)
      go_ret
      exact ⟨by rw [hf.out]; rfl, hw⟩
    ·have e_a : ((n : Int) == 0) = false := by simp; omega
     by_cases h_5 : m < 4294967296
     ·have e_5 : decide (m < 4294967296) = true := by simp; omega
      have hf : Hid (fitN 2 l m n = false) := hide (by unfold fitN; rw [e_z, e_r, e_a, e_5]; rfl)
      clear hl0 hm0 h_z h_r h_a h_5
      go_enter Tryz.func98, Tryz.ntmps98
      go_wp2_with (first | (refine wpList_box rfl 88 _ rfl _ rfl (bSl _) ?_) | fail)
      go_ret
      exact ⟨by rw [hf.out]; rfl, hw⟩
     ·have e_5 : decide (m < 4294967296) = false := by simp; omega
      have hf : Hid (fitN 2 l m n = false) := hide (by unfold fitN; rw [e_z, e_r, e_a, e_5]; rfl)
      clear hl0 hm0 h_z h_r h_a h_5
      go_enter Tryz.func98, Tryz.ntmps98
      go_wp2_with (first | (refine wpList_box rfl 88 _ rfl _ rfl (bSl _) ?_) | fail)
      go_ret
      exact ⟨by rw [hf.out]; rfl, hw⟩
   ·have e_r : decide (l ≤ m) = false := by simp; omega
    omega
  ·have e_z : (l == 0) = false := by simp; omega
   by_cases h_r : l ≤ m
   ·have e_r : decide (l ≤ m) = true := by simp; omega
    by_cases h_a : n = 0
    ·have e_a : ((n : Int) == 0) = true := by simp; omega
     by_cases h_5 : m < 4294967296
     ·have e_5 : decide (m < 4294967296) = true := by simp; omega
      have hf : Hid (fitN 2 l m n = true) := hide (by unfold fitN; rw [e_z, e_r, e_a, e_5]; rfl)
      clear hl0 hm0 h_z h_r h_a h_5
      go_enter Tryz.func98, Tryz.ntmps98
      go_wp2_with (first | (refine wpList_box rfl 88 _ rfl _ rfl (bSl _) ?_) | fail)
      go_ret
      exact ⟨by rw [hf.out]; rfl, hw⟩
     ·have e_5 : decide (m < 4294967296) = false := by simp; omega
      have hf : Hid (fitN 2 l m n = false) := hide (by unfold fitN; rw [e_z, e_r, e_a, e_5]; rfl)
      clear hl0 hm0 h_z h_r h_a h_5
      go_enter Tryz.func98, Tryz.ntmps98
      go_wp2_with (first | (refine wpList_box rfl 88 _ rfl _ rfl (bSl _) ?_) | fail)
      go_ret
      exact ⟨by rw [hf.out]; rfl, hw⟩
    ·have e_a : ((n : Int) == 0) = false := by simp; omega
     by_cases h_5 : m < 4294967296
     ·have e_5 : decide (m < 4294967296) = true := by simp; omega
      have hf : Hid (fitN 2 l m n = false) := hide (by unfold fitN; rw [e_z, e_r, e_a, e_5]; rfl)
      clear hl0 hm0 h_z h_r h_a h_5
      go_enter Tryz.func98, Tryz.ntmps98
      go_wp2_with (first | (refine wpList_box rfl 88 _ rfl _ rfl (bSl _) ?_) | fail)
      go_ret
      exact ⟨by rw [hf.out]; rfl, hw⟩
     ·have e_5 : decide (m < 4294967296) = false := by simp; omega
      have hf : Hid (fitN 2 l m n = false) := hide (by unfold fitN; rw [e_z, e_r, e_a, e_5]; rfl)
      clear hl0 hm0 h_z h_r h_a h_5
      go_enter Tryz.func98, Tryz.ntmps98
      go_wp2_with (first | (refine wpList_box rfl 88 _ rfl _ rfl (bSl _) ?_) | fail)
      go_ret
      exact ⟨by rw [hf.out]; rfl, hw⟩
   ·have e_r : decide (l ≤ m) = false := by simp; omega
    by_cases h_a : n = 0
    ·have e_a : ((n : Int) == 0) = true := by simp; omega
     by_cases h_5 : m < 4294967296
     ·have e_5 : decide (m < 4294967296) = true := by simp; omega
      have hf : Hid (fitN 2 l m n = false) := hide (by unfold fitN; rw [e_z, e_r, e_a, e_5]; rfl)
      clear hl0 hm0 h_z h_r h_a h_5
      go_enter Tryz.func98, Tryz.ntmps98
      go_wp2_with (first | (refine wpList_box rfl 88 _ rfl _ rfl (bSl _) ?_) | fail)
      go_ret
      exact ⟨by rw [hf.out]; rfl, hw⟩
     ·have e_5 : decide (m < 4294967296) = false := by simp; omega
      have hf : Hid (fitN 2 l m n = false) := hide (by unfold fitN; rw [e_z, e_r, e_a, e_5]; rfl)
      clear hl0 hm0 h_z h_r h_a h_5
      go_enter Tryz.func98, Tryz.ntmps98
      go_wp2_with (first | (refine wpList_box rfl 88 _ rfl _ rfl (bSl _) ?_) | fail)
      go_ret
      exact ⟨by rw [hf.out]; rfl, hw⟩
    ·have e_a : ((n : Int) == 0) = false := by simp; omega
     by_cases h_5 : m < 4294967296
     ·have e_5 : decide (m < 4294967296) = true := by simp; omega
      have hf : Hid (fitN 2 l m n = false) := hide (by unfold fitN; rw [e_z, e_r, e_a, e_5]; rfl)
      clear hl0 hm0 h_z h_r h_a h_5
      go_enter Tryz.func98, Tryz.ntmps98
      go_wp2_with (first | (refine wpList_box rfl 88 _ rfl _ rfl (bSl _) ?_) | fail)
      go_ret
      exact ⟨by rw [hf.out]; rfl, hw⟩
     ·have e_5 : decide (m < 4294967296) = false := by simp; omega
      have hf : Hid (fitN 2 l m n = false) := hide (by unfold fitN; rw [e_z, e_r, e_a, e_5]; rfl)
      clear hl0 hm0 h_z h_r h_a h_5
      go_enter Tryz.func98, Tryz.ntmps98
      go_wp2_with (first | (refine wpList_box rfl 88 _ rfl _ rfl (bSl _) ?_) | fail)
      go_ret
      exact ⟨by rw [hf.out]; rfl, hw⟩
 ·skip
  by_cases h_z : l = 0
  ·have e_z : (l == 0) = true := by simp; omega
   by_cases h_r : l ≤ m
   ·have e_r : decide (l ≤ m) = true := by simp; omega
    by_cases h_a : n = 0
    ·have e_a : ((n : Int) == 0) = true := by simp; omega
     have hf : Hid (fitN 3 l m n = true) := hide (by unfold fitN; rw [e_z, e_r, e_a]; rfl)
     clear hl0 hm0 h_z h_r h_a
     go_enter Tryz.func98, Tryz.ntmps98
     go_wp2_with (first | (refine wpList_box rfl 88 _ rfl _ rfl (bSl _) ?_) | fail)
     go_ret
     exact ⟨by rw [hf.out]; rfl, hw⟩
    ·have e_a : ((n : Int) == 0) = false := by simp; omega
     have hf : Hid (fitN 3 l m n = false) := hide (by unfold fitN; rw [e_z, e_r, e_a]; rfl)
     clear hl0 hm0 h_z h_r h_a
     go_enter Tryz.func98, Tryz.ntmps98
     go_wp2_with (first | (refine wpList_box rfl 88 _ rfl _ rfl (bSl _) ?_) | fail)
     go_ret
     exact ⟨by rw [hf.out]; rfl, hw⟩
   ·have e_r : decide (l ≤ m) = false := by simp; omega
    omega
  ·have e_z : (l == 0) = false := by simp; omega
   by_cases h_r : l ≤ m
   ·have e_r : decide (l ≤ m) = true := by simp; omega
    by_cases h_a : n = 0
    ·have e_a : ((n : Int) == 0) = true := by simp; omega
     have hf : Hid (fitN 3 l m n = true) := hide (by unfold fitN; rw [e_z, e_r, e_a]; rfl)
     clear hl0 hm0 h_z h_r h_a
     go_enter Tryz.func98, Tryz.ntmps98
     go_wp2_with (first | (refine wpList_box rfl 88 _ rfl _ rfl (bSl _) ?_) | fail)
     go_ret
     exact ⟨by rw [hf.out]; rfl, hw⟩
    ·have e_a : ((n : Int) == 0) = false := by simp; omega
     have hf : Hid (fitN 3 l m n = false) := hide (by unfold fitN; rw [e_z, e_r, e_a]; rfl)
     clear hl0 hm0 h_z h_r h_a
     go_enter Tryz.func98, Tryz.ntmps98
     go_wp2_with (first | (refine wpList_box rfl 88 _ rfl _ rfl (bSl _) ?_) | fail)
     go_ret
     exact ⟨by rw [hf.out]; rfl, hw⟩
   ·have e_r : decide (l ≤ m) = false := by simp; omega
    by_cases h_a : n = 0
    ·have e_a : ((n : Int) == 0) = true := by simp; omega
     have hf : Hid (fitN 3 l m n = false) := hide (by unfold fitN; rw [e_z, e_r, e_a]; rfl)
     clear hl0 hm0 h_z h_r h_a
     go_enter Tryz.func98, Tryz.ntmps98
     go_wp2_with (first | (refine wpList_box rfl 88 _ rfl _ rfl (bSl _) ?_) | fail)
     go_ret
     exact ⟨by rw [hf.out]; rfl, hw⟩
    ·have e_a : ((n : Int) == 0) = false := by simp; omega
     have hf : Hid (fitN 3 l m n = false) := hide (by unfold fitN; rw [e_z, e_r, e_a]; rfl)
     clear hl0 hm0 h_z h_r h_a
     go_enter Tryz.func98, Tryz.ntmps98
     go_wp2_with (first | (refine wpList_box rfl 88 _ rfl _ rfl (bSl _) ?_) | fail)
     go_ret
     exact ⟨by rw [hf.out]; rfl, hw⟩
 ·skip
  by_cases h_z : l = 0
  ·have e_z : (l == 0) = true := by simp; omega
   by_cases h_m : m = 0
   ·have e_m : (m == 0) = true := by simp; omega
    by_cases h_a : n = 0
    ·have e_a : ((n : Int) == 0) = true := by simp; omega
     have hf : Hid (fitN 4 l m n = true) := hide (by unfold fitN; rw [e_z, e_m, e_a]; rfl)
     clear hl0 hm0 h_z h_m h_a
     go_enter Tryz.func98, Tryz.ntmps98
     go_wp2_with (first | (refine wpList_box rfl 88 _ rfl _ rfl (bSl _) ?_) | fail)
     go_ret
     exact ⟨by rw [hf.out]; rfl, hw⟩
    ·have e_a : ((n : Int) == 0) = false := by simp; omega
     have hf : Hid (fitN 4 l m n = false) := hide (by unfold fitN; rw [e_z, e_m, e_a]; rfl)
     clear hl0 hm0 h_z h_m h_a
     go_enter Tryz.func98, Tryz.ntmps98
     go_wp2_with (first | (refine wpList_box rfl 88 _ rfl _ rfl (bSl _) ?_) | fail)
     go_ret
     exact ⟨by rw [hf.out]; rfl, hw⟩
   ·have e_m : (m == 0) = false := by simp; omega
    by_cases h_a : n = 0
    ·have e_a : ((n : Int) == 0) = true := by simp; omega
     have hf : Hid (fitN 4 l m n = false) := hide (by unfold fitN; rw [e_z, e_m, e_a]; rfl)
     clear hl0 hm0 h_z h_m h_a
     go_enter Tryz.func98, Tryz.ntmps98
     go_wp2_with (first | (refine wpList_box rfl 88 _ rfl _ rfl (bSl _) ?_) | fail)
     go_ret
     exact ⟨by rw [hf.out]; rfl, hw⟩
    ·have e_a : ((n : Int) == 0) = false := by simp; omega
     have hf : Hid (fitN 4 l m n = false) := hide (by unfold fitN; rw [e_z, e_m, e_a]; rfl)
     clear hl0 hm0 h_z h_m h_a
     go_enter Tryz.func98, Tryz.ntmps98
     go_wp2_with (first | (refine wpList_box rfl 88 _ rfl _ rfl (bSl _) ?_) | fail)
     go_ret
     exact ⟨by rw [hf.out]; rfl, hw⟩
  ·have e_z : (l == 0) = false := by simp; omega
   by_cases h_m : m = 0
   ·have e_m : (m == 0) = true := by simp; omega
    by_cases h_a : n = 0
    ·have e_a : ((n : Int) == 0) = true := by simp; omega
     have hf : Hid (fitN 4 l m n = false) := hide (by unfold fitN; rw [e_z, e_m, e_a]; rfl)
     clear hl0 hm0 h_z h_m h_a
     go_enter Tryz.func98, Tryz.ntmps98
     go_wp2_with (first | (refine wpList_box rfl 88 _ rfl _ rfl (bSl _) ?_) | fail)
     go_ret
     exact ⟨by rw [hf.out]; rfl, hw⟩
    ·have e_a : ((n : Int) == 0) = false := by simp; omega
     have hf : Hid (fitN 4 l m n = false) := hide (by unfold fitN; rw [e_z, e_m, e_a]; rfl)
     clear hl0 hm0 h_z h_m h_a
     go_enter Tryz.func98, Tryz.ntmps98
     go_wp2_with (first | (refine wpList_box rfl 88 _ rfl _ rfl (bSl _) ?_) | fail)
     go_ret
     exact ⟨by rw [hf.out]; rfl, hw⟩
   ·have e_m : (m == 0) = false := by simp; omega
    by_cases h_a : n = 0
    ·have e_a : ((n : Int) == 0) = true := by simp; omega
     have hf : Hid (fitN 4 l m n = false) := hide (by unfold fitN; rw [e_z, e_m, e_a]; rfl)
     clear hl0 hm0 h_z h_m h_a
     go_enter Tryz.func98, Tryz.ntmps98
     go_wp2_with (first | (refine wpList_box rfl 88 _ rfl _ rfl (bSl _) ?_) | fail)
     go_ret
     exact ⟨by rw [hf.out]; rfl, hw⟩
    ·have e_a : ((n : Int) == 0) = false := by simp; omega
     have hf : Hid (fitN 4 l m n = false) := hide (by unfold fitN; rw [e_z, e_m, e_a]; rfl)
     clear hl0 hm0 h_z h_m h_a
     go_enter Tryz.func98, Tryz.ntmps98
     go_wp2_with (first | (refine wpList_box rfl 88 _ rfl _ rfl (bSl _) ?_) | fail)
     go_ret
     exact ⟨by rw [hf.out]; rfl, hw⟩
 ·skip
  by_cases h_z : l = 0
  ·have e_z : (l == 0) = true := by simp; omega
   by_cases h_r : l ≤ m
   ·have e_r : decide (l ≤ m) = true := by simp; omega
    by_cases h_a : n = 0
    ·have e_a : ((n : Int) == 0) = true := by simp; omega
     by_cases h_6 : m ≤ 4194304
     ·have e_6 : decide (m ≤ 4194304) = true := by simp; omega
      have hf : Hid (fitN 5 l m n = true) := hide (by unfold fitN; rw [e_z, e_r, e_a, e_6]; rfl)
      clear hl0 hm0 h_z h_r h_a h_6
      go_enter Tryz.func98, Tryz.ntmps98
      go_wp2_with (first | (refine wpList_box rfl 88 _ rfl _ rfl (bSl _) ?_) | fail)
      go_ret
      exact ⟨by rw [hf.out]; rfl, hw⟩
     ·have e_6 : decide (m ≤ 4194304) = false := by simp; omega
      have hf : Hid (fitN 5 l m n = false) := hide (by unfold fitN; rw [e_z, e_r, e_a, e_6]; rfl)
      clear hl0 hm0 h_z h_r h_a h_6
      go_enter Tryz.func98, Tryz.ntmps98
      go_wp2_with (first | (refine wpList_box rfl 88 _ rfl _ rfl (bSl _) ?_) | fail)
      go_ret
      exact ⟨by rw [hf.out]; rfl, hw⟩
    ·have e_a : ((n : Int) == 0) = false := by simp; omega
     by_cases h_6 : m ≤ 4194304
     ·have e_6 : decide (m ≤ 4194304) = true := by simp; omega
      have hf : Hid (fitN 5 l m n = false) := hide (by unfold fitN; rw [e_z, e_r, e_a, e_6]; rfl)
      clear hl0 hm0 h_z h_r h_a h_6
      go_enter Tryz.func98, Tryz.ntmps98
      go_wp2_with (first | (refine wpList_box rfl 88 _ rfl _ rfl (bSl _) ?_) | fail)
      go_ret
      exact ⟨by rw [hf.out]; rfl, hw⟩
     ·have e_6 : decide (m ≤ 4194304) = false := by simp; omega
      have hf : Hid (fitN 5 l m n = false) := hide (by unfold fitN; rw [e_z, e_r, e_a, e_6]; rfl)
      clear hl0 hm0 h_z h_r h_a h_6
      go_enter Tryz.func98, Tryz.ntmps98
      go_wp2_with (first | (refine wpList_box rfl 88 _ rfl _ rfl (bSl _) ?_) | fail)
      go_ret
      exact ⟨by rw [hf.out]; rfl, hw⟩
   ·have e_r : decide (l ≤ m) = false := by simp; omega
    omega
  ·have e_z : (l == 0) = false := by simp; omega
   by_cases h_r : l ≤ m
   ·have e_r : decide (l ≤ m) = true := by simp; omega
    by_cases h_a : n = 0
    ·have e_a : ((n : Int) == 0) = true := by simp; omega
     by_cases h_6 : m ≤ 4194304
     ·have e_6 : decide (m ≤ 4194304) = true := by simp; omega
      have hf : Hid (fitN 5 l m n = true) := hide (by unfold fitN; rw [e_z, e_r, e_a, e_6]; rfl)
      clear hl0 hm0 h_z h_r h_a h_6
      go_enter Tryz.func98, Tryz.ntmps98
      go_wp2_with (first | (refine wpList_box rfl 88 _ rfl _ rfl (bSl _) ?_) | fail)
      go_ret
      exact ⟨by rw [hf.out]; rfl, hw⟩
     ·have e_6 : decide (m ≤ 4194304) = false := by simp; omega
      have hf : Hid (fitN 5 l m n = false) := hide (by unfold fitN; rw [e_z, e_r, e_a, e_6]; rfl)
      clear hl0 hm0 h_z h_r h_a h_6
      go_enter Tryz.func98, Tryz.ntmps98
      go_wp2_with (first | (refine wpList_box rfl 88 _ rfl _ rfl (bSl _) ?_) | fail)
      go_ret
      exact ⟨by rw [hf.out]; rfl, hw⟩
    ·have e_a : ((n : Int) == 0) = false := by simp; omega
     by_cases h_6 : m ≤ 4194304
     ·have e_6 : decide (m ≤ 4194304) = true := by simp; omega
      have hf : Hid (fitN 5 l m n = false) := hide (by unfold fitN; rw [e_z, e_r, e_a, e_6]; rfl)
      clear hl0 hm0 h_z h_r h_a h_6
      go_enter Tryz.func98, Tryz.ntmps98
      go_wp2_with (first | (refine wpList_box rfl 88 _ rfl _ rfl (bSl _) ?_) | fail)
      go_ret
      exact ⟨by rw [hf.out]; rfl, hw⟩
     ·have e_6 : decide (m ≤ 4194304) = false := by simp; omega
      have hf : Hid (fitN 5 l m n = false) := hide (by unfold fitN; rw [e_z, e_r, e_a, e_6]; rfl)
      clear hl0 hm0 h_z h_r h_a h_6
      go_enter Tryz.func98, Tryz.ntmps98
      go_wp2_with (first | (refine wpList_box rfl 88 _ rfl _ rfl (bSl _) ?_) | fail)
      go_ret
      exact ⟨by rw [hf.out]; rfl, hw⟩
   ·have e_r : decide (l ≤ m) = false := by simp; omega
    by_cases h_a : n = 0
    ·have e_a : ((n : Int) == 0) = true := by simp; omega
     by_cases h_6 : m ≤ 4194304
     ·have e_6 : decide (m ≤ 4194304) = true := by simp; omega
      have hf : Hid (fitN 5 l m n = false) := hide (by unfold fitN; rw [e_z, e_r, e_a, e_6]; rfl)
      clear hl0 hm0 h_z h_r h_a h_6
      go_enter Tryz.func98, Tryz.ntmps98
      go_wp2_with (first | (refine wpList_box rfl 88 _ rfl _ rfl (bSl _) ?_) | fail)
      go_ret
      exact ⟨by rw [hf.out]; rfl, hw⟩
     ·have e_6 : decide (m ≤ 4194304) = false := by simp; omega
      have hf : Hid (fitN 5 l m n = false) := hide (by unfold fitN; rw [e_z, e_r, e_a, e_6]; rfl)
      clear hl0 hm0 h_z h_r h_a h_6
      go_enter Tryz.func98, Tryz.ntmps98
      go_wp2_with (first | (refine wpList_box rfl 88 _ rfl _ rfl (bSl _) ?_) | fail)
      go_ret
      exact ⟨by rw [hf.out]; rfl, hw⟩
    ·have e_a : ((n : Int) == 0) = false := by simp; omega
     by_cases h_6 : m ≤ 4194304
     ·have e_6 : decide (m ≤ 4194304) = true := by simp; omega
      have hf : Hid (fitN 5 l m n = false) := hide (by unfold fitN; rw [e_z, e_r, e_a, e_6]; rfl)
      clear hl0 hm0 h_z h_r h_a h_6
      go_enter Tryz.func98, Tryz.ntmps98
      go_wp2_with (first | (refine wpList_box rfl 88 _ rfl _ rfl (bSl _) ?_) | fail)
      go_ret
      exact ⟨by rw [hf.out]; rfl, hw⟩
     ·have e_6 : decide (m ≤ 4194304) = false := by simp; omega
      have hf : Hid (fitN 5 l m n = false) := hide (by unfold fitN; rw [e_z, e_r, e_a, e_6]; rfl)
      clear hl0 hm0 h_z h_r h_a h_6
      go_enter Tryz.func98, Tryz.ntmps98
      go_wp2_with (first | (refine wpList_box rfl 88 _ rfl _ rfl (bSl _) ?_) | fail)
      go_ret
      exact ⟨by rw [hf.out]; rfl, hw⟩
 ·skip
  by_cases h_z : l = 0
  ·have e_z : (l == 0) = true := by simp; omega
   by_cases h_r : l ≤ m
   ·have e_r : decide (l ≤ m) = true := by simp; omega
    by_cases h_a : n = 0
    ·have e_a : ((n : Int) == 0) = true := by simp; omega
     by_cases h_6 : m ≤ 4194304
     ·have e_6 : decide (m ≤ 4194304) = true := by simp; omega
      have hf : Hid (fitN 6 l m n = true) := hide (by unfold fitN; rw [e_z, e_r, e_a, e_6]; rfl)
      clear hl0 hm0 h_z h_r h_a h_6
      go_enter Tryz.func98, Tryz.ntmps98
      go_wp2_with (first | (refine wpList_box rfl 88 _ rfl _ rfl (bSl _) ?_) | fail)
      go_ret
      exact ⟨by rw [hf.out]; rfl, hw⟩
     ·have e_6 : decide (m ≤ 4194304) = false := by simp; omega
      have hf : Hid (fitN 6 l m n = false) := hide (by unfold fitN; rw [e_z, e_r, e_a, e_6]; rfl)
      clear hl0 hm0 h_z h_r h_a h_6
      go_enter Tryz.func98, Tryz.ntmps98
      go_wp2_with (first | (refine wpList_box rfl 88 _ rfl _ rfl (bSl _) ?_) | fail)
      go_ret
      exact ⟨by rw [hf.out]; rfl, hw⟩
    ·have e_a : ((n : Int) == 0) = false := by simp; omega
     by_cases h_6 : m ≤ 4194304
     ·have e_6 : decide (m ≤ 4194304) = true := by simp; omega
      have hf : Hid (fitN 6 l m n = false) := hide (by unfold fitN; rw [e_z, e_r, e_a, e_6]; rfl)
      clear hl0 hm0 h_z h_r h_a h_6
      go_enter Tryz.func98, Tryz.ntmps98
      go_wp2_with (first | (refine wpList_box rfl 88 _ rfl _ rfl (bSl _) ?_) | fail)
      go_ret
      exact ⟨by rw [hf.out]; rfl, hw⟩
     ·have e_6 : decide (m ≤ 4194304) = false := by simp; omega
      have hf : Hid (fitN 6 l m n = false) := hide (by unfold fitN; rw [e_z, e_r, e_a, e_6]; rfl)
      clear hl0 hm0 h_z h_r h_a h_6
      go_enter Tryz.func98, Tryz.ntmps98
      go_wp2_with (first | (refine wpList_box rfl 88 _ rfl _ rfl (bSl _) ?_) | fail)
      go_ret
      exact ⟨by rw [hf.out]; rfl, hw⟩
   ·have e_r : decide (l ≤ m) = false := by simp; omega
    omega
  ·have e_z : (l == 0) = false := by simp; omega
   by_cases h_r : l ≤ m
   ·have e_r : decide (l ≤ m) = true := by simp; omega
    by_cases h_a : n = 0
    ·have e_a : ((n : Int) == 0) = true := by simp; omega
     by_cases h_6 : m ≤ 4194304
     ·have e_6 : decide (m ≤ 4194304) = true := by simp; omega
      have hf : Hid (fitN 6 l m n = true) := hide (by unfold fitN; rw [e_z, e_r, e_a, e_6]; rfl)
      clear hl0 hm0 h_z h_r h_a h_6
      go_enter Tryz.func98, Tryz.ntmps98
      go_wp2_with (first | (refine wpList_box rfl 88 _ rfl _ rfl (bSl _) ?_) | fail)
      go_ret
      exact ⟨by rw [hf.out]; rfl, hw⟩
     ·have e_6 : decide (m ≤ 4194304) = false := by simp; omega
      have hf : Hid (fitN 6 l m n = false) := hide (by unfold fitN; rw [e_z, e_r, e_a, e_6]; rfl)
      clear hl0 hm0 h_z h_r h_a h_6
      go_enter Tryz.func98, Tryz.ntmps98
      go_wp2_with (first | (refine wpList_box rfl 88 _ rfl _ rfl (bSl _) ?_) | fail)
      go_ret
      exact ⟨by rw [hf.out]; rfl, hw⟩
    ·have e_a : ((n : Int) == 0) = false := by simp; omega
     by_cases h_6 : m ≤ 4194304
     ·have e_6 : decide (m ≤ 4194304) = true := by simp; omega
      have hf : Hid (fitN 6 l m n = false) := hide (by unfold fitN; rw [e_z, e_r, e_a, e_6]; rfl)
      clear hl0 hm0 h_z h_r h_a h_6
      go_enter Tryz.func98, Tryz.ntmps98
      go_wp2_with (first | (refine wpList_box rfl 88 _ rfl _ rfl (bSl _) ?_) | fail)
      go_ret
      exact ⟨by rw [hf.out]; rfl, hw⟩
     ·have e_6 : decide (m ≤ 4194304) = false := by simp; omega
      have hf : Hid (fitN 6 l m n = false) := hide (by unfold fitN; rw [e_z, e_r, e_a, e_6]; rfl)
      clear hl0 hm0 h_z h_r h_a h_6
      go_enter Tryz.func98, Tryz.ntmps98
      go_wp2_with (first | (refine wpList_box rfl 88 _ rfl _ rfl (bSl _) ?_) | fail)
      go_ret
      exact ⟨by rw [hf.out]; rfl, hw⟩
   ·have e_r : decide (l ≤ m) = false := by simp; omega
    by_cases h_a : n = 0
    ·have e_a : ((n : Int) == 0) = true := by simp; omega
     by_cases h_6 : m ≤ 4194304
     ·have e_6 : decide (m ≤ 4194304) = true := by simp; omega
      have hf : Hid (fitN 6 l m n = false) := hide (by unfold fitN; rw [e_z, e_r, e_a, e_6]; rfl)
      clear hl0 hm0 h_z h_r h_a h_6
      go_enter Tryz.func98, Tryz.ntmps98
      go_wp2_with (first | (refine wpList_box rfl 88 _ rfl _ rfl (bSl _) ?_) | fail)
      go_ret
      exact ⟨by rw [hf.out]; rfl, hw⟩
     ·have e_6 : decide (m ≤ 4194304) = false := by simp; omega
      have hf : Hid (fitN 6 l m n = false) := hide (by unfold fitN; rw [e_z, e_r, e_a, e_6]; rfl)
      clear hl0 hm0 h_z h_r h_a h_6
      go_enter Tryz.func98, Tryz.ntmps98
      go_wp2_with (first | (refine wpList_box rfl 88 _ rfl _ rfl (bSl _) ?_) | fail)
      go_ret
      exact ⟨by rw [hf.out]; rfl, hw⟩
    ·have e_a : ((n : Int) == 0) = false := by simp; omega
     by_cases h_6 : m ≤ 4194304
     ·have e_6 : decide (m ≤ 4194304) = true := by simp; omega
      have hf : Hid (fitN 6 l m n = false) := hide (by unfold fitN; rw [e_z, e_r, e_a, e_6]; rfl)
      clear hl0 hm0 h_z h_r h_a h_6
      go_enter Tryz.func98, Tryz.ntmps98
      go_wp2_with (first | (refine wpList_box rfl 88 _ rfl _ rfl (bSl _) ?_) | fail)
      go_ret
      exact ⟨by rw [hf.out]; rfl, hw⟩
     ·have e_6 : decide (m ≤ 4194304) = false := by simp; omega
      have hf : Hid (fitN 6 l m n = false) := hide (by unfold fitN; rw [e_z, e_r, e_a, e_6]; rfl)
      clear hl0 hm0 h_z h_r h_a h_6
      go_enter Tryz.func98, Tryz.ntmps98
      go_wp2_with (first | (refine wpList_box rfl 88 _ rfl _ rfl (bSl _) ?_) | fail)
      go_ret
      exact ⟨by rw [hf.out]; rfl, hw⟩
 ·skip
  by_cases h_z : l = 0
  ·have e_z : (l == 0) = true := by simp; omega
   by_cases h_7 : m ≤ 9007199254740992
   ·have e_7 : decide (m ≤ 9007199254740992) = true := by simp; omega
    by_cases h_a : n = 0
    ·have e_a : ((n : Int) == 0) = true := by simp; omega
     have hf : Hid (fitN 7 l m n = true) := hide (by unfold fitN; rw [e_z, e_7, e_a]; rfl)
     clear hl0 hm0 h_z h_7 h_a
     go_enter Tryz.func98, Tryz.ntmps98
     go_wp2_with (first | (refine wpList_box rfl 88 _ rfl _ rfl (bSl _) ?_) | fail)
     go_ret
     exact ⟨by rw [hf.out]; rfl, hw⟩
    ·have e_a : ((n : Int) == 0) = false := by simp; omega
     have hf : Hid (fitN 7 l m n = false) := hide (by unfold fitN; rw [e_z, e_7, e_a]; rfl)
     clear hl0 hm0 h_z h_7 h_a
     go_enter Tryz.func98, Tryz.ntmps98
     go_wp2_with (first | (refine wpList_box rfl 88 _ rfl _ rfl (bSl _) ?_) | fail)
     go_ret
     exact ⟨by rw [hf.out]; rfl, hw⟩
   ·have e_7 : decide (m ≤ 9007199254740992) = false := by simp; omega
    by_cases h_a : n = 0
    ·have e_a : ((n : Int) == 0) = true := by simp; omega
     have hf : Hid (fitN 7 l m n = false) := hide (by unfold fitN; rw [e_z, e_7, e_a]; rfl)
     clear hl0 hm0 h_z h_7 h_a
     go_enter Tryz.func98, Tryz.ntmps98
     go_wp2_with (first | (refine wpList_box rfl 88 _ rfl _ rfl (bSl _) ?_) | fail)
     go_ret
     exact ⟨by rw [hf.out]; rfl, hw⟩
    ·have e_a : ((n : Int) == 0) = false := by simp; omega
     have hf : Hid (fitN 7 l m n = false) := hide (by unfold fitN; rw [e_z, e_7, e_a]; rfl)
     clear hl0 hm0 h_z h_7 h_a
     go_enter Tryz.func98, Tryz.ntmps98
     go_wp2_with (first | (refine wpList_box rfl 88 _ rfl _ rfl (bSl _) ?_) | fail)
     go_ret
     exact ⟨by rw [hf.out]; rfl, hw⟩
  ·have e_z : (l == 0) = false := by simp; omega
   by_cases h_7 : m ≤ 9007199254740992
   ·have e_7 : decide (m ≤ 9007199254740992) = true := by simp; omega
    by_cases h_a : n = 0
    ·have e_a : ((n : Int) == 0) = true := by simp; omega
     have hf : Hid (fitN 7 l m n = false) := hide (by unfold fitN; rw [e_z, e_7, e_a]; rfl)
     clear hl0 hm0 h_z h_7 h_a
     go_enter Tryz.func98, Tryz.ntmps98
     go_wp2_with (first | (refine wpList_box rfl 88 _ rfl _ rfl (bSl _) ?_) | fail)
     go_ret
     exact ⟨by rw [hf.out]; rfl, hw⟩
    ·have e_a : ((n : Int) == 0) = false := by simp; omega
     have hf : Hid (fitN 7 l m n = false) := hide (by unfold fitN; rw [e_z, e_7, e_a]; rfl)
     clear hl0 hm0 h_z h_7 h_a
     go_enter Tryz.func98, Tryz.ntmps98
     go_wp2_with (first | (refine wpList_box rfl 88 _ rfl _ rfl (bSl _) ?_) | fail)
     go_ret
     exact ⟨by rw [hf.out]; rfl, hw⟩
   ·have e_7 : decide (m ≤ 9007199254740992) = false := by simp; omega
    by_cases h_a : n = 0
    ·have e_a : ((n : Int) == 0) = true := by simp; omega
     have hf : Hid (fitN 7 l m n = false) := hide (by unfold fitN; rw [e_z, e_7, e_a]; rfl)
     clear hl0 hm0 h_z h_7 h_a
     go_enter Tryz.func98, Tryz.ntmps98
     go_wp2_with (first | (refine wpList_box rfl 88 _ rfl _ rfl (bSl _) ?_) | fail)
     go_ret
     exact ⟨by rw [hf.out]; rfl, hw⟩
    ·have e_a : ((n : Int) == 0) = false := by simp; omega
     have hf : Hid (fitN 7 l m n = false) := hide (by unfold fitN; rw [e_z, e_7, e_a]; rfl)
     clear hl0 hm0 h_z h_7 h_a
     go_enter Tryz.func98, Tryz.ntmps98
     go_wp2_with (first | (refine wpList_box rfl 88 _ rfl _ rfl (bSl _) ?_) | fail)
     go_ret
     exact ⟨by rw [hf.out]; rfl, hw⟩
 ·skip
  by_cases h_z : l = 0
  ·have e_z : (l == 0) = true := by simp; omega
   by_cases h_m : m = 0
   ·have e_m : (m == 0) = true := by simp; omega
    have hf : Hid (fitN 8 l m n = true) := hide (by unfold fitN; rw [e_z, e_m]; rfl)
    clear hl0 hm0 h_z h_m
    go_enter Tryz.func98, Tryz.ntmps98
    go_wp2_with (first | (refine wpList_box rfl 88 _ rfl _ rfl (bSl _) ?_) | fail)
    go_ret
    exact ⟨by rw [hf.out]; rfl, hw⟩
   ·have e_m : (m == 0) = false := by simp; omega
    have hf : Hid (fitN 8 l m n = false) := hide (by unfold fitN; rw [e_z, e_m]; rfl)
    clear hl0 hm0 h_z h_m
    go_enter Tryz.func98, Tryz.ntmps98
    go_wp2_with (first | (refine wpList_box rfl 88 _ rfl _ rfl (bSl _) ?_) | fail)
    go_ret
    exact ⟨by rw [hf.out]; rfl, hw⟩
  ·have e_z : (l == 0) = false := by simp; omega
   by_cases h_m : m = 0
   ·have e_m : (m == 0) = true := by simp; omega
    have hf : Hid (fitN 8 l m n = false) := hide (by unfold fitN; rw [e_z, e_m]; rfl)
    clear hl0 hm0 h_z h_m
    go_enter Tryz.func98, Tryz.ntmps98
    go_wp2_with (first | (refine wpList_box rfl 88 _ rfl _ rfl (bSl _) ?_) | fail)
    go_ret
    exact ⟨by rw [hf.out]; rfl, hw⟩
   ·have e_m : (m == 0) = false := by simp; omega
    have hf : Hid (fitN 8 l m n = false) := hide (by unfold fitN; rw [e_z, e_m]; rfl)
    clear hl0 hm0 h_z h_m
    go_enter Tryz.func98, Tryz.ntmps98
    go_wp2_with (first | (refine wpList_box rfl 88 _ rfl _ rfl (bSl _) ?_) | fail)
    go_ret
    exact ⟨by rw [hf.out]; rfl, hw⟩
 ·skip
  by_cases h_z : l = 0
  ·have e_z : (l == 0) = true := by simp; omega
   by_cases h_r : l ≤ m
   ·have e_r : decide (l ≤ m) = true := by simp; omega
    by_cases h_8 : m ≤ 4096
    ·have e_8 : decide (m ≤ 4096) = true := by simp; omega
     have hf : Hid (fitN 9 l m n = true) := hide (by unfold fitN; rw [e_z, e_r, e_8]; rfl)
     clear hl0 hm0 h_z h_r h_8
     go_enter Tryz.func98, Tryz.ntmps98
     go_wp2_with (first | (refine wpList_box rfl 88 _ rfl _ rfl (bSl _) ?_) | fail)
     go_ret
     exact ⟨by rw [hf.out]; rfl, hw⟩
    ·have e_8 : decide (m ≤ 4096) = false := by simp; omega
     have hf : Hid (fitN 9 l m n = false) := hide (by unfold fitN; rw [e_z, e_r, e_8]; rfl)
     clear hl0 hm0 h_z h_r h_8
     go_enter Tryz.func98, Tryz.ntmps98
     go_wp2_with (first | (refine wpList_box rfl 88 _ rfl _ rfl (bSl _) ?_) | fail)
     go_ret
     exact ⟨by rw [hf.out]; rfl, hw⟩
   ·have e_r : decide (l ≤ m) = false := by simp; omega
    omega
  ·have e_z : (l == 0) = false := by simp; omega
   by_cases h_r : l ≤ m
   ·have e_r : decide (l ≤ m) = true := by simp; omega
    by_cases h_8 : m ≤ 4096
    ·have e_8 : decide (m ≤ 4096) = true := by simp; omega
     have hf : Hid (fitN 9 l m n = true) := hide (by unfold fitN; rw [e_z, e_r, e_8]; rfl)
     clear hl0 hm0 h_z h_r h_8
     go_enter Tryz.func98, Tryz.ntmps98
     go_wp2_with (first | (refine wpList_box rfl 88 _ rfl _ rfl (bSl _) ?_) | fail)
     go_ret
     exact ⟨by rw [hf.out]; rfl, hw⟩
    ·have e_8 : decide (m ≤ 4096) = false := by simp; omega
     have hf : Hid (fitN 9 l m n = false) := hide (by unfold fitN; rw [e_z, e_r, e_8]; rfl)
     clear hl0 hm0 h_z h_r h_8
     go_enter Tryz.func98, Tryz.ntmps98
     go_wp2_with (first | (refine wpList_box rfl 88 _ rfl _ rfl (bSl _) ?_) | fail)
     go_ret
     exact ⟨by rw [hf.out]; rfl, hw⟩
   ·have e_r : decide (l ≤ m) = false := by simp; omega
    by_cases h_8 : m ≤ 4096
    ·have e_8 : decide (m ≤ 4096) = true := by simp; omega
     have hf : Hid (fitN 9 l m n = false) := hide (by unfold fitN; rw [e_z, e_r, e_8]; rfl)
     clear hl0 hm0 h_z h_r h_8
     go_enter Tryz.func98, Tryz.ntmps98
     go_wp2_with (first | (refine wpList_box rfl 88 _ rfl _ rfl (bSl _) ?_) | fail)
     go_ret
     exact ⟨by rw [hf.out]; rfl, hw⟩
    ·have e_8 : decide (m ≤ 4096) = false := by simp; omega
     have hf : Hid (fitN 9 l m n = false) := hide (by unfold fitN; rw [e_z, e_r, e_8]; rfl)
     clear hl0 hm0 h_z h_r h_8
     go_enter Tryz.func98, Tryz.ntmps98
     go_wp2_with (first | (refine wpList_box rfl 88 _ rfl _ rfl (bSl _) ?_) | fail)
     go_ret
     exact ⟨by rw [hf.out]; rfl, hw⟩
 ·have q1 : (k == 1) = false := by simpa using h1
  have q2 : (k == 2) = false := by simpa using h2
  have q3 : (k == 3) = false := by simpa using h3
  have q4 : (k == 4) = false := by simpa using h4
  have q5 : (k == 5) = false := by simpa using h5
  have q6 : (k == 6) = false := by simpa using h6
  have q7 : (k == 7) = false := by simpa using h7
  have q8 : (k == 8) = false := by simpa using h8
  have q9 : (k == 9) = false := by simpa using h9
  by_cases h_z : l = 0
  ·have e_z : (l == 0) = true := by simp; omega
   have hf : Hid (fitN k l m n = false) := hide (by unfold fitN fitB; rw [if_neg (by omega), if_neg h2, if_neg h4, if_neg (by omega), if_neg h7, if_neg h8, if_neg h9])
   clear hl0 hm0 h_z h1 h2 h3 h4 h5 h6 h7 h8 h9
   go_enter Tryz.func98, Tryz.ntmps98
   go_wp2_with (first | (refine wpList_box rfl 88 _ rfl _ rfl (bSl _) ?_) | fail)
   go_ret
   exact ⟨by rw [hf.out]; rfl, hw⟩
  ·have e_z : (l == 0) = false := by simp; omega
   have hf : Hid (fitN k l m n = false) := hide (by unfold fitN fitB; rw [if_neg (by omega), if_neg h2, if_neg h4, if_neg (by omega), if_neg h7, if_neg h8, if_neg h9])
   clear hl0 hm0 h_z h1 h2 h3 h4 h5 h6 h7 h8 h9
   go_enter Tryz.func98, Tryz.ntmps98
   go_wp2_with (first | (refine wpList_box rfl 88 _ rfl _ rfl (bSl _) ?_) | fail)
   go_ret
   exact ⟨by rw [hf.out]; rfl, hw⟩
end Go.Proofs.YtejcggjmbjmoeaaGreatDoor

