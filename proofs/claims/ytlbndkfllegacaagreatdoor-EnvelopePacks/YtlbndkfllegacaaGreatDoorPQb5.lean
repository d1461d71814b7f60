import Derived.Test.YtlbndkfllegacaaGreatDoorPQb0
import Derived.Test.YtlbndkfllegacaaGreatDoorPUa
import Derived.Test.YtlbndkfllegacaaGreatDoorPQb3
namespace Go.Proofs.YtlbndkfllegacaaGreatDoor
set_option maxRecDepth 100000
open Go Go.RowKit Go.Sort
attribute [local go_sem] setCell_drewN alloc_drewN
def slr (t : Slt) (u : Value) : Array Value := #[.int .i64 t.no, .int .i64 t.kind, .int .u64 (t.least : Int), .int .u64 (t.most : Int), u]
set_option maxRecDepth 100000 in
set_option maxHeartbeats 4000000 in
theorem r_within (n : Int) (no k l m : Int) (so : Option Addr) (sn sc : Nat) (w : World) : Calls Tryz.prog 117 #[.int .u64 n, .agg #[.int .i64 no, .int .i64 k, .int .u64 l, .int .u64 m, .slice so sn sc]] w fun e w' => e = .returned (.bool (wth n l m == 0)) ∧ Below w.heap.size w w' := by
 have hb : ∀ o, Below w.heap.size w (w.alloc o) := fun o => (Below.refl _ _).alloc (Nat.le_refl _) _
 rcases Int.lt_or_le n l with q | q
 · have e : (wth n l m == 0) = false := by unfold wth; rw [if_pos (.inl q)]; rfl
   have hd : decide (n ≥ l) = false := by simpa using q
   rw [e]
   go_enter Tryz.func117, Tryz.ntmps117
   go_wp2
   go_ret
   exact ⟨rfl, hb _⟩
 · have hd : decide (n ≥ l) = true := by simpa using q
   rcases Int.lt_or_le m n with q2 | q2
   · have e : (wth n l m == 0) = false := by unfold wth; rw [if_pos (.inr q2)]; rfl
     have hd2 : decide (n ≤ m) = false := by simpa using q2
     rw [e]
     go_enter Tryz.func117, Tryz.ntmps117
     go_wp2
     go_ret
     exact ⟨rfl, hb _⟩
   · have e : (wth n l m == 0) = true := by unfold wth; rw [if_neg (by omega)]; rfl
     have hd2 : decide (n ≤ m) = true := by simpa using q2
     rw [e]
     go_enter Tryz.func117, Tryz.ntmps117
     go_wp2
     go_ret
     exact ⟨rfl, hb _⟩
def plE (t : Slt) (x : VR) : Int := if pbad (t.kind == 5) x.num x.dl x.pl then 84 else ftE t x
theorem infoSlt : (Tryz.prog.info? 111).map (·.size) = some 5 := by kernel_rfl
theorem wth_two (n l m : Int) : wth n l m = 0 ∨ wth n l m = 83 := by unfold wth; split; exact .inr rfl; exact .inl rfl
set_option maxRecDepth 100000 in
set_option maxHeartbeats 8000000 in
theorem r_plainN (no k l m : Int) (hk : k = 1 ∨ k = 2 ∨ k = 3) (so : Option Addr) (sn sc : Nat) (n : Nat) (da : Option Addr) (dl dc : Nat) (pa : Option Addr) (pl pc : Nat) (w : World) :
   Calls Tryz.prog 115 #[.agg #[.int .i64 no, .int .i64 k, .int .u64 l, .int .u64 m, .slice so sn sc], .agg #[.int .u64 (n : Int), .slice da dl dc, .slice pa pl pc]] w fun e w' => e = .returned (.int .i64 (if pbad false n dl pl then 84 else wth (n : Int) l m)) ∧ Below w.heap.size w w' := by
 have hb : Below w.heap.size w ((w.alloc (.cells #[.int .i64 no, .int .i64 k, .int .u64 l, .int .u64 m, .slice so sn sc] 111)).alloc (.cells #[.int .u64 (n : Int), .slice da dl dc, .slice pa pl pc] 76)) := ((Below.refl _ _).alloc (Nat.le_refl _) _).alloc (by simp) _
 have r0 := hp2_0 w (.cells #[.int .i64 no, .int .i64 k, .int .u64 l, .int .u64 m, .slice so sn sc] 111) (.cells #[.int .u64 (n : Int), .slice da dl dc, .slice pa pl pc] 76)
 have cW := r_within (n : Int) no k l m so sn sc
 obtain ⟨R, hR⟩ : ∃ R, (if pbad false n dl pl then 84 else wth (n : Int) l m) = R := ⟨_, rfl⟩
 rw [hR]
 rcases hbad : pbad false n dl pl
 · rw [hbad, if_neg Bool.false_ne_true] at hR
   obtain rfl : pl = 0 := by
     rcases Nat.eq_zero_or_pos pl with q | q
     · exact q
     · simp [pbad, q] at hbad
   obtain rfl : dl = 0 := by
     rcases Nat.eq_zero_or_pos dl with q | q
     · exact q
     · simp [pbad, q] at hbad
   clear hbad
   rcases wth_two (n : Int) l m with hz | hz
   · rw [hz] at cW hR
     replace cW : ∀ V, Calls Tryz.prog 117 #[.int .u64 (n : Int), .agg #[.int .i64 no, .int .i64 k, .int .u64 l, .int .u64 m, .slice so sn sc]] V fun e w' => e = .returned (.bool true) ∧ Below V.heap.size V w' := cW
     replace hR := hide hR
     clear hz
     rcases hk with rfl | rfl | rfl
     all_goals
       go_enter Tryz.func115, Tryz.ntmps115
       go_wp2_with (first | (refine wpList_load_want rfl 111 _ rfl w.heap.size rfl 111 _ (0, 0) _ r0 Tryz.underlying111 rfl infoSlt ?_) | fail)
       refine (cW _).mono ?_
       rintro e_ w1 ⟨rfl, hb1⟩
       replace hb1 := Below.after hb hb1
       go_wp2
       go_ret
       exact ⟨by rw [← hR.out]; rfl, hb1⟩
   · rw [hz] at cW hR
     replace cW : ∀ V, Calls Tryz.prog 117 #[.int .u64 (n : Int), .agg #[.int .i64 no, .int .i64 k, .int .u64 l, .int .u64 m, .slice so sn sc]] V fun e w' => e = .returned (.bool false) ∧ Below V.heap.size V w' := cW
     replace hR := hide hR
     clear hz
     rcases hk with rfl | rfl | rfl
     all_goals
       go_enter Tryz.func115, Tryz.ntmps115
       go_wp2_with (first | (refine wpList_load_want rfl 111 _ rfl w.heap.size rfl 111 _ (0, 0) _ r0 Tryz.underlying111 rfl infoSlt ?_) | fail)
       refine (cW _).mono ?_
       rintro e_ w1 ⟨rfl, hb1⟩
       replace hb1 := Below.after hb hb1
       go_wp2
       go_ret
       exact ⟨by rw [← hR.out]; rfl, hb1⟩
 · rw [hbad, if_pos rfl] at hR
   replace hR := hide hR
   rcases Nat.eq_zero_or_pos dl with rfl | hdp
   · have hq : 0 < pl := by simpa [pbad] using hbad
     have hd : decide ((pl : Int) > 0) = true := by simp; omega
     clear hbad
     rcases hk with rfl | rfl | rfl
     all_goals
       go_enter Tryz.func115, Tryz.ntmps115
       go_wp2
       go_ret
       exact ⟨by rw [← hR.out]; rfl, hb⟩
   · have hd : decide ((dl : Int) > 0) = true := by simp; omega
     clear hbad
     rcases hk with rfl | rfl | rfl
     all_goals
       go_enter Tryz.func115, Tryz.ntmps115
       go_wp2
       go_ret
       exact ⟨by rw [← hR.out]; rfl, hb⟩
set_option maxRecDepth 100000 in
set_option maxHeartbeats 8000000 in
theorem r_plainB (no k l m : Int) (hk : k = 5) (so : Option Addr) (sn sc : Nat) (n : Nat) (da : Option Addr) (dl dc : Nat) (hdl : dl < 9223372036854775808) (pa : Option Addr) (pl pc : Nat) (w : World) :
   Calls Tryz.prog 115 #[.agg #[.int .i64 no, .int .i64 k, .int .u64 l, .int .u64 m, .slice so sn sc], .agg #[.int .u64 (n : Int), .slice da dl dc, .slice pa pl pc]] w fun e w' => e = .returned (.int .i64 (if pbad true n dl pl then 84 else wth (dl : Int) l m)) ∧ Below w.heap.size w w' := by
 have hb : Below w.heap.size w ((w.alloc (.cells #[.int .i64 no, .int .i64 k, .int .u64 l, .int .u64 m, .slice so sn sc] 111)).alloc (.cells #[.int .u64 (n : Int), .slice da dl dc, .slice pa pl pc] 76)) := ((Below.refl _ _).alloc (Nat.le_refl _) _).alloc (by simp) _
 have r0 := hp2_0 w (.cells #[.int .i64 no, .int .i64 k, .int .u64 l, .int .u64 m, .slice so sn sc] 111) (.cells #[.int .u64 (n : Int), .slice da dl dc, .slice pa pl pc] 76)
 have cW := r_within (dl : Int) no k l m so sn sc
 obtain ⟨R, hR⟩ : ∃ R, (if pbad true n dl pl then 84 else wth (dl : Int) l m) = R := ⟨_, rfl⟩
 rw [hR]
 rcases hbad : pbad true n dl pl
 · rw [hbad, if_neg Bool.false_ne_true] at hR
   obtain rfl : pl = 0 := by
     rcases Nat.eq_zero_or_pos pl with q | q
     · exact q
     · simp [pbad, q] at hbad
   obtain rfl : n = 0 := by
     rcases Nat.eq_zero_or_pos n with q | q
     · exact q
     · simp [pbad, show n ≠ 0 by omega] at hbad
   clear hbad
   rcases wth_two (dl : Int) l m with hz | hz
   · rw [hz] at cW hR
     replace cW : ∀ V, Calls Tryz.prog 117 #[.int .u64 (dl : Int), .agg #[.int .i64 no, .int .i64 k, .int .u64 l, .int .u64 m, .slice so sn sc]] V fun e w' => e = .returned (.bool true) ∧ Below V.heap.size V w' := cW
     replace hR := hide hR
     clear hz
     subst hk
     all_goals
       go_enter Tryz.func115, Tryz.ntmps115
       go_wp2_with (first | (refine wpList_load_want rfl 111 _ rfl w.heap.size rfl 111 _ (0, 0) _ r0 Tryz.underlying111 rfl infoSlt ?_) | fail)
       refine (cW _).mono ?_
       rintro e_ w1 ⟨rfl, hb1⟩
       have c1 : w1.cell? ⟨w.heap.size, 1, none⟩ = some (.int .i64 5) := by rw [cell_of_row _ _ _ _ _ _ (keep hb1 r0)]; rfl
       replace hb1 := Below.after hb hb1
       go_wp2
       go_ret
       exact ⟨by rw [← hR.out]; rfl, hb1⟩
   · rw [hz] at cW hR
     replace cW : ∀ V, Calls Tryz.prog 117 #[.int .u64 (dl : Int), .agg #[.int .i64 no, .int .i64 k, .int .u64 l, .int .u64 m, .slice so sn sc]] V fun e w' => e = .returned (.bool false) ∧ Below V.heap.size V w' := cW
     replace hR := hide hR
     clear hz
     subst hk
     all_goals
       go_enter Tryz.func115, Tryz.ntmps115
       go_wp2_with (first | (refine wpList_load_want rfl 111 _ rfl w.heap.size rfl 111 _ (0, 0) _ r0 Tryz.underlying111 rfl infoSlt ?_) | fail)
       refine (cW _).mono ?_
       rintro e_ w1 ⟨rfl, hb1⟩
       replace hb1 := Below.after hb hb1
       go_wp2
       go_ret
       exact ⟨by rw [← hR.out]; rfl, hb1⟩
 · rw [hbad, if_pos rfl] at hR
   replace hR := hide hR
   rcases Nat.eq_zero_or_pos n with rfl | hnp
   · have hq : 0 < pl := by simpa [pbad] using hbad
     have hd : decide ((pl : Int) > 0) = true := by simp; omega
     clear hbad
     subst hk
     go_enter Tryz.func115, Tryz.ntmps115
     go_wp2
     go_ret
     exact ⟨by rw [← hR.out]; rfl, hb⟩
   · have hd : ((n : Int) == 0) = false := by simp; omega
     have hd2 : ¬ (n : Int) = 0 := by omega
     clear hbad
     subst hk
     go_enter Tryz.func115, Tryz.ntmps115
     go_wp2
     go_ret
     exact ⟨by rw [← hR.out]; rfl, hb⟩
set_option maxRecDepth 100000 in
set_option maxHeartbeats 8000000 in
theorem r_plainG (no l m : Int) (so : Option Addr) (sn sc : Nat) (n : Nat) (da : Option Addr) (dl dc : Nat) (pa : Option Addr) (pl pc : Nat) (w : World) :
   Calls Tryz.prog 115 #[.agg #[.int .i64 no, .int .i64 4, .int .u64 l, .int .u64 m, .slice so sn sc], .agg #[.int .u64 (n : Int), .slice da dl dc, .slice pa pl pc]] w fun e w' => e = .returned (.int .i64 (if pbad false n dl pl then 84 else wth (n : Int) 0 1)) ∧ Below w.heap.size w w' := by
 have hb : Below w.heap.size w ((w.alloc (.cells #[.int .i64 no, .int .i64 4, .int .u64 l, .int .u64 m, .slice so sn sc] 111)).alloc (.cells #[.int .u64 (n : Int), .slice da dl dc, .slice pa pl pc] 76)) := ((Below.refl _ _).alloc (Nat.le_refl _) _).alloc (by simp) _
 obtain ⟨R, hR⟩ : ∃ R, (if pbad false n dl pl then 84 else wth (n : Int) 0 1) = R := ⟨_, rfl⟩
 rw [hR]
 rcases hbad : pbad false n dl pl
 · rw [hbad, if_neg Bool.false_ne_true] at hR
   obtain rfl : pl = 0 := by
     rcases Nat.eq_zero_or_pos pl with q | q
     · exact q
     · simp [pbad, q] at hbad
   obtain rfl : dl = 0 := by
     rcases Nat.eq_zero_or_pos dl with q | q
     · exact q
     · simp [pbad, q] at hbad
   clear hbad
   rcases Int.lt_or_le 1 (n : Int) with q | q
   · have hz : wth (n : Int) 0 1 = 83 := by unfold wth; rw [if_pos (.inr q)]
     have hd : decide ((n : Int) > 1) = true := by simpa using q
     rw [hz] at hR
     replace hR := hide hR
     clear hz
     go_enter Tryz.func115, Tryz.ntmps115
     go_wp2
     go_ret
     exact ⟨by rw [← hR.out]; rfl, hb⟩
   · have hz : wth (n : Int) 0 1 = 0 := by unfold wth; rw [if_neg (by omega)]
     have hd : decide ((n : Int) > 1) = false := by simpa using q
     rw [hz] at hR
     replace hR := hide hR
     clear hz
     go_enter Tryz.func115, Tryz.ntmps115
     go_wp2
     go_ret
     exact ⟨by rw [← hR.out]; rfl, hb⟩
 · rw [hbad, if_pos rfl] at hR
   replace hR := hide hR
   rcases Nat.eq_zero_or_pos dl with rfl | hdp
   · have hq : 0 < pl := by simpa [pbad] using hbad
     have hd : decide ((pl : Int) > 0) = true := by simp; omega
     clear hbad
     go_enter Tryz.func115, Tryz.ntmps115
     go_wp2
     go_ret
     exact ⟨by rw [← hR.out]; rfl, hb⟩
   · have hd : decide ((dl : Int) > 0) = true := by simp; omega
     clear hbad
     go_enter Tryz.func115, Tryz.ntmps115
     go_wp2
     go_ret
     exact ⟨by rw [← hR.out]; rfl, hb⟩
theorem r_plainF {t : Slt} (hf : Fla t) (so : Option Addr) (sn sc : Nat) (x : VR) (hx : x.dl < 9223372036854775808) (w : World) : Calls Tryz.prog 115 #[.agg (slr t (.slice so sn sc)), .agg (vrv x)] w fun e w' => e = .returned (.int .i64 (plE t x)) ∧ Below w.heap.size w w' := by
 have key : ∀ (B : Bool) (E : Int), (t.kind == 5) = B → ftE t x = E → plE t x = if pbad B x.num x.dl x.pl then 84 else E := fun B E e1 e2 => by unfold plE; rw [e1, e2]
 rcases hf with hk | hk | hk | hk | hk
 · rw [key false _ (by rw [hk]; rfl) (by unfold ftE; rw [if_neg (by omega), if_neg (by omega)])]
   exact r_plainN t.no t.kind (t.least : Int) (t.most : Int) (by omega) so sn sc x.num x.da x.dl x.dc x.pa x.pl x.pc w
 · rw [key false _ (by rw [hk]; rfl) (by unfold ftE; rw [if_neg (by omega), if_neg (by omega)])]
   exact r_plainN t.no t.kind (t.least : Int) (t.most : Int) (by omega) so sn sc x.num x.da x.dl x.dc x.pa x.pl x.pc w
 · rw [key false _ (by rw [hk]; rfl) (by unfold ftE; rw [if_neg (by omega), if_neg (by omega)])]
   exact r_plainN t.no t.kind (t.least : Int) (t.most : Int) (by omega) so sn sc x.num x.da x.dl x.dc x.pa x.pl x.pc w
 · rw [key false _ (by rw [hk]; rfl) (by unfold ftE; rw [if_neg (by omega), if_pos hk])]
   have := r_plainG t.no (t.least : Int) (t.most : Int) so sn sc x.num x.da x.dl x.dc x.pa x.pl x.pc w
   unfold slr vrv vrw
   rw [hk]
   exact this
 · rw [key true _ (by rw [hk]; rfl) (by unfold ftE; rw [if_pos hk])]
   exact r_plainB t.no t.kind (t.least : Int) (t.most : Int) hk so sn sc x.num x.da x.dl x.dc hx x.pa x.pl x.pc w
end Go.Proofs.YtlbndkfllegacaaGreatDoor
namespace Go.Proofs.YtlbndkfllegacaaGreatDoor
set_option maxRecDepth 100000
open Go Go.RowKit Go.Sort
attribute [local go_sem] setCell_drewN alloc_drewN
def flr (f : Option Flt3) : Array Value := match f with
 | none => #[.int .i64 0, .int .i64 0, .int .i64 0]
 | some x => frw x
theorem infoFt : (Tryz.prog.info? 35).map (·.size) = some 3 := by kernel_rfl
theorem pck_plE (deep : Int) (t : Slt) (x : VR) : pckT deep t x = if plE t x = 0 then none else some ⟨deep, t.no, plE t x⟩ := by
 unfold pckT pck plE
 by_cases h : pbad (t.kind == 5) x.num x.dl x.pl = true
 · rw [if_pos h, if_pos h, if_neg (by decide)]
 · rw [if_neg h, if_neg h]
set_option maxRecDepth 100000 in
set_option maxHeartbeats 8000000 in
theorem r_partF {t : Slt} (hf : Fla t) (so : Option Addr) (sn sc : Nat) (x : VR) (hx : x.dl < 9223372036854775808) (deep : Int) (w : World) : Calls Tryz.prog 125 #[.agg (slr t (.slice so sn sc)), .agg (vrv x), .int .i64 deep] w fun e w' => e = .returned (.agg (flr (pckT deep t x))) ∧ Below w.heap.size w w' := by
 have cP := r_plainF hf so sn sc x hx
 have k8 : ¬ t.kind = 8 := by rcases hf with q | q | q | q | q <;> omega
 have k9 : ¬ t.kind = 9 := by rcases hf with q | q | q | q | q <;> omega
 have b8 : (t.kind == 8) = false := by simpa using k8
 have b9 : (t.kind == 9) = false := by simpa using k9
 rw [pck_plE]
 generalize plE t x = E at *
 obtain ⟨xn, xda, xdl, xdc, xpa, xpl, xpc⟩ := x
 unfold slr vrv vrw at *
 generalize t.no = no at *
 generalize t.kind = k at *
 generalize (t.least : Int) = l at *
 generalize (t.most : Int) = m at *
 have hb : Below w.heap.size w (((w.alloc (.cells #[.int .i64 no, .int .i64 k, .int .u64 l, .int .u64 m, .slice so sn sc] 111)).alloc (.cells #[.int .u64 (xn : Int), .slice xda xdl xdc, .slice xpa xpl xpc] 76)).alloc (.cells #[.int .i64 0, .int .i64 0, .int .i64 0] 35)) := xb3 w _ _ _
 have r0 := xp3_0 w (.cells #[.int .i64 no, .int .i64 k, .int .u64 l, .int .u64 m, .slice so sn sc] 111) (.cells #[.int .u64 (xn : Int), .slice xda xdl xdc, .slice xpa xpl xpc] 76) (.cells #[.int .i64 0, .int .i64 0, .int .i64 0] 35)
 have r1 := xp3_1 w (.cells #[.int .i64 no, .int .i64 k, .int .u64 l, .int .u64 m, .slice so sn sc] 111) (.cells #[.int .u64 (xn : Int), .slice xda xdl xdc, .slice xpa xpl xpc] 76) (.cells #[.int .i64 0, .int .i64 0, .int .i64 0] 35)
 have r2 := xp3_2 w (.cells #[.int .i64 no, .int .i64 k, .int .u64 l, .int .u64 m, .slice so sn sc] 111) (.cells #[.int .u64 (xn : Int), .slice xda xdl xdc, .slice xpa xpl xpc] 76) (.cells #[.int .i64 0, .int .i64 0, .int .i64 0] 35)
 obtain ⟨F, hF⟩ : ∃ F : Option Flt3, (if E = 0 then none else some ⟨deep, no, E⟩) = F := ⟨_, rfl⟩
 rw [hF]
 replace hF := hide hF
 clear hf
 go_enter Tryz.func125, Tryz.ntmps125
 go_wp2_with (first | (refine wpList_load_want rfl 111 _ rfl w.heap.size rfl 111 _ (0, 0) _ r0 Tryz.underlying111 rfl infoSlt ?_) | (refine wpList_load_want rfl 76 _ rfl (w.heap.size + 1) rfl 76 _ (0, 0) _ r1 Tryz.underlying76 rfl infoV ?_) | fail)
 refine (cP _).mono ?_
 rintro e_ w1 ⟨rfl, hb1⟩
 clear cP
 replace r0 := keep hb1 r0
 replace r2 := keep hb1 r2
 replace hb1 := Below.after hb hb1
 have c0 : w1.cell? ⟨w.heap.size, 0, none⟩ = some (.int .i64 no) := by rw [cell_of_row _ _ _ _ _ _ r0]; rfl
 have c1 : w1.cell? ⟨w.heap.size, 1, none⟩ = some (.int .i64 k) := by rw [cell_of_row _ _ _ _ _ _ r0]; rfl
 have hsz := lt_of_row r2
 rcases hE : (E == 0)
 · have hE2 : ¬ E = 0 := by simpa using hE
   have hF2 := hide (show F = some ⟨deep, no, E⟩ by rw [← hF.out, if_neg hE2])
   have r3 := setRow_heap w1 (w.heap.size + 1 + 1) _ #[.int .i64 deep, .int .i64 no, .int .i64 E] _ _ r2
   have hb3 := below_setRow (g := w.heap.size + 1 + 1) hb1 (by omega) #[.int .i64 deep, .int .i64 no, .int .i64 E]
   have hone : (#[Value.int .i64 deep, .int .i64 no, .int .i64 E] : Array Value).all (·.oneCell') = true := by simp [Value.oneCell']
   have A1 := hide r3
   have A2 := hide hb3
   clear r3 hb3 hb hb1
   go_wp2_with (first | (refine wpList_store_row rfl 35 _ _ rfl (w.heap.size + 1 + 1) #[.int .i64 deep, .int .i64 no, .int .i64 E] rfl rfl 35 _ r2 infoFt rfl hone ?_) | fail)
   exact bodyPost_ret (v := .agg #[.int .i64 deep, .int .i64 no, .int .i64 E]) (results_cell_row Tryz.results125 _ _ (w.heap.size + 1 + 1) _ _ _ _ rfl A1.out Tryz.underlying35 rfl infoFt) rfl ⟨by rw [hF2.out]; rfl, A2.out⟩
 · obtain rfl : E = 0 := by simpa using hE
   have hF2 := hide (show F = none by rw [← hF.out, if_pos rfl])
   have r3 := setRow_heap w1 (w.heap.size + 1 + 1) _ #[.int .i64 0, .int .i64 0, .int .i64 0] _ _ r2
   have hb3 := below_setRow (g := w.heap.size + 1 + 1) hb1 (by omega) #[.int .i64 0, .int .i64 0, .int .i64 0]
   have hone : (#[Value.int .i64 0, .int .i64 0, .int .i64 0] : Array Value).all (·.oneCell') = true := by simp [Value.oneCell']
   have A1 := hide r3
   have A2 := hide hb3
   clear r3 hb3 hb hb1
   go_wp2_with (first | (refine wpList_store_row rfl 35 _ _ rfl (w.heap.size + 1 + 1) #[.int .i64 0, .int .i64 0, .int .i64 0] rfl rfl 35 _ r2 infoFt rfl hone ?_) | fail)
   exact bodyPost_ret (v := .agg #[.int .i64 0, .int .i64 0, .int .i64 0]) (results_cell_row Tryz.results125 _ _ (w.heap.size + 1 + 1) _ _ _ _ rfl A1.out Tryz.underlying35 rfl infoFt) rfl ⟨by rw [hF2.out]; rfl, A2.out⟩
end Go.Proofs.YtlbndkfllegacaaGreatDoor
namespace Go.Proofs.YtlbndkfllegacaaGreatDoor
set_option maxRecDepth 100000
open Go Go.RowKit Go.Sort
attribute [local go_sem] setCell_drewN alloc_drewN
set_option maxRecDepth 100000 in
set_option maxHeartbeats 8000000 in
theorem r_checkF {sv : Value} {ts : List Slt} (hfl : ∀ i, i < ts.length → Fla (gs ts i)) (da : Option Addr) (dc : Nat) (pv : Value) (xs : List VR) (hlx : xs.length = ts.length) (deep : Int) (w : World) (h : Slo w sv ts) (hP : Prt w pv xs) :
   Calls Tryz.prog 102 #[sv, .agg (vrw 0 (.slice da 0 dc) pv), .int .i64 deep] w fun e w' => e = .returned (.agg (flr (chF ts xs deep))) ∧ Below w.heap.size w w' := by
 cases h with
 | mk ao cap ts us hl hc hnn h hs =>
   have hsf : ∀ i, i < ts.length → ∃ so sn sc, gvs us i = .slice so sn sc := fun i hi => by obtain ⟨a, c, e⟩ := (hs i hi).form; exact ⟨_, _, _, e⟩
   clear hs
   obtain ⟨pa, pc, rfl, hpc, hpn, hpr⟩ := hP
   rw [hlx] at hpc hpr hpn ⊢
   obtain ⟨R, hR⟩ : ∃ R, chF ts xs deep = R := ⟨_, rfl⟩
   rw [hR]
   have eR0 := hide (show R = chF (ts.drop 0) (xs.drop 0) deep from hR.symm)
   clear hR
   have hb0 : Below w.heap.size w ((w.alloc (.cells (vrw 0 (.slice da 0 dc) (.slice pa ts.length pc)) 76)).alloc (.cells #[.int .i64 0, .int .i64 0, .int .i64 0] 35)) := ((Below.refl _ _).alloc (Nat.le_refl _) _).alloc (by simp) _
   have rV0 := hp2_0 w (.cells (vrw 0 (.slice da 0 dc) (.slice pa ts.length pc)) 76) (.cells #[.int .i64 0, .int .i64 0, .int .i64 0] 35)
   have rF0 := hp2_1 w (.cells (vrw 0 (.slice da 0 dc) (.slice pa ts.length pc)) 76) (.cells #[.int .i64 0, .int .i64 0, .int .i64 0] 35)
   unfold vrw at rV0 rF0 hb0 ⊢
   go_enter Tryz.func102, Tryz.ntmps102
   go_wp2_with (fail)
   generalize (w.alloc (.cells #[.int .u64 ((0 : Nat) : Int), .slice da 0 dc, .slice pa ts.length pc] 76)).alloc (.cells #[.int .i64 0, .int .i64 0, .int .i64 0] 35) = w0 at *
   go_loopw [7, 8] (fun i _ wr => ∃ k : Nat, k ≤ ts.length ∧ i = .int .i64 k ∧ R = chF (ts.drop k) (xs.drop k) deep ∧ Below w.heap.size w wr ∧ Bx wr w.heap.size #[.int .u64 ((0 : Nat) : Int), .slice da 0 dc, .slice pa ts.length pc] ∧ wr.heap[w.heap.size + 1]? = some (.cells #[.int .i64 0, .int .i64 0, .int .i64 0] 35 (0, 0))) (fun i _ _ => ts.length - (intOf i).toNat)
   case atStart => exact ⟨0, by omega, rfl, eR0.out, hb0, ⟨_, rV0⟩, rF0⟩
   case round =>
     clear rV0 rF0 hb0 eR0
     obtain ⟨k, hk, rfl, eR, hb, rV, rF⟩ := hrel
     by_cases hlt : k < ts.length
     · have hd : decide ((k : Int) < (ts.length : Int)) = true := by simp; omega
       obtain ⟨b, off, rfl, hbl, hra, hsok⟩ := h k hlt
       obtain ⟨pb, poff, rfl, hpb, hpra⟩ := hpr k hlt
       obtain ⟨so, sn, sc, hsu⟩ := hsf k hlt
       rw [hsu] at hra
       have hsw := rangeS_keep2 hra hb hbl
       have hpw := rangeS_keep2 hpra hb hpb
       have hbl2 := Nat.lt_of_lt_of_le hbl (Nat.le_refl _)
       have hpb2 := Nat.lt_of_lt_of_le hpb (Nat.le_refl _)
       rw [chF_drop hlt (by omega)] at eR
       have cP := hide (fun V => r_partF (hfl k hlt) so sn sc (gx xs k) (hpn k hlt).2 deep V)
       obtain ⟨F, hF⟩ : ∃ F, pckT deep (gs ts k) (gx xs k) = F := ⟨_, rfl⟩
       have hwhy : ∀ f, F = some f → ¬ f.why = 0 := fun f e => by
         rw [← hF, pck_plE] at e
         split at e
         · cases e
         · rename_i q
           cases e
           exact q
       rw [hF] at eR cP
       have eR2 := hide eR
       have hwh := hide hwhy
       unfold slr at cP
       unfold srow at hsw hra
       generalize (gs ts k).no = no at *
       generalize (gs ts k).kind = kd at *
       generalize ((gs ts k).least : Int) = l at *
       generalize ((gs ts k).most : Int) = mo at *
       generalize gx xs k = x at *
       obtain ⟨xn, xda, xdl, xdc, xpa, xpl, xpc⟩ := x
       unfold vrv vrw at cP hpw
       clear eR hwhy hF hra hpra h hpr hfl hpn hsok hsu hsf
       go_wp2_with (fail)
       have hS0 : (fun W : World => Bx W w.heap.size #[.int .u64 ((0 : Nat) : Int), .slice da 0 dc, .slice (some ⟨pb, poff, none⟩) ts.length pc] ∧ W.rangeAt b (off + k * 5) [.int .i64 no, .int .i64 kd, .int .u64 l, .int .u64 mo, .slice so sn sc] ∧ W.rangeAt pb (poff + k * 3) [.int .u64 (xn : Int), .slice xda xdl xdc, .slice xpa xpl xpc]) wr := ⟨rV, hsw, hpw⟩
       refine wp_region_held (S := fun W : World => Bx W w.heap.size #[.int .u64 ((0 : Nat) : Int), .slice da 0 dc, .slice (some ⟨pb, poff, none⟩) ts.length pc] ∧ W.rangeAt b (off + k * 5) [.int .i64 no, .int .i64 kd, .int .u64 l, .int .u64 mo, .slice so sn sc] ∧ W.rangeAt pb (poff + k * 3) [.int .u64 (xn : Int), .slice xda xdl xdc, .slice xpa xpl xpc]) (by kernel_rfl) ?_
       change wpAnyH _ _ _ _ _ _ _ _ (World.drew _)
       have hbd : Below wr.heap.size wr wr.drew := below_drN (Below.refl _ _) 1
       replace hS0 : (fun W : World => Bx W w.heap.size #[.int .u64 ((0 : Nat) : Int), .slice da 0 dc, .slice (some ⟨pb, poff, none⟩) ts.length pc] ∧ W.rangeAt b (off + k * 5) [.int .i64 no, .int .i64 kd, .int .u64 l, .int .u64 mo, .slice so sn sc] ∧ W.rangeAt pb (poff + k * 3) [.int .u64 (xn : Int), .slice xda xdl xdc, .slice xpa xpl xpc]) wr.drew := hS0
       replace hb := Below.after hb hbd
       replace rF := keep hbd rF
       clear rV hsw hpw hbd
       generalize wr.drew = w1 at *
       refine wpAnyH_take (i := 0) (v := ?v1) rfl (by kernel_rfl) (by kernel_rfl) (by kernel_rfl) (fun _ _ _ h => h) (Or.inl ⟨by rfl, ?y1⟩) hS0 ?r1
       case y1 =>
         intro w_ hS_
         go_simp
         try with_reducible rfl
       simp only [Act.put, List.getElem_toArray, List.getElem_cons_zero, List.setIfInBounds_toArray, List.set_cons_succ, List.set_cons_zero]
       refine wpAnyH_take (i := 1) (v := ?v2) rfl (by kernel_rfl) (by kernel_rfl) (by kernel_rfl) (fun _ _ _ h => h) (Or.inl ⟨by rfl, ?y2⟩) hS0 ?r2
       case y2 =>
         intro w_ hS_
         go_simp
         try with_reducible rfl
       simp only [Act.put, List.getElem_toArray, List.getElem_cons_succ, List.getElem_cons_zero, List.setIfInBounds_toArray, List.set_cons_succ, List.set_cons_zero]
       refine wpAnyH_take (i := 2) (v := ?v3) rfl (by kernel_rfl) (by kernel_rfl) (by kernel_rfl) (fun _ _ _ h => h) (Or.inl ⟨by rfl, ?y3⟩) hS0 ?r3
       case y3 =>
         intro w_ hS_
         go_simp
         try with_reducible rfl
       simp only [Act.put, List.getElem_toArray, List.getElem_cons_succ, List.getElem_cons_zero, List.setIfInBounds_toArray, List.set_cons_succ, List.set_cons_zero]
       refine wpAnyH_take (i := 3) (v := .agg #[.int .i64 no, .int .i64 kd, .int .u64 l, .int .u64 mo, .slice so sn sc]) rfl (by kernel_rfl) (by kernel_rfl) (by kernel_rfl) (fun _ _ _ h => h) (yieldsIf_load_mid (by rfl) 111 _ rfl b (off + k * 5) rfl [.int .i64 no, .int .i64 kd, .int .u64 l, .int .u64 mo, .slice so sn sc] _ (fun _ h => h.2.1) Tryz.underlying111 rfl infoSlt) hS0 ?_
       simp only [Act.put, List.getElem_toArray, List.getElem_cons_succ, List.getElem_cons_zero, List.setIfInBounds_toArray, List.set_cons_succ, List.set_cons_zero]
       refine wpAnyH_take (i := 4) (v := ?v4) rfl (by kernel_rfl) (by kernel_rfl) (by kernel_rfl) (fun _ _ _ h => h) (Or.inl ⟨by rfl, ?y4⟩) hS0 ?r4
       case y4 =>
         intro w_ hS_
         go_simp
         try with_reducible rfl
       simp only [Act.put, List.getElem_toArray, List.getElem_cons_succ, List.getElem_cons_zero, List.setIfInBounds_toArray, List.set_cons_succ, List.set_cons_zero]
       refine wpAnyH_take (i := 5) (v := .slice (some ⟨pb, poff, none⟩) ts.length pc) rfl (by kernel_rfl) (by kernel_rfl) (by kernel_rfl) (fun _ _ _ h => h) (Or.inl ⟨by rfl, ?y5⟩) hS0 ?r5
       case y5 =>
         intro w_ hS_
         obtain ⟨_, h_⟩ := hS_.1
         have c_ := cell_of_row _ _ 2 _ _ _ h_
         go_simp
         try with_reducible rfl
       simp only [Act.put, List.getElem_toArray, List.getElem_cons_succ, List.getElem_cons_zero, List.setIfInBounds_toArray, List.set_cons_succ, List.set_cons_zero]
       refine wpAnyH_take (i := 6) (v := ?v6) rfl (by kernel_rfl) (by kernel_rfl) (by kernel_rfl) (fun _ _ _ h => h) (Or.inl ⟨by rfl, ?y6⟩) hS0 ?r6
       case y6 =>
         intro w_ hS_
         go_simp
         try with_reducible rfl
       simp only [Act.put, List.getElem_toArray, List.getElem_cons_succ, List.getElem_cons_zero, List.setIfInBounds_toArray, List.set_cons_succ, List.set_cons_zero]
       refine wpAnyH_take (i := 7) (v := ?v7) rfl (by kernel_rfl) (by kernel_rfl) (by kernel_rfl) (fun _ _ _ h => h) (Or.inl ⟨by rfl, ?y7⟩) hS0 ?r7
       case y7 =>
         intro w_ hS_
         go_simp
         try with_reducible rfl
       simp only [Act.put, List.getElem_toArray, List.getElem_cons_succ, List.getElem_cons_zero, List.setIfInBounds_toArray, List.set_cons_succ, List.set_cons_zero]
       refine wpAnyH_take (i := 8) (v := .agg #[.int .u64 (xn : Int), .slice xda xdl xdc, .slice xpa xpl xpc]) rfl (by kernel_rfl) (by kernel_rfl) (by kernel_rfl) (fun _ _ _ h => h) (yieldsIf_load_mid (by rfl) 76 _ rfl pb (poff + k * 3) rfl [.int .u64 (xn : Int), .slice xda xdl xdc, .slice xpa xpl xpc] _ (fun _ h => h.2.2) Tryz.underlying76 rfl infoV) hS0 ?_
       simp only [Act.put, List.getElem_toArray, List.getElem_cons_succ, List.getElem_cons_zero, List.setIfInBounds_toArray, List.set_cons_succ, List.set_cons_zero]
       refine wpAnyH_take (i := 9) (v := ?v8) rfl (by kernel_rfl) (by kernel_rfl) (by kernel_rfl) (fun _ _ _ h => h) (Or.inl ⟨by rfl, ?y8⟩) hS0 ?r8
       case y8 =>
         intro w_ hS_
         go_simp
         try with_reducible rfl
       simp only [Act.put, List.getElem_toArray, List.getElem_cons_succ, List.getElem_cons_zero, List.setIfInBounds_toArray, List.set_cons_succ, List.set_cons_zero]
       refine wpAnyH_two (j := 10) (k := 11) (fuel := 2) (by kernel_rfl) rfl rfl (by kernel_rfl) (by kernel_rfl) (fun K_ hK => ?_) (fun K_ hK => ?_)
       · have cX := (cP.out w1).mono (fun e w' h => (⟨_, h.1, rfl, h.2⟩ : ∃ v, e = .returned v ∧ v = .agg (flr F) ∧ Below w1.heap.size w1 w'))
         refine wp_call_ex (R := fun v w' => v = .agg (flr F) ∧ Below w1.heap.size w1 w') (by kernel_rfl) cX (fun v_ w2 hX_ => ?_)
         obtain ⟨rfl, hbx⟩ := hX_
         replace hS0 : (fun W : World => Bx W w.heap.size #[.int .u64 ((0 : Nat) : Int), .slice da 0 dc, .slice (some ⟨pb, poff, none⟩) ts.length pc] ∧ W.rangeAt b (off + k * 5) [.int .i64 no, .int .i64 kd, .int .u64 l, .int .u64 mo, .slice so sn sc] ∧ W.rangeAt pb (poff + k * 3) [.int .u64 (xn : Int), .slice xda xdl xdc, .slice xpa xpl xpc]) w2 := ⟨hS0.1.keep hbx, rangeS_keep2 hS0.2.1 hbx (Nat.lt_of_lt_of_le hbl2 (by have := hS0.1.lt; omega)), rangeS_keep2 hS0.2.2 hbx (Nat.lt_of_lt_of_le hpb2 (by have := hS0.1.lt; omega))⟩
         replace hb := Below.after hb hbx
         replace rF := keep hbx rF
         refine hK _ _ hS0 ?_
         simp only [Act.put, List.getElem_toArray, List.getElem_cons_succ, List.getElem_cons_zero, List.setIfInBounds_toArray, List.set_cons_succ, List.set_cons_zero]
         clear hK
         clear cX hbx
         refine wpAnyH_one (k := 11) (fuel := 1) (by kernel_rfl) rfl (by kernel_rfl) (fun K_ hK => ?_)
         refine wp_val_op (.pointer (some ⟨w2.heap.size, 0, none⟩)) (w' := w2.alloc (.cells #[.int .i64 0, .int .i64 0, .int .i64 0] 35)) (by kernel_rfl) ?_
         have hba : Below w2.heap.size w2 (w2.alloc (.cells #[.int .i64 0, .int .i64 0, .int .i64 0] 35)) := (Below.refl _ _).alloc (Nat.le_refl _) _
         have rG := hp1_0 w2 (.cells #[.int .i64 0, .int .i64 0, .int .i64 0] 35)
         have hgl : w.heap.size + 1 < w2.heap.size := lt_of_row rF
         replace hS0 : (fun W : World => Bx W w.heap.size #[.int .u64 ((0 : Nat) : Int), .slice da 0 dc, .slice (some ⟨pb, poff, none⟩) ts.length pc] ∧ W.rangeAt b (off + k * 5) [.int .i64 no, .int .i64 kd, .int .u64 l, .int .u64 mo, .slice so sn sc] ∧ W.rangeAt pb (poff + k * 3) [.int .u64 (xn : Int), .slice xda xdl xdc, .slice xpa xpl xpc]) (w2.alloc (.cells #[.int .i64 0, .int .i64 0, .int .i64 0] 35)) := ⟨hS0.1.keep hba, rangeS_keep2 hS0.2.1 hba (Nat.lt_of_lt_of_le hbl2 (by have := hS0.1.lt; omega)), rangeS_keep2 hS0.2.2 hba (Nat.lt_of_lt_of_le hpb2 (by have := hS0.1.lt; omega))⟩
         replace hb := Below.after hb hba
         replace rF := keep hba rF
         refine hK _ _ hS0 ?_
         simp only [Act.put, List.getElem_toArray, List.getElem_cons_succ, List.getElem_cons_zero, List.setIfInBounds_toArray, List.set_cons_succ, List.set_cons_zero]
         clear hK
         clear hba
         generalize w2.alloc (.cells #[.int .i64 0, .int .i64 0, .int .i64 0] 35) = w4 at *
         generalize w2.heap.size = gf at *
         cases F with
         | none =>
           have hone : (#[.int .i64 0, .int .i64 0, .int .i64 0] : Array Value).all (·.oneCell') = true := by simp [Value.oneCell']
           refine wpAnyH_one (k := 12) (fuel := 0) (by kernel_rfl) rfl (by kernel_rfl) (fun K_ hK => ?_)
           refine wp_store_row 35 _ _ rfl gf #[.int .i64 0, .int .i64 0, .int .i64 0] rfl rfl 35 _ rG infoFt rfl hone ?_
           have hgw := lt_of_row rG
           have rG5 := setRow_heap w4 gf _ #[.int .i64 0, .int .i64 0, .int .i64 0] _ _ rG
           have rF5 := (setRow_other w4 gf (w.heap.size + 1) #[.int .i64 0, .int .i64 0, .int .i64 0] (by omega)).trans rF
           have hb5 := below_setRow (g := gf) hb (by omega) #[.int .i64 0, .int .i64 0, .int .i64 0]
           refine hK _ _ ⟨hS0.1.row (by omega), range_same hS0.2.1 (setRow_other w4 gf b _ (by omega)), range_same hS0.2.2 (setRow_other w4 gf pb _ (by omega))⟩ ?_
           obtain ⟨TV, rV4⟩ := hS0.1
           have rV5 := (setRow_other w4 gf w.heap.size #[.int .i64 0, .int .i64 0, .int .i64 0] (by omega)).trans rV4
           simp only [Act.put, List.getElem_toArray, List.getElem_cons_succ, List.getElem_cons_zero]
           clear hK hS0 rG rF hb rV4 cP
           generalize w4.setRow gf #[.int .i64 0, .int .i64 0, .int .i64 0] = w5 at *
           have c2 : w5.cell? ⟨gf, 2, none⟩ = some (.int .i64 0) := by rw [cell_of_row _ _ _ _ _ _ rG5]; rfl
           have B1 := hide hb5
           have B2 := hide rV5
           have B3 := hide rF5
           clear hb5 rV5 rF5 rG5
           refine wpAnyH_done (by kernel_rfl) ?_ _
           go_wp2_with (fail)
           refine ⟨⟨k + 1, by omega, by omega, eR2.out, B1.out, ⟨_, B2.out⟩, B3.out⟩, ?_⟩
           simp [intOf]; omega
         | some f =>
           have hone : (#[.int .i64 f.line, .int .i64 f.at_, .int .i64 f.why] : Array Value).all (·.oneCell') = true := by simp [Value.oneCell']
           refine wpAnyH_one (k := 12) (fuel := 0) (by kernel_rfl) rfl (by kernel_rfl) (fun K_ hK => ?_)
           refine wp_store_row 35 _ _ rfl gf #[.int .i64 f.line, .int .i64 f.at_, .int .i64 f.why] rfl rfl 35 _ rG infoFt rfl hone ?_
           have hgw := lt_of_row rG
           have rG5 := setRow_heap w4 gf _ #[.int .i64 f.line, .int .i64 f.at_, .int .i64 f.why] _ _ rG
           have rF5 := (setRow_other w4 gf (w.heap.size + 1) #[.int .i64 f.line, .int .i64 f.at_, .int .i64 f.why] (by omega)).trans rF
           have hb5 := below_setRow (g := gf) hb (by omega) #[.int .i64 f.line, .int .i64 f.at_, .int .i64 f.why]
           refine hK _ _ ⟨hS0.1.row (by omega), range_same hS0.2.1 (setRow_other w4 gf b _ (by omega)), range_same hS0.2.2 (setRow_other w4 gf pb _ (by omega))⟩ ?_
           obtain ⟨TV, rV4⟩ := hS0.1
           have rV5 := (setRow_other w4 gf w.heap.size #[.int .i64 f.line, .int .i64 f.at_, .int .i64 f.why] (by omega)).trans rV4
           simp only [Act.put, List.getElem_toArray, List.getElem_cons_succ, List.getElem_cons_zero]
           clear hK hS0 rG rF hb rV4 cP
           generalize w4.setRow gf #[.int .i64 f.line, .int .i64 f.at_, .int .i64 f.why] = w5 at *
           have c2 : w5.cell? ⟨gf, 2, none⟩ = some (.int .i64 f.why) := by rw [cell_of_row _ _ _ _ _ _ rG5]; rfl
           have hw1 := hwh.out f rfl
           have hw2 : (f.why == 0) = false := by simpa using hw1
           have r6 := setRow_heap w5 (w.heap.size + 1) _ #[.int .i64 f.line, .int .i64 f.at_, .int .i64 f.why] _ _ rF5
           have hb6 := below_setRow (g := w.heap.size + 1) hb5 (by omega) #[.int .i64 f.line, .int .i64 f.at_, .int .i64 f.why]
           have B1 := hide hb6
           have B2 := hide r6
           clear hb5 hb6 r6 rV5
           refine wpAnyH_done (by kernel_rfl) ?_ _
           go_wp2_with (first | (refine wpList_load_want rfl 35 _ rfl gf rfl 35 _ (0, 0) _ rG5 Tryz.underlying35 rfl infoFt ?_) | (refine wpList_store_row rfl 35 _ _ rfl (w.heap.size + 1) #[.int .i64 f.line, .int .i64 f.at_, .int .i64 f.why] rfl rfl 35 _ rF5 infoFt rfl hone ?_) | fail)
           exact bodyPost_ret (v := .agg #[.int .i64 f.line, .int .i64 f.at_, .int .i64 f.why]) (results_cell_row Tryz.results102 _ _ (w.heap.size + 1) _ _ _ _ rfl B2.out Tryz.underlying35 rfl infoFt) rfl ⟨by rw [eR2.out]; rfl, B1.out⟩
       · refine wp_val_op (.pointer (some ⟨w1.heap.size, 0, none⟩)) (w' := w1.alloc (.cells #[.int .i64 0, .int .i64 0, .int .i64 0] 35)) (by kernel_rfl) ?_
         have hba : Below w1.heap.size w1 (w1.alloc (.cells #[.int .i64 0, .int .i64 0, .int .i64 0] 35)) := (Below.refl _ _).alloc (Nat.le_refl _) _
         have rG := hp1_0 w1 (.cells #[.int .i64 0, .int .i64 0, .int .i64 0] 35)
         have hgl : w.heap.size + 1 < w1.heap.size := lt_of_row rF
         replace hS0 : (fun W : World => Bx W w.heap.size #[.int .u64 ((0 : Nat) : Int), .slice da 0 dc, .slice (some ⟨pb, poff, none⟩) ts.length pc] ∧ W.rangeAt b (off + k * 5) [.int .i64 no, .int .i64 kd, .int .u64 l, .int .u64 mo, .slice so sn sc] ∧ W.rangeAt pb (poff + k * 3) [.int .u64 (xn : Int), .slice xda xdl xdc, .slice xpa xpl xpc]) (w1.alloc (.cells #[.int .i64 0, .int .i64 0, .int .i64 0] 35)) := ⟨hS0.1.keep hba, rangeS_keep2 hS0.2.1 hba (Nat.lt_of_lt_of_le hbl2 (by have := hS0.1.lt; omega)), rangeS_keep2 hS0.2.2 hba (Nat.lt_of_lt_of_le hpb2 (by have := hS0.1.lt; omega))⟩
         replace hb := Below.after hb hba
         replace rF := keep hba rF
         refine hK _ _ hS0 ?_
         simp only [Act.put, List.getElem_toArray, List.getElem_cons_succ, List.getElem_cons_zero, List.setIfInBounds_toArray, List.set_cons_succ, List.set_cons_zero]
         clear hK
         clear hba
         generalize w1.alloc (.cells #[.int .i64 0, .int .i64 0, .int .i64 0] 35) = w3 at *
         generalize w1.heap.size = gf at *
         refine wpAnyH_one (k := 10) (fuel := 1) (by kernel_rfl) rfl (by kernel_rfl) (fun K_ hK => ?_)
         have cX := (cP.out w3).mono (fun e w' h => (⟨_, h.1, rfl, h.2⟩ : ∃ v, e = .returned v ∧ v = .agg (flr F) ∧ Below w3.heap.size w3 w'))
         refine wp_call_ex (R := fun v w' => v = .agg (flr F) ∧ Below w3.heap.size w3 w') (by kernel_rfl) cX (fun v_ w4 hX_ => ?_)
         obtain ⟨rfl, hbx⟩ := hX_
         replace hS0 : (fun W : World => Bx W w.heap.size #[.int .u64 ((0 : Nat) : Int), .slice da 0 dc, .slice (some ⟨pb, poff, none⟩) ts.length pc] ∧ W.rangeAt b (off + k * 5) [.int .i64 no, .int .i64 kd, .int .u64 l, .int .u64 mo, .slice so sn sc] ∧ W.rangeAt pb (poff + k * 3) [.int .u64 (xn : Int), .slice xda xdl xdc, .slice xpa xpl xpc]) w4 := ⟨hS0.1.keep hbx, rangeS_keep2 hS0.2.1 hbx (Nat.lt_of_lt_of_le hbl2 (by have := hS0.1.lt; omega)), rangeS_keep2 hS0.2.2 hbx (Nat.lt_of_lt_of_le hpb2 (by have := hS0.1.lt; omega))⟩
         replace hb := Below.after hb hbx
         replace rF := keep hbx rF
         replace rG := keep hbx rG
         refine hK _ _ hS0 ?_
         simp only [Act.put, List.getElem_toArray, List.getElem_cons_succ, List.getElem_cons_zero, List.setIfInBounds_toArray, List.set_cons_succ, List.set_cons_zero]
         clear hK
         clear cX hbx
         cases F with
         | none =>
           have hone : (#[.int .i64 0, .int .i64 0, .int .i64 0] : Array Value).all (·.oneCell') = true := by simp [Value.oneCell']
           refine wpAnyH_one (k := 12) (fuel := 0) (by kernel_rfl) rfl (by kernel_rfl) (fun K_ hK => ?_)
           refine wp_store_row 35 _ _ rfl gf #[.int .i64 0, .int .i64 0, .int .i64 0] rfl rfl 35 _ rG infoFt rfl hone ?_
           have hgw := lt_of_row rG
           have rG5 := setRow_heap w4 gf _ #[.int .i64 0, .int .i64 0, .int .i64 0] _ _ rG
           have rF5 := (setRow_other w4 gf (w.heap.size + 1) #[.int .i64 0, .int .i64 0, .int .i64 0] (by omega)).trans rF
           have hb5 := below_setRow (g := gf) hb (by omega) #[.int .i64 0, .int .i64 0, .int .i64 0]
           refine hK _ _ ⟨hS0.1.row (by omega), range_same hS0.2.1 (setRow_other w4 gf b _ (by omega)), range_same hS0.2.2 (setRow_other w4 gf pb _ (by omega))⟩ ?_
           obtain ⟨TV, rV4⟩ := hS0.1
           have rV5 := (setRow_other w4 gf w.heap.size #[.int .i64 0, .int .i64 0, .int .i64 0] (by omega)).trans rV4
           simp only [Act.put, List.getElem_toArray, List.getElem_cons_succ, List.getElem_cons_zero]
           clear hK hS0 rG rF hb rV4 cP
           generalize w4.setRow gf #[.int .i64 0, .int .i64 0, .int .i64 0] = w5 at *
           have c2 : w5.cell? ⟨gf, 2, none⟩ = some (.int .i64 0) := by rw [cell_of_row _ _ _ _ _ _ rG5]; rfl
           have B1 := hide hb5
           have B2 := hide rV5
           have B3 := hide rF5
           clear hb5 rV5 rF5 rG5
           refine wpAnyH_done (by kernel_rfl) ?_ _
           go_wp2_with (fail)
           refine ⟨⟨k + 1, by omega, by omega, eR2.out, B1.out, ⟨_, B2.out⟩, B3.out⟩, ?_⟩
           simp [intOf]; omega
         | some f =>
           have hone : (#[.int .i64 f.line, .int .i64 f.at_, .int .i64 f.why] : Array Value).all (·.oneCell') = true := by simp [Value.oneCell']
           refine wpAnyH_one (k := 12) (fuel := 0) (by kernel_rfl) rfl (by kernel_rfl) (fun K_ hK => ?_)
           refine wp_store_row 35 _ _ rfl gf #[.int .i64 f.line, .int .i64 f.at_, .int .i64 f.why] rfl rfl 35 _ rG infoFt rfl hone ?_
           have hgw := lt_of_row rG
           have rG5 := setRow_heap w4 gf _ #[.int .i64 f.line, .int .i64 f.at_, .int .i64 f.why] _ _ rG
           have rF5 := (setRow_other w4 gf (w.heap.size + 1) #[.int .i64 f.line, .int .i64 f.at_, .int .i64 f.why] (by omega)).trans rF
           have hb5 := below_setRow (g := gf) hb (by omega) #[.int .i64 f.line, .int .i64 f.at_, .int .i64 f.why]
           refine hK _ _ ⟨hS0.1.row (by omega), range_same hS0.2.1 (setRow_other w4 gf b _ (by omega)), range_same hS0.2.2 (setRow_other w4 gf pb _ (by omega))⟩ ?_
           obtain ⟨TV, rV4⟩ := hS0.1
           have rV5 := (setRow_other w4 gf w.heap.size #[.int .i64 f.line, .int .i64 f.at_, .int .i64 f.why] (by omega)).trans rV4
           simp only [Act.put, List.getElem_toArray, List.getElem_cons_succ, List.getElem_cons_zero]
           clear hK hS0 rG rF hb rV4 cP
           generalize w4.setRow gf #[.int .i64 f.line, .int .i64 f.at_, .int .i64 f.why] = w5 at *
           have c2 : w5.cell? ⟨gf, 2, none⟩ = some (.int .i64 f.why) := by rw [cell_of_row _ _ _ _ _ _ rG5]; rfl
           have hw1 := hwh.out f rfl
           have hw2 : (f.why == 0) = false := by simpa using hw1
           have r6 := setRow_heap w5 (w.heap.size + 1) _ #[.int .i64 f.line, .int .i64 f.at_, .int .i64 f.why] _ _ rF5
           have hb6 := below_setRow (g := w.heap.size + 1) hb5 (by omega) #[.int .i64 f.line, .int .i64 f.at_, .int .i64 f.why]
           have B1 := hide hb6
           have B2 := hide r6
           clear hb5 hb6 r6 rV5
           refine wpAnyH_done (by kernel_rfl) ?_ _
           go_wp2_with (first | (refine wpList_load_want rfl 35 _ rfl gf rfl 35 _ (0, 0) _ rG5 Tryz.underlying35 rfl infoFt ?_) | (refine wpList_store_row rfl 35 _ _ rfl (w.heap.size + 1) #[.int .i64 f.line, .int .i64 f.at_, .int .i64 f.why] rfl rfl 35 _ rF5 infoFt rfl hone ?_) | fail)
           exact bodyPost_ret (v := .agg #[.int .i64 f.line, .int .i64 f.at_, .int .i64 f.why]) (results_cell_row Tryz.results102 _ _ (w.heap.size + 1) _ _ _ _ rfl B2.out Tryz.underlying35 rfl infoFt) rfl ⟨by rw [eR2.out]; rfl, B1.out⟩
     · have hd : decide ((k : Int) < (ts.length : Int)) = false := by simp; omega
       obtain rfl : k = ts.length := by omega
       rw [List.drop_length, show chF [] (xs.drop ts.length) deep = none from rfl] at eR
       replace eR := hide eR
       have r6 := setRow_heap wr (w.heap.size + 1) _ #[.int .i64 0, .int .i64 0, .int .i64 0] _ _ rF
       have hb6 := below_setRow (g := w.heap.size + 1) hb (by omega) #[.int .i64 0, .int .i64 0, .int .i64 0]
       have hone : (#[.int .i64 0, .int .i64 0, .int .i64 0] : Array Value).all (·.oneCell') = true := by simp [Value.oneCell']
       have B1 := hide hb6
       have B2 := hide r6
       clear hb hb6 r6 rV h hpr hfl hpn hsf
       go_wp2_with (first | (refine wpList_store_row rfl 35 _ _ rfl (w.heap.size + 1) #[.int .i64 0, .int .i64 0, .int .i64 0] rfl rfl 35 _ rF infoFt rfl hone ?_) | fail)
       exact bodyPost_ret (v := .agg #[.int .i64 0, .int .i64 0, .int .i64 0]) (results_cell_row Tryz.results102 _ _ (w.heap.size + 1) _ _ _ _ rfl B2.out Tryz.underlying35 rfl infoFt) rfl ⟨by rw [eR.out]; rfl, B1.out⟩
end Go.Proofs.YtlbndkfllegacaaGreatDoor

