import Derived.Test.YtlbndkfllegacaaGreatDoorEvf
import Derived.Test.YtlbndkfllegacaaGreatDoorJru
import Derived.Test.YtlbndkfllegacaaGreatDoorQd4
import Derived.Test.YtlbndkfllegacaaGreatDoorOpen
import Derived.Test.YtlbndkfllegacaaGreatDoorWh
import Derived.OwnWalk
import Derived.Deep.Cut
import Derived.Deep.RegionHeld3
namespace Go.Proofs.YtlbndkfllegacaaGreatDoor
set_option maxRecDepth 100000
open Go Go.RowKit Go.Sort
attribute [local go_sem] setCell_drewN alloc_drewN
theorem wpList_eql {P : Program} {ops : Array Oper} {Q : Exit → Act → World → Prop} {w : World} {rest : List Oper} {o : Oper} {a : Act} (hw : Region.wanted o (yielded ops a.tmps) = true) (t u : TypeId) (x y : Operand) (ho : o.op = .binOp .eql t x y u) (X Y : Array Value) (hx : a.eval x = .agg X) (hy : a.eval y = .agg Y) (hg : P.eqGuardType P.depth t = false) (B : Bool) (he : (Op.equalIn 10000 t (.agg X) (.agg Y)).run P w = .ok B w) (h : wpList P ops Q rest (a.put o.dst (.bool B)) w) : wpList P ops Q (o :: rest) a w :=
  BigFrame.wpList_want hw fun _ hK => wp_world_op _ _ (run_eql_op t u x y ho X Y hx hy hg B he) (hK _ _ h)
theorem wpList_neqS {P : Program} {ops : Array Oper} {Q : Exit → Act → World → Prop} {w : World} {rest : List Oper} {o : Oper} {a : Act} (hw : Region.wanted o (yielded ops a.tmps) = true) (t u : TypeId) (x y : Operand) (ho : o.op = .binOp .neq t x y u) (X Y : Array Value) (hx : a.eval x = .agg X) (hy : a.eval y = .agg Y) (hg : P.eqGuardType P.depth t = false) (B : Bool) (he : (Op.equalIn 10000 t (.agg X) (.agg Y)).run P w = .ok B w)
    (h : wpList P ops Q rest (a.put o.dst (.bool (!B))) w) : wpList P ops Q (o :: rest) a w :=
  BigFrame.wpList_want hw fun _ hK => wp_world_op _ _ (run_neq_op t u x y ho X Y hx hy hg B he) (hK _ _ h)
/-- An error beside what the document says of it. -/
def Fy (W : World) (base : Nat) (E : Value) (F : Array Value) : Prop := (E = .nilIface ∧ F = #[.int .i64 0, .int .i64 0, .int .i64 0]) ∨ ∃ g x, base ≤ g ∧ E = .iface 85 (.pointer (some ⟨g, 0, none⟩)) ∧ F = frw x ∧ x.why ≠ 0 ∧ W.heap[g]? = some (.cells (frw x) 35 (0, 0))
theorem Fy.keep {W V : World} {base : Nat} {E : Value} {F : Array Value} (h : Fy W base E F) (hb : Below W.heap.size W V) : Fy V base E F := by
  rcases h with h | ⟨g, x, h0, h1, h2, h3, h4⟩
  · exact .inl h
  · exact .inr ⟨g, x, h0, h1, h2, h3, Go.Proofs.YtlbndkfllegacaaGreatDoor.keep hb h4⟩
theorem Fy.row {W : World} {base : Nat} {E : Value} {F : Array Value} (h : Fy W base E F) {k : Nat} (hk : k < base) (C : Array Value) : Fy (W.setRow k C) base E F := by
  rcases h with h | ⟨g, x, h0, h1, h2, h3, h4⟩
  · exact .inl h
  · exact .inr ⟨g, x, h0, h1, h2, h3, (setRow_other W k g C (by omega)).trans h4⟩
theorem Fy.info {W : World} {base : Nat} {E : Value} {F : Array Value} (h : Fy W base E F) : (Tryz.prog.info? 35).map (·.size) = some F.size := by
  rcases h with ⟨_, rfl⟩ | ⟨g, x, _, _, rfl, _⟩
  · kernel_rfl
  · exact infoFrw x
theorem Fy.size {W : World} {base : Nat} {E : Value} {F : Array Value} (h : Fy W base E F) : F.size = 3 := by
  rcases h with ⟨_, rfl⟩ | ⟨g, x, _, _, rfl, _⟩ <;> rfl
theorem Fy.one {W : World} {base : Nat} {E : Value} {F : Array Value} (h : Fy W base E F) : F.all (·.oneCell') = true := by
  rcases h with ⟨_, rfl⟩ | ⟨g, x, _, _, rfl, _⟩
  · simp [Value.oneCell']
  · exact frw_one x
theorem l_faulty {base : Nat} {E : Value} {F : Array Value} (w : World) (hE : Ety w) (h : Fy w base E F) : Calls Tryz.prog 12 #[E, .agg F] w fun e w' => e = .returned (.bool true) ∧ Below w.heap.size w w' := by
  rcases h with ⟨rfl, rfl⟩ | ⟨g, x, _, rfl, rfl, h3, h4⟩
  · exact l_faulty_nil 0 0 w
  · exact l_faulty_hit x h3 g w hE h4
theorem fldHd : ∃ f0 f1 f2, (Tryz.prog.fieldsOf 28).toList = [f0, f1, f2] ∧ f0.name ≠ "_" ∧ f0.type = 25 ∧ f0.offset = 0 ∧ f1.name ≠ "_" ∧ f1.type = 26 ∧ f1.offset = 32 ∧ f2.name ≠ "_" ∧ f2.type = 26 ∧ f2.offset = 33 := ⟨_, _, _, rfl, by decide, rfl, rfl, by decide, rfl, rfl, by decide, rfl, rfl⟩
theorem strHd : Tryz.prog.underlying 28 = some (.struct (Tryz.prog.fieldsOf 28)) := by kernel_rfl
theorem stoHd : Tryz.prog.stoodInHeld 28 = false := by kernel_rfl
theorem part_uH {cs : Array Value} {n : Int} {o : Nat} (h : cs[o]? = some (.int .u32 n)) (W : World) : (part 26 cs o).run Tryz.prog W = .ok (.int .u32 n) W := by
  have ha : (isAgg 26).run Tryz.prog W = .ok false W := by
    unfold isAgg
    rw [Sem.run_bind, run_underlying Tryz.underlying26 W]
    rfl
  simp [part, Sem.run_bind, ha, h]
theorem hrw_key (pub : List B) (hp : pub.length = 32) (prev m : Nat) : (hrw pub prev m).extract 0 (0 + (irow .u8 (bl pub)).size) = irow .u8 (bl pub) := by
  have e : (irow .u8 (bl pub)).size = 32 := by simp [irow, bl, hp]
  rw [e]
  unfold hrw
  rw [Array.extract_append]
  simp [e]
theorem hrw_at (pub : List B) (hp : pub.length = 32) (prev m : Nat) : (hrw pub prev m)[32]? = some (.int .u32 (prev : Int)) ∧ (hrw pub prev m)[33]? = some (.int .u32 (m : Int)) := by
  have e : (irow .u8 (bl pub)).size = 32 := by simp [irow, bl, hp]
  unfold hrw
  constructor <;> (rw [Array.getElem?_append_right (by omega), e]; rfl)
theorem eq_hrw (pub : List B) (hp : pub.length = 32) (prev m : Nat) (W : World) : (Op.equalIn 10000 28 (.agg (hrw pub prev m)) (.agg (hrw pub prev m))).run Tryz.prog W = .ok true W := by
  obtain ⟨f0, f1, f2, hf, n0, t0, o0, n1, t1, o1, n2, t2, o2⟩ := fldHd
  rw [run_equalIn_struct W 9999 28 _ _ strHd stoHd, hf]
  have i0 := fun p q => run_equalIn_int W (P := Tryz.prog) 9998 26 .u32 .u32 p q Tryz.underlying26
  have hl : (bl pub).length = 32 := by rw [bl_len, hp]
  have a := hrw_at pub hp prev m
  rw [eqf_cons n0 (by rw [t0, o0]; exact part_key hl (hrw_key pub hp prev m) W) (by rw [t0, o0]; exact part_key hl (hrw_key pub hp prev m) W) (by rw [t0]; exact eq_key 9997 (bl pub) (bl pub) hl hl W), eqf_cons n1 (by rw [t1, o1]; exact part_uH a.1 W) (by rw [t1, o1]; exact part_uH a.1 W) (by rw [t1]; exact i0 prev prev), eqf_cons n2 (by rw [t2, o2]; exact part_uH a.2 W) (by rw [t2, o2]; exact part_uH a.2 W) (by rw [t2]; exact i0 m m), eqf_nil]
  simp
/-- The header that bytes tell; what is wrong with them. -/
def hPd (d : List B) : Array Value := match dec8 hdr d 0 with
  | none => hdP d
  | some _ => (hrw z32 0 0)
def fPd (d : List B) : Array Value := match dec8 hdr d 0 with
  | none => #[.int .i64 0, .int .i64 0, .int .i64 0]
  | some x => frw x
theorem hPd_form (d : List B) : ∃ (pub : List B) (prev m : Nat), pub.length = 32 ∧ hPd d = hrw pub prev m := by
  unfold hPd
  cases h : dec8 hdr d 0 with
  | none =>
    obtain ⟨_, pub, prev, m, hfs, hp, _, _⟩ := dec_hdr h
    exact ⟨pub, prev, m, hp, by unfold hdP; rw [hfs]; rfl⟩
  | some x => exact ⟨z32, 0, 0, z32_len, rfl⟩
theorem a_ParseHeader2 (d : List B) (b : Value) (w : World) (hB : BysB w b d) (hcap : ∀ a l c, b = .slice a l c → l ≤ c) : Calls Tryz.prog 10 #[b] w fun e w' => ∃ E, e = .returned (.tuple #[.agg (hPd d), E]) ∧ Fy w' w.heap.size E (fPd d) ∧ Below w.heap.size w w' := by
  refine (a_ParseHeader d b w hB hcap).mono ?_
  rintro e w' ⟨h, hb⟩
  unfold PrH at h
  unfold hPd fPd
  cases hd : dec8 hdr d 0 with
  | none => rw [hd] at h; exact ⟨_, h, .inl ⟨rfl, rfl⟩, hb⟩
  | some x =>
    rw [hd] at h
    obtain ⟨g, h1, h2, h3⟩ := h
    exact ⟨_, h1, .inr ⟨g, x, h2, rfl, rfl, dec8_why hd, h3⟩, hb⟩
theorem r_ParseHeader2 (d : List B) (b : Value) (w : World) (hB : BysB w b d) (hcap : ∀ a l c, b = .slice a l c → l ≤ c) : Calls Tryz.prog 11 #[b] w fun e w' => e = .returned (.tuple #[.agg (hPd d), .agg (fPd d)]) ∧ Below w.heap.size w w' := by
  refine (r_ParseHeader d b w hB hcap).mono ?_
  rintro e w' ⟨h, hb⟩
  unfold RrH at h
  unfold hPd fPd
  cases hd : dec8 hdr d 0 with
  | none => rw [hd] at h; exact ⟨h, hb⟩
  | some x => rw [hd] at h; exact ⟨h, hb⟩
set_option maxRecDepth 100000 in
set_option maxHeartbeats 8000000 in
theorem envReads_any (d : List B) (w : World) (dv : Value) (hE : Ety w) (hD : BysB w dv d) (hcap0 : ∀ a l c, dv = .slice a l c → l ≤ c) : Calls Tryz.prog 3 #[dv] w fun e w' => e = .returned (.bool true) ∧ Below w.heap.size w w' := by
  obtain ⟨H, hH⟩ : ∃ H, hPd d = H := ⟨_, rfl⟩
  obtain ⟨F, hF⟩ : ∃ F, fPd d = F := ⟨_, rfl⟩
  obtain ⟨I, hI⟩ : ∃ I, hPd d.reverse = I := ⟨_, rfl⟩
  obtain ⟨J, hJ⟩ : ∃ J, fPd d.reverse = J := ⟨_, rfl⟩
  have pA := hide (fun (W : World) (u : Value) (h : BysB W u d) (hc : ∀ a l c, u = .slice a l c → l ≤ c) => a_ParseHeader2 d u W h hc)
  have pT := hide (fun (W : World) (u : Value) (h : BysB W u d.reverse) (hc : ∀ a l c, u = .slice a l c → l ≤ c) => a_ParseHeader2 d.reverse u W h hc)
  have rA := hide (fun (W : World) (u : Value) (h : BysB W u d) (hc : ∀ a l c, u = .slice a l c → l ≤ c) => r_ParseHeader2 d u W h hc)
  have rT := hide (fun (W : World) (u : Value) (h : BysB W u d.reverse) (hc : ∀ a l c, u = .slice a l c → l ≤ c) => r_ParseHeader2 d.reverse u W h hc)
  rw [hH, hF] at pA rA
  rw [hI, hJ] at pT rT
  obtain ⟨pu, pv, pm, hp, fH⟩ := hPd_form d
  obtain ⟨qu, qv, qm, hq, fI⟩ := hPd_form d.reverse
  rw [hH] at fH
  rw [hI] at fI
  have iH : (Tryz.prog.info? 28).map (·.size) = some H.size := by rw [fH]; exact hrw_info pu hp pv pm
  have iI : (Tryz.prog.info? 28).map (·.size) = some I.size := by rw [fI]; exact hrw_info qu hq qv qm
  have zH : H.size = 34 := by rw [fH]; exact hrw_size pu hp pv pm
  have zI : I.size = 34 := by rw [fI]; exact hrw_size qu hq qv qm
  have oH : H.all (·.oneCell') = true := by rw [fH]; exact hrw_one _ _ _
  have oI : I.all (·.oneCell') = true := by rw [fI]; exact hrw_one _ _ _
  have eH := fun W : World => eq_hrw pu hp pv pm W
  rw [← fH] at eH
  have eI := fun W : World => eq_hrw qu hq qv qm W
  rw [← fI] at eI
  replace zH := hide zH
  replace zI := hide zI
  replace oH := hide oH
  replace oI := hide oI
  replace eH := hide eH
  replace eI := hide eI
  replace iH := hide iH
  replace iI := hide iI
  clear fH fI hH hF hI hJ hp hq pu pv pm qu qv qm
  have hcap := hide hcap0
  clear hcap0
  have hE1 := hide (fun V (h : Below w.heap.size w V) => hE.keep h rfl)
  clear hE
  have hDh := hide (fun V (h : Below w.heap.size w V) => hD.keep h)
  have hDl := hD.2.1
  obtain ⟨dao, dcap, rfl⟩ := hD.form
  have hw : Below w.heap.size w w := Below.refl _ _
  clear hD
  go_enter Tryz.func3, Tryz.ntmps3
  go_wp2_with (fail)
  have cX := sB_hand d w _ (hDh.out _ hw)
  refine cX.mono ?_
  rintro e_ w1 ⟨rfl, rI, hb⟩
  clear cX
  replace hw := Below.after hw hb
  have sz_w1 := hb.size
  clear hb
  have sIn := slice_to (some ⟨w.heap.size, 0, none⟩) (d.length + 80) (d.length + 80) d.length (by omega)
  have lgI := lt_of_row rI
  go_wp2_with (fail)
  have cX := pA.out w1 (.slice (some ⟨w.heap.size, 0, none⟩) d.length (d.length + 80)) (head_bysB rI rfl hDl _) (fun a l c h => by cases h; omega)
  refine cX.mono ?_
  rintro e_ a1 ⟨E, rfl, hFy, hb⟩
  clear cX
  replace rI := keep hb rI
  replace hw := Below.after hw hb
  have sz_a1 := hb.size
  clear hb
  have z_ := hp1_0 a1 (.cells (hrw z32 0 0) 28)
  go_wp2_with (first | (refine wpList_alloc rfl 28 rfl (hrw z32 0 0) zHdr ?_) | (refine wpList_store_row rfl 28 _ _ rfl (a1.heap.size) H rfl rfl 28 _ z_ iH.out (by rw [zH.out, hrw_size _ z32_len]) oH.out ?_; refine wpList_stay ?_) | fail)
  unfold WpStay
  try simp only [Act.put, List.setIfInBounds_toArray, List.set_cons_succ, List.set_cons_zero]
  have R4 := setRow_heap (a1.alloc (.cells (hrw z32 0 0) 28)) a1.heap.size _ H _ _ z_
  have hb : Below a1.heap.size a1 ((a1.alloc (.cells (hrw z32 0 0) 28)).setRow a1.heap.size H) := below_setRow ((Below.refl _ _).alloc (Nat.le_refl _) _) (Nat.le_refl _) _
  clear z_
  replace rI := keep hb rI
  replace hFy := hFy.keep hb
  replace hw := Below.after hw hb
  have sz_a2 := hb.size
  clear hb
  generalize (a1.alloc (.cells (hrw z32 0 0) 28)).setRow a1.heap.size H = a2 at *
  generalize a1.heap.size = g4 at *
  go_wp2_with (fail)
  have cX := rA.out a2 _ (hDh.out _ hw) hcap.out
  refine cX.mono ?_
  rintro e_ a3 ⟨rfl, hb⟩
  clear cX
  have l4 := lt_of_row R4
  replace rI := keep hb rI
  replace R4 := keep hb R4
  replace hFy := hFy.keep hb
  replace hw := Below.after hw hb
  have sz_a3 := hb.size
  clear hb
  have z0 := hp2_0 a3 (.cells (hrw z32 0 0) 28) (.cells #[.int .i64 0, .int .i64 0, .int .i64 0] 35)
  have z1 := hp2_1 a3 (.cells (hrw z32 0 0) 28) (.cells #[.int .i64 0, .int .i64 0, .int .i64 0] 35)
  have y1 := (setRow_other ((a3.alloc (.cells (hrw z32 0 0) 28)).alloc (.cells #[.int .i64 0, .int .i64 0, .int .i64 0] 35)) a3.heap.size (a3.heap.size + 1) H (by omega)).trans z1
  have R6 := (setRow_other (((a3.alloc (.cells (hrw z32 0 0) 28)).alloc (.cells #[.int .i64 0, .int .i64 0, .int .i64 0] 35)).setRow a3.heap.size H) (a3.heap.size + 1) a3.heap.size F (by omega)).trans (setRow_heap ((a3.alloc (.cells (hrw z32 0 0) 28)).alloc (.cells #[.int .i64 0, .int .i64 0, .int .i64 0] 35)) a3.heap.size _ H _ _ z0)
  have R7 := setRow_heap (((a3.alloc (.cells (hrw z32 0 0) 28)).alloc (.cells #[.int .i64 0, .int .i64 0, .int .i64 0] 35)).setRow a3.heap.size H) (a3.heap.size + 1) _ F _ _ y1
  have hb : Below a3.heap.size a3 ((((a3.alloc (.cells (hrw z32 0 0) 28)).alloc (.cells #[.int .i64 0, .int .i64 0, .int .i64 0] 35)).setRow a3.heap.size H).setRow (a3.heap.size + 1) F) := below_setRow (below_setRow (((Below.refl _ _).alloc (Nat.le_refl _) _).alloc (by simp) _) (Nat.le_refl _) H) (by omega) F
  have iF := hFy.info
  have zF := hFy.size
  have oF := hFy.one
  have K6 := hide R6
  have K7 := hide R7
  have Kb := hide hb
  clear R6 R7 hb
  go_wp2_with (first | (refine wpList_alloc rfl 28 rfl (hrw z32 0 0) zHdr ?_) | (refine wpList_store_row rfl 28 _ _ rfl (a3.heap.size) H rfl rfl 28 _ z0 iH.out (by rw [zH.out, hrw_size _ z32_len]) oH.out ?_) | (refine wpList_store_row rfl 35 _ _ rfl (a3.heap.size + 1) F rfl rfl 35 _ y1 iF (by rw [zF]; rfl) oF ?_; refine wpList_stay ?_) | fail)
  unfold WpStay
  try simp only [Act.put, List.setIfInBounds_toArray, List.set_cons_succ, List.set_cons_zero]
  have hb := Kb.out
  have R6 := K6.out
  have R7 := K7.out
  clear z0 z1 y1 Kb K6 K7
  replace rI := keep hb rI
  replace R4 := keep hb R4
  replace hFy := hFy.keep hb
  replace hw := Below.after hw hb
  have sz_a4 := hb.size
  clear hb
  generalize (((a3.alloc (.cells (hrw z32 0 0) 28)).alloc (.cells #[.int .i64 0, .int .i64 0, .int .i64 0] 35)).setRow a3.heap.size H).setRow (a3.heap.size + 1) F = a4 at *
  generalize a3.heap.size = g6 at *
  go_wp2_with (first | (refine wpList_load_want rfl 28 _ rfl g4 rfl 28 H (0, 0) _ R4 Tryz.underlying28 rfl iH.out ?_) | (refine wpList_load_want rfl 28 _ rfl g6 rfl 28 H (0, 0) _ R6 Tryz.underlying28 rfl iH.out ?_) | (refine wpList_neqS rfl 28 28 _ _ rfl H H rfl rfl (by kernel_rfl) true (eH.out _) ?_) | (refine wpList_load_want rfl 35 _ rfl (g6 + 1) rfl 35 F (0, 0) _ R7 Tryz.underlying35 rfl iF ?_) | fail)
  have cX := l_faulty a4 (hE1.out _ hw) hFy
  refine cX.mono ?_
  rintro e_ a5 ⟨rfl, hb⟩
  clear cX
  have l4 := lt_of_row R4
  have l6 := lt_of_row R6
  have l7 := lt_of_row R7
  replace rI := keep hb rI
  replace R4 := keep hb R4
  replace R6 := keep hb R6
  replace R7 := keep hb R7
  replace hw := Below.after hw hb
  have sz_a5 := hb.size
  clear hb
  clear hFy
  go_wp2_with (fail)
  have cX := sB_left d w.heap.size a5 _ (hDh.out _ hw) rI
  refine cX.mono ?_
  rintro e_ a6 ⟨rfl, hb⟩
  clear cX
  replace rI := keep hb rI
  replace R4 := keep hb R4
  replace R6 := keep hb R6
  replace R7 := keep hb R7
  replace hw := Below.after hw hb
  have sz_a6 := hb.size
  clear hb
  go_wp2_with (fail)
  have cX := sB_turned d w.heap.size a6 _ (hDh.out _ hw) rI
  refine cX.mono ?_
  rintro e_ a7 ⟨rfl, rT_, rI2, hgr⟩
  clear cX
  have k4 := (hgr.block g4 (lt_of_row R4) (fun h => by injection h with h; omega)).trans R4
  have k6 := (hgr.block g6 (lt_of_row R6) (fun h => by injection h with h; omega)).trans R6
  have k7 := (hgr.block (g6 + 1) (lt_of_row R7) (fun h => by injection h with h; omega)).trans R7
  replace hw := hw.grown hgr hw.size (fun k h => by injection h with h; omega)
  have l47 := lt_of_row k4
  have l77 := lt_of_row k7
  clear hgr rI R4 R6 R7
  have rI := rI2
  clear rI2
  generalize a6.heap.size = gT at *
  have sIn := slice_to (some ⟨w.heap.size, 0, none⟩) (d.length + 80) (d.length + 80) d.length (by omega)
  go_wp2_with (fail)
  have cX := pT.out a7 (.slice (some ⟨w.heap.size, 0, none⟩) d.length (d.length + 80)) (head_bysB rI List.length_reverse hDl _) (fun a l c h => by cases h; omega)
  refine cX.mono ?_
  rintro e_ a8 ⟨E2, rfl, hFy, hb⟩
  clear cX
  replace rI := keep hb rI
  replace rT_ := keep hb rT_
  replace k4 := keep hb k4
  replace k6 := keep hb k6
  replace k7 := keep hb k7
  replace hw := Below.after hw hb
  have sz_a8 := hb.size
  clear hb
  have R4 := hide (setRow_heap a8 g4 _ I _ _ k4)
  have hw2 := hide (below_setRow hw (show w.heap.size ≤ g4 by omega) I)
  have rT2 := hide ((setRow_other a8 g4 gT I (by omega)).trans rT_)
  have k6' := hide ((setRow_other a8 g4 g6 I (by omega)).trans k6)
  have k7' := hide ((setRow_other a8 g4 (g6 + 1) I (by omega)).trans k7)
  have hF2 := hide (hFy.row (k := g4) (by omega) I)
  clear rT_ k6 k7 hw rI hFy
  go_wp2_with (first | (refine wpList_store_row rfl 28 _ _ rfl (g4) I rfl rfl 28 _ k4 iI.out (by rw [zI.out, zH.out]) oI.out ?_; refine wpList_stay ?_) | fail)
  unfold WpStay
  try simp only [Act.put, List.setIfInBounds_toArray, List.set_cons_succ, List.set_cons_zero]
  clear k4
  have R4 := R4.out
  have hw := hw2.out
  have rT_ := rT2.out
  have R6 := k6'.out
  have R7 := k7'.out
  have hFy := hF2.out
  clear hw2 rT2 k6' k7' hF2
  have szb : (a8.setRow g4 I).heap.size = a8.heap.size := by simp
  generalize a8.setRow g4 I = b1 at *
  go_wp2_with (fail)
  have cX := rT.out b1 (.slice (some ⟨gT, 0, none⟩) d.length d.length) (row_bysB rT_ List.length_reverse hDl _) (fun a l c h => by cases h; exact Nat.le_refl _)
  refine cX.mono ?_
  rintro e_ b2 ⟨rfl, hb⟩
  clear cX
  replace R4 := keep hb R4
  replace R6 := keep hb R6
  replace R7 := keep hb R7
  replace hFy := hFy.keep hb
  replace hw := Below.after hw hb
  have sz_b2 := hb.size
  clear hb
  clear rT_
  have iJ := hFy.info
  have zJ := hFy.size
  have oJ := hFy.one
  have l4 := lt_of_row R4
  have l6 := lt_of_row R6
  have l7 := lt_of_row R7
  have y7 := (setRow_other b2 g6 (g6 + 1) I (by omega)).trans R7
  have S4 := hide ((setRow_other (b2.setRow g6 I) (g6 + 1) g4 J (by omega)).trans ((setRow_other b2 g6 g4 I (by omega)).trans R4))
  have S6 := hide ((setRow_other (b2.setRow g6 I) (g6 + 1) g6 J (by omega)).trans (setRow_heap b2 g6 _ I _ _ R6))
  have S7 := hide (setRow_heap (b2.setRow g6 I) (g6 + 1) _ J _ _ y7)
  have hw2 := hide (below_setRow (below_setRow hw (show w.heap.size ≤ g6 by omega) I) (show w.heap.size ≤ g6 + 1 by omega) J)
  have hF2 := hide ((hFy.row (k := g6) (by omega) I).row (k := g6 + 1) (by omega) J)
  clear hw hFy R4
  go_wp2_with (first | (refine wpList_store_row rfl 28 _ _ rfl (g6) I rfl rfl 28 _ R6 iI.out (by rw [zI.out, zH.out]) oI.out ?_) | (refine wpList_store_row rfl 35 _ _ rfl (g6 + 1) J rfl rfl 35 _ y7 iJ (by rw [zJ, zF]) oJ ?_; refine wpList_stay ?_) | fail)
  unfold WpStay
  try simp only [Act.put, List.setIfInBounds_toArray, List.set_cons_succ, List.set_cons_zero]
  clear y7 R6 R7
  have R4 := S4.out
  have R6 := S6.out
  have R7 := S7.out
  have hw := hw2.out
  have hFy := hF2.out
  clear S4 S6 S7 hw2 hF2
  generalize (b2.setRow g6 I).setRow (g6 + 1) J = b3 at *
  go_wp2_with (first | (refine wpList_load_want rfl 28 _ rfl g4 rfl 28 I (0, 0) _ R4 Tryz.underlying28 rfl iI.out ?_) | (refine wpList_load_want rfl 28 _ rfl g6 rfl 28 I (0, 0) _ R6 Tryz.underlying28 rfl iI.out ?_) | (refine wpList_eql rfl 28 28 _ _ rfl I I rfl rfl (by kernel_rfl) true (eI.out _) ?_) | (refine wpList_load_want rfl 35 _ rfl (g6 + 1) rfl 35 J (0, 0) _ R7 Tryz.underlying35 rfl iJ ?_) | fail)
  have cX := l_faulty b3 (hE1.out _ hw) hFy
  refine cX.mono ?_
  rintro e_ b4 ⟨rfl, hb⟩
  replace hw := Below.after hw hb
  clear cX hb
  go_wp2_with (fail)
  go_ret
  exact ⟨rfl, hw⟩
end Go.Proofs.YtlbndkfllegacaaGreatDoor
