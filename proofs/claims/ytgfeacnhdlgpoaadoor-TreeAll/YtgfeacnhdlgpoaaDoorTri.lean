import Derived.Test.YtgfeacnhdlgpoaaDoorProg
import Derived.WalkKit
import Derived.WalkSpells
import Derived.WalkLawsBesides
import Derived.Lib.QuietBelow
import Derived.BigQuiet
import Derived.OrdersHeld
import Derived.OwnWalk
import Derived.Deep.RegionHeld3
import Derived.Deep.Cut
import Derived.Deep.CutRange
import Derived.Test.YtgfeacnhdlgpoaaDoorTrf
namespace Go.Proofs.YtgfeacnhdlgpoaaDoor
set_option maxRecDepth 100000
open Go Go.RowKit Go.Sort
attribute [local go_sem] setCell_drewN alloc_drewN
/-- A log in memory: its own block, its leaves in another one. -/
def LogS (W : World) (b g : Nat) (v : Value) (l : List (List Int)) : Prop := W.heap[g]? = some (.cells #[v] 85 (0, 0)) ∧ OwnK W b v l ∧ b ≤ g ∧ v.ownBlock ≠ some g ∧ Kok l ∧ l.length ≤ 65536
theorem LogS.keep {W W' : World} {b g : Nat} {v : Value} {l : List (List Int)} (h : LogS W b g v l) (hb : Below W.heap.size W W') : LogS W' b g v l := ⟨Go.Proofs.YtgfeacnhdlgpoaaDoor.keep hb h.1, h.2.1.keep hb, h.2.2⟩
theorem LogS.cell {W : World} {b g : Nat} {v : Value} {l : List (List Int)} (h : LogS W b g v l) : W.cell? ⟨g, 0, none⟩ = some v := cell_of h.1 rfl
theorem LogS.ksl {W : World} {b g : Nat} {v : Value} {l : List (List Int)} (h : LogS W b g v l) : Ksl W v l := h.2.1.ksl h.2.2.2.2.1 (by have := h.2.2.2.2.2; omega)
theorem LogS.le {W : World} {b g : Nat} {v : Value} {l : List (List Int)} (h : LogS W b g v l) : l.length ≤ 65536 := h.2.2.2.2.2
theorem eqk1 (a : Addr) (n c : Nat) (W : World) : (binOp .eql 31 (.slice (some a) n c) (.slice none 0 0)).run Tryd.prog W = .ok (.bool false) W := by kernel_rfl
theorem eqk0 (W : World) : (binOp .eql 31 (.slice none 0 0) (.slice none 0 0)).run Tryd.prog W = .ok (.bool true) W := by kernel_rfl
theorem builtLg (ao : Option Addr) (n c : Nat) : Tryd.prog.built 85 [(0, .slice ao n c)] = some #[.slice ao n c] := by kernel_rfl
theorem wpList_append_Ks {w : World} {ops : Array Oper} {rest : List Oper} {o : Oper} {a : Act} {Q : Exit → Act → World → Prop} (hgd : o.guard = none) (s x : Operand) (ho : o.op = .call { callee := .builtin .append, args := #[s, x], argTypes := #[31, 31] })
    (base : Nat) (v : Value) (ks : List (List Int)) (hs : a.eval s = v) (hI : OwnK w base v ks) (u : Value) (ms : List (List Int)) (hx : a.eval x = u) (hM : Ksl w u ms) (hlen : ks.length + ms.length ≤ 4398046511000) (hbase : base ≤ w.heap.size)
    (h : ∀ v' w', OwnK w' base v' (ks ++ ms) → w.grownBy w' v.ownBlock → Nx w v v' → wpList Tryd.prog ops Q rest (a.put o.dst v') w') : wpList Tryd.prog ops Q (o :: rest) a w :=
  wpList_plain hgd fun _ hK => wp_append_Ks s x ho base v ks hs hI u ms hx hM hlen hbase (fun v' w' h1 h2 h3 => hK _ _ (h v' w' h1 h2 h3))
set_option maxRecDepth 100000 in
set_option maxHeartbeats 8000000 in
theorem a_CloneK (l : List (List Int)) (w : World) (v : Value) (hL : Ksl w v l) : Calls Tryd.prog 49 #[v] w fun e w' => ∃ v', e = .returned v' ∧ OwnK w' w.heap.size v' l ∧ Below w.heap.size w w' := by
  have hle := hL.le
  obtain ⟨ao, cap, rfl, hc, hz⟩ := hL.slc
  cases ao with
  | none =>
    have h0 := hz rfl
    have hl : l = [] := List.eq_nil_of_length_eq_zero (by omega)
    subst h0 hl
    have e1 := eqk0
    go_enter Tryd.func49, Tryd.ntmps49
    go_wp2_with (fail)
    go_ret
    exact ⟨_, rfl, OwnK.nil _ _, Below.refl _ _⟩
  | some ad =>
    have e1 := eqk1 ad l.length cap
    have hO : OwnK (w.alloc (.cells #[] 24)) w.heap.size (.slice (some ⟨w.heap.size, 0, none⟩) 0 0) [] := OwnK.empty w (Nat.le_refl _)
    have hw : Below w.heap.size w (w.alloc (.cells #[] 24)) := (Below.refl _ _).alloc (Nat.le_refl _) _
    replace hL := hL.keep hw
    go_enter Tryd.func49, Tryd.ntmps49
    go_wp2_with (at_builtin; refine wpList_append_Ks rfl (.tmp 5) (.tmp 6) rfl w.heap.size _ [] rfl hO _ l rfl hL (by simp only [List.length_nil]; omega) hw.size ?_)
    intro v1 w1 hO_ hgr _
    replace hw := hw.grown hgr hw.size (fun k e => (hO.lt k e).1)
    replace hO_ : OwnK w1 w.heap.size v1 l := hO_
    go_wp2_with (fail)
    go_ret
    exact ⟨_, rfl, hO_, hw⟩
set_option maxRecDepth 100000 in
set_option maxHeartbeats 8000000 in
theorem a_New (w : World) : Calls Tryd.prog 23 #[] w fun e w' => e = .returned (.pointer (some ⟨w.heap.size, 0, none⟩)) ∧ LogS w' w.heap.size w.heap.size (.slice none 0 0) [] ∧ Below w.heap.size w w' := by
  have r0 := hp1_0 w (.cells #[.slice none 0 0] 85)
  have hw : Below w.heap.size w (w.alloc (.cells #[.slice none 0 0] 85)) := (Below.refl _ _).alloc (Nat.le_refl _) _
  go_enter Tryd.func23, Tryd.ntmps23
  go_wp2_with (fail)
  go_ret
  exact ⟨rfl, ⟨r0, OwnK.nil _ _, Nat.le_refl _, (by intro e; cases e), Kok.nil, by simp⟩, hw⟩
set_option maxRecDepth 100000 in
set_option maxHeartbeats 8000000 in
theorem a_From_no (l : List (List Int)) (w : World) (v : Value) (hL : Ksl w v l) (hn : 65536 < l.length) : Calls Tryd.prog 22 #[v] w fun e w' => e = .returned (.tuple #[.pointer none, .int .i64 2]) ∧ Below w.heap.size w w' := by
  obtain ⟨ao, cap, rfl, hc, hz⟩ := hL.slc
  have d1 : decide ((l.length : Int) > 65536) = true := by simp; omega
  go_enter Tryd.func22, Tryd.ntmps22
  go_wp2_with (fail)
  exact bodyPost_ret (results_tmp2 Tryd.results22 _ _ _) rfl ⟨rfl, Below.refl _ _⟩
set_option maxRecDepth 100000 in
set_option maxHeartbeats 8000000 in
theorem a_From (l : List (List Int)) (w : World) (v : Value) (hL : Ksl w v l) (hn : l.length ≤ 65536) : Calls Tryd.prog 22 #[v] w fun e w' => ∃ v1 g, e = .returned v1 ∧ ∃ v', v1 = .tuple #[.pointer (some ⟨g, 0, none⟩), .int .i64 0] ∧ LogS w' w.heap.size g v' l ∧ Below w.heap.size w w' := by
  have cC := a_CloneK l w v hL
  have hok := hL.ok
  obtain ⟨ao, cap, rfl, hc, hz⟩ := hL.slc
  have d1 : decide ((l.length : Int) > 65536) = false := by simp; omega
  go_enter Tryd.func22, Tryd.ntmps22
  go_wp2_with (fail)
  refine cC.mono ?_
  rintro e_ w1 ⟨v1, rfl, hO, hw⟩
  obtain ⟨a1, c1, rfl, _, _⟩ := hO.slc
  have bl := builtLg a1 l.length c1
  have r0 := hp1_0 w1 (.cells #[.slice a1 l.length c1] 85)
  have hb : Below w1.heap.size w1 (w1.alloc (.cells #[.slice a1 l.length c1] 85)) := (Below.refl _ _).alloc (Nat.le_refl _) _
  have hs := hw.size
  have hlt := hO.lt
  replace hO := hO.keep hb
  replace hw := Below.after hw hb
  go_wp2_with (fail)
  exact bodyPost_ret (results_tmp2 Tryd.results22 _ _ _) rfl ⟨_, w1.heap.size, rfl, _, rfl, ⟨r0, hO, hs, (by intro e; have := (hlt _ e).2; omega), hok, hn⟩, hw⟩
set_option maxRecDepth 100000 in
set_option maxHeartbeats 8000000 in
theorem a_Len (l : List (List Int)) (w : World) (b g : Nat) (v : Value) (hG : LogS w b g v l) : Calls Tryd.prog 24 #[.pointer (some ⟨g, 0, none⟩)] w fun e w' => e = .returned (.int .i64 (l.length : Int)) ∧ Below w.heap.size w w' := by
  obtain ⟨ao, cap, rfl, hc, hz⟩ := hG.2.1.slc
  have c0 := hG.cell
  go_enter Tryd.func24, Tryd.ntmps24
  go_wp2_with (fail)
  go_ret
  exact ⟨rfl, Below.refl _ _⟩
set_option maxRecDepth 100000 in
set_option maxHeartbeats 8000000 in
theorem a_Leaves (l : List (List Int)) (w : World) (b g : Nat) (v : Value) (hG : LogS w b g v l) : Calls Tryd.prog 28 #[.pointer (some ⟨g, 0, none⟩)] w fun e w' => ∃ v', e = .returned v' ∧ OwnK w' w.heap.size v' l ∧ Below w.heap.size w w' := by
  have cC := a_CloneK l w v hG.ksl
  obtain ⟨ao, cap, rfl, hc, hz⟩ := hG.2.1.slc
  have c0 := hG.cell
  go_enter Tryd.func28, Tryd.ntmps28
  go_wp2_with (fail)
  refine cC.mono ?_
  rintro e_ w1 ⟨v1, rfl, hO, hw⟩
  obtain ⟨a1, c1, rfl, _, _⟩ := hO.slc
  go_wp2_with (fail)
  go_ret
  exact ⟨_, rfl, hO, hw⟩
theorem zkb : Tryd.prog.built 24 [] = some (irow .u8 (zr 32)) := by kernel_rfl
/-- Two results: a row in a block, and a bool. -/
theorem results_row_slot {P : Program} {fn : Func} {p q : Tmp} {ty : TypeId} (h : fn.results = #[.cell p ty, .tmp q]) (tmps : Array Value) (w : World) (g : Nat) (t : TypeId) (cs : Array Value) (fr : Nat × Nat) (d : TypeDesc) (v : Value)
    (hp : tmps.getD p undef = .pointer (some ⟨g, 0, none⟩)) (hg : w.heap[g]? = some (.cells cs t fr)) (hq : tmps.getD q undef = v)
    (hu : P.underlying ty = some d) (hd : (match d with | .struct _ | .array _ _ => true | _ => false) = true) (hi : (P.info? ty).map (·.size) = some cs.size) :
    (results fn tmps).run P w = .ok (.tuple #[.agg cs, v]) w := by
  have hp' : tmps[p]?.getD undef = .pointer (some ⟨g, 0, none⟩) := by simpa using hp
  have hq' : tmps[q]?.getD undef = v := by simpa using hq
  simp [results, h, hp', hq', asAddr, run_loadVar_row w g t ty cs fr d hg hu hd hi]
set_option maxRecDepth 100000 in
set_option maxHeartbeats 8000000 in
theorem a_LRoot_no (l : List (List Int)) (w : World) (b g : Nat) (v : Value) (hG : LogS w b g v l) (n : Int) (hn : n < 0 ∨ (l.length : Int) < n) : Calls Tryd.prog 33 #[.pointer (some ⟨g, 0, none⟩), .int .i64 n] w fun e w' => e = .returned (.tuple #[.agg (irow .u8 (zr 32)), .int .i64 210]) ∧ Below w.heap.size w w' := by
  obtain ⟨ao, cap, rfl, hc, hz⟩ := hG.2.1.slc
  have rp0 := hp1_0 w (.cells (irow .u8 (zr 32)) 24)
  have hw : Below w.heap.size w (w.alloc (.cells (irow .u8 (zr 32)) 24)) := ((Below.refl _ _).alloc (Nat.le_refl _) _)
  go_enter Tryd.func33, Tryd.ntmps33
  iterate 7 go_step
  try rw [zk32]
  generalize (w.alloc (.cells (irow .u8 (zr 32)) 24)) = w0 at *
  by_cases h : n < 0
  · have d1 : decide (n < 0) = true := by simp; omega
    go_wp2_with (first | (refine wpList_build_as rfl 24 _ rfl [] rfl (irow .u8 (zr 32)) zkb ?_) | (refine wpList_store_row rfl 24 _ _ rfl (w.heap.size) (irow .u8 (zr 32)) rfl rfl 24 _ rp0 (infok8 _ (zr_len 32)) (((irow_size _ _).trans (zr_len 32)).trans ((irow_size _ _).trans (zr_len 32)).symm) (irow_one8 _) ?_) | fail)
    exact bodyPost_ret (v := .tuple #[.agg (irow .u8 (zr 32)), .int .i64 210]) (results_row_slot Tryd.results33 _ _ (w.heap.size) _ (irow .u8 (zr 32)) _ _ _ rfl (setRow_heap _ _ _ _ _ _ rp0) rfl Tryd.underlying24 rfl (infok8 _ (zr_len 32))) rfl ⟨rfl, below_setRow hw (by omega) _⟩
  · have d1 : decide (n < 0) = false := by simp; omega
    have d2 : decide (n > (l.length : Int)) = true := by simp; omega
    go_wp2_with (fail)
    refine (a_Len l _ b g _ (hG.keep hw)).mono ?_
    rintro e_ wl9 ⟨rfl, hb⟩
    replace rp0 := keep hb rp0
    replace hw := Below.after hw hb
    clear hb
    go_wp2_with (first | (refine wpList_build_as rfl 24 _ rfl [] rfl (irow .u8 (zr 32)) zkb ?_) | (refine wpList_store_row rfl 24 _ _ rfl (w.heap.size) (irow .u8 (zr 32)) rfl rfl 24 _ rp0 (infok8 _ (zr_len 32)) (((irow_size _ _).trans (zr_len 32)).trans ((irow_size _ _).trans (zr_len 32)).symm) (irow_one8 _) ?_) | fail)
    exact bodyPost_ret (v := .tuple #[.agg (irow .u8 (zr 32)), .int .i64 210]) (results_row_slot Tryd.results33 _ _ (w.heap.size) _ (irow .u8 (zr 32)) _ _ _ rfl (setRow_heap _ _ _ _ _ _ rp0) rfl Tryd.underlying24 rfl (infok8 _ (zr_len 32))) rfl ⟨rfl, below_setRow hw (by omega) _⟩
set_option maxRecDepth 100000 in
set_option maxHeartbeats 8000000 in
theorem a_LRoot_go (l : List (List Int)) (w : World) (b g : Nat) (v : Value) (hG : LogS w b g v l) (hS : Sta w) (hK : Kon w) (n : Nat) (hn : n ≤ l.length) {R : List Int} (hR : R.length = 32) (eR : Hid (rt sumL (l.take n) = R)) : Calls Tryd.prog 33 #[.pointer (some ⟨g, 0, none⟩), .int .i64 (n : Int)] w fun e w' => e = .returned (.tuple #[.agg (irow .u8 R), .int .i64 0]) ∧ Below w.heap.size w w' := by
  obtain ⟨ao, cap, rfl, hc, hz⟩ := hG.2.1.slc
  have d1 : decide ((n : Int) < 0) = false := by simp
  have d2 : decide ((n : Int) > (l.length : Int)) = false := by simp; omega
  have rp0 := hp1_0 w (.cells (irow .u8 (zr 32)) 24)
  have hw : Below w.heap.size w (w.alloc (.cells (irow .u8 (zr 32)) 24)) := ((Below.refl _ _).alloc (Nat.le_refl _) _)
  go_enter Tryd.func33, Tryd.ntmps33
  iterate 7 go_step
  try rw [zk32]
  generalize (w.alloc (.cells (irow .u8 (zr 32)) 24)) = w0 at *
  go_wp2_with (fail)
  refine (a_Len l _ b g _ (hG.keep hw)).mono ?_
  rintro e_ wl10 ⟨rfl, hb⟩
  replace rp0 := keep hb rp0
  replace hw := Below.after hw hb
  clear hb
  have c0 := (hG.keep hw).cell
  have s1 := slk_head ao l.length cap n (by omega) hz
  go_wp2_with (fail)
  refine (a_Root _ (l.take n) _ _ rfl (hS.below hw) (hK.below hw) ((hG.keep hw).ksl.head (by omega))).mono ?_
  rintro e_ w9 ⟨rfl, hb⟩
  replace rp0 := keep hb rp0
  replace hw := Below.after hw hb
  clear hb
  rw [eR.out]
  go_wp2_with (first | (refine wpList_store_row rfl 24 _ _ rfl (w.heap.size) (irow .u8 R) rfl rfl 24 _ rp0 (infok8 _ hR) (((irow_size _ _).trans (zr_len 32)).trans ((irow_size _ _).trans hR).symm) (irow_one8 _) ?_) | fail)
  exact bodyPost_ret (v := .tuple #[.agg (irow .u8 R), .int .i64 0]) (results_row_slot Tryd.results33 _ _ (w.heap.size) _ (irow .u8 R) _ _ _ rfl (setRow_heap _ _ _ _ _ _ rp0) rfl Tryd.underlying24 rfl (infok8 _ hR)) rfl ⟨rfl, below_setRow hw (by omega) _⟩
theorem a_LRoot (l : List (List Int)) (w : World) (b g : Nat) (v : Value) (hG : LogS w b g v l) (hS : Sta w) (hK : Kon w) (n : Nat) (hn : n ≤ l.length) : Calls Tryd.prog 33 #[.pointer (some ⟨g, 0, none⟩), .int .i64 (n : Int)] w fun e w' => e = .returned (.tuple #[.agg (irow .u8 (rt sumL (l.take n))), .int .i64 0]) ∧ Below w.heap.size w w' := a_LRoot_go l w b g v hG hS hK n hn (Ky.rt (hG.2.2.2.2.1.take n)).1 (hide rfl)
set_option maxRecDepth 100000 in
set_option maxHeartbeats 8000000 in
theorem a_LPath_bad (l : List (List Int)) (w : World) (b g : Nat) (v : Value) (hG : LogS w b g v l) (i n : Int) (hn : n < 1 ∨ (¬ n < 1 ∧ (l.length : Int) < n) ∨ (¬ n < 1 ∧ ¬ (l.length : Int) < n ∧ i < 0) ∨ (¬ n < 1 ∧ ¬ (l.length : Int) < n ∧ ¬ i < 0 ∧ n ≤ i)) : Calls Tryd.prog 35 #[.pointer (some ⟨g, 0, none⟩), .int .i64 i, .int .i64 n] w fun e w' => e = .returned (.tuple #[.slice none 0 0, .int .i64 210]) ∧ Below w.heap.size w w' := by
  obtain ⟨ao, cap, rfl, hc, hz⟩ := hG.2.1.slc
  have hw : Below w.heap.size w w := Below.refl _ _
  go_enter Tryd.func35, Tryd.ntmps35
  rcases hn with h | ⟨h, h1⟩ | ⟨h, h0, h1⟩ | ⟨h, h0, h1, h2⟩
  · skip
    have d0 : decide (n < 1) = true := by simp <;> omega
    go_wp2_with (fail)
    exact bodyPost_ret (results_tmp2 Tryd.results35 _ _ _) rfl ⟨rfl, hw⟩
  · skip
    have d0 : decide (n < 1) = false := by simp <;> omega
    have d1 : decide (n > (l.length : Int)) = true := by simp <;> omega
    go_wp2_with (fail)
    refine (a_Len l _ b g _ (hG.keep hw)).mono ?_
    rintro e_ wl11 ⟨rfl, hb⟩
    replace hw := Below.after hw hb
    clear hb
    go_wp2_with (fail)
    exact bodyPost_ret (results_tmp2 Tryd.results35 _ _ _) rfl ⟨rfl, hw⟩
  · skip
    have d0 : decide (n < 1) = false := by simp <;> omega
    have d1 : decide (n > (l.length : Int)) = false := by simp <;> omega
    have d2 : decide (i < 0) = true := by simp <;> omega
    go_wp2_with (fail)
    refine (a_Len l _ b g _ (hG.keep hw)).mono ?_
    rintro e_ wl12 ⟨rfl, hb⟩
    replace hw := Below.after hw hb
    clear hb
    go_wp2_with (fail)
    exact bodyPost_ret (results_tmp2 Tryd.results35 _ _ _) rfl ⟨rfl, hw⟩
  · skip
    have d0 : decide (n < 1) = false := by simp <;> omega
    have d1 : decide (n > (l.length : Int)) = false := by simp <;> omega
    have d2 : decide (i < 0) = false := by simp <;> omega
    have d3 : decide (i ≥ n) = true := by simp <;> omega
    go_wp2_with (fail)
    refine (a_Len l _ b g _ (hG.keep hw)).mono ?_
    rintro e_ wl13 ⟨rfl, hb⟩
    replace hw := Below.after hw hb
    clear hb
    go_wp2_with (fail)
    exact bodyPost_ret (results_tmp2 Tryd.results35 _ _ _) rfl ⟨rfl, hw⟩
theorem a_LPath_no (l : List (List Int)) (w : World) (b g : Nat) (v : Value) (hG : LogS w b g v l) (i n : Int) (hn : n < 1 ∨ (l.length : Int) < n ∨ i < 0 ∨ n ≤ i) : Calls Tryd.prog 35 #[.pointer (some ⟨g, 0, none⟩), .int .i64 i, .int .i64 n] w fun e w' => e = .returned (.tuple #[.slice none 0 0, .int .i64 210]) ∧ Below w.heap.size w w' := a_LPath_bad l w b g v hG i n (by omega)
set_option maxRecDepth 100000 in
set_option maxHeartbeats 8000000 in
theorem a_LPath (l : List (List Int)) (w : World) (b g : Nat) (v : Value) (hG : LogS w b g v l) (hS : Sta w) (hK : Kon w) (i n : Nat) (hi : i < n) (hn : n ≤ l.length) : Calls Tryd.prog 35 #[.pointer (some ⟨g, 0, none⟩), .int .i64 (i : Int), .int .i64 (n : Int)] w fun e w' => ∃ v', e = .returned (.tuple #[v', .int .i64 0]) ∧ OwnK w' w.heap.size v' (pth sumL (l.take n) i) ∧ Below w.heap.size w w' := by
  obtain ⟨ao, cap, rfl, hc, hz⟩ := hG.2.1.slc
  have d0 : decide ((n : Int) < 1) = false := by simp <;> omega
  have d1 : decide ((n : Int) > (l.length : Int)) = false := by simp <;> omega
  have d2 : decide ((i : Int) < 0) = false := by simp <;> omega
  have d3 : decide ((i : Int) ≥ (n : Int)) = false := by simp <;> omega
  have hw : Below w.heap.size w w := Below.refl _ _
  go_enter Tryd.func35, Tryd.ntmps35
  go_wp2_with (fail)
  refine (a_Len l _ b g _ (hG.keep hw)).mono ?_
  rintro e_ wl14 ⟨rfl, hb⟩
  replace hw := Below.after hw hb
  clear hb
  have c0 := (hG.keep hw).cell
  have s1 := slk_head ao l.length cap n (by omega) hz
  have hs0 := hw.size
  go_wp2_with (fail)
  refine (a_path n (l.take n) i _ _ (by rw [List.length_take]; omega) hi (hS.below hw) (hK.below hw) ((hG.keep hw).ksl.head (by omega))).mono ?_
  rintro e_ w2 ⟨v1, rfl, hO, hb⟩
  replace hw := Below.after hw hb
  clear hb
  obtain ⟨a1, c1, e1, _, _⟩ := hO.slc
  generalize (pth sumL (l.take n) i).length = L1 at e1
  subst e1
  go_wp2_with (fail)
  exact bodyPost_ret (results_tmp2 Tryd.results35 _ _ _) rfl ⟨_, rfl, hO.down hs0, hw⟩
set_option maxRecDepth 100000 in
set_option maxHeartbeats 8000000 in
theorem a_LGrow_bad (l : List (List Int)) (w : World) (b g : Nat) (v : Value) (hG : LogS w b g v l) (i n : Int) (hn : (l.length : Int) < n ∨ (¬ (l.length : Int) < n ∧ i < 0) ∨ (¬ (l.length : Int) < n ∧ ¬ i < 0 ∧ n < i)) : Calls Tryd.prog 34 #[.pointer (some ⟨g, 0, none⟩), .int .i64 i, .int .i64 n] w fun e w' => e = .returned (.tuple #[.slice none 0 0, .int .i64 210]) ∧ Below w.heap.size w w' := by
  obtain ⟨ao, cap, rfl, hc, hz⟩ := hG.2.1.slc
  have hw : Below w.heap.size w w := Below.refl _ _
  go_enter Tryd.func34, Tryd.ntmps34
  rcases hn with h | ⟨h, h1⟩ | ⟨h, h0, h1⟩
  · skip
    have d0 : decide (n > (l.length : Int)) = true := by simp <;> omega
    go_wp2_with (fail)
    refine (a_Len l _ b g _ (hG.keep hw)).mono ?_
    rintro e_ wl15 ⟨rfl, hb⟩
    replace hw := Below.after hw hb
    clear hb
    go_wp2_with (fail)
    exact bodyPost_ret (results_tmp2 Tryd.results34 _ _ _) rfl ⟨rfl, hw⟩
  · skip
    have d0 : decide (n > (l.length : Int)) = false := by simp <;> omega
    have d1 : decide (i < 0) = true := by simp <;> omega
    go_wp2_with (fail)
    refine (a_Len l _ b g _ (hG.keep hw)).mono ?_
    rintro e_ wl16 ⟨rfl, hb⟩
    replace hw := Below.after hw hb
    clear hb
    go_wp2_with (fail)
    exact bodyPost_ret (results_tmp2 Tryd.results34 _ _ _) rfl ⟨rfl, hw⟩
  · skip
    have d0 : decide (n > (l.length : Int)) = false := by simp <;> omega
    have d1 : decide (i < 0) = false := by simp <;> omega
    have d2 : decide (i > n) = true := by simp <;> omega
    go_wp2_with (fail)
    refine (a_Len l _ b g _ (hG.keep hw)).mono ?_
    rintro e_ wl17 ⟨rfl, hb⟩
    replace hw := Below.after hw hb
    clear hb
    go_wp2_with (fail)
    exact bodyPost_ret (results_tmp2 Tryd.results34 _ _ _) rfl ⟨rfl, hw⟩
theorem a_LGrow_no (l : List (List Int)) (w : World) (b g : Nat) (v : Value) (hG : LogS w b g v l) (i n : Int) (hn : (l.length : Int) < n ∨ i < 0 ∨ n < i) : Calls Tryd.prog 34 #[.pointer (some ⟨g, 0, none⟩), .int .i64 i, .int .i64 n] w fun e w' => e = .returned (.tuple #[.slice none 0 0, .int .i64 210]) ∧ Below w.heap.size w w' := a_LGrow_bad l w b g v hG i n (by omega)
set_option maxRecDepth 100000 in
set_option maxHeartbeats 8000000 in
theorem a_LGrow0 (l : List (List Int)) (w : World) (b g : Nat) (v : Value) (hG : LogS w b g v l) (n : Nat) (hn : n ≤ l.length) : Calls Tryd.prog 34 #[.pointer (some ⟨g, 0, none⟩), .int .i64 0, .int .i64 (n : Int)] w fun e w' => e = .returned (.tuple #[.slice none 0 0, .int .i64 0]) ∧ Below w.heap.size w w' := by
  obtain ⟨ao, cap, rfl, hc, hz⟩ := hG.2.1.slc
  have d0 : decide ((n : Int) > (l.length : Int)) = false := by simp <;> omega
  have d1 : decide ((0 : Int) > (n : Int)) = false := by simp <;> omega
  have hw : Below w.heap.size w w := Below.refl _ _
  go_enter Tryd.func34, Tryd.ntmps34
  go_wp2_with (fail)
  refine (a_Len l _ b g _ (hG.keep hw)).mono ?_
  rintro e_ wl18 ⟨rfl, hb⟩
  replace hw := Below.after hw hb
  clear hb
  go_wp2_with (fail)
  exact bodyPost_ret (results_tmp2 Tryd.results34 _ _ _) rfl ⟨rfl, hw⟩
set_option maxRecDepth 100000 in
set_option maxHeartbeats 8000000 in
theorem a_LGrow1 (l : List (List Int)) (w : World) (b g : Nat) (v : Value) (hG : LogS w b g v l) (hS : Sta w) (hK : Kon w) (i n : Nat) (h1 : 1 ≤ i) (hi : i ≤ n) (hn : n ≤ l.length) : Calls Tryd.prog 34 #[.pointer (some ⟨g, 0, none⟩), .int .i64 (i : Int), .int .i64 (n : Int)] w fun e w' => ∃ v', e = .returned (.tuple #[v', .int .i64 0]) ∧ OwnK w' w.heap.size v' (gro sumL (l.take n) i true) ∧ Below w.heap.size w w' := by
  obtain ⟨ao, cap, rfl, hc, hz⟩ := hG.2.1.slc
  have d0 : decide ((n : Int) > (l.length : Int)) = false := by simp <;> omega
  have d1 : decide ((i : Int) < 0) = false := by simp <;> omega
  have d2 : decide ((i : Int) > (n : Int)) = false := by simp <;> omega
  have d3 : decide ((i : Int) = 0) = false := by simp <;> omega
  have hw : Below w.heap.size w w := Below.refl _ _
  go_enter Tryd.func34, Tryd.ntmps34
  go_wp2_with (fail)
  refine (a_Len l _ b g _ (hG.keep hw)).mono ?_
  rintro e_ wl19 ⟨rfl, hb⟩
  replace hw := Below.after hw hb
  clear hb
  have c0 := (hG.keep hw).cell
  have s1 := slk_head ao l.length cap n (by omega) hz
  have hs0 := hw.size
  go_wp2_with (fail)
  refine (a_growth n (l.take n) i true _ _ (by rw [List.length_take]; omega) h1 hi (hS.below hw) (hK.below hw) ((hG.keep hw).ksl.head (by omega))).mono ?_
  rintro e_ w2 ⟨v1, rfl, hO, hb⟩
  replace hw := Below.after hw hb
  clear hb
  obtain ⟨a1, c1, e1, _, _⟩ := hO.slc
  generalize (gro sumL (l.take n) i true).length = L1 at e1
  subst e1
  go_wp2_with (fail)
  exact bodyPost_ret (results_tmp2 Tryd.results34 _ _ _) rfl ⟨_, rfl, hO.down hs0, hw⟩
/-- What Growth answers. -/
def grL (l : List (List Int)) (m : Nat) : List (List Int) := if m = 0 then [] else gro sumL l m true
theorem a_LGrow (l : List (List Int)) (w : World) (b g : Nat) (v : Value) (hG : LogS w b g v l) (hS : Sta w) (hK : Kon w) (i n : Nat) (hi : i ≤ n) (hn : n ≤ l.length) : Calls Tryd.prog 34 #[.pointer (some ⟨g, 0, none⟩), .int .i64 (i : Int), .int .i64 (n : Int)] w fun e w' => ∃ v', e = .returned (.tuple #[v', .int .i64 0]) ∧ OwnK w' w.heap.size v' (grL (l.take n) i) ∧ Below w.heap.size w w' := by
  unfold grL
  by_cases h0 : i = 0
  · subst h0
    rw [if_pos rfl]
    exact (a_LGrow0 l w b g v hG n hn).mono fun e w' ⟨h1, h2⟩ => ⟨_, h1, OwnK.nil _ _, h2⟩
  · rw [if_neg h0]
    exact a_LGrow1 l w b g v hG hS hK i n (by omega) hi hn
end Go.Proofs.YtgfeacnhdlgpoaaDoor
