import Derived.Test.YtlbcdjflcghkeaaDoorProg
import Derived.WalkKit
import Derived.WalkSpells
import Derived.WalkLawsBesides
import Derived.Lib.QuietBelow
import Derived.BigQuiet
import Derived.OrdersHeld
import Derived.OwnWalk
import Derived.Deep.RegionHeld3
import Derived.Deep.Cut
import Derived.Deep.CutRange
import Derived.Maps.Own
import Derived.Maps.OwnSet
import Derived.Laws.BitsAllLaws
import Derived.WalkMore
import Derived.Test.YtlbcdjflcghkeaaDoorTud
namespace Go.Proofs.YtlbcdjflcghkeaaDoor
set_option maxRecDepth 100000
open Go Go.RowKit Go.Sort Go.ChangeMaps Go.MapKept
attribute [local go_sem] setCell_drewN alloc_drewN
theorem run_bs0C (W : World) : (Instr.buildSlice 49 0 #[]).run Tryd.prog W = .ok (.slice (some ⟨W.heap.size, 0, none⟩) 0 0) (W.alloc (.cells #[] 45)) := by kernel_rfl
theorem eqC1 (a : Addr) (n c : Nat) (W : World) : (binOp .eql 49 (.slice (some a) n c) (.slice none 0 0)).run Tryd.prog W = .ok (.bool false) W := by kernel_rfl
theorem eqC0 (W : World) : (binOp .eql 49 (.slice none 0 0) (.slice none 0 0)).run Tryd.prog W = .ok (.bool true) W := by kernel_rfl
theorem OwnC.cells {W : World} {b : Nat} {g m cap : Nat} {l : List Ct} (h : OwnC W b (.slice (some ⟨g, 0, none⟩) m cap) l) : ∀ j u, (cts l)[j]? = some u → W.cell? ((⟨g, 0, none⟩ : Addr).add j) = some u := by
  have e : m = l.length := by obtain ⟨_, _, q, _⟩ := h.sl; cases q; rfl
  subst e
  exact h.1.cells (g := g) rfl
theorem wp_append_C {w : World} {o : Oper} {a : Act} {K : Act → World → Prop} {Q : Exit → Act → World → Prop} (s x : Operand) (t : TypeId) (ht : Tryd.prog.underlying t = some (.slice 45)) (ho : o.op = .call { callee := .builtin .append, args := #[s, x], argTypes := #[t, t] })
    (base : Nat) (v : Value) (l : List Ct) (hs : a.eval s = v) (hI : OwnC w base v l) (ad : Addr) (r : List Ct) (c : Nat) (hr : AllC r) (hx : a.eval x = .slice (some ad) r.length c) (hM : ∀ j u, (cts r)[j]? = some u → w.cell? (ad.add j) = some u) (hlen : l.length + r.length ≤ 1000000) (hbase : base ≤ w.heap.size)
    (h : ∀ v' w', OwnC w' base v' (l ++ r) → w.grownBy w' v.ownBlock → Nx w v v' → K (a.put o.dst v') w') : o.wp Tryd.prog a w K Q := by
  obtain ⟨i0, hi, hz0, hz1, hz2⟩ := infoCtz
  refine wp_append_nx s x t ho base 45 i0 (.agg (ctr zct)) 66 88 ht hi hz0 hz1 hz2 rfl (by decide) v l.length (cts l) hs hI.1 ad r.length c (cts r) hx (cts_len hr) hM (cts_ones _) (by unfold maxLen; omega) (by omega) hbase (fun v' w' h1 h2 h3 => h v' w' ⟨?_, hI.2.app hr⟩ h2 h3)
  rw [List.length_append, cts_app]
  exact h1
theorem wpList_append_C {w : World} {ops : Array Oper} {rest : List Oper} {o : Oper} {a : Act} {Q : Exit → Act → World → Prop} (hgd : o.guard = none) (s x : Operand) (t : TypeId) (ht : Tryd.prog.underlying t = some (.slice 45)) (ho : o.op = .call { callee := .builtin .append, args := #[s, x], argTypes := #[t, t] })
    (base : Nat) (v : Value) (l : List Ct) (hs : a.eval s = v) (hI : OwnC w base v l) (ad : Addr) (r : List Ct) (c : Nat) (hr : AllC r) (hx : a.eval x = .slice (some ad) r.length c) (hM : ∀ j u, (cts r)[j]? = some u → w.cell? (ad.add j) = some u) (hlen : l.length + r.length ≤ 1000000) (hbase : base ≤ w.heap.size)
    (h : ∀ v' w', OwnC w' base v' (l ++ r) → w.grownBy w' v.ownBlock → Nx w v v' → wpList Tryd.prog ops Q rest (a.put o.dst v') w') : wpList Tryd.prog ops Q (o :: rest) a w :=
  wpList_plain hgd fun _ hK => wp_append_C s x t ht ho base v l hs hI ad r c hr hx hM hlen hbase (fun v' w' h1 h2 h3 => hK _ _ (h v' w' h1 h2 h3))
set_option maxRecDepth 100000 in
set_option maxHeartbeats 8000000 in
theorem a_CloneC (l : List Ct) (b : Nat) (v : Value) (w : World) (hO : OwnC w b v l) (hl : l.length ≤ 4096) : Calls Tryd.prog 26 #[v] w fun e w' => ∃ v', e = .returned v' ∧ OwnC w' w.heap.size v' l ∧ Below w.heap.size w w' := by
  obtain ⟨ao, cap, rfl, hc1, hc2, hz, hg⟩ := hO.sl
  cases ao with
  | none =>
    have h0 := hz rfl
    have hl : l = [] := List.eq_nil_of_length_eq_zero (by omega)
    subst h0 hl
    have e1 := eqC0
    go_enter Tryd.func26, Tryd.ntmps26
    go_wp2_with (fail)
    go_ret
    exact ⟨_, rfl, OwnC.nil _ _, Below.refl _ _⟩
  | some ad =>
    obtain ⟨g, rfl⟩ := hg ad rfl
    have e1 := eqC1 ⟨g, 0, none⟩ l.length cap
    have hE : OwnC (w.alloc (.cells #[] 45)) w.heap.size (.slice (some ⟨w.heap.size, 0, none⟩) 0 0) [] := ⟨⟨rfl, .inr ⟨w.heap.size, 0, #[], rfl, Nat.le_refl _, hp1_0 _ _, Nat.le_refl _, by decide, rfl, rfl⟩⟩, AllC.nil⟩
    have hw : Below w.heap.size w (w.alloc (.cells #[] 45)) := (Below.refl _ _).alloc (Nat.le_refl _) _
    replace hO := hO.keep hw
    go_enter Tryd.func26, Tryd.ntmps26
    go_wp2_with (at_builtin; refine wpList_append_C rfl (.tmp 5) (.tmp 6) 49 Tryd.underlying49 rfl w.heap.size _ [] rfl hE ⟨g, 0, none⟩ l cap hO.2 rfl hO.cells (by simp only [List.length_nil]; omega) hw.size ?_)
    intro v1 w1 hO_ hgr _
    replace hw := hw.grown hgr hw.size (fun k e => (hE.lt k e).1)
    replace hO_ : OwnC w1 w.heap.size v1 l := hO_
    go_wp2_with (fail)
    go_ret
    exact ⟨_, rfl, hO_, hw⟩
theorem run_bs0E (W : World) : (Instr.buildSlice 47 0 #[]).run Tryd.prog W = .ok (.slice (some ⟨W.heap.size, 0, none⟩) 0 0) (W.alloc (.cells #[] 57)) := by kernel_rfl
theorem eqE1 (a : Addr) (n c : Nat) (W : World) : (binOp .eql 47 (.slice (some a) n c) (.slice none 0 0)).run Tryd.prog W = .ok (.bool false) W := by kernel_rfl
theorem eqE0 (W : World) : (binOp .eql 47 (.slice none 0 0) (.slice none 0 0)).run Tryd.prog W = .ok (.bool true) W := by kernel_rfl
theorem OwnE.cells {W : World} {b : Nat} {g m cap : Nat} {l : List Ev} (h : OwnE W b (.slice (some ⟨g, 0, none⟩) m cap) l) : ∀ j u, (evs l)[j]? = some u → W.cell? ((⟨g, 0, none⟩ : Addr).add j) = some u := by
  have e : m = l.length := by obtain ⟨_, _, q, _⟩ := h.sl; cases q; rfl
  subst e
  exact h.1.cells (g := g) rfl
theorem wp_append_E {w : World} {o : Oper} {a : Act} {K : Act → World → Prop} {Q : Exit → Act → World → Prop} (s x : Operand) (t : TypeId) (ht : Tryd.prog.underlying t = some (.slice 57)) (ho : o.op = .call { callee := .builtin .append, args := #[s, x], argTypes := #[t, t] })
    (base : Nat) (v : Value) (l : List Ev) (hs : a.eval s = v) (hI : OwnE w base v l) (ad : Addr) (r : List Ev) (c : Nat) (hr : AllE r) (hx : a.eval x = .slice (some ad) r.length c) (hM : ∀ j u, (evs r)[j]? = some u → w.cell? (ad.add j) = some u) (hlen : l.length + r.length ≤ 1000000) (hbase : base ≤ w.heap.size)
    (h : ∀ v' w', OwnE w' base v' (l ++ r) → w.grownBy w' v.ownBlock → Nx w v v' → K (a.put o.dst v') w') : o.wp Tryd.prog a w K Q := by
  obtain ⟨i0, hi, hz0, hz1, hz2⟩ := infoEvz
  refine wp_append_nx s x t ho base 57 i0 (.agg (evr ⟨0, ⟨#[]⟩, zr 32⟩)) 34 56 ht hi hz0 hz1 hz2 rfl (by decide) v l.length (evs l) hs hI.1 ad r.length c (evs r) hx (evs_len hr) hM (evs_ones _) (by unfold maxLen; omega) (by omega) hbase (fun v' w' h1 h2 h3 => h v' w' ⟨?_, hI.2.app hr⟩ h2 h3)
  rw [List.length_append, evs_app]
  exact h1
theorem wpList_append_E {w : World} {ops : Array Oper} {rest : List Oper} {o : Oper} {a : Act} {Q : Exit → Act → World → Prop} (hgd : o.guard = none) (s x : Operand) (t : TypeId) (ht : Tryd.prog.underlying t = some (.slice 57)) (ho : o.op = .call { callee := .builtin .append, args := #[s, x], argTypes := #[t, t] })
    (base : Nat) (v : Value) (l : List Ev) (hs : a.eval s = v) (hI : OwnE w base v l) (ad : Addr) (r : List Ev) (c : Nat) (hr : AllE r) (hx : a.eval x = .slice (some ad) r.length c) (hM : ∀ j u, (evs r)[j]? = some u → w.cell? (ad.add j) = some u) (hlen : l.length + r.length ≤ 1000000) (hbase : base ≤ w.heap.size)
    (h : ∀ v' w', OwnE w' base v' (l ++ r) → w.grownBy w' v.ownBlock → Nx w v v' → wpList Tryd.prog ops Q rest (a.put o.dst v') w') : wpList Tryd.prog ops Q (o :: rest) a w :=
  wpList_plain hgd fun _ hK => wp_append_E s x t ht ho base v l hs hI ad r c hr hx hM hlen hbase (fun v' w' h1 h2 h3 => hK _ _ (h v' w' h1 h2 h3))
set_option maxRecDepth 100000 in
set_option maxHeartbeats 8000000 in
theorem a_CloneE (l : List Ev) (b : Nat) (v : Value) (w : World) (hO : OwnE w b v l) (hl : l.length ≤ 4096) : Calls Tryd.prog 27 #[v] w fun e w' => ∃ v', e = .returned v' ∧ OwnE w' w.heap.size v' l ∧ Below w.heap.size w w' := by
  obtain ⟨ao, cap, rfl, hc1, hc2, hz, hg⟩ := hO.sl
  cases ao with
  | none =>
    have h0 := hz rfl
    have hl : l = [] := List.eq_nil_of_length_eq_zero (by omega)
    subst h0 hl
    have e1 := eqE0
    go_enter Tryd.func27, Tryd.ntmps27
    go_wp2_with (fail)
    go_ret
    exact ⟨_, rfl, OwnE.nil _ _, Below.refl _ _⟩
  | some ad =>
    obtain ⟨g, rfl⟩ := hg ad rfl
    have e1 := eqE1 ⟨g, 0, none⟩ l.length cap
    have hE : OwnE (w.alloc (.cells #[] 57)) w.heap.size (.slice (some ⟨w.heap.size, 0, none⟩) 0 0) [] := ⟨⟨rfl, .inr ⟨w.heap.size, 0, #[], rfl, Nat.le_refl _, hp1_0 _ _, Nat.le_refl _, by decide, rfl, rfl⟩⟩, AllE.nil⟩
    have hw : Below w.heap.size w (w.alloc (.cells #[] 57)) := (Below.refl _ _).alloc (Nat.le_refl _) _
    replace hO := hO.keep hw
    go_enter Tryd.func27, Tryd.ntmps27
    go_wp2_with (at_builtin; refine wpList_append_E rfl (.tmp 5) (.tmp 6) 47 Tryd.underlying47 rfl w.heap.size _ [] rfl hE ⟨g, 0, none⟩ l cap hO.2 rfl hO.cells (by simp only [List.length_nil]; omega) hw.size ?_)
    intro v1 w1 hO_ hgr _
    replace hw := hw.grown hgr hw.size (fun k e => (hE.lt k e).1)
    replace hO_ : OwnE w1 w.heap.size v1 l := hO_
    go_wp2_with (fail)
    go_ret
    exact ⟨_, rfl, hO_, hw⟩
/-- A name. -/
def Nam (m : ByteArray) : Prop := 1 ≤ m.size ∧ m.size ≤ 16 ∧ ∀ i (h : i < m.size), 97 ≤ m[i].toNat ∧ m[i].toNat ≤ 122
instance (m : ByteArray) : Decidable (Nam m) := inferInstanceAs (Decidable (_ ∧ _ ∧ _))
def nam (m : ByteArray) : Bool := decide (Nam m)
theorem nam_no {m : ByteArray} {i : Nat} (h : i < m.size) (k : ¬ (97 ≤ m[i].toNat ∧ m[i].toNat ≤ 122)) : nam m = false := by
  unfold nam
  rw [decide_eq_false_iff_not]
  exact fun q => k (q.2.2 i h)
set_option maxRecDepth 100000 in
set_option maxHeartbeats 8000000 in
theorem a_isName (m : ByteArray) (w : World) (hm : m.size ≤ 9223372036854775806) : Calls Tryd.prog 17 #[.string m] w fun e w' => e = .returned (.bool (nam m)) ∧ Below w.heap.size w w' := by
  go_enter Tryd.func17, Tryd.ntmps17
  go_wp2_with (fail)
  go_loopw [6] (fun x wr => ∃ i : Nat, i ≤ m.size ∧ x = .int .i64 i ∧ Below w.heap.size w wr ∧ Hid (∀ t (h : t < m.size), t < i → 97 ≤ m[t].toNat ∧ m[t].toNat ≤ 122)) (fun x _ => m.size - (intOf x).toNat)
  case atStart => exact ⟨0, by omega, rfl, Below.refl _ _, hide (fun t _ h => by omega)⟩
  case round =>
    obtain ⟨i, hi, rfl, hw, hB⟩ := hrel
    by_cases hlt : i < m.size
    · have hd : decide ((i : Int) < (m.size : Int)) = true := by simp; omega
      go_wp2_with (fail)
      case roundEnd =>
        have hk : 97 ≤ (m[i]'hlt).toNat ∧ (m[i]'hlt).toNat ≤ 122 := by omega
        refine ⟨⟨i + 1, by omega, by go_num, hw, hide (fun t h1 h2 => ?_)⟩, ?_⟩
        · by_cases q : t = i
          · subst q; exact hk
          · exact hB.out t h1 (by omega)
        · simp [intOf]; omega
      all_goals (have hk : ¬ (97 ≤ (m[i]'hlt).toNat ∧ (m[i]'hlt).toNat ≤ 122) := by omega)
      all_goals go_ret
      all_goals exact ⟨by rw [nam_no hlt hk]; rfl, hw⟩
    · obtain rfl : i = m.size := by omega
      have hd : decide ((m.size : Int) < (m.size : Int)) = false := by simp
      have hf : Hid (nam m = (decide (1 ≤ m.size) && decide (m.size ≤ 16))) := hide (by
        rw [Bool.eq_iff_iff]
        unfold nam
        simp only [decide_eq_true_eq, Bool.and_eq_true]
        exact ⟨fun q => ⟨q.1, q.2.1⟩, fun q => ⟨q.1, q.2, fun t h => hB.out t h h⟩⟩)
      have hd1 : decide ((m.size : Int) ≥ 1) = decide (1 ≤ m.size) := by rw [decide_eq_decide]; omega
      have hd2 : decide ((m.size : Int) ≤ 16) = decide (m.size ≤ 16) := by rw [decide_eq_decide]; omega
      clear hB
      generalize e1 : decide (1 ≤ m.size) = x1 at *
      generalize e2 : decide (m.size ≤ 16) = x2 at *
      cases x1
      · go_wp2_with (fail)
        go_ret
        exact ⟨by rw [hf.out]; rfl, hw⟩
      · go_wp2_with (fail)
        go_ret
        exact ⟨by rw [hf.out]; first | rfl | simp only [*]; done, hw⟩
theorem keyi (d : Int) (h : -9223372036854775808 ≤ d ∧ d ≤ 9223372036854775807) : keyOf Tryd.prog 3 (.int .i64 d) = some (.int .i64 d) := Go.Maps.keyOf_int_mk Tryd.underlying3 (by unfold Lit.wf; simp only [Bool.and_eq_true, decide_eq_true_eq]; exact ⟨h.1, h.2⟩)
theorem run_chki (d : Int) (h : -9223372036854775808 ≤ d ∧ d ≤ 9223372036854775807) (e : Bool) (w : World) : (Instr.checkKey e 10000 3 (.int .i64 d)).run Tryd.prog w = .ok () w := (Go.Maps.int_keyed Tryd.underlying3).check w e (keyi d h)
theorem run_fndi (w : World) (k : Value) (es : List MapEntry) (r : Option (Nat × Value)) (hf : Instr.findNow (.int .i64) k es 0 = some r) : (Instr.findKey 3 k es).run Tryd.prog w = .ok r w := by
  simp [Instr.findKey, run_underlying Tryd.underlying3, hf, Result.andThen]
theorem run_insi (w : World) (b : Nat) (es : Array MapEntry) (c : Nat) (d : Int) (hd : -9223372036854775808 ≤ d ∧ d ≤ 9223372036854775807) (v : Value) (hb : w.heap[b]? = some (.map es c)) (hf : Instr.findNow (.int .i64) (.int .i64 d) es.toList 0 = some none) :
    (Instr.mapUpdate 77 (.map (some b)) (.int .i64 d) v).run Tryd.prog w = .ok () (setBlock w b (.map (es.push { key := .int .i64 d, val := v, born := c }) (c + 1))) := by
  simp [Instr.mapUpdate, run_underlying Tryd.underlying77, MapKept.run_getObj_map hb, run_chki d hd, run_fndi w _ _ _ hf, MapKept.run_setObj_map _ hb, Result.andThen, setBlock]
theorem run_lokS (w : World) (b : Nat) (es : Array MapEntry) (c : Nat) (d : Int) (hd : -9223372036854775808 ≤ d ∧ d ≤ 9223372036854775807) (i : Nat) (v : Value) (hb : w.heap[b]? = some (.map es c)) (hf : Instr.findNow (.int .i64) (.int .i64 d) es.toList 0 = some (some (i, v))) :
    (Instr.lookup 77 (.map (some b)) (.int .i64 d) true).run Tryd.prog w = .ok (.tuple #[v, .bool true]) w := by
  simp [Instr.lookup, run_underlying Tryd.underlying77, MapKept.run_getObj_map hb, run_chki d hd, run_fndi w _ _ _ hf, Result.andThen]
theorem zeroFi (w : World) : (zeroValue 75).run Tryd.prog w = .ok .nilFunc w := by kernel_rfl
theorem run_lokN (w : World) (b : Nat) (es : Array MapEntry) (c : Nat) (d : Int) (hd : -9223372036854775808 ≤ d ∧ d ≤ 9223372036854775807) (hb : w.heap[b]? = some (.map es c)) (hf : Instr.findNow (.int .i64) (.int .i64 d) es.toList 0 = some none) :
    (Instr.lookup 77 (.map (some b)) (.int .i64 d) true).run Tryd.prog w = .ok (.tuple #[.nilFunc, .bool false]) w := by
  simp [Instr.lookup, run_underlying Tryd.underlying77, MapKept.run_getObj_map hb, run_chki d hd, run_fndi w _ _ _ hf, Result.andThen]
theorem below_setBlock {w W : World} {g b : Nat} (o : Obj) (h : Below g w W) (hb : g ≤ b) : Below g w (setBlock W b o) := by
  refine ⟨h.os, h.tape, h.output, ?_, fun k hk => ?_⟩
  · have := h.size
    simpa [setBlock] using this
  · rw [← h.block k hk]
    simp only [setBlock]
    exact Array.getElem?_setIfInBounds_ne (by omega)
theorem setBlock_at {W : World} {b : Nat} {o : Obj} (h : b < W.heap.size) : (setBlock W b o).heap[b]? = some o := by
  simp [setBlock, h]
theorem setBlock_ne {W : World} {b k : Nat} {o : Obj} (h : b ≠ k) : (setBlock W b o).heap[k]? = W.heap[k]? := by
  simp only [setBlock]
  exact Array.getElem?_setIfInBounds_ne h
def es0 : Array MapEntry := #[]
def es1 : Array MapEntry := es0.push { key := .int .i64 1, val := .func (.func 47) #[] #[], born := 0 }
def es2 : Array MapEntry := es1.push { key := .int .i64 2, val := .func (.func 48) #[] #[], born := 1 }
def es3 : Array MapEntry := es2.push { key := .int .i64 3, val := .func (.func 49) #[] #[], born := 2 }
def es4 : Array MapEntry := es3.push { key := .int .i64 4, val := .func (.func 50) #[] #[], born := 3 }
def es5 : Array MapEntry := es4.push { key := .int .i64 5, val := .func (.func 51) #[] #[], born := 4 }
def es6 : Array MapEntry := es5.push { key := .int .i64 6, val := .func (.func 52) #[] #[], born := 5 }
def es7 : Array MapEntry := es6.push { key := .int .i64 7, val := .func (.func 53) #[] #[], born := 6 }
/-- The rule of a kind of event. -/
def ruV (d : Int) : Value := if d = 1 then .func (.func 47) #[] #[] else if d = 2 then .func (.func 48) #[] #[] else if d = 3 then .func (.func 49) #[] #[] else if d = 4 then .func (.func 50) #[] #[] else if d = 5 then .func (.func 51) #[] #[] else if d = 6 then .func (.func 52) #[] #[] else if d = 7 then .func (.func 53) #[] #[] else .nilFunc
def ruK (d : Int) : Bool := decide (1 ≤ d ∧ d ≤ 7)
theorem run_rule (d : Int) (hd : -9223372036854775808 ≤ d ∧ d ≤ 9223372036854775807) (w : World) (b c : Nat) (hb : w.heap[b]? = some (.map es7 c)) : (Instr.lookup 77 (.map (some b)) (.int .i64 d) true).run Tryd.prog w = .ok (.tuple #[ruV d, .bool (ruK d)]) w := by
  by_cases h : 1 ≤ d ∧ d ≤ 7
  · have h7 : d = 1 ∨ d = 2 ∨ d = 3 ∨ d = 4 ∨ d = 5 ∨ d = 6 ∨ d = 7 := by omega
    rcases h7 with rfl | rfl | rfl | rfl | rfl | rfl | rfl
    · exact run_lokS w b es7 c 1 hd 0 _ hb rfl
    · exact run_lokS w b es7 c 2 hd 1 _ hb rfl
    · exact run_lokS w b es7 c 3 hd 2 _ hb rfl
    · exact run_lokS w b es7 c 4 hd 3 _ hb rfl
    · exact run_lokS w b es7 c 5 hd 4 _ hb rfl
    · exact run_lokS w b es7 c 6 hd 5 _ hb rfl
    · exact run_lokS w b es7 c 7 hd 6 _ hb rfl
  · have hk : ruK d = false := by unfold ruK; exact decide_eq_false h
    have hv : ruV d = .nilFunc := by unfold ruV; rw [if_neg (by omega)]; rw [if_neg (by omega)]; rw [if_neg (by omega)]; rw [if_neg (by omega)]; rw [if_neg (by omega)]; rw [if_neg (by omega)]; rw [if_neg (by omega)]
    rw [hk, hv]
    refine run_lokN w b es7 c d hd hb ?_
    have e1 : (d == (1 : Int)) = false := by rw [beq_eq_false_iff_ne]; omega
    have e2 : (d == (2 : Int)) = false := by rw [beq_eq_false_iff_ne]; omega
    have e3 : (d == (3 : Int)) = false := by rw [beq_eq_false_iff_ne]; omega
    have e4 : (d == (4 : Int)) = false := by rw [beq_eq_false_iff_ne]; omega
    have e5 : (d == (5 : Int)) = false := by rw [beq_eq_false_iff_ne]; omega
    have e6 : (d == (6 : Int)) = false := by rw [beq_eq_false_iff_ne]; omega
    have e7 : (d == (7 : Int)) = false := by rw [beq_eq_false_iff_ne]; omega
    simp only [es7, es6, es5, es4, es3, es2, es1, es0, Array.toList_push, Instr.findNow, Instr.sameNow, List.cons_append, List.nil_append, e1, e2, e3, e4, e5, e6, e7, if_true]
set_option maxRecDepth 100000 in
set_option maxHeartbeats 8000000 in
theorem a_rules (w : World) : Calls Tryd.prog 37 #[] w fun e w' => ∃ b, e = .returned (.map (some b)) ∧ (w'.heap[b]? = some (.map es7 7) ∧ w.heap.size ≤ b) ∧ Below w.heap.size w w' := by
  have hmm := @run_makeMap Tryd.prog
  have h0 : (w.alloc (Obj.map #[] 0)).heap[w.heap.size]? = some (.map es0 0) := hp1_0 w _
  have s0 : w.heap.size < (w.alloc (Obj.map #[] 0)).heap.size := by simp
  have hB : Below w.heap.size w (w.alloc (Obj.map #[] 0)) := .alloc (Below.refl _ _) (Nat.le_refl _) _
  generalize hw0 : w.alloc (Obj.map #[] 0) = w0 at *
  have r0 : (Instr.mapUpdate 77 (.map (some w.heap.size)) (.int .i64 1) (.func (.func 47) #[] #[])).run Tryd.prog w0 = .ok () (setBlock w0 w.heap.size (.map es1 1)) := run_insi w0 w.heap.size _ _ 1 (by decide) _ h0 rfl
  have h1 := setBlock_at (W := w0) (b := w.heap.size) (o := .map es1 1) s0
  have s1 : w.heap.size < (setBlock w0 w.heap.size (.map es1 1)).heap.size := by simpa [setBlock] using s0
  replace hB := below_setBlock (b := w.heap.size) (.map es1 1) hB (Nat.le_refl _)
  generalize setBlock w0 w.heap.size (.map es1 1) = w1 at *
  have r1 : (Instr.mapUpdate 77 (.map (some w.heap.size)) (.int .i64 2) (.func (.func 48) #[] #[])).run Tryd.prog w1 = .ok () (setBlock w1 w.heap.size (.map es2 2)) := run_insi w1 w.heap.size _ _ 2 (by decide) _ h1 rfl
  have h2 := setBlock_at (W := w1) (b := w.heap.size) (o := .map es2 2) s1
  have s2 : w.heap.size < (setBlock w1 w.heap.size (.map es2 2)).heap.size := by simpa [setBlock] using s1
  replace hB := below_setBlock (b := w.heap.size) (.map es2 2) hB (Nat.le_refl _)
  generalize setBlock w1 w.heap.size (.map es2 2) = w2 at *
  have r2 : (Instr.mapUpdate 77 (.map (some w.heap.size)) (.int .i64 3) (.func (.func 49) #[] #[])).run Tryd.prog w2 = .ok () (setBlock w2 w.heap.size (.map es3 3)) := run_insi w2 w.heap.size _ _ 3 (by decide) _ h2 rfl
  have h3 := setBlock_at (W := w2) (b := w.heap.size) (o := .map es3 3) s2
  have s3 : w.heap.size < (setBlock w2 w.heap.size (.map es3 3)).heap.size := by simpa [setBlock] using s2
  replace hB := below_setBlock (b := w.heap.size) (.map es3 3) hB (Nat.le_refl _)
  generalize setBlock w2 w.heap.size (.map es3 3) = w3 at *
  have r3 : (Instr.mapUpdate 77 (.map (some w.heap.size)) (.int .i64 4) (.func (.func 50) #[] #[])).run Tryd.prog w3 = .ok () (setBlock w3 w.heap.size (.map es4 4)) := run_insi w3 w.heap.size _ _ 4 (by decide) _ h3 rfl
  have h4 := setBlock_at (W := w3) (b := w.heap.size) (o := .map es4 4) s3
  have s4 : w.heap.size < (setBlock w3 w.heap.size (.map es4 4)).heap.size := by simpa [setBlock] using s3
  replace hB := below_setBlock (b := w.heap.size) (.map es4 4) hB (Nat.le_refl _)
  generalize setBlock w3 w.heap.size (.map es4 4) = w4 at *
  have r4 : (Instr.mapUpdate 77 (.map (some w.heap.size)) (.int .i64 5) (.func (.func 51) #[] #[])).run Tryd.prog w4 = .ok () (setBlock w4 w.heap.size (.map es5 5)) := run_insi w4 w.heap.size _ _ 5 (by decide) _ h4 rfl
  have h5 := setBlock_at (W := w4) (b := w.heap.size) (o := .map es5 5) s4
  have s5 : w.heap.size < (setBlock w4 w.heap.size (.map es5 5)).heap.size := by simpa [setBlock] using s4
  replace hB := below_setBlock (b := w.heap.size) (.map es5 5) hB (Nat.le_refl _)
  generalize setBlock w4 w.heap.size (.map es5 5) = w5 at *
  have r5 : (Instr.mapUpdate 77 (.map (some w.heap.size)) (.int .i64 6) (.func (.func 52) #[] #[])).run Tryd.prog w5 = .ok () (setBlock w5 w.heap.size (.map es6 6)) := run_insi w5 w.heap.size _ _ 6 (by decide) _ h5 rfl
  have h6 := setBlock_at (W := w5) (b := w.heap.size) (o := .map es6 6) s5
  have s6 : w.heap.size < (setBlock w5 w.heap.size (.map es6 6)).heap.size := by simpa [setBlock] using s5
  replace hB := below_setBlock (b := w.heap.size) (.map es6 6) hB (Nat.le_refl _)
  generalize setBlock w5 w.heap.size (.map es6 6) = w6 at *
  have r6 : (Instr.mapUpdate 77 (.map (some w.heap.size)) (.int .i64 7) (.func (.func 53) #[] #[])).run Tryd.prog w6 = .ok () (setBlock w6 w.heap.size (.map es7 7)) := run_insi w6 w.heap.size _ _ 7 (by decide) _ h6 rfl
  have h7 := setBlock_at (W := w6) (b := w.heap.size) (o := .map es7 7) s6
  have s7 : w.heap.size < (setBlock w6 w.heap.size (.map es7 7)).heap.size := by simpa [setBlock] using s6
  replace hB := below_setBlock (b := w.heap.size) (.map es7 7) hB (Nat.le_refl _)
  generalize setBlock w6 w.heap.size (.map es7 7) = w7 at *
  subst hw0
  clear h0 h1 h2 h3 h4 h5 h6 s0 s1 s2 s3 s4 s5 s6 s7
  go_enter Tryd.func37, Tryd.ntmps37
  go_wp2_with (fail)
  go_ret
  exact ⟨_, rfl, ⟨h7, Nat.le_refl _⟩, hB⟩
end Go.Proofs.YtlbcdjflcghkeaaDoor
