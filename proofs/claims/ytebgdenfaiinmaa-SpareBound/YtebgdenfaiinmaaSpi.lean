import Derived.Test.YtebgdenfaiinmaaProg
import Derived.WalkKit
import Derived.WalkSpells
import Derived.WalkLawsBesides
import Derived.Lib.QuietBelow
import Derived.BigQuiet
import Derived.OrdersHeld
import Derived.Deep.RegionHeld3
import Derived.OwnWalk
import Derived.Test.YtebgdenfaiinmaaKit
import Derived.Test.YtebgdenfaiinmaaSph
namespace Go.Proofs.Ytebgdenfaiinmaa
open Go Go.RowKit Go.Sort Go.ChangeMaps Go.MapKept
attribute [local go_sem] setCell_drewN alloc_drewN

theorem egS : Try.prog.eqGuardType Try.prog.depth 60 = false := by kernel_rfl
theorem egK : Try.prog.eqGuardType Try.prog.depth 40 = false := by kernel_rfl
theorem egL : Try.prog.eqGuardType Try.prog.depth 86 = false := by kernel_rfl
theorem run_neq_op {P : Program} {o : Oper} {a : Act} {w : World} (t u : TypeId) (x y : Operand) (ho : o.op = .binOp .neq t x y u) (X Y : Array Value) (hx : a.eval x = .agg X) (hy : a.eval y = .agg Y) (hg : P.eqGuardType P.depth t = false) (B : Bool) (he : (Op.equalIn 10000 t (.agg X) (.agg Y)).run P w = .ok B w) : (execOp a.eval o).run P w = .ok (.value (.bool (!B))) w := by
  unfold execOp
  simp only [ho, hx, hy, Sem.run_bind, Sem.run_pure, Result.andThen_ok, run_eqGuard_agg w .neq t x y X Y hg, run_neq_struct, he]
theorem run_eql_op {P : Program} {o : Oper} {a : Act} {w : World} (t u : TypeId) (x y : Operand) (ho : o.op = .binOp .eql t x y u) (X Y : Array Value) (hx : a.eval x = .agg X) (hy : a.eval y = .agg Y) (hg : P.eqGuardType P.depth t = false) (B : Bool) (he : (Op.equalIn 10000 t (.agg X) (.agg Y)).run P w = .ok B w) : (execOp a.eval o).run P w = .ok (.value (.bool B)) w := by
  unfold execOp
  simp only [ho, hx, hy, Sem.run_bind, Sem.run_pure, Result.andThen_ok, run_eqGuard_agg w .eql t x y X Y hg, run_eql_struct, he]
theorem wpList_eql {P : Program} {ops : Array Oper} {Q : Exit → Act → World → Prop} {w : World} {rest : List Oper} {o : Oper} {a : Act} (hw : Region.wanted o (yielded ops a.tmps) = true) (t u : TypeId) (x y : Operand) (ho : o.op = .binOp .eql t x y u) (X Y : Array Value) (hx : a.eval x = .agg X) (hy : a.eval y = .agg Y) (hg : P.eqGuardType P.depth t = false) (B : Bool) (he : (Op.equalIn 10000 t (.agg X) (.agg Y)).run P w = .ok B w) (h : wpList P ops Q rest (a.put o.dst (.bool B)) w) : wpList P ops Q (o :: rest) a w :=
  BigFrame.wpList_want hw fun _ hK => wp_world_op _ _ (run_eql_op t u x y ho X Y hx hy hg B he) (hK _ _ h)
theorem eq_take {l q : List Sr} {k : Nat} (h1 : k < l.length) (h2 : k < q.length) (h : l.take k = q.take k) (e : gs l k = gs q k) : l.take (k + 1) = q.take (k + 1) := by rw [take_snocS l k h1, take_snocS q k h2, h, e]
theorem ne_at {l q : List Sr} {k : Nat} (e : gs l k ≠ gs q k) : l ≠ q := fun h => e (by rw [h])
set_option maxRecDepth 100000 in
set_option maxHeartbeats 4000000 in
theorem l_same (l q : List Sr) (w : World) (v u : Value) (hl : SpL w v l) (hq : SpL w u q) : Calls Try.prog 25 #[v, u] w fun e w' => e = .returned (.bool (decide (l = q))) ∧ Below w.heap.size w w' := by
  have lokk := hl.ok
  have qokk := hq.ok
  have ll := hl.len
  have lq := hq.len
  obtain ⟨ao, cap, rfl⟩ := hl.form
  obtain ⟨ao2, cap2, rfl⟩ := hq.form
  by_cases hlen : l.length = q.length
  · have hd0 : decide ((l.length : Int) = (q.length : Int)) = true := by simp; omega
    have hln : (q.length : Int) = (l.length : Int) := by omega
    rw [← hlen] at hq ⊢
    go_enter Try.func25, Try.ntmps25
    go_wp2_with (fail)
    go_loopw [5] (fun i wr => ∃ k : Nat, k ≤ l.length ∧ i = .int .i64 k ∧ Below w.heap.size w wr ∧ Hid (l.take k = q.take k)) (fun i _ => l.length - (intOf i).toNat)
    case atStart => exact ⟨0, by omega, rfl, Below.refl _ _, hide rfl⟩
    case round =>
      obtain ⟨k, hk, rfl, hw, htk⟩ := hrel
      by_cases hlt : k < l.length
      · have hd : decide ((k : Int) < (l.length : Int)) = true := by simp; omega
        obtain ⟨b1, o1, rfl, hb1, r1⟩ := hl.at hlt
        obtain ⟨b2, o2, rfl, hb2, r2⟩ := hq.at (show k < q.length by omega)
        have ok1 := lokk.at hlt
        have ok2 := qokk.at (show k < q.length by omega)
        have hk1 : 0 ≤ (k : Int) ∧ (k : Int) < (l.length : Int) := by omega
        have hn1 : gs l k = gs q k → Hid (l.take (k + 1) = q.take (k + 1)) := fun e => hide (eq_take hlt (by omega) htk.out e)
        have hn2 : gs l k ≠ gs q k → decide (l = q) = false := fun e => by simpa using ne_at e
        replace r1 := rangeAt_keep r1 (hw.block b1 hb1)
        replace r2 := rangeAt_keep r2 (hw.block b2 hb2)
        clear hl hq htk
        go_wp2_with (fail)
        have hbd : Below wr.heap.size wr wr.drew := below_drN (Below.refl _ _) 1
        replace r1 := rangeAt_keep r1 (hbd.block b1 (Nat.lt_of_lt_of_le hb1 hw.size))
        replace r2 := rangeAt_keep r2 (hbd.block b2 (Nat.lt_of_lt_of_le hb2 hw.size))
        replace hw := Below.after hw hbd
        clear hbd
        refine wp_region_noPanic ?_
        refine wp_region_held (S := fun W => W.rangeAt b1 (o1 + k * 65) (srl (gs l k)) ∧ W.rangeAt b2 (o2 + k * 65) (srl (gs q k))) (by kernel_rfl) ?_
        change wpAnyH _ _ _ _ _ _ _ _ (World.drew _)
        generalize wr.drew = w1 at *
        refine wpAnyH_take (i := 0) (v := ?v1) rfl (by kernel_rfl) (by kernel_rfl) (by kernel_rfl) (fun _ _ _ h => h) (Or.inl ⟨by rfl, ?y1⟩) ⟨r1, r2⟩ ?r1
        case y1 =>
          intro w_ hS_
          go_simp
          try with_reducible rfl
        simp only [Act.put, List.getElem_toArray, List.getElem_cons_zero, List.setIfInBounds_toArray, List.set_cons_succ, List.set_cons_zero]
        refine wpAnyH_take (i := 1) (v := ?v2) rfl (by kernel_rfl) (by kernel_rfl) (by kernel_rfl) (fun _ _ _ h => h) (Or.inl ⟨by rfl, ?y2⟩) ⟨r1, r2⟩ ?r2
        case y2 =>
          intro w_ hS_
          go_simp
          try with_reducible rfl
        simp only [Act.put, List.getElem_toArray, List.getElem_cons_succ, List.getElem_cons_zero, List.setIfInBounds_toArray, List.set_cons_succ, List.set_cons_zero]
        refine wpAnyH_take (i := 2) (v := ?v3) rfl (by kernel_rfl) (by kernel_rfl) (by kernel_rfl) (fun _ _ _ h => h) (Or.inl ⟨by rfl, ?y3⟩) ⟨r1, r2⟩ ?r3
        case y3 =>
          intro w_ hS_
          go_simp
          try with_reducible rfl
        simp only [Act.put, List.getElem_toArray, List.getElem_cons_succ, List.getElem_cons_zero, List.setIfInBounds_toArray, List.set_cons_succ, List.set_cons_zero]
        refine wpAnyH_take (i := 3) (v := .agg (srow (gs l k))) rfl (by kernel_rfl) (by kernel_rfl) (by kernel_rfl) (fun _ _ _ h => h) (Or.inl ⟨by rfl, ?y4⟩) ⟨r1, r2⟩ ?r4
        case y4 =>
          intro w_ hS_
          simp only [List.getElem_toArray, List.getElem_cons_succ, List.getElem_cons_zero]
          exact run_load_range 60 _ (by rfl) b1 (o1 + k * 65) (by rfl) (srl (gs l k)) _ hS_.1 Try.underlying60 rfl (infoSl ok1)
        simp only [Act.put, List.getElem_toArray, List.getElem_cons_succ, List.getElem_cons_zero, List.setIfInBounds_toArray, List.set_cons_succ, List.set_cons_zero]
        refine wpAnyH_take (i := 4) (v := ?v5) rfl (by kernel_rfl) (by kernel_rfl) (by kernel_rfl) (fun _ _ _ h => h) (Or.inl ⟨by rfl, ?y5⟩) ⟨r1, r2⟩ ?r5
        case y5 =>
          intro w_ hS_
          go_simp
          try with_reducible rfl
        simp only [Act.put, List.getElem_toArray, List.getElem_cons_succ, List.getElem_cons_zero, List.setIfInBounds_toArray, List.set_cons_succ, List.set_cons_zero]
        refine wpAnyH_take (i := 5) (v := ?v6) rfl (by kernel_rfl) (by kernel_rfl) (by kernel_rfl) (fun _ _ _ h => h) (Or.inl ⟨by rfl, ?y6⟩) ⟨r1, r2⟩ ?r6
        case y6 =>
          intro w_ hS_
          go_simp
          try with_reducible rfl
        simp only [Act.put, List.getElem_toArray, List.getElem_cons_succ, List.getElem_cons_zero, List.setIfInBounds_toArray, List.set_cons_succ, List.set_cons_zero]
        refine wpAnyH_take (i := 6) (v := ?v7) rfl (by kernel_rfl) (by kernel_rfl) (by kernel_rfl) (fun _ _ _ h => h) (Or.inl ⟨by rfl, ?y7⟩) ⟨r1, r2⟩ ?r7
        case y7 =>
          intro w_ hS_
          go_simp
          try with_reducible rfl
        simp only [Act.put, List.getElem_toArray, List.getElem_cons_succ, List.getElem_cons_zero, List.setIfInBounds_toArray, List.set_cons_succ, List.set_cons_zero]
        refine wpAnyH_take (i := 7) (v := .agg (srow (gs q k))) rfl (by kernel_rfl) (by kernel_rfl) (by kernel_rfl) (fun _ _ _ h => h) (Or.inl ⟨by rfl, ?y8⟩) ⟨r1, r2⟩ ?r8
        case y8 =>
          intro w_ hS_
          simp only [List.getElem_toArray, List.getElem_cons_succ, List.getElem_cons_zero]
          exact run_load_range 60 _ (by rfl) b2 (o2 + k * 65) (by rfl) (srl (gs q k)) _ hS_.2 Try.underlying60 rfl (infoSl ok2)
        simp only [Act.put, List.getElem_toArray, List.getElem_cons_succ, List.getElem_cons_zero, List.setIfInBounds_toArray, List.set_cons_succ, List.set_cons_zero]
        refine wpAnyH_take (i := 8) (v := .bool (!decide (gs l k = gs q k))) rfl (by kernel_rfl) (by kernel_rfl) (by kernel_rfl) (fun _ _ _ h => h) (Or.inl ⟨by rfl, ?y9⟩) ⟨r1, r2⟩ ?r9
        case y9 =>
          intro w_ hS_
          simp only [List.getElem_toArray, List.getElem_cons_succ, List.getElem_cons_zero]
          exact run_neq_op 60 60 _ _ (by rfl) (srow (gs l k)) (srow (gs q k)) (by rfl) (by rfl) egS _ (eq_spr _ _ ok1 ok2 w_)
        simp only [Act.put, List.getElem_toArray, List.getElem_cons_succ, List.getElem_cons_zero, List.setIfInBounds_toArray, List.set_cons_succ, List.set_cons_zero]
        refine wpAnyH_done (by kernel_rfl) ?_ _
        refine NoPanic.normal ?_
        by_cases he : gs l k = gs q k
        · have htk := hn1 he
          have hdd : decide (gs l k = gs q k) = true := by simpa using he
          rw [hdd]
          clear hn1 hn2 he hdd
          go_wp2_with (fail)
          refine ⟨⟨k + 1, by omega, by go_num, hw, htk⟩, ?_⟩
          simp [intOf]; omega
        · have hf := hn2 he
          have hdd : decide (gs l k = gs q k) = false := by simpa using he
          rw [hdd]
          clear hn1 hn2 he hdd
          go_wp2_with (fail)
          go_ret
          exact ⟨by rw [hf]; rfl, hw⟩
      · obtain rfl : k = l.length := by omega
        have hd : decide ((l.length : Int) < (l.length : Int)) = false := by simp
        have hf : decide (l = q) = true := by
          have := htk.out
          rw [List.take_length, hlen, List.take_length] at this
          simpa using this
        go_wp2_with (fail)
        go_ret
        exact ⟨by rw [hf]; rfl, hw⟩
  · have hd0 : decide ((l.length : Int) = (q.length : Int)) = false := by simp; omega
    have hf : decide (l = q) = false := by simpa using fun e => hlen (by rw [e])
    go_enter Try.func25, Try.ntmps25
    go_wp2_with (fail)
    go_ret
    exact ⟨by rw [hf]; rfl, Below.refl _ _⟩
/-- Do two spares meet? -/
def mt (x y : Sr) : Bool := decide (x.h = y.h) && decide (x.n = y.n)
theorem mt_lb (x y : Sr) : mt x y = decide (x.lb = y.lb) := by
  unfold mt Sr.lb
  by_cases e1 : x.h = y.h <;> by_cases e2 : x.n = y.n <;> simp [e1, e2]
set_option maxRecDepth 100000 in
set_option maxHeartbeats 4000000 in
theorem l_meet (x y : Sr) (hx : x.ok) (hy : y.ok) (w : World) : Calls Try.prog 51 #[.agg (srow x), .agg (srow y)] w fun e w' => e = .returned (.bool (mt x y)) ∧ Below w.heap.size w w' := by
  have R0 := hp2_0 w (.cells (srow x) 60) (.cells (srow y) 60)
  have R1 := hp2_1 w (.cells (srow x) 60) (.cells (srow y) 60)
  have hw : Below w.heap.size w ((w.alloc (.cells (srow x) 60)).alloc (.cells (srow y) 60)) := (((Below.refl _ _).alloc (Nat.le_refl _) _).alloc (by simp) _)
  have c0 := cell_sn hx R0
  have c1 := cell_sn hy R1
  have ek : ∀ W, (Op.equalIn 10000 40 (.agg (irow .u8 x.h)) (.agg (irow .u8 y.h))).run Try.prog W = .ok (decide (x.h = y.h)) W := fun W => eq_key 9998 _ _ hx.1 hy.1 W
  unfold mt
  generalize decide (x.h = y.h) = B at *
  cases B
  all_goals
    go_enter Try.func51, Try.ntmps51
    go_wp2_with (first | (refine wpList_box rfl 60 _ rfl _ rfl (bSp _) ?_) | (refine wpList_load_part rfl 40 _ rfl (w.heap.size) 0 rfl 60 (srow x) (0, 0) (irow .u8 x.h) _ R0 (srow_h hx) Try.underlying40 rfl (infok8 _ hx.1) ?_) | (refine wpList_load_part rfl 40 _ rfl (w.heap.size + 1) 0 rfl 60 (srow y) (0, 0) (irow .u8 y.h) _ R1 (srow_h hy) Try.underlying40 rfl (infok8 _ hy.1) ?_) | (refine wpList_eql rfl 40 40 _ _ rfl (irow .u8 x.h) (irow .u8 y.h) rfl rfl egK _ (ek _) ?_) | fail)
    go_ret
    exact ⟨rfl, hw⟩

end Go.Proofs.Ytebgdenfaiinmaa
