import Derived.Test.YtjofbnilhkmpeaaDoorProg
import Derived.WalkKit
import Derived.WalkSpells
import Derived.WalkLawsBesides
import Derived.Lib.QuietBelow
import Derived.BigQuiet
import Derived.OrdersHeld
import Derived.Deep.RegionHeld3
import Derived.OwnWalk
import Derived.Laws.MakeOwn
import Derived.Test.YtjofbnilhkmpeaaDoorKa
import Derived.Test.YtjofbnilhkmpeaaDoorRta
namespace Go.Proofs.YtjofbnilhkmpeaaDoor
set_option maxRecDepth 100000
open Go Go.RowKit Go.Sort Go.ChangeMaps Go.MapKept
attribute [local go_sem] setCell_drewN alloc_drewN

theorem egS : Tryd.prog.eqGuardType Tryd.prog.depth 52 = false := by kernel_rfl
theorem egK : Tryd.prog.eqGuardType Tryd.prog.depth 23 = false := by kernel_rfl
theorem run_neq_op {P : Program} {o : Oper} {a : Act} {w : World} (t u : TypeId) (x y : Operand) (ho : o.op = .binOp .neq t x y u) (X Y : Array Value) (hx : a.eval x = .agg X) (hy : a.eval y = .agg Y) (hg : P.eqGuardType P.depth t = false) (B : Bool) (he : (Op.equalIn 10000 t (.agg X) (.agg Y)).run P w = .ok B w) : (execOp a.eval o).run P w = .ok (.value (.bool (!B))) w := by
  unfold execOp
  simp only [ho, hx, hy, Sem.run_bind, Sem.run_pure, Result.andThen_ok, run_eqGuard_agg w .neq t x y X Y hg, run_neq_struct, he]
theorem run_eql_op {P : Program} {o : Oper} {a : Act} {w : World} (t u : TypeId) (x y : Operand) (ho : o.op = .binOp .eql t x y u) (X Y : Array Value) (hx : a.eval x = .agg X) (hy : a.eval y = .agg Y) (hg : P.eqGuardType P.depth t = false) (B : Bool) (he : (Op.equalIn 10000 t (.agg X) (.agg Y)).run P w = .ok B w) : (execOp a.eval o).run P w = .ok (.value (.bool B)) w := by
  unfold execOp
  simp only [ho, hx, hy, Sem.run_bind, Sem.run_pure, Result.andThen_ok, run_eqGuard_agg w .eql t x y X Y hg, run_eql_struct, he]
theorem wpList_eql {P : Program} {ops : Array Oper} {Q : Exit → Act → World → Prop} {w : World} {rest : List Oper} {o : Oper} {a : Act} (hw : Region.wanted o (yielded ops a.tmps) = true) (t u : TypeId) (x y : Operand) (ho : o.op = .binOp .eql t x y u) (X Y : Array Value) (hx : a.eval x = .agg X) (hy : a.eval y = .agg Y) (hg : P.eqGuardType P.depth t = false) (B : Bool) (he : (Op.equalIn 10000 t (.agg X) (.agg Y)).run P w = .ok B w) (h : wpList P ops Q rest (a.put o.dst (.bool B)) w) : wpList P ops Q (o :: rest) a w :=
  BigFrame.wpList_want hw fun _ hK => wp_world_op _ _ (run_eql_op t u x y ho X Y hx hy hg B he) (hK _ _ h)
theorem eq_take {l q : List Sr} {k : Nat} (h1 : k < l.length) (h2 : k < q.length) (h : l.take k = q.take k) (e : gs l k = gs q k) : l.take (k + 1) = q.take (k + 1) := by rw [take_snocS l k h1, take_snocS q k h2, h, e]
theorem ne_at {l q : List Sr} {k : Nat} (e : gs l k ≠ gs q k) : l ≠ q := fun h => e (by rw [h])
theorem wpAnyH_skip {P : Program} {ops : Array Oper} {Q : Exit → Act → World → Prop} {md : Region.Mode} {S : World → Prop} {k : Nat} {o : Oper} {fuel : Nat} {listed : Array Bool} {a : Act} {w : World} (hr : Region.ready md ops listed = [k]) (hi : ops[k]? = some o) (hw : Region.wanted o (yielded ops a.tmps) = false) (hS : S w)
    (h : wpAnyH P md ops Q S fuel (listed.setIfInBounds k true) (a.put o.dst undef) w) : wpAnyH P md ops Q S (fuel + 1) listed a w := by
  refine wpAnyH_all hr (by simp) (fun i hi' => ?_)
  obtain rfl : i = k := by simpa using hi'
  unfold wpOp
  simp only [hi, hw, Bool.false_eq_true, if_false]
  exact ⟨hS, h⟩

theorem infoh (h : List Int) (hl : h.length = 32) : (Tryd.prog.info? 23).map (·.size) = some (h.map (Value.int .u8)).length := by
  rw [List.length_map, hl]; kernel_rfl
theorem range_h {W : World} {g o : Nat} {s : Sr} (h : W.rangeAt g o (srl s)) : W.rangeAt g o (s.h.map (Value.int .u8)) := fun j x hx => h j x (by
  rw [srl, List.getElem?_append_left (List.getElem?_eq_some_iff.1 hx).1]; exact hx)
theorem range_n {W : World} {g o : Nat} {s : Sr} (hs : s.ok) (h : W.rangeAt g o (srl s)) : W.cell? ⟨g, o + 32, none⟩ = some (.int .u32 s.n) := h 32 _ (by simp [srl, hs.1])
theorem run_bsl0 (W : World) : (Instr.buildSlice 36 0 #[]).run Tryd.prog W = .ok (.slice (some ⟨W.heap.size, 0, none⟩) 0 0) (W.alloc (.cells #[] 52)) := by kernel_rfl
theorem wpList_bsl0 {P : Program} {ops : Array Oper} {Q : Exit → Act → World → Prop} {w w' : World} {rest : List Oper} {o : Oper} {a : Act} {v : Value} (hw : Region.wanted o (yielded ops a.tmps) = true) (t : TypeId) (ho : o.op = .buildSlice t 0 #[]) (hr : (Instr.buildSlice t 0 #[]).run P w = .ok v w') (h : wpList P ops Q rest (a.put o.dst v) w') : wpList P ops Q (o :: rest) a w :=
  BigFrame.wpList_want hw fun _ hK => wp_world_op _ _ (by simp [execOp, ho, hr, Result.andThen]) (hK _ _ h)
theorem wpList_append_Sw {w : World} {ops : Array Oper} {rest : List Oper} {o : Oper} {a : Act} {Q : Exit → Act → World → Prop} (hw : Region.wanted o (yielded ops a.tmps) = true) (s x : Operand) (ho : o.op = .call { callee := .builtin .append, args := #[s, x], argTypes := #[36, 36] })
    (base : Nat) (v : Value) (l : List Sr) (hs : a.eval s = v) (hI : OwnS w base v l) (u : Value) (q : List Sr) (hx : a.eval x = u) (hq : SpL w u q) (hlen : l.length + q.length ≤ 2069668946401) (hbase : base ≤ w.heap.size)
    (h : ∀ v' w', OwnS w' base v' (l ++ q) → w.grownBy w' v.ownBlock → Nx w v v' → wpList Tryd.prog ops Q rest (a.put o.dst v') w') : wpList Tryd.prog ops Q (o :: rest) a w :=
  BigFrame.wpList_want hw fun _ hK => wp_append_S s x ho base v l hs hI u q hx hq hlen hbase (fun v' w' h1 h2 h3 => hK _ _ (h v' w' h1 h2 h3))
set_option maxRecDepth 100000 in
set_option maxHeartbeats 4000000 in
theorem l_same (l q : List Sr) (w : World) (v u : Value) (hl : SpL w v l) (hq : SpL w u q) : Calls Tryd.prog 16 #[v, u] w fun e w' => e = .returned (.bool (decide (l = q))) ∧ Below w.heap.size w w' := by
  have lokk := hl.ok
  have qokk := hq.ok
  have ll := hl.len
  have lq := hq.len
  obtain ⟨ao, cap, rfl⟩ := hl.form
  obtain ⟨ao2, cap2, rfl⟩ := hq.form
  by_cases hlen : l.length = q.length
  · have hd0 : decide ((l.length : Int) = (q.length : Int)) = true := by simp; omega
    have hln : (q.length : Int) = (l.length : Int) := by omega
    rw [← hlen] at hq ⊢
    go_enter Tryd.func16, Tryd.ntmps16
    go_wp2_with (fail)
    go_loopw [5] (fun i wr => ∃ k : Nat, k ≤ l.length ∧ i = .int .i64 k ∧ Below w.heap.size w wr ∧ Hid (l.take k = q.take k)) (fun i _ => l.length - (intOf i).toNat)
    case atStart => exact ⟨0, by omega, rfl, Below.refl _ _, hide rfl⟩
    case round =>
      obtain ⟨k, hk, rfl, hw, htk⟩ := hrel
      by_cases hlt : k < l.length
      · have hd : decide ((k : Int) < (l.length : Int)) = true := by simp; omega
        obtain ⟨b1, o1, rfl, hb1, r1⟩ := hl.at hlt
        obtain ⟨b2, o2, rfl, hb2, r2⟩ := hq.at (show k < q.length by omega)
        have ok1 := lokk.at hlt
        have ok2 := qokk.at (show k < q.length by omega)
        have hk1 : 0 ≤ (k : Int) ∧ (k : Int) < (l.length : Int) := by omega
        have hn1 : gs l k = gs q k → Hid (l.take (k + 1) = q.take (k + 1)) := fun e => hide (eq_take hlt (by omega) htk.out e)
        have hn2 : gs l k ≠ gs q k → decide (l = q) = false := fun e => by simpa using ne_at e
        replace r1 := rangeAt_keep r1 (hw.block b1 hb1)
        replace r2 := rangeAt_keep r2 (hw.block b2 hb2)
        clear hl hq htk
        go_wp2_with (fail)
        have hbd : Below wr.heap.size wr wr.drew := below_drN (Below.refl _ _) 1
        replace r1 := rangeAt_keep r1 (hbd.block b1 (Nat.lt_of_lt_of_le hb1 hw.size))
        replace r2 := rangeAt_keep r2 (hbd.block b2 (Nat.lt_of_lt_of_le hb2 hw.size))
        replace hw := Below.after hw hbd
        clear hbd
        refine wp_region_noPanic ?_
        refine wp_region_held (S := fun W => W.rangeAt b1 (o1 + k * 65) (srl (gs l k)) ∧ W.rangeAt b2 (o2 + k * 65) (srl (gs q k))) (by kernel_rfl) ?_
        change wpAnyH _ _ _ _ _ _ _ _ (World.drew _)
        generalize wr.drew = w1 at *
        refine wpAnyH_take (i := 0) (v := ?v1) rfl (by kernel_rfl) (by kernel_rfl) (by kernel_rfl) (fun _ _ _ h => h) (Or.inl ⟨by rfl, ?y1⟩) ⟨r1, r2⟩ ?r1
        case y1 =>
          intro w_ hS_
          go_simp
          try with_reducible rfl
        simp only [Act.put, List.getElem_toArray, List.getElem_cons_zero, List.setIfInBounds_toArray, List.set_cons_succ, List.set_cons_zero]
        refine wpAnyH_take (i := 1) (v := ?v2) rfl (by kernel_rfl) (by kernel_rfl) (by kernel_rfl) (fun _ _ _ h => h) (Or.inl ⟨by rfl, ?y2⟩) ⟨r1, r2⟩ ?r2
        case y2 =>
          intro w_ hS_
          go_simp
          try with_reducible rfl
        simp only [Act.put, List.getElem_toArray, List.getElem_cons_succ, List.getElem_cons_zero, List.setIfInBounds_toArray, List.set_cons_succ, List.set_cons_zero]
        refine wpAnyH_take (i := 2) (v := ?v3) rfl (by kernel_rfl) (by kernel_rfl) (by kernel_rfl) (fun _ _ _ h => h) (Or.inl ⟨by rfl, ?y3⟩) ⟨r1, r2⟩ ?r3
        case y3 =>
          intro w_ hS_
          go_simp
          try with_reducible rfl
        simp only [Act.put, List.getElem_toArray, List.getElem_cons_succ, List.getElem_cons_zero, List.setIfInBounds_toArray, List.set_cons_succ, List.set_cons_zero]
        refine wpAnyH_take (i := 3) (v := .agg (srow (gs l k))) rfl (by kernel_rfl) (by kernel_rfl) (by kernel_rfl) (fun _ _ _ h => h) (Or.inl ⟨by rfl, ?y4⟩) ⟨r1, r2⟩ ?r4
        case y4 =>
          intro w_ hS_
          simp only [List.getElem_toArray, List.getElem_cons_succ, List.getElem_cons_zero]
          exact run_load_range 52 _ (by rfl) b1 (o1 + k * 65) (by rfl) (srl (gs l k)) _ hS_.1 Tryd.underlying52 rfl (infoSl ok1)
        simp only [Act.put, List.getElem_toArray, List.getElem_cons_succ, List.getElem_cons_zero, List.setIfInBounds_toArray, List.set_cons_succ, List.set_cons_zero]
        refine wpAnyH_take (i := 4) (v := ?v5) rfl (by kernel_rfl) (by kernel_rfl) (by kernel_rfl) (fun _ _ _ h => h) (Or.inl ⟨by rfl, ?y5⟩) ⟨r1, r2⟩ ?r5
        case y5 =>
          intro w_ hS_
          go_simp
          try with_reducible rfl
        simp only [Act.put, List.getElem_toArray, List.getElem_cons_succ, List.getElem_cons_zero, List.setIfInBounds_toArray, List.set_cons_succ, List.set_cons_zero]
        refine wpAnyH_take (i := 5) (v := ?v6) rfl (by kernel_rfl) (by kernel_rfl) (by kernel_rfl) (fun _ _ _ h => h) (Or.inl ⟨by rfl, ?y6⟩) ⟨r1, r2⟩ ?r6
        case y6 =>
          intro w_ hS_
          go_simp
          try with_reducible rfl
        simp only [Act.put, List.getElem_toArray, List.getElem_cons_succ, List.getElem_cons_zero, List.setIfInBounds_toArray, List.set_cons_succ, List.set_cons_zero]
        refine wpAnyH_take (i := 6) (v := ?v7) rfl (by kernel_rfl) (by kernel_rfl) (by kernel_rfl) (fun _ _ _ h => h) (Or.inl ⟨by rfl, ?y7⟩) ⟨r1, r2⟩ ?r7
        case y7 =>
          intro w_ hS_
          go_simp
          try with_reducible rfl
        simp only [Act.put, List.getElem_toArray, List.getElem_cons_succ, List.getElem_cons_zero, List.setIfInBounds_toArray, List.set_cons_succ, List.set_cons_zero]
        refine wpAnyH_take (i := 7) (v := .agg (srow (gs q k))) rfl (by kernel_rfl) (by kernel_rfl) (by kernel_rfl) (fun _ _ _ h => h) (Or.inl ⟨by rfl, ?y8⟩) ⟨r1, r2⟩ ?r8
        case y8 =>
          intro w_ hS_
          simp only [List.getElem_toArray, List.getElem_cons_succ, List.getElem_cons_zero]
          exact run_load_range 52 _ (by rfl) b2 (o2 + k * 65) (by rfl) (srl (gs q k)) _ hS_.2 Tryd.underlying52 rfl (infoSl ok2)
        simp only [Act.put, List.getElem_toArray, List.getElem_cons_succ, List.getElem_cons_zero, List.setIfInBounds_toArray, List.set_cons_succ, List.set_cons_zero]
        refine wpAnyH_take (i := 8) (v := .bool (!decide (gs l k = gs q k))) rfl (by kernel_rfl) (by kernel_rfl) (by kernel_rfl) (fun _ _ _ h => h) (Or.inl ⟨by rfl, ?y9⟩) ⟨r1, r2⟩ ?r9
        case y9 =>
          intro w_ hS_
          simp only [List.getElem_toArray, List.getElem_cons_succ, List.getElem_cons_zero]
          exact run_neq_op 52 52 _ _ (by rfl) (srow (gs l k)) (srow (gs q k)) (by rfl) (by rfl) egS _ (eq_spr _ _ ok1 ok2 w_)
        simp only [Act.put, List.getElem_toArray, List.getElem_cons_succ, List.getElem_cons_zero, List.setIfInBounds_toArray, List.set_cons_succ, List.set_cons_zero]
        refine wpAnyH_done (by kernel_rfl) ?_ _
        refine NoPanic.normal ?_
        by_cases he : gs l k = gs q k
        · have htk := hn1 he
          have hdd : decide (gs l k = gs q k) = true := by simpa using he
          rw [hdd]
          clear hn1 hn2 he hdd
          go_wp2_with (fail)
          refine ⟨⟨k + 1, by omega, by go_num, hw, htk⟩, ?_⟩
          simp [intOf]; omega
        · have hf := hn2 he
          have hdd : decide (gs l k = gs q k) = false := by simpa using he
          rw [hdd]
          clear hn1 hn2 he hdd
          go_wp2_with (fail)
          go_ret
          exact ⟨by rw [hf]; rfl, hw⟩
      · obtain rfl : k = l.length := by omega
        have hd : decide ((l.length : Int) < (l.length : Int)) = false := by simp
        have hf : decide (l = q) = true := by
          have := htk.out
          rw [List.take_length, hlen, List.take_length] at this
          simpa using this
        go_wp2_with (fail)
        go_ret
        exact ⟨by rw [hf]; rfl, hw⟩
  · have hd0 : decide ((l.length : Int) = (q.length : Int)) = false := by simp; omega
    have hf : decide (l = q) = false := by simpa using fun e => hlen (by rw [e])
    go_enter Tryd.func16, Tryd.ntmps16
    go_wp2_with (fail)
    go_ret
    exact ⟨by rw [hf]; rfl, Below.refl _ _⟩
/-- Has none of the first so many the label x? -/
theorem nod_next {l : List Sr} {i : Nat} (hi : i < l.length) (h : ((l.take i).map Sr.lb).Nodup) (hn : ∀ j, j < i → (gs l j).lb ≠ (gs l i).lb) : ((l.take (i + 1)).map Sr.lb).Nodup := by
  rw [take_snocS l i hi, List.map_append, List.map_cons, List.map_nil, List.nodup_append]
  refine ⟨h, by simp, ?_⟩
  intro a ha b hb e
  rw [List.mem_singleton] at hb
  subst hb
  subst e
  obtain ⟨s, hs, e2⟩ := List.mem_map.1 ha
  obtain ⟨j, hj, e3⟩ := List.getElem_of_mem hs
  have hj2 : j < i := by rw [List.length_take] at hj; omega
  refine hn j hj2 ?_
  rw [← e2, ← e3, List.getElem_take, gs, List.getD_eq_getElem?_getD, List.getElem?_eq_getElem (by omega)]
  rfl
theorem nod_not {l : List Sr} {i j : Nat} (hi : i < l.length) (hj : j < i) (h : (gs l j).lb = (gs l i).lb) : mts [] l = true := by
  cases hm : mts [] l
  · rw [mts_false, List.nil_append] at hm
    exfalso
    have q : ∀ k (hk : k < l.length), l[k] = gs l k := fun k hk => by rw [gs, List.getD_eq_getElem?_getD, List.getElem?_eq_getElem hk]; rfl
    refine List.pairwise_iff_getElem.1 hm j i (by rw [List.length_map]; omega) (by rw [List.length_map]; omega) hj ?_
    rw [List.getElem_map, List.getElem_map, q j (by omega), q i hi]
    exact h
  · rfl
set_option maxRecDepth 100000 in
set_option maxHeartbeats 4000000 in
theorem r_twice (l : List Sr) (w : World) (v : Value) (hl : SpL w v l) : Calls Tryd.prog 20 #[v] w fun e w' => e = .returned (.bool (mts [] l)) ∧ Below w.heap.size w w' := by
  have lokk := hl.ok
  have ll := hl.len
  obtain ⟨ao, cap, rfl⟩ := hl.form
  go_enter Tryd.func20, Tryd.ntmps20
  go_wp2_with (fail)
  go_loopw [3] (fun iv wr => ∃ i : Nat, i ≤ l.length ∧ iv = .int .i64 i ∧ Below w.heap.size w wr ∧ Hid (((l.take i).map Sr.lb).Nodup)) (fun iv _ => l.length - (intOf iv).toNat)
  case atStart => exact ⟨0, by omega, rfl, Below.refl _ _, hide (by simp)⟩
  case round =>
    obtain ⟨i, hi, rfl, hw, hnd⟩ := hrel
    by_cases hlt : i < l.length
    · have hd : decide ((i : Int) < (l.length : Int)) = true := by simp; omega
      obtain ⟨b1, o1, rfl, hb1, r0⟩ := hl.at hlt
      have oki := lokk.at hlt
      have hi1 : 0 ≤ (i : Int) ∧ (i : Int) < (l.length : Int) := by omega
      go_wp2_with (fail)
      go_loopw [4] (fun jv wi => ∃ j : Nat, j ≤ i ∧ jv = .int .i64 j ∧ Below w.heap.size w wi ∧ Hid (∀ k, k < j → (gs l k).lb ≠ (gs l i).lb)) (fun jv _ => i - (intOf jv).toNat)
      case atStart => exact ⟨0, by omega, rfl, hw, hide (fun k hk => absurd hk (by omega))⟩
      case round =>
        clear hw
        obtain ⟨j, hj, rfl, hw, htj⟩ := hrel
        by_cases hlj : j < i
        · have hd2 : decide ((j : Int) < (i : Int)) = true := by simp; omega
          have okj := lokk.at (show j < l.length by omega)
          have hj1 : 0 ≤ (j : Int) ∧ (j : Int) < (l.length : Int) := by omega
          have hn1 : (gs l j).lb ≠ (gs l i).lb → Hid (∀ k, k < j + 1 → (gs l k).lb ≠ (gs l i).lb) := fun e => hide (fun k hk => by
            rcases Nat.lt_or_eq_of_le (Nat.le_of_lt_succ hk) with h | h
            · exact htj.out k h
            · rw [h]; exact e)
          have hn2 : (gs l j).lb = (gs l i).lb → mts [] l = true := fun e => nod_not hlt hlj e
          have rj : w.rangeAt b1 (o1 + j * 65) (srl (gs l j)) := by
            obtain ⟨b_, o_, e_, _, h_⟩ := hl.at (show j < l.length by omega)
            cases e_
            exact h_
          have ri := rangeAt_keep r0 (hw.block b1 hb1)
          replace rj := rangeAt_keep rj (hw.block b1 hb1)
          have hb9 : b1 < wr.heap.size := Nat.lt_of_lt_of_le hb1 hw.size
          clear htj
          go_wp2_with (fail)
          have hbd : Below wr.heap.size wr wr.drew := below_drN (Below.refl _ _) 1
          replace ri := rangeAt_keep ri (hbd.block b1 hb9)
          replace rj := rangeAt_keep rj (hbd.block b1 hb9)
          replace hw := Below.after hw hbd
          clear hbd hb9
          by_cases hne : (gs l i).n = (gs l j).n
          · have hdn : decide ((gs l i).n = (gs l j).n) = true := by simpa using hne
            by_cases hhe : (gs l i).h = (gs l j).h
            · have hdh : decide ((gs l i).h = (gs l j).h) = true := by simpa using hhe
              have hf := hn2 (by rw [Sr.lb, Sr.lb, hne, hhe])
              clear hn1 hn2 hne hhe
              refine wp_region_noPanic ?_
              refine wp_region_held (S := fun W => W.rangeAt b1 (o1 + i * 65) (srl (gs l i)) ∧ W.rangeAt b1 (o1 + j * 65) (srl (gs l j))) (by kernel_rfl) ?_
              change wpAnyH _ _ _ _ _ _ _ _ (World.drew _)
              generalize wr.drew = w1 at *
              refine wpAnyH_take (i := 0) (v := ?v49) rfl (by kernel_rfl) (by kernel_rfl) (by kernel_rfl) (fun _ _ _ h => h) (Or.inl ⟨by rfl, ?y49⟩) ⟨ri, rj⟩ ?r49
              case y49 =>
                intro w_ hS_
                go_simp
                try with_reducible rfl
              simp only [Act.put, List.getElem_toArray, List.getElem_cons_zero, List.setIfInBounds_toArray, List.set_cons_succ, List.set_cons_zero]
              refine wpAnyH_take (i := 1) (v := ?v50) rfl (by kernel_rfl) (by kernel_rfl) (by kernel_rfl) (fun _ _ _ h => h) (Or.inl ⟨by rfl, ?y50⟩) ⟨ri, rj⟩ ?r50
              case y50 =>
                intro w_ hS_
                go_simp
                try with_reducible rfl
              simp only [Act.put, List.getElem_toArray, List.getElem_cons_succ, List.getElem_cons_zero, List.setIfInBounds_toArray, List.set_cons_succ, List.set_cons_zero]
              refine wpAnyH_take (i := 2) (v := ?v51) rfl (by kernel_rfl) (by kernel_rfl) (by kernel_rfl) (fun _ _ _ h => h) (Or.inl ⟨by rfl, ?y51⟩) ⟨ri, rj⟩ ?r51
              case y51 =>
                intro w_ hS_
                go_simp
                try with_reducible rfl
              simp only [Act.put, List.getElem_toArray, List.getElem_cons_succ, List.getElem_cons_zero, List.setIfInBounds_toArray, List.set_cons_succ, List.set_cons_zero]
              refine wpAnyH_take (i := 3) (v := ?v52) rfl (by kernel_rfl) (by kernel_rfl) (by kernel_rfl) (fun _ _ _ h => h) (Or.inl ⟨by rfl, ?y52⟩) ⟨ri, rj⟩ ?r52
              case y52 =>
                intro w_ hS_
                go_simp
                try with_reducible rfl
              simp only [Act.put, List.getElem_toArray, List.getElem_cons_succ, List.getElem_cons_zero, List.setIfInBounds_toArray, List.set_cons_succ, List.set_cons_zero]
              refine wpAnyH_take (i := 4) (v := .int .u32 (gs l i).n) rfl (by kernel_rfl) (by kernel_rfl) (by kernel_rfl) (fun _ _ _ h => h) (Or.inl ⟨by rfl, ?y53⟩) ⟨ri, rj⟩ ?r53
              case y53 =>
                intro w_ hS_
                have c_ := range_n oki hS_.1
                go_simp
                try with_reducible rfl
              simp only [Act.put, List.getElem_toArray, List.getElem_cons_succ, List.getElem_cons_zero, List.setIfInBounds_toArray, List.set_cons_succ, List.set_cons_zero]
              refine wpAnyH_take (i := 5) (v := ?v54) rfl (by kernel_rfl) (by kernel_rfl) (by kernel_rfl) (fun _ _ _ h => h) (Or.inl ⟨by rfl, ?y54⟩) ⟨ri, rj⟩ ?r54
              case y54 =>
                intro w_ hS_
                go_simp
                try with_reducible rfl
              simp only [Act.put, List.getElem_toArray, List.getElem_cons_succ, List.getElem_cons_zero, List.setIfInBounds_toArray, List.set_cons_succ, List.set_cons_zero]
              refine wpAnyH_take (i := 6) (v := ?v55) rfl (by kernel_rfl) (by kernel_rfl) (by kernel_rfl) (fun _ _ _ h => h) (Or.inl ⟨by rfl, ?y55⟩) ⟨ri, rj⟩ ?r55
              case y55 =>
                intro w_ hS_
                go_simp
                try with_reducible rfl
              simp only [Act.put, List.getElem_toArray, List.getElem_cons_succ, List.getElem_cons_zero, List.setIfInBounds_toArray, List.set_cons_succ, List.set_cons_zero]
              refine wpAnyH_take (i := 7) (v := ?v56) rfl (by kernel_rfl) (by kernel_rfl) (by kernel_rfl) (fun _ _ _ h => h) (Or.inl ⟨by rfl, ?y56⟩) ⟨ri, rj⟩ ?r56
              case y56 =>
                intro w_ hS_
                go_simp
                try with_reducible rfl
              simp only [Act.put, List.getElem_toArray, List.getElem_cons_succ, List.getElem_cons_zero, List.setIfInBounds_toArray, List.set_cons_succ, List.set_cons_zero]
              refine wpAnyH_take (i := 8) (v := ?v57) rfl (by kernel_rfl) (by kernel_rfl) (by kernel_rfl) (fun _ _ _ h => h) (Or.inl ⟨by rfl, ?y57⟩) ⟨ri, rj⟩ ?r57
              case y57 =>
                intro w_ hS_
                go_simp
                try with_reducible rfl
              simp only [Act.put, List.getElem_toArray, List.getElem_cons_succ, List.getElem_cons_zero, List.setIfInBounds_toArray, List.set_cons_succ, List.set_cons_zero]
              refine wpAnyH_take (i := 9) (v := .int .u32 (gs l j).n) rfl (by kernel_rfl) (by kernel_rfl) (by kernel_rfl) (fun _ _ _ h => h) (Or.inl ⟨by rfl, ?y58⟩) ⟨ri, rj⟩ ?r58
              case y58 =>
                intro w_ hS_
                have c_ := range_n okj hS_.2
                go_simp
                try with_reducible rfl
              simp only [Act.put, List.getElem_toArray, List.getElem_cons_succ, List.getElem_cons_zero, List.setIfInBounds_toArray, List.set_cons_succ, List.set_cons_zero]
              refine wpAnyH_take (i := 10) (v := .bool true) rfl (by kernel_rfl) (by kernel_rfl) (by kernel_rfl) (fun _ _ _ h => h) (Or.inl ⟨by rfl, ?y59⟩) ⟨ri, rj⟩ ?r59
              case y59 =>
                intro w_ hS_
                go_simp
                simpa using hdn
              simp only [Act.put, List.getElem_toArray, List.getElem_cons_succ, List.getElem_cons_zero, List.setIfInBounds_toArray, List.set_cons_succ, List.set_cons_zero]
              refine wpAnyH_take (i := 11) (v := ?v60) rfl (by kernel_rfl) (by kernel_rfl) (by kernel_rfl) (fun _ _ _ h => h) (Or.inl ⟨by rfl, ?y60⟩) ⟨ri, rj⟩ ?r60
              case y60 =>
                intro w_ hS_
                go_simp
                try with_reducible rfl
              simp only [Act.put, List.getElem_toArray, List.getElem_cons_succ, List.getElem_cons_zero, List.setIfInBounds_toArray, List.set_cons_succ, List.set_cons_zero]
              refine wpAnyH_take (i := 12) (v := ?v61) rfl (by kernel_rfl) (by kernel_rfl) (by kernel_rfl) (fun _ _ _ h => h) (Or.inl ⟨by rfl, ?y61⟩) ⟨ri, rj⟩ ?r61
              case y61 =>
                intro w_ hS_
                go_simp
                try with_reducible rfl
              simp only [Act.put, List.getElem_toArray, List.getElem_cons_succ, List.getElem_cons_zero, List.setIfInBounds_toArray, List.set_cons_succ, List.set_cons_zero]
              refine wpAnyH_take (i := 13) (v := ?v62) rfl (by kernel_rfl) (by kernel_rfl) (by kernel_rfl) (fun _ _ _ h => h) (Or.inl ⟨by rfl, ?y62⟩) ⟨ri, rj⟩ ?r62
              case y62 =>
                intro w_ hS_
                go_simp
                try with_reducible rfl
              simp only [Act.put, List.getElem_toArray, List.getElem_cons_succ, List.getElem_cons_zero, List.setIfInBounds_toArray, List.set_cons_succ, List.set_cons_zero]
              refine wpAnyH_take (i := 14) (v := ?v63) rfl (by kernel_rfl) (by kernel_rfl) (by kernel_rfl) (fun _ _ _ h => h) (Or.inl ⟨by rfl, ?y63⟩) ⟨ri, rj⟩ ?r63
              case y63 =>
                intro w_ hS_
                go_simp
                try with_reducible rfl
              simp only [Act.put, List.getElem_toArray, List.getElem_cons_succ, List.getElem_cons_zero, List.setIfInBounds_toArray, List.set_cons_succ, List.set_cons_zero]
              refine wpAnyH_take (i := 15) (v := ?v64) rfl (by kernel_rfl) (by kernel_rfl) (by kernel_rfl) (fun _ _ _ h => h) (Or.inl ⟨by rfl, ?y64⟩) ⟨ri, rj⟩ ?r64
              case y64 =>
                intro w_ hS_
                go_simp
                try with_reducible rfl
              simp only [Act.put, List.getElem_toArray, List.getElem_cons_succ, List.getElem_cons_zero, List.setIfInBounds_toArray, List.set_cons_succ, List.set_cons_zero]
              refine wpAnyH_take (i := 16) (v := .agg (irow .u8 (gs l i).h)) rfl (by kernel_rfl) (by kernel_rfl) (by kernel_rfl) (fun _ _ _ h => h) (Or.inl ⟨by rfl, ?y65⟩) ⟨ri, rj⟩ ?r65
              case y65 =>
                intro w_ hS_
                simp only [List.getElem_toArray, List.getElem_cons_succ, List.getElem_cons_zero]
                exact run_load_range 23 _ (by rfl) b1 (o1 + i * 65) (by rfl) ((gs l i).h.map (Value.int .u8)) _ (range_h hS_.1) Tryd.underlying23 rfl (infoh _ oki.1)
              simp only [Act.put, List.getElem_toArray, List.getElem_cons_succ, List.getElem_cons_zero, List.setIfInBounds_toArray, List.set_cons_succ, List.set_cons_zero]
              refine wpAnyH_take (i := 17) (v := ?v66) rfl (by kernel_rfl) (by kernel_rfl) (by kernel_rfl) (fun _ _ _ h => h) (Or.inl ⟨by rfl, ?y66⟩) ⟨ri, rj⟩ ?r66
              case y66 =>
                intro w_ hS_
                go_simp
                try with_reducible rfl
              simp only [Act.put, List.getElem_toArray, List.getElem_cons_succ, List.getElem_cons_zero, List.setIfInBounds_toArray, List.set_cons_succ, List.set_cons_zero]
              refine wpAnyH_take (i := 18) (v := ?v67) rfl (by kernel_rfl) (by kernel_rfl) (by kernel_rfl) (fun _ _ _ h => h) (Or.inl ⟨by rfl, ?y67⟩) ⟨ri, rj⟩ ?r67
              case y67 =>
                intro w_ hS_
                go_simp
                try with_reducible rfl
              simp only [Act.put, List.getElem_toArray, List.getElem_cons_succ, List.getElem_cons_zero, List.setIfInBounds_toArray, List.set_cons_succ, List.set_cons_zero]
              refine wpAnyH_take (i := 19) (v := ?v68) rfl (by kernel_rfl) (by kernel_rfl) (by kernel_rfl) (fun _ _ _ h => h) (Or.inl ⟨by rfl, ?y68⟩) ⟨ri, rj⟩ ?r68
              case y68 =>
                intro w_ hS_
                go_simp
                try with_reducible rfl
              simp only [Act.put, List.getElem_toArray, List.getElem_cons_succ, List.getElem_cons_zero, List.setIfInBounds_toArray, List.set_cons_succ, List.set_cons_zero]
              refine wpAnyH_take (i := 20) (v := ?v69) rfl (by kernel_rfl) (by kernel_rfl) (by kernel_rfl) (fun _ _ _ h => h) (Or.inl ⟨by rfl, ?y69⟩) ⟨ri, rj⟩ ?r69
              case y69 =>
                intro w_ hS_
                go_simp
                try with_reducible rfl
              simp only [Act.put, List.getElem_toArray, List.getElem_cons_succ, List.getElem_cons_zero, List.setIfInBounds_toArray, List.set_cons_succ, List.set_cons_zero]
              refine wpAnyH_take (i := 21) (v := .agg (irow .u8 (gs l j).h)) rfl (by kernel_rfl) (by kernel_rfl) (by kernel_rfl) (fun _ _ _ h => h) (Or.inl ⟨by rfl, ?y70⟩) ⟨ri, rj⟩ ?r70
              case y70 =>
                intro w_ hS_
                simp only [List.getElem_toArray, List.getElem_cons_succ, List.getElem_cons_zero]
                exact run_load_range 23 _ (by rfl) b1 (o1 + j * 65) (by rfl) ((gs l j).h.map (Value.int .u8)) _ (range_h hS_.2) Tryd.underlying23 rfl (infoh _ okj.1)
              simp only [Act.put, List.getElem_toArray, List.getElem_cons_succ, List.getElem_cons_zero, List.setIfInBounds_toArray, List.set_cons_succ, List.set_cons_zero]
              refine wpAnyH_take (i := 22) (v := .bool true) rfl (by kernel_rfl) (by kernel_rfl) (by kernel_rfl) (fun _ _ _ h => h) (Or.inl ⟨by rfl, ?y71⟩) ⟨ri, rj⟩ ?r71
              case y71 =>
                intro w_ hS_
                simp only [List.getElem_toArray, List.getElem_cons_succ, List.getElem_cons_zero]
                exact run_eql_op 23 23 _ _ (by rfl) (irow .u8 (gs l i).h) (irow .u8 (gs l j).h) (by rfl) (by rfl) egK _ (by have := eq_key 9998 (gs l i).h (gs l j).h oki.1 okj.1 w_; rwa [hdh] at this)
              simp only [Act.put, List.getElem_toArray, List.getElem_cons_succ, List.getElem_cons_zero, List.setIfInBounds_toArray, List.set_cons_succ, List.set_cons_zero]
              refine wpAnyH_take (i := 23) (v := ?v72) rfl (by kernel_rfl) (by kernel_rfl) (by kernel_rfl) (fun _ _ _ h => h) (Or.inl ⟨by rfl, ?y72⟩) ⟨ri, rj⟩ ?r72
              case y72 =>
                intro w_ hS_
                go_simp
                try with_reducible rfl
              simp only [Act.put, List.getElem_toArray, List.getElem_cons_succ, List.getElem_cons_zero, List.setIfInBounds_toArray, List.set_cons_succ, List.set_cons_zero]
              refine wpAnyH_done (by kernel_rfl) ?_ _
              refine NoPanic.normal ?_
              go_wp2_with (fail)
              go_ret
              exact ⟨by rw [hf]; rfl, hw⟩
            · have hdh : decide ((gs l i).h = (gs l j).h) = false := by simpa using hhe
              have htk := hn1 (fun e => hhe (congrArg Prod.fst e).symm)
              clear hn1 hn2 hne hhe
              refine wp_region_noPanic ?_
              refine wp_region_held (S := fun W => W.rangeAt b1 (o1 + i * 65) (srl (gs l i)) ∧ W.rangeAt b1 (o1 + j * 65) (srl (gs l j))) (by kernel_rfl) ?_
              change wpAnyH _ _ _ _ _ _ _ _ (World.drew _)
              generalize wr.drew = w1 at *
              refine wpAnyH_take (i := 0) (v := ?v25) rfl (by kernel_rfl) (by kernel_rfl) (by kernel_rfl) (fun _ _ _ h => h) (Or.inl ⟨by rfl, ?y25⟩) ⟨ri, rj⟩ ?r25
              case y25 =>
                intro w_ hS_
                go_simp
                try with_reducible rfl
              simp only [Act.put, List.getElem_toArray, List.getElem_cons_zero, List.setIfInBounds_toArray, List.set_cons_succ, List.set_cons_zero]
              refine wpAnyH_take (i := 1) (v := ?v26) rfl (by kernel_rfl) (by kernel_rfl) (by kernel_rfl) (fun _ _ _ h => h) (Or.inl ⟨by rfl, ?y26⟩) ⟨ri, rj⟩ ?r26
              case y26 =>
                intro w_ hS_
                go_simp
                try with_reducible rfl
              simp only [Act.put, List.getElem_toArray, List.getElem_cons_succ, List.getElem_cons_zero, List.setIfInBounds_toArray, List.set_cons_succ, List.set_cons_zero]
              refine wpAnyH_take (i := 2) (v := ?v27) rfl (by kernel_rfl) (by kernel_rfl) (by kernel_rfl) (fun _ _ _ h => h) (Or.inl ⟨by rfl, ?y27⟩) ⟨ri, rj⟩ ?r27
              case y27 =>
                intro w_ hS_
                go_simp
                try with_reducible rfl
              simp only [Act.put, List.getElem_toArray, List.getElem_cons_succ, List.getElem_cons_zero, List.setIfInBounds_toArray, List.set_cons_succ, List.set_cons_zero]
              refine wpAnyH_take (i := 3) (v := ?v28) rfl (by kernel_rfl) (by kernel_rfl) (by kernel_rfl) (fun _ _ _ h => h) (Or.inl ⟨by rfl, ?y28⟩) ⟨ri, rj⟩ ?r28
              case y28 =>
                intro w_ hS_
                go_simp
                try with_reducible rfl
              simp only [Act.put, List.getElem_toArray, List.getElem_cons_succ, List.getElem_cons_zero, List.setIfInBounds_toArray, List.set_cons_succ, List.set_cons_zero]
              refine wpAnyH_take (i := 4) (v := .int .u32 (gs l i).n) rfl (by kernel_rfl) (by kernel_rfl) (by kernel_rfl) (fun _ _ _ h => h) (Or.inl ⟨by rfl, ?y29⟩) ⟨ri, rj⟩ ?r29
              case y29 =>
                intro w_ hS_
                have c_ := range_n oki hS_.1
                go_simp
                try with_reducible rfl
              simp only [Act.put, List.getElem_toArray, List.getElem_cons_succ, List.getElem_cons_zero, List.setIfInBounds_toArray, List.set_cons_succ, List.set_cons_zero]
              refine wpAnyH_take (i := 5) (v := ?v30) rfl (by kernel_rfl) (by kernel_rfl) (by kernel_rfl) (fun _ _ _ h => h) (Or.inl ⟨by rfl, ?y30⟩) ⟨ri, rj⟩ ?r30
              case y30 =>
                intro w_ hS_
                go_simp
                try with_reducible rfl
              simp only [Act.put, List.getElem_toArray, List.getElem_cons_succ, List.getElem_cons_zero, List.setIfInBounds_toArray, List.set_cons_succ, List.set_cons_zero]
              refine wpAnyH_take (i := 6) (v := ?v31) rfl (by kernel_rfl) (by kernel_rfl) (by kernel_rfl) (fun _ _ _ h => h) (Or.inl ⟨by rfl, ?y31⟩) ⟨ri, rj⟩ ?r31
              case y31 =>
                intro w_ hS_
                go_simp
                try with_reducible rfl
              simp only [Act.put, List.getElem_toArray, List.getElem_cons_succ, List.getElem_cons_zero, List.setIfInBounds_toArray, List.set_cons_succ, List.set_cons_zero]
              refine wpAnyH_take (i := 7) (v := ?v32) rfl (by kernel_rfl) (by kernel_rfl) (by kernel_rfl) (fun _ _ _ h => h) (Or.inl ⟨by rfl, ?y32⟩) ⟨ri, rj⟩ ?r32
              case y32 =>
                intro w_ hS_
                go_simp
                try with_reducible rfl
              simp only [Act.put, List.getElem_toArray, List.getElem_cons_succ, List.getElem_cons_zero, List.setIfInBounds_toArray, List.set_cons_succ, List.set_cons_zero]
              refine wpAnyH_take (i := 8) (v := ?v33) rfl (by kernel_rfl) (by kernel_rfl) (by kernel_rfl) (fun _ _ _ h => h) (Or.inl ⟨by rfl, ?y33⟩) ⟨ri, rj⟩ ?r33
              case y33 =>
                intro w_ hS_
                go_simp
                try with_reducible rfl
              simp only [Act.put, List.getElem_toArray, List.getElem_cons_succ, List.getElem_cons_zero, List.setIfInBounds_toArray, List.set_cons_succ, List.set_cons_zero]
              refine wpAnyH_take (i := 9) (v := .int .u32 (gs l j).n) rfl (by kernel_rfl) (by kernel_rfl) (by kernel_rfl) (fun _ _ _ h => h) (Or.inl ⟨by rfl, ?y34⟩) ⟨ri, rj⟩ ?r34
              case y34 =>
                intro w_ hS_
                have c_ := range_n okj hS_.2
                go_simp
                try with_reducible rfl
              simp only [Act.put, List.getElem_toArray, List.getElem_cons_succ, List.getElem_cons_zero, List.setIfInBounds_toArray, List.set_cons_succ, List.set_cons_zero]
              refine wpAnyH_take (i := 10) (v := .bool true) rfl (by kernel_rfl) (by kernel_rfl) (by kernel_rfl) (fun _ _ _ h => h) (Or.inl ⟨by rfl, ?y35⟩) ⟨ri, rj⟩ ?r35
              case y35 =>
                intro w_ hS_
                go_simp
                simpa using hdn
              simp only [Act.put, List.getElem_toArray, List.getElem_cons_succ, List.getElem_cons_zero, List.setIfInBounds_toArray, List.set_cons_succ, List.set_cons_zero]
              refine wpAnyH_take (i := 11) (v := ?v36) rfl (by kernel_rfl) (by kernel_rfl) (by kernel_rfl) (fun _ _ _ h => h) (Or.inl ⟨by rfl, ?y36⟩) ⟨ri, rj⟩ ?r36
              case y36 =>
                intro w_ hS_
                go_simp
                try with_reducible rfl
              simp only [Act.put, List.getElem_toArray, List.getElem_cons_succ, List.getElem_cons_zero, List.setIfInBounds_toArray, List.set_cons_succ, List.set_cons_zero]
              refine wpAnyH_take (i := 12) (v := ?v37) rfl (by kernel_rfl) (by kernel_rfl) (by kernel_rfl) (fun _ _ _ h => h) (Or.inl ⟨by rfl, ?y37⟩) ⟨ri, rj⟩ ?r37
              case y37 =>
                intro w_ hS_
                go_simp
                try with_reducible rfl
              simp only [Act.put, List.getElem_toArray, List.getElem_cons_succ, List.getElem_cons_zero, List.setIfInBounds_toArray, List.set_cons_succ, List.set_cons_zero]
              refine wpAnyH_take (i := 13) (v := ?v38) rfl (by kernel_rfl) (by kernel_rfl) (by kernel_rfl) (fun _ _ _ h => h) (Or.inl ⟨by rfl, ?y38⟩) ⟨ri, rj⟩ ?r38
              case y38 =>
                intro w_ hS_
                go_simp
                try with_reducible rfl
              simp only [Act.put, List.getElem_toArray, List.getElem_cons_succ, List.getElem_cons_zero, List.setIfInBounds_toArray, List.set_cons_succ, List.set_cons_zero]
              refine wpAnyH_take (i := 14) (v := ?v39) rfl (by kernel_rfl) (by kernel_rfl) (by kernel_rfl) (fun _ _ _ h => h) (Or.inl ⟨by rfl, ?y39⟩) ⟨ri, rj⟩ ?r39
              case y39 =>
                intro w_ hS_
                go_simp
                try with_reducible rfl
              simp only [Act.put, List.getElem_toArray, List.getElem_cons_succ, List.getElem_cons_zero, List.setIfInBounds_toArray, List.set_cons_succ, List.set_cons_zero]
              refine wpAnyH_take (i := 15) (v := ?v40) rfl (by kernel_rfl) (by kernel_rfl) (by kernel_rfl) (fun _ _ _ h => h) (Or.inl ⟨by rfl, ?y40⟩) ⟨ri, rj⟩ ?r40
              case y40 =>
                intro w_ hS_
                go_simp
                try with_reducible rfl
              simp only [Act.put, List.getElem_toArray, List.getElem_cons_succ, List.getElem_cons_zero, List.setIfInBounds_toArray, List.set_cons_succ, List.set_cons_zero]
              refine wpAnyH_take (i := 16) (v := .agg (irow .u8 (gs l i).h)) rfl (by kernel_rfl) (by kernel_rfl) (by kernel_rfl) (fun _ _ _ h => h) (Or.inl ⟨by rfl, ?y41⟩) ⟨ri, rj⟩ ?r41
              case y41 =>
                intro w_ hS_
                simp only [List.getElem_toArray, List.getElem_cons_succ, List.getElem_cons_zero]
                exact run_load_range 23 _ (by rfl) b1 (o1 + i * 65) (by rfl) ((gs l i).h.map (Value.int .u8)) _ (range_h hS_.1) Tryd.underlying23 rfl (infoh _ oki.1)
              simp only [Act.put, List.getElem_toArray, List.getElem_cons_succ, List.getElem_cons_zero, List.setIfInBounds_toArray, List.set_cons_succ, List.set_cons_zero]
              refine wpAnyH_take (i := 17) (v := ?v42) rfl (by kernel_rfl) (by kernel_rfl) (by kernel_rfl) (fun _ _ _ h => h) (Or.inl ⟨by rfl, ?y42⟩) ⟨ri, rj⟩ ?r42
              case y42 =>
                intro w_ hS_
                go_simp
                try with_reducible rfl
              simp only [Act.put, List.getElem_toArray, List.getElem_cons_succ, List.getElem_cons_zero, List.setIfInBounds_toArray, List.set_cons_succ, List.set_cons_zero]
              refine wpAnyH_take (i := 18) (v := ?v43) rfl (by kernel_rfl) (by kernel_rfl) (by kernel_rfl) (fun _ _ _ h => h) (Or.inl ⟨by rfl, ?y43⟩) ⟨ri, rj⟩ ?r43
              case y43 =>
                intro w_ hS_
                go_simp
                try with_reducible rfl
              simp only [Act.put, List.getElem_toArray, List.getElem_cons_succ, List.getElem_cons_zero, List.setIfInBounds_toArray, List.set_cons_succ, List.set_cons_zero]
              refine wpAnyH_take (i := 19) (v := ?v44) rfl (by kernel_rfl) (by kernel_rfl) (by kernel_rfl) (fun _ _ _ h => h) (Or.inl ⟨by rfl, ?y44⟩) ⟨ri, rj⟩ ?r44
              case y44 =>
                intro w_ hS_
                go_simp
                try with_reducible rfl
              simp only [Act.put, List.getElem_toArray, List.getElem_cons_succ, List.getElem_cons_zero, List.setIfInBounds_toArray, List.set_cons_succ, List.set_cons_zero]
              refine wpAnyH_take (i := 20) (v := ?v45) rfl (by kernel_rfl) (by kernel_rfl) (by kernel_rfl) (fun _ _ _ h => h) (Or.inl ⟨by rfl, ?y45⟩) ⟨ri, rj⟩ ?r45
              case y45 =>
                intro w_ hS_
                go_simp
                try with_reducible rfl
              simp only [Act.put, List.getElem_toArray, List.getElem_cons_succ, List.getElem_cons_zero, List.setIfInBounds_toArray, List.set_cons_succ, List.set_cons_zero]
              refine wpAnyH_take (i := 21) (v := .agg (irow .u8 (gs l j).h)) rfl (by kernel_rfl) (by kernel_rfl) (by kernel_rfl) (fun _ _ _ h => h) (Or.inl ⟨by rfl, ?y46⟩) ⟨ri, rj⟩ ?r46
              case y46 =>
                intro w_ hS_
                simp only [List.getElem_toArray, List.getElem_cons_succ, List.getElem_cons_zero]
                exact run_load_range 23 _ (by rfl) b1 (o1 + j * 65) (by rfl) ((gs l j).h.map (Value.int .u8)) _ (range_h hS_.2) Tryd.underlying23 rfl (infoh _ okj.1)
              simp only [Act.put, List.getElem_toArray, List.getElem_cons_succ, List.getElem_cons_zero, List.setIfInBounds_toArray, List.set_cons_succ, List.set_cons_zero]
              refine wpAnyH_take (i := 22) (v := .bool false) rfl (by kernel_rfl) (by kernel_rfl) (by kernel_rfl) (fun _ _ _ h => h) (Or.inl ⟨by rfl, ?y47⟩) ⟨ri, rj⟩ ?r47
              case y47 =>
                intro w_ hS_
                simp only [List.getElem_toArray, List.getElem_cons_succ, List.getElem_cons_zero]
                exact run_eql_op 23 23 _ _ (by rfl) (irow .u8 (gs l i).h) (irow .u8 (gs l j).h) (by rfl) (by rfl) egK _ (by have := eq_key 9998 (gs l i).h (gs l j).h oki.1 okj.1 w_; rwa [hdh] at this)
              simp only [Act.put, List.getElem_toArray, List.getElem_cons_succ, List.getElem_cons_zero, List.setIfInBounds_toArray, List.set_cons_succ, List.set_cons_zero]
              refine wpAnyH_take (i := 23) (v := ?v48) rfl (by kernel_rfl) (by kernel_rfl) (by kernel_rfl) (fun _ _ _ h => h) (Or.inl ⟨by rfl, ?y48⟩) ⟨ri, rj⟩ ?r48
              case y48 =>
                intro w_ hS_
                go_simp
                try with_reducible rfl
              simp only [Act.put, List.getElem_toArray, List.getElem_cons_succ, List.getElem_cons_zero, List.setIfInBounds_toArray, List.set_cons_succ, List.set_cons_zero]
              refine wpAnyH_done (by kernel_rfl) ?_ _
              refine NoPanic.normal ?_
              go_wp2_with (fail)
              refine ⟨⟨j + 1, by omega, by go_num, hw, htk⟩, ?_⟩
              simp [intOf]; omega
          · have hdn : decide ((gs l i).n = (gs l j).n) = false := by simpa using hne
            have htk := hn1 (fun e => hne (congrArg Prod.snd e).symm)
            clear hn1 hn2 hne
            refine wp_region_noPanic ?_
            refine wp_region_held (S := fun W => W.rangeAt b1 (o1 + i * 65) (srl (gs l i)) ∧ W.rangeAt b1 (o1 + j * 65) (srl (gs l j))) (by kernel_rfl) ?_
            change wpAnyH _ _ _ _ _ _ _ _ (World.drew _)
            generalize wr.drew = w1 at *
            refine wpAnyH_take (i := 0) (v := ?v1) rfl (by kernel_rfl) (by kernel_rfl) (by kernel_rfl) (fun _ _ _ h => h) (Or.inl ⟨by rfl, ?y1⟩) ⟨ri, rj⟩ ?r1
            case y1 =>
              intro w_ hS_
              go_simp
              try with_reducible rfl
            simp only [Act.put, List.getElem_toArray, List.getElem_cons_zero, List.setIfInBounds_toArray, List.set_cons_succ, List.set_cons_zero]
            refine wpAnyH_take (i := 1) (v := ?v2) rfl (by kernel_rfl) (by kernel_rfl) (by kernel_rfl) (fun _ _ _ h => h) (Or.inl ⟨by rfl, ?y2⟩) ⟨ri, rj⟩ ?r2
            case y2 =>
              intro w_ hS_
              go_simp
              try with_reducible rfl
            simp only [Act.put, List.getElem_toArray, List.getElem_cons_succ, List.getElem_cons_zero, List.setIfInBounds_toArray, List.set_cons_succ, List.set_cons_zero]
            refine wpAnyH_take (i := 2) (v := ?v3) rfl (by kernel_rfl) (by kernel_rfl) (by kernel_rfl) (fun _ _ _ h => h) (Or.inl ⟨by rfl, ?y3⟩) ⟨ri, rj⟩ ?r3
            case y3 =>
              intro w_ hS_
              go_simp
              try with_reducible rfl
            simp only [Act.put, List.getElem_toArray, List.getElem_cons_succ, List.getElem_cons_zero, List.setIfInBounds_toArray, List.set_cons_succ, List.set_cons_zero]
            refine wpAnyH_take (i := 3) (v := ?v4) rfl (by kernel_rfl) (by kernel_rfl) (by kernel_rfl) (fun _ _ _ h => h) (Or.inl ⟨by rfl, ?y4⟩) ⟨ri, rj⟩ ?r4
            case y4 =>
              intro w_ hS_
              go_simp
              try with_reducible rfl
            simp only [Act.put, List.getElem_toArray, List.getElem_cons_succ, List.getElem_cons_zero, List.setIfInBounds_toArray, List.set_cons_succ, List.set_cons_zero]
            refine wpAnyH_take (i := 4) (v := .int .u32 (gs l i).n) rfl (by kernel_rfl) (by kernel_rfl) (by kernel_rfl) (fun _ _ _ h => h) (Or.inl ⟨by rfl, ?y5⟩) ⟨ri, rj⟩ ?r5
            case y5 =>
              intro w_ hS_
              have c_ := range_n oki hS_.1
              go_simp
              try with_reducible rfl
            simp only [Act.put, List.getElem_toArray, List.getElem_cons_succ, List.getElem_cons_zero, List.setIfInBounds_toArray, List.set_cons_succ, List.set_cons_zero]
            refine wpAnyH_take (i := 5) (v := ?v6) rfl (by kernel_rfl) (by kernel_rfl) (by kernel_rfl) (fun _ _ _ h => h) (Or.inl ⟨by rfl, ?y6⟩) ⟨ri, rj⟩ ?r6
            case y6 =>
              intro w_ hS_
              go_simp
              try with_reducible rfl
            simp only [Act.put, List.getElem_toArray, List.getElem_cons_succ, List.getElem_cons_zero, List.setIfInBounds_toArray, List.set_cons_succ, List.set_cons_zero]
            refine wpAnyH_take (i := 6) (v := ?v7) rfl (by kernel_rfl) (by kernel_rfl) (by kernel_rfl) (fun _ _ _ h => h) (Or.inl ⟨by rfl, ?y7⟩) ⟨ri, rj⟩ ?r7
            case y7 =>
              intro w_ hS_
              go_simp
              try with_reducible rfl
            simp only [Act.put, List.getElem_toArray, List.getElem_cons_succ, List.getElem_cons_zero, List.setIfInBounds_toArray, List.set_cons_succ, List.set_cons_zero]
            refine wpAnyH_take (i := 7) (v := ?v8) rfl (by kernel_rfl) (by kernel_rfl) (by kernel_rfl) (fun _ _ _ h => h) (Or.inl ⟨by rfl, ?y8⟩) ⟨ri, rj⟩ ?r8
            case y8 =>
              intro w_ hS_
              go_simp
              try with_reducible rfl
            simp only [Act.put, List.getElem_toArray, List.getElem_cons_succ, List.getElem_cons_zero, List.setIfInBounds_toArray, List.set_cons_succ, List.set_cons_zero]
            refine wpAnyH_take (i := 8) (v := ?v9) rfl (by kernel_rfl) (by kernel_rfl) (by kernel_rfl) (fun _ _ _ h => h) (Or.inl ⟨by rfl, ?y9⟩) ⟨ri, rj⟩ ?r9
            case y9 =>
              intro w_ hS_
              go_simp
              try with_reducible rfl
            simp only [Act.put, List.getElem_toArray, List.getElem_cons_succ, List.getElem_cons_zero, List.setIfInBounds_toArray, List.set_cons_succ, List.set_cons_zero]
            refine wpAnyH_take (i := 9) (v := .int .u32 (gs l j).n) rfl (by kernel_rfl) (by kernel_rfl) (by kernel_rfl) (fun _ _ _ h => h) (Or.inl ⟨by rfl, ?y10⟩) ⟨ri, rj⟩ ?r10
            case y10 =>
              intro w_ hS_
              have c_ := range_n okj hS_.2
              go_simp
              try with_reducible rfl
            simp only [Act.put, List.getElem_toArray, List.getElem_cons_succ, List.getElem_cons_zero, List.setIfInBounds_toArray, List.set_cons_succ, List.set_cons_zero]
            refine wpAnyH_take (i := 10) (v := .bool false) rfl (by kernel_rfl) (by kernel_rfl) (by kernel_rfl) (fun _ _ _ h => h) (Or.inl ⟨by rfl, ?y11⟩) ⟨ri, rj⟩ ?r11
            case y11 =>
              intro w_ hS_
              go_simp
              simpa using hdn
            simp only [Act.put, List.getElem_toArray, List.getElem_cons_succ, List.getElem_cons_zero, List.setIfInBounds_toArray, List.set_cons_succ, List.set_cons_zero]
            refine wpAnyH_take (i := 11) (v := ?v12) rfl (by kernel_rfl) (by kernel_rfl) (by kernel_rfl) (fun _ _ _ h => h) (Or.inl ⟨by rfl, ?y12⟩) ⟨ri, rj⟩ ?r12
            case y12 =>
              intro w_ hS_
              go_simp
              try with_reducible rfl
            simp only [Act.put, List.getElem_toArray, List.getElem_cons_succ, List.getElem_cons_zero, List.setIfInBounds_toArray, List.set_cons_succ, List.set_cons_zero]
            refine wpAnyH_take (i := 12) (v := undef) rfl (by kernel_rfl) (by kernel_rfl) (by kernel_rfl) (fun _ _ _ h => h) (Or.inr ⟨by rfl, rfl⟩) ⟨ri, rj⟩ ?r13
            simp only [Act.put, List.getElem_toArray, List.getElem_cons_succ, List.getElem_cons_zero, List.setIfInBounds_toArray, List.set_cons_succ, List.set_cons_zero]
            refine wpAnyH_take (i := 13) (v := undef) rfl (by kernel_rfl) (by kernel_rfl) (by kernel_rfl) (fun _ _ _ h => h) (Or.inr ⟨by rfl, rfl⟩) ⟨ri, rj⟩ ?r14
            simp only [Act.put, List.getElem_toArray, List.getElem_cons_succ, List.getElem_cons_zero, List.setIfInBounds_toArray, List.set_cons_succ, List.set_cons_zero]
            refine wpAnyH_take (i := 14) (v := undef) rfl (by kernel_rfl) (by kernel_rfl) (by kernel_rfl) (fun _ _ _ h => h) (Or.inr ⟨by rfl, rfl⟩) ⟨ri, rj⟩ ?r15
            simp only [Act.put, List.getElem_toArray, List.getElem_cons_succ, List.getElem_cons_zero, List.setIfInBounds_toArray, List.set_cons_succ, List.set_cons_zero]
            refine wpAnyH_take (i := 15) (v := undef) rfl (by kernel_rfl) (by kernel_rfl) (by kernel_rfl) (fun _ _ _ h => h) (Or.inr ⟨by rfl, rfl⟩) ⟨ri, rj⟩ ?r16
            simp only [Act.put, List.getElem_toArray, List.getElem_cons_succ, List.getElem_cons_zero, List.setIfInBounds_toArray, List.set_cons_succ, List.set_cons_zero]
            refine wpAnyH_take (i := 16) (v := undef) rfl (by kernel_rfl) (by kernel_rfl) (by kernel_rfl) (fun _ _ _ h => h) (Or.inr ⟨by rfl, rfl⟩) ⟨ri, rj⟩ ?r17
            simp only [Act.put, List.getElem_toArray, List.getElem_cons_succ, List.getElem_cons_zero, List.setIfInBounds_toArray, List.set_cons_succ, List.set_cons_zero]
            refine wpAnyH_take (i := 17) (v := undef) rfl (by kernel_rfl) (by kernel_rfl) (by kernel_rfl) (fun _ _ _ h => h) (Or.inr ⟨by rfl, rfl⟩) ⟨ri, rj⟩ ?r18
            simp only [Act.put, List.getElem_toArray, List.getElem_cons_succ, List.getElem_cons_zero, List.setIfInBounds_toArray, List.set_cons_succ, List.set_cons_zero]
            refine wpAnyH_take (i := 18) (v := undef) rfl (by kernel_rfl) (by kernel_rfl) (by kernel_rfl) (fun _ _ _ h => h) (Or.inr ⟨by rfl, rfl⟩) ⟨ri, rj⟩ ?r19
            simp only [Act.put, List.getElem_toArray, List.getElem_cons_succ, List.getElem_cons_zero, List.setIfInBounds_toArray, List.set_cons_succ, List.set_cons_zero]
            refine wpAnyH_take (i := 19) (v := undef) rfl (by kernel_rfl) (by kernel_rfl) (by kernel_rfl) (fun _ _ _ h => h) (Or.inr ⟨by rfl, rfl⟩) ⟨ri, rj⟩ ?r20
            simp only [Act.put, List.getElem_toArray, List.getElem_cons_succ, List.getElem_cons_zero, List.setIfInBounds_toArray, List.set_cons_succ, List.set_cons_zero]
            refine wpAnyH_take (i := 20) (v := undef) rfl (by kernel_rfl) (by kernel_rfl) (by kernel_rfl) (fun _ _ _ h => h) (Or.inr ⟨by rfl, rfl⟩) ⟨ri, rj⟩ ?r21
            simp only [Act.put, List.getElem_toArray, List.getElem_cons_succ, List.getElem_cons_zero, List.setIfInBounds_toArray, List.set_cons_succ, List.set_cons_zero]
            refine wpAnyH_take (i := 21) (v := undef) rfl (by kernel_rfl) (by kernel_rfl) (by kernel_rfl) (fun _ _ _ h => h) (Or.inr ⟨by rfl, rfl⟩) ⟨ri, rj⟩ ?r22
            simp only [Act.put, List.getElem_toArray, List.getElem_cons_succ, List.getElem_cons_zero, List.setIfInBounds_toArray, List.set_cons_succ, List.set_cons_zero]
            refine wpAnyH_take (i := 22) (v := undef) rfl (by kernel_rfl) (by kernel_rfl) (by kernel_rfl) (fun _ _ _ h => h) (Or.inr ⟨by rfl, rfl⟩) ⟨ri, rj⟩ ?r23
            simp only [Act.put, List.getElem_toArray, List.getElem_cons_succ, List.getElem_cons_zero, List.setIfInBounds_toArray, List.set_cons_succ, List.set_cons_zero]
            refine wpAnyH_take (i := 23) (v := ?v24) rfl (by kernel_rfl) (by kernel_rfl) (by kernel_rfl) (fun _ _ _ h => h) (Or.inl ⟨by rfl, ?y24⟩) ⟨ri, rj⟩ ?r24
            case y24 =>
              intro w_ hS_
              go_simp
              try with_reducible rfl
            simp only [Act.put, List.getElem_toArray, List.getElem_cons_succ, List.getElem_cons_zero, List.setIfInBounds_toArray, List.set_cons_succ, List.set_cons_zero]
            refine wpAnyH_done (by kernel_rfl) ?_ _
            refine NoPanic.normal ?_
            go_wp2_with (fail)
            refine ⟨⟨j + 1, by omega, by go_num, hw, htk⟩, ?_⟩
            simp [intOf]; omega
        · obtain rfl : j = i := by omega
          have hd2 : decide ((j : Int) < (j : Int)) = false := by simp
          have htk : Hid (((l.take (j + 1)).map Sr.lb).Nodup) := hide (nod_next hlt hnd.out htj.out)
          go_wp2_with (fail)
          refine ⟨⟨j + 1, by omega, by go_num, hw, htk⟩, ?_⟩
          simp [intOf]; omega
    · obtain rfl : i = l.length := by omega
      have hd : decide ((l.length : Int) < (l.length : Int)) = false := by simp
      have hf : mts [] l = false := by
        have := hnd.out
        rw [List.take_length] at this
        rw [mts_false, List.nil_append]; exact this
      go_wp2_with (fail)
      go_ret
      exact ⟨by rw [hf]; rfl, hw⟩
theorem st_put {s : Stt} (h : s.ok) (R : List Value) (u : Value) : ((stlx s R).toArray).setIfInBounds 331 u = (stlx { s with sp := u } R).toArray := by
  have e : stlx s R = ([.int .i64 s.cv, .int .i64 s.ck, .int .i64 s.cs] ++ (k8 s.root ++ (k8 s.opr ++ (k8 s.opu ++ (k8 s.peer ++ ([.bool s.ho, .bool s.hp, .bool s.tu] ++ (k8 s.snd ++ (k8 s.shd ++ (k8 s.nsd ++ ([.int .u32 s.sn, .int .u32 s.pv, .bool s.hs] ++ (k8 s.rcv ++ (k8 s.rhd ++ (k8 s.nrv ++ ([.int .u32 s.rn, .bool s.hr])))))))))))))) ++ (s.sp :: R) := by simp only [stlx, List.append_assoc, List.cons_append, List.nil_append]
  have e2 : stlx { s with sp := u } R = ([.int .i64 s.cv, .int .i64 s.ck, .int .i64 s.cs] ++ (k8 s.root ++ (k8 s.opr ++ (k8 s.opu ++ (k8 s.peer ++ ([.bool s.ho, .bool s.hp, .bool s.tu] ++ (k8 s.snd ++ (k8 s.shd ++ (k8 s.nsd ++ ([.int .u32 s.sn, .int .u32 s.pv, .bool s.hs] ++ (k8 s.rcv ++ (k8 s.rhd ++ (k8 s.nrv ++ ([.int .u32 s.rn, .bool s.hr])))))))))))))) ++ (u :: R) := by simp only [stlx, List.append_assoc, List.cons_append, List.nil_append]
  rw [e, e2]
  simp only [List.setIfInBounds_toArray]
  congr 1
  have hl : ([.int .i64 s.cv, .int .i64 s.ck, .int .i64 s.cs] ++ (k8 s.root ++ (k8 s.opr ++ (k8 s.opu ++ (k8 s.peer ++ ([.bool s.ho, .bool s.hp, .bool s.tu] ++ (k8 s.snd ++ (k8 s.shd ++ (k8 s.nsd ++ ([.int .u32 s.sn, .int .u32 s.pv, .bool s.hs] ++ (k8 s.rcv ++ (k8 s.rhd ++ (k8 s.nrv ++ ([.int .u32 s.rn, .bool s.hr]))))))))))))) : List Value).length = 331 := by simp only [List.length_append, List.length_cons, List.length_nil, k8_len, h.root, h.opr, h.opu, h.peer, h.snd, h.shd, h.nsd, h.rcv, h.rhd, h.nrv]
  rw [List.set_append_right _ _ (by omega), hl]
  rfl
theorem Stt.ok.put {s : Stt} (h : s.ok) {u : Value} (hu : u.oneCell' = true) : Stt.ok { s with sp := u } := ⟨h.root, h.opr, h.opu, h.peer, h.snd, h.shd, h.nsd, h.rcv, h.rhd, h.nrv, hu⟩
theorem run_storeVar_cell {P : Program} (w : World) (g off : Nat) (ty : TypeId) (v : Value) (ht : w.there g off 1) (hi : (P.info? ty).map (·.size) = some 1) (h1 : v.oneCell' = true) : (storeVar ty ⟨g, off, none⟩ v).run P w = .ok () (w.setCells g off [v]) := by
  have := run_storeCells_cells (P := P) g off [v] 0 w (fun j hj => by simpa using (ht j (by simpa using hj)).1) (fun j hj => by simpa using (ht j (by simpa using hj)).2) (fun u hu => by simp at hu; subst hu; exact h1)
  have hc : v.cells = #[v] := by cases v <;> first | rfl | cases h1
  cases hq : P.info? ty with
  | none => simp [hq] at hi
  | some i =>
    have hs : i.size = 1 := by simpa [hq] using hi
    simp only [Nat.add_zero] at this
    simp [storeVar, sizeOf, typeInfo, hq, hc, hs, this]
theorem wpList_store_cell {P : Program} {ops : Array Oper} {rest : List Oper} {o : Oper} {a : Act} {w : World} {Q : Exit → Act → World → Prop} (hgd : o.guard = none) (ty : TypeId) (x y : Operand) (ho : o.op = .store ty x y)
    (g off : Nat) (v : Value) (hx : a.eval x = .pointer (some ⟨g, off, none⟩)) (hy : a.eval y = v) (t : TypeId) (old new : Array Value) (hg : w.heap[g]? = some (.cells old t (0, 0))) (hlt : off < old.size) (hnew : old.setIfInBounds off v = new)
    (hi : (P.info? ty).map (·.size) = some 1) (h1 : v.oneCell' = true)
    (h : wpList P ops Q rest (a.put o.dst undef) (w.setRow g new)) : wpList P ops Q (o :: rest) a w := by
  refine wpList_plain hgd fun _ hK => ?_
  unfold Oper.wp execOp
  simp only [ho, hx, hy, Instr.storeAt, Instr.sureAddr, Sem.run_bind, Sem.run_pure, Result.andThen_ok, run_storeVar_cell w g off ty v (there_row hg hlt) hi h1]
  refine hK _ _ ?_
  rw [setCells_eq [v] off w old hg]
  have e : ovw old off [v] = new := hnew
  rw [e]
  exact h
theorem infoLS : (Tryd.prog.info? 36).map (·.size) = some 1 := by kernel_rfl
theorem slc_one (ao : Option Addr) (n c : Nat) : (Value.slice ao n c).oneCell' = true := rfl
theorem own_one {W : World} {b : Nat} {v : Value} {l : List Sr} (h : OwnS W b v l) : v.oneCell' = true := by
  obtain ⟨ao, cap, rfl⟩ := slen_own h.1
  rfl
theorem spl_oneC {W : World} {v : Value} {l : List Sr} (h : SpL W v l) : v.oneCell' = true := by
  obtain ⟨ao, cap, rfl⟩ := h.form
  rfl
theorem own0 (W : World) : OwnS (W.alloc (.cells #[] 52)) W.heap.size (.slice (some ⟨W.heap.size, 0, none⟩) 0 0) [] :=
  ⟨⟨rfl, .inr ⟨W.heap.size, 0, #[], rfl, Nat.le_refl _, hp1_0 _ _, Nat.le_refl _, by unfold maxLen; omega, rfl, rfl⟩⟩, AllOk.nil⟩
set_option maxRecDepth 100000 in
set_option maxHeartbeats 4000000 in
theorem r_Copy (s : Stt) (hs : s.ok) (l : List Sr) (w : World) (hl : SpL w s.sp l) : Calls Tryd.prog 8 #[.agg (strow s)] w fun e w' => ∃ u, e = .returned (.agg (strow { s with sp := u })) ∧ OwnS w' w.heap.size u l ∧ Below w.heap.size w w' := by
  have ll := hl.len
  have R0 := hp2_0 w (.cells (strow s) 38) (.cells (strow zst) 38)
  have R1 := hp2_1 w (.cells (strow s) 38) (.cells (strow zst) 38)
  have hw : Below w.heap.size w ((w.alloc (.cells (strow s) 38)).alloc (.cells (strow zst) 38)) := ((Below.refl _ _).alloc (Nat.le_refl _) _).alloc (by simp) _
  have sz : w.heap.size + 2 = ((w.alloc (.cells (strow s) 38)).alloc (.cells (strow zst) 38)).heap.size := by simp
  have c0 : World.cell? _ ⟨w.heap.size, 331, none⟩ = some s.sp := (cell_of_row _ _ _ _ _ _ R0).trans (st_sp hs [])
  go_enter Tryd.func8, Tryd.ntmps8
  go_wp2_with (first | (refine wpList_box rfl 38 _ rfl _ rfl (bStA _) ?_) | (refine wpList_alloc rfl 38 rfl (strow zst) zStA ?_; refine wpList_stay ?_) | fail)
  unfold WpStay
  try simp only [size_alloc1, Act.put, List.setIfInBounds_toArray, List.set_cons_succ, List.set_cons_zero]
  generalize ((w.alloc (.cells (strow s) 38)).alloc (.cells (strow zst) 38)) = w0 at *
  have hl0 := hl.keep hw
  obtain ⟨ao, cap, hsp⟩ := hl.form
  have hE := own0 w0
  have hb6 : Below w0.heap.size w0 (w0.alloc (.cells #[] 52)) := (Below.refl _ _).alloc (Nat.le_refl _) _
  have hl1 := hl0.keep hb6
  have c1 : (w0.alloc (.cells #[] 52)).cell? ⟨w.heap.size, 331, none⟩ = some s.sp := (cell_of_row _ _ _ _ _ _ (keep hb6 R0)).trans (st_sp hs [])
  have o1 := spl_oneC hl
  generalize hu : s.sp = sv at c1 hl1 hl0 hl o1
  rw [hu] at hsp
  subst hsp
  go_wp2_with (first | (refine wpList_bsl0 rfl 36 rfl (run_bsl0 w0) ?_) | (at_builtin; refine wpList_append_Sw rfl _ _ rfl w0.heap.size _ [] rfl hE _ l rfl hl1 (by simp; omega) hb6.size ?_) | fail)
  intro u w1 hO hg hn
  have hg1 : Below w0.heap.size w0 w1 := hb6.grown hg hb6.size (fun k e => by cases e; exact Nat.le_refl _)
  replace R0 := keep hg1 R0
  replace R1 := keep hg1 R1
  replace hw := Below.after hw hg1
  clear hE hb6 hl1 c1 hg hn hl0 c0 hg1 hu hl o1
  have hk := own_one hO
  have hs2 := hs.put hk
  have hO1 : ∀ V, (∀ k, w0.heap.size ≤ k → V.heap[k]? = w1.heap[k]?) → OwnS V w.heap.size u l := fun V hV => ⟨own_down (own_move hO.1 (fun k e => hV k (hO.1.lt k e).1)) (by omega), hO.2⟩
  have q1 := st_put hs [] u
  have R2 := (setRow_other w1 w.heap.size (w.heap.size + 1) (strow { s with sp := u }) (by omega)).trans R1
  have R3 := setRow_heap w1 w.heap.size _ (strow { s with sp := u }) _ _ R0
  have hw2 := below_setRow hw (Nat.le_refl _) (strow { s with sp := u })
  have R4 := setRow_heap (w1.setRow w.heap.size (strow { s with sp := u })) (w.heap.size + 1) _ (strow { s with sp := u }) _ _ R2
  have hw3 := below_setRow hw2 (Nat.le_succ _) (strow { s with sp := u })
  have hO3 := hO1 ((w1.setRow w.heap.size (strow { s with sp := u })).setRow (w.heap.size + 1) (strow { s with sp := u })) (fun k hk => (setRow_other _ _ _ _ (by omega)).trans (setRow_other _ _ _ _ (by omega)))
  clear hO1 hO
  go_wp2_with (first | (refine wpList_store_cell rfl 36 _ _ rfl w.heap.size 331 u rfl rfl 38 (strow s) _ R0 (by rw [strow_size hs]; omega) q1 infoLS hk ?_) | (refine wpList_load_want rfl 38 _ rfl (w.heap.size) rfl 38 (strow { s with sp := u }) (0, 0) _ R3 Tryd.underlying38 rfl (infoSt hs2) ?_) | (refine wpList_store_row rfl 38 _ _ rfl (w.heap.size + 1) (strow { s with sp := u }) rfl rfl 38 _ R2 (infoSt hs2) (by rw [strow_size zst_ok, strow_size hs2]) (strow_one hs2) ?_) | fail)
  exact bodyPost_ret (results_cell_row Tryd.results8 _ _ (w.heap.size + 1) _ _ _ _ rfl R4 Tryd.underlying38 rfl (infoSt hs2)) rfl ⟨u, rfl, hO3, hw3⟩

end Go.Proofs.YtjofbnilhkmpeaaDoor
