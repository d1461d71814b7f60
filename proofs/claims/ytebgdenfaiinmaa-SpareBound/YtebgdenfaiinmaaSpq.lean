import Derived.Test.YtebgdenfaiinmaaProg
import Derived.WalkKit
import Derived.WalkSpells
import Derived.WalkLawsBesides
import Derived.Lib.QuietBelow
import Derived.BigQuiet
import Derived.OrdersHeld
import Derived.Deep.RegionHeld3
import Derived.OwnWalk
import Derived.Test.YtebgdenfaiinmaaKit
import Derived.Test.YtebgdenfaiinmaaSpp
namespace Go.Proofs.Ytebgdenfaiinmaa
open Go Go.RowKit Go.Sort Go.ChangeMaps Go.MapKept
attribute [local go_sem] setCell_drewN alloc_drewN

theorem run_bslL0 (W : World) : (Instr.buildSlice 69 0 #[]).run Try.prog W = .ok (.slice (some ⟨W.heap.size, 0, none⟩) 0 0) (W.alloc (.cells #[] 86)) := by kernel_rfl
theorem wpList_bslL0 {P : Program} {ops : Array Oper} {Q : Exit → Act → World → Prop} {w w' : World} {rest : List Oper} {o : Oper} {a : Act} {v : Value} (hw : Region.wanted o (yielded ops a.tmps) = true) (t : TypeId) (ho : o.op = .buildSlice t 0 #[]) (hr : (Instr.buildSlice t 0 #[]).run P w = .ok v w') (h : wpList P ops Q rest (a.put o.dst v) w') : wpList P ops Q (o :: rest) a w :=
  BigFrame.wpList_want hw fun _ hK => wp_world_op _ _ (by simp [execOp, ho, hr, Result.andThen]) (hK _ _ h)
theorem wpList_append_LL {w : World} {ops : Array Oper} {rest : List Oper} {o : Oper} {a : Act} {Q : Exit → Act → World → Prop} (hgd : o.guard = none) (s x : Operand) (ho : o.op = .call { callee := .builtin .append, args := #[s, x], argTypes := #[69, 69] })
    (base : Nat) (v : Value) (hs : a.eval s = v) (hI : w.ownsRow base 86 33 v 0 []) (gl cap : Nat) (l : List Sr) (hok : AllOk l) (b2 : Nat) (hO : w.ownsRow b2 86 33 (.slice (some ⟨gl, 0, none⟩) l.length cap) l.length (lbs l)) (hx : a.eval x = .slice (some ⟨gl, 0, none⟩) l.length cap) (hlen : l.length ≤ 1000000) (hbase : base ≤ w.heap.size)
    (h : ∀ v' w', w'.ownsRow base 86 33 v' l.length (lbs l) → w.grownBy w' v.ownBlock → wpList Try.prog ops Q rest (a.put o.dst v') w') : wpList Try.prog ops Q (o :: rest) a w := by
  refine wpList_plain hgd fun K hK => ?_
  obtain ⟨i0, hi, hz0, hz1, hz2⟩ := infoLb
  refine wp_append_nx s x 69 ho base 86 i0 (.agg (chc (zr 32) 0)) 33 36 Try.underlying69 hi hz0 hz1 hz2 rfl (by decide) v 0 [] hs hI ⟨gl, 0, none⟩ l.length cap (lbs l) hx (lbs_len hok) (hO.cells (g := gl) rfl) (lbs_ones _) (by unfold maxLen; omega) (by omega) hbase (fun v' w' h1 h2 h3 => hK _ _ (h v' w' ?_ h2))
  simpa using h1
theorem eqS1 (a : Addr) (n c : Nat) (W : World) : (binOp .eql 69 (.slice (some a) n c) (.slice none 0 0)).run Try.prog W = .ok (.bool false) W := by kernel_rfl
theorem eqS0 (W : World) : (binOp .eql 69 (.slice none 0 0) (.slice none 0 0)).run Try.prog W = .ok (.bool true) W := by kernel_rfl
theorem eqM1 (b : Nat) (W : World) : (binOp .eql 68 (.map (some b)) (.map none)).run Try.prog W = .ok (.bool false) W := by kernel_rfl
set_option maxRecDepth 100000 in
set_option maxHeartbeats 4000000 in
theorem a_SClone (base : Nat) (v : Value) (l : List Sr) (hok : AllOk l) (hln : l.length ≤ 2000) (w : World) (hO : w.ownsRow base 86 33 v l.length (lbs l)) : Calls Try.prog 52 #[v] w fun e w' => ∃ v', e = .returned v' ∧ w'.ownsRow w.heap.size 86 33 v' l.length (lbs l) ∧ Below w.heap.size w w' := by
  have h0 := hO
  obtain ⟨hl0, ⟨rfl, h3⟩ | ⟨gl, cap, cur, rfl, hb, hg, _⟩⟩ := h0
  · have e0 := eqS0 w
    go_enter Try.func52, Try.ntmps52
    go_wp2_with (fail)
    go_ret
    exact ⟨_, rfl, ⟨hl0, .inl ⟨rfl, h3⟩⟩, Below.refl _ _⟩
  · have hE : (w.alloc (.cells #[] 86)).ownsRow w.heap.size 86 33 (.slice (some ⟨w.heap.size, 0, none⟩) 0 0) 0 [] := ⟨rfl, .inr ⟨w.heap.size, 0, #[], rfl, Nat.le_refl _, hp1_0 _ _, Nat.le_refl _, by decide, rfl, rfl⟩⟩
    have hb6 : Below w.heap.size w (w.alloc (.cells #[] 86)) := (Below.refl _ _).alloc (Nat.le_refl _) _
    have hO1 := own_keep hO hb6
    clear hO
    have e0 := eqS1 ⟨gl, 0, none⟩ l.length cap w
    go_enter Try.func52, Try.ntmps52
    go_wp2_with (first | (refine wpList_bslL0 rfl 69 rfl (run_bslL0 w) ?_) | (at_builtin; refine wpList_append_LL rfl _ _ rfl w.heap.size _ rfl hE gl cap l hok base hO1 rfl (by omega) hb6.size ?_) | fail)
    intro v7 w7 hO7 hg7
    have hb7 : Below w.heap.size w w7 := hb6.grown hg7 hb6.size (fun k e => (hE.lt k e).1)
    obtain ⟨ao7, n7, cap7, rfl⟩ : ∃ ao n c, v7 = .slice ao n c := by obtain ⟨a_, c_, h_⟩ := slen_own hO7; exact ⟨a_, _, c_, h_⟩
    clear hE hb6 hO1 hg7
    go_wp2_with (fail)
    go_ret
    exact ⟨_, rfl, hO7, hb7⟩
theorem run_mclone (w : World) (b : Nat) (es : Array MapEntry) (c : Nat) (hb : w.heap[b]? = some (.map es c)) : (callFunc 56 #[.iface 68 (.map (some b))]).run Try.prog w = .ok (.value (.iface 68 (.map (some w.heap.size)))) (w.alloc (.map es c)) := by
  rw [run_callFunc_extern Try.func56 (by kernel_rfl) (by kernel_rfl) (by kernel_rfl) (e := Extern.MapsClone.clone) (by kernel_rfl)]
  have : (Extern.MapsClone.clone #[.iface 68 (.map (some b))]).run Try.prog w = .ok (.iface 68 (.map (some w.heap.size))) (w.alloc (.map es c)) := by
    have e : Extern.MapsClone.clone #[.iface 68 (.map (some b))] = (do
      let .map entries clock ← getObj b | stuck "maps.clone: a map expected"
      pure (.iface 68 (.map (some (← newObj (.map entries clock)))))) := rfl
    rw [e]
    simp [MapKept.run_getObj_map hb, Result.andThen, newObj]
    rfl
  rw [this]
  rfl
theorem ta_map (c : Value) (W : World) : (Instr.typeAssert (.iface 68 c) 20 68 false).run Try.prog W = .ok c W := by kernel_rfl
set_option maxRecDepth 100000 in
set_option maxHeartbeats 4000000 in
theorem a_MClone (b : Nat) (l : List (Lb × Value)) (w : World) (hm : MapIs w b lenc l) : Calls Try.prog 53 #[.map (some b)] w fun e w' => ∃ b2, e = .returned (.map (some b2)) ∧ w.heap.size ≤ b2 ∧ MapIs w' b2 lenc l ∧ Below w.heap.size w w' := by
  obtain ⟨es, c, hb, he⟩ := hm
  have hr := run_mclone w b es c hb
  have hr2 := ta_map (.map (some w.heap.size))
  have hb6 : Below w.heap.size w (w.alloc (.map es c)) := (Below.refl _ _).alloc (Nat.le_refl _) _
  have e0 := eqM1 b w
  go_enter Try.func53, Try.ntmps53
  go_wp2_with (fail)
  go_ret
  exact ⟨_, rfl, Nat.le_refl _, ⟨es, c, hp1_0 _ _, he⟩, hb6⟩
theorem run_box_op {P : Program} {o : Oper} {a : Act} {w : World} (ty : TypeId) (x : Operand) (ho : o.op = .box ty x) (cs : Array Value) (hx : a.eval x = .agg cs) (hz : ∀ W, (Instr.box ty (.agg cs)).run P W = .ok (.pointer (some ⟨W.heap.size, 0, none⟩)) (W.alloc (.cells cs ty))) : (execOp a.eval o).run P w = .ok (.value (.pointer (some ⟨w.heap.size, 0, none⟩))) (w.alloc (.cells cs ty)) := by
  unfold execOp
  simp only [ho, hx, Sem.run_bind, Sem.run_pure, hz, Result.andThen_ok]
theorem builtC (most : Int) (v : Value) (b : Nat) (hv : ∃ ao n c, v = .slice ao n c) : Try.prog.built 71 [(0, .int .i64 most), (1, v), (2, .map (some b))] = some #[.int .i64 most, v, .map (some b)] := by
  obtain ⟨ao, n, c, rfl⟩ := hv
  kernel_rfl
set_option maxRecDepth 100000 in
set_option maxHeartbeats 4000000 in
theorem a_Clone (base g b : Nat) (v : Value) (most : Int) (l : List Sr) (w : World) (hS : Sto w base g b v most l) : Calls Try.prog 27 #[.pointer (some ⟨g, 0, none⟩)] w fun e w' => ∃ g2 b2 v2, e = .returned (.pointer (some ⟨g2, 0, none⟩)) ∧ Sto w' w.heap.size g2 b2 v2 most l ∧ Below w.heap.size w w' := by
  have hln : l.length ≤ 2000 := by have := hS.len; have := hS.most0; omega
  obtain ⟨ao, cl, cap, rfl⟩ : ∃ ao n c, v = .slice ao n c := by obtain ⟨a_, c_, h_⟩ := slen_own hS.own; exact ⟨a_, _, c_, h_⟩
  have hw : Below w.heap.size w w := Below.refl _ _
  go_enter Try.func27, Try.ntmps27
  go_wp2_with (fail)
  have hbd : Below w.heap.size w w.drew := below_drN (Below.refl _ _) 1
  replace hS := hS.keep hbd
  replace hw := Below.after hw hbd
  clear hbd
  refine wp_region_noPanic ?_
  refine wp_region_held (S := fun W => Sto W base g b (.slice ao cl cap) most l) (by kernel_rfl) ?_
  change wpAnyH _ _ _ _ _ _ _ _ (World.drew _)
  generalize w.drew = w1 at *
  refine wpAnyH_take (i := 0) (v := ?v1) rfl (by kernel_rfl) (by kernel_rfl) (by kernel_rfl) (fun _ _ _ h => h) (Or.inl ⟨by rfl, ?y1⟩) (hS) ?r1
  case y1 =>
    intro w_ hS_
    go_simp
    try with_reducible rfl
  simp only [Act.put, List.getElem_toArray, List.getElem_cons_zero, List.setIfInBounds_toArray, List.set_cons_succ, List.set_cons_zero]
  refine wpAnyH_take (i := 1) (v := ?v2) rfl (by kernel_rfl) (by kernel_rfl) (by kernel_rfl) (fun _ _ _ h => h) (Or.inl ⟨by rfl, ?y2⟩) (hS) ?r2
  case y2 =>
    intro w_ hS_
    go_simp
    try with_reducible rfl
  simp only [Act.put, List.getElem_toArray, List.getElem_cons_succ, List.getElem_cons_zero, List.setIfInBounds_toArray, List.set_cons_succ, List.set_cons_zero]
  refine wpAnyH_take (i := 2) (v := ?v3) rfl (by kernel_rfl) (by kernel_rfl) (by kernel_rfl) (fun _ _ _ h => h) (Or.inl ⟨by rfl, ?y3⟩) (hS) ?r3
  case y3 =>
    intro w_ hS_
    go_simp
    try with_reducible rfl
  simp only [Act.put, List.getElem_toArray, List.getElem_cons_succ, List.getElem_cons_zero, List.setIfInBounds_toArray, List.set_cons_succ, List.set_cons_zero]
  refine wpAnyH_take (i := 3) (v := .int .i64 most) rfl (by kernel_rfl) (by kernel_rfl) (by kernel_rfl) (fun _ _ _ h => h) (Or.inl ⟨by rfl, ?y4⟩) (hS) ?r4
  case y4 =>
    intro w_ hS_
    have c_ := hS_.c0
    go_simp
    try with_reducible rfl
  simp only [Act.put, List.getElem_toArray, List.getElem_cons_succ, List.getElem_cons_zero, List.setIfInBounds_toArray, List.set_cons_succ, List.set_cons_zero]
  refine wpAnyH_take (i := 4) (v := ?v5) rfl (by kernel_rfl) (by kernel_rfl) (by kernel_rfl) (fun _ _ _ h => h) (Or.inl ⟨by rfl, ?y5⟩) (hS) ?r5
  case y5 =>
    intro w_ hS_
    go_simp
    try with_reducible rfl
  simp only [Act.put, List.getElem_toArray, List.getElem_cons_succ, List.getElem_cons_zero, List.setIfInBounds_toArray, List.set_cons_succ, List.set_cons_zero]
  refine wpAnyH_take (i := 5) (v := ?v6) rfl (by kernel_rfl) (by kernel_rfl) (by kernel_rfl) (fun _ _ _ h => h) (Or.inl ⟨by rfl, ?y6⟩) (hS) ?r6
  case y6 =>
    intro w_ hS_
    go_simp
    try with_reducible rfl
  simp only [Act.put, List.getElem_toArray, List.getElem_cons_succ, List.getElem_cons_zero, List.setIfInBounds_toArray, List.set_cons_succ, List.set_cons_zero]
  refine wpAnyH_take (i := 6) (v := ?v7) rfl (by kernel_rfl) (by kernel_rfl) (by kernel_rfl) (fun _ _ _ h => h) (Or.inl ⟨by rfl, ?y7⟩) (hS) ?r7
  case y7 =>
    intro w_ hS_
    go_simp
    try with_reducible rfl
  simp only [Act.put, List.getElem_toArray, List.getElem_cons_succ, List.getElem_cons_zero, List.setIfInBounds_toArray, List.set_cons_succ, List.set_cons_zero]
  refine wpAnyH_take (i := 7) (v := .slice ao cl cap) rfl (by kernel_rfl) (by kernel_rfl) (by kernel_rfl) (fun _ _ _ h => h) (Or.inl ⟨by rfl, ?y8⟩) (hS) ?r8
  case y8 =>
    intro w_ hS_
    have c_ := hS_.c1
    go_simp
    try with_reducible rfl
  simp only [Act.put, List.getElem_toArray, List.getElem_cons_succ, List.getElem_cons_zero, List.setIfInBounds_toArray, List.set_cons_succ, List.set_cons_zero]
  refine wpAnyH_take (i := 9) (v := ?v9) rfl (by kernel_rfl) (by kernel_rfl) (by kernel_rfl) (fun _ _ _ h => h) (Or.inl ⟨by rfl, ?y9⟩) (hS) ?r9
  case y9 =>
    intro w_ hS_
    go_simp
    try with_reducible rfl
  simp only [Act.put, List.getElem_toArray, List.getElem_cons_succ, List.getElem_cons_zero, List.setIfInBounds_toArray, List.set_cons_succ, List.set_cons_zero]
  refine wpAnyH_take (i := 10) (v := ?v10) rfl (by kernel_rfl) (by kernel_rfl) (by kernel_rfl) (fun _ _ _ h => h) (Or.inl ⟨by rfl, ?y10⟩) (hS) ?r10
  case y10 =>
    intro w_ hS_
    go_simp
    try with_reducible rfl
  simp only [Act.put, List.getElem_toArray, List.getElem_cons_succ, List.getElem_cons_zero, List.setIfInBounds_toArray, List.set_cons_succ, List.set_cons_zero]
  refine wpAnyH_take (i := 11) (v := ?v11) rfl (by kernel_rfl) (by kernel_rfl) (by kernel_rfl) (fun _ _ _ h => h) (Or.inl ⟨by rfl, ?y11⟩) (hS) ?r11
  case y11 =>
    intro w_ hS_
    go_simp
    try with_reducible rfl
  simp only [Act.put, List.getElem_toArray, List.getElem_cons_succ, List.getElem_cons_zero, List.setIfInBounds_toArray, List.set_cons_succ, List.set_cons_zero]
  refine wpAnyH_take (i := 12) (v := .map (some b)) rfl (by kernel_rfl) (by kernel_rfl) (by kernel_rfl) (fun _ _ _ h => h) (Or.inl ⟨by rfl, ?y12⟩) (hS) ?r12
  case y12 =>
    intro w_ hS_
    have c_ := hS_.c2
    go_simp
    try with_reducible rfl
  simp only [Act.put, List.getElem_toArray, List.getElem_cons_succ, List.getElem_cons_zero, List.setIfInBounds_toArray, List.set_cons_succ, List.set_cons_zero]
  refine wpAnyH_one (k := 8) (fuel := 4) (by kernel_rfl) rfl (by kernel_rfl) (fun K_ hK_ => ?_)
  refine wp_call_ex (f := 52) (R := fun v_ w_ => (w_.ownsRow w.heap.size 86 33 v_ l.length (lbs l)) ∧ Below w1.heap.size w1 w_) (by kernel_rfl) ((a_SClone base (.slice ao cl cap) l hS.ok hln w1 hS.own).mono (fun e_ w_ h_ => by obtain ⟨v_, e1_, h1_, h2_⟩ := h_; exact ⟨v_, e1_, own_down h1_ hw.size, h2_⟩)) (fun v2 q1 hX_ => ?_)
  obtain ⟨hO2, hb_⟩ := hX_
  have hvc : ∃ ao n c, v2 = .slice ao n c := by obtain ⟨a_, c_, h_⟩ := slen_own hO2; exact ⟨a_, _, c_, h_⟩
  replace hS := hS.keep hb_
  replace hw := Below.after hw hb_
  clear hb_
  refine hK_ _ _ (hS) ?_
  simp only [Act.put, List.getElem_toArray, List.getElem_cons_succ, List.getElem_cons_zero, List.setIfInBounds_toArray, List.set_cons_succ, List.set_cons_zero]
  clear hK_
  refine wpAnyH_one (k := 13) (fuel := 3) (by kernel_rfl) rfl (by kernel_rfl) (fun K_ hK_ => ?_)
  refine wp_call_ex (f := 53) (R := fun v_ w_ => (∃ b2, v_ = .map (some b2) ∧ w.heap.size ≤ b2 ∧ MapIs w_ b2 lenc (ents l)) ∧ Below q1.heap.size q1 w_) (by kernel_rfl) ((a_MClone b (ents l) q1 hS.map).mono (fun e_ w_ h_ => by obtain ⟨b2, e1_, h1_, h2_, h3_⟩ := h_; exact ⟨_, e1_, ⟨b2, rfl, Nat.le_trans hw.size h1_, h2_⟩, h3_⟩)) (fun v_ q2 hX_ => ?_)
  obtain ⟨⟨b2, rfl, hb2, hM2⟩, hb_⟩ := hX_
  replace hS := hS.keep hb_
  replace hw := Below.after hw hb_
  replace hO2 := own_keep hO2 hb_
  clear hb_
  refine hK_ _ _ (hS) ?_
  simp only [Act.put, List.getElem_toArray, List.getElem_cons_succ, List.getElem_cons_zero, List.setIfInBounds_toArray, List.set_cons_succ, List.set_cons_zero]
  clear hK_
  refine wpAnyH_take (i := 14) (v := .agg #[.int .i64 most, v2, .map (some b2)]) rfl (by kernel_rfl) (by kernel_rfl) (by kernel_rfl) (fun _ _ _ h => h) (Or.inl ⟨by rfl, ?y13⟩) (hS) ?r13
  case y13 =>
    intro w_ hS_
    simp only [List.getElem_toArray, List.getElem_cons_succ, List.getElem_cons_zero]
    exact run_build_op 71 _ (by rfl) [(0, .int .i64 most), (1, v2), (2, .map (some b2))] (by rfl) _ (builtC most v2 b2 hvc)
  simp only [Act.put, List.getElem_toArray, List.getElem_cons_succ, List.getElem_cons_zero, List.setIfInBounds_toArray, List.set_cons_succ, List.set_cons_zero]
  refine wpAnyH_one (k := 15) (fuel := 1) (by kernel_rfl) rfl (by kernel_rfl) (fun K_ hK_ => ?_)
  refine wp_world_op (.pointer (some ⟨q2.heap.size, 0, none⟩)) (q2.alloc (.cells #[.int .i64 most, v2, .map (some b2)] 71)) (run_box_op 71 _ rfl _ rfl (bSt _)) ?_
  have RF := hp1_0 q2 (.cells #[.int .i64 most, v2, .map (some b2)] 71)
  have hb_ : Below q2.heap.size q2 (q2.alloc (.cells #[.int .i64 most, v2, .map (some b2)] 71)) := (Below.refl _ _).alloc (Nat.le_refl _) _
  have szF := hw.size
  have oF := hO2.lt
  replace hS := hS.keep hb_
  replace hw := Below.after hw hb_
  replace hO2 := own_keep hO2 hb_
  replace hM2 := hM2.row (fun _ h_ => keep hb_ h_)
  clear hb_
  refine hK_ _ _ (hS) ?_
  simp only [Act.put, List.getElem_toArray, List.getElem_cons_succ, List.getElem_cons_zero, List.setIfInBounds_toArray, List.set_cons_succ, List.set_cons_zero]
  clear hK_
  generalize q2.alloc (.cells #[.int .i64 most, v2, .map (some b2)] 71) = q3 at *
  generalize q2.heap.size = gF at *
  refine wpAnyH_take (i := 16) (v := ?v14) rfl (by kernel_rfl) (by kernel_rfl) (by kernel_rfl) (fun _ _ _ h => h) (Or.inl ⟨by rfl, ?y14⟩) (hS) ?r14
  case y14 =>
    intro w_ hS_
    go_simp
    try with_reducible rfl
  simp only [Act.put, List.getElem_toArray, List.getElem_cons_succ, List.getElem_cons_zero, List.setIfInBounds_toArray, List.set_cons_succ, List.set_cons_zero]
  refine wpAnyH_done (by kernel_rfl) ?_ _
  refine NoPanic.normal ?_
  go_wp2_with (fail)
  go_ret
  exact ⟨_, _, _, rfl, ⟨RF, hO2, hM2, hS.ok, hS.nod, hS.most0, hS.len, szF, hb2, fun e => by have := oF _ e; omega⟩, hw⟩

end Go.Proofs.Ytebgdenfaiinmaa
