import Derived.Test.YtebgdenfaiinmaaProg
import Derived.WalkKit
import Derived.WalkSpells
import Derived.WalkLawsBesides
import Derived.Lib.QuietBelow
import Derived.BigQuiet
import Derived.OrdersHeld
import Derived.Deep.RegionHeld3
import Derived.OwnWalk
import Derived.Test.YtebgdenfaiinmaaKit
import Derived.Test.YtebgdenfaiinmaaSpi
import Derived.Test.YtebgdenfaiinmaaSpx
namespace Go.Proofs.Ytebgdenfaiinmaa
open Go Go.RowKit Go.Sort Go.ChangeMaps Go.MapKept
attribute [local go_sem] setCell_drewN alloc_drewN

theorem wpAnyH_skip {P : Program} {ops : Array Oper} {Q : Exit → Act → World → Prop} {md : Region.Mode} {S : World → Prop} {k : Nat} {o : Oper} {fuel : Nat} {listed : Array Bool} {a : Act} {w : World} (hr : Region.ready md ops listed = [k]) (hi : ops[k]? = some o) (hw : Region.wanted o (yielded ops a.tmps) = false) (hS : S w)
    (h : wpAnyH P md ops Q S fuel (listed.setIfInBounds k true) (a.put o.dst undef) w) : wpAnyH P md ops Q S (fuel + 1) listed a w := by
  refine wpAnyH_all hr (by simp) (fun i hi' => ?_)
  obtain rfl : i = k := by simpa using hi'
  unfold wpOp
  simp only [hi, hw, Bool.false_eq_true, if_false]
  exact ⟨hS, h⟩
theorem run_bsl0 (W : World) : (Instr.buildSlice 38 0 #[]).run Try.prog W = .ok (.slice (some ⟨W.heap.size, 0, none⟩) 0 0) (W.alloc (.cells #[] 60)) := by kernel_rfl
theorem wpList_bsl0 {P : Program} {ops : Array Oper} {Q : Exit → Act → World → Prop} {w w' : World} {rest : List Oper} {o : Oper} {a : Act} {v : Value} (hw : Region.wanted o (yielded ops a.tmps) = true) (t : TypeId) (ho : o.op = .buildSlice t 0 #[]) (hr : (Instr.buildSlice t 0 #[]).run P w = .ok v w') (h : wpList P ops Q rest (a.put o.dst v) w') : wpList P ops Q (o :: rest) a w :=
  BigFrame.wpList_want hw fun _ hK => wp_world_op _ _ (by simp [execOp, ho, hr, Result.andThen]) (hK _ _ h)
theorem wpList_append_Sw {w : World} {ops : Array Oper} {rest : List Oper} {o : Oper} {a : Act} {Q : Exit → Act → World → Prop} (hw : Region.wanted o (yielded ops a.tmps) = true) (s x : Operand) (ho : o.op = .call { callee := .builtin .append, args := #[s, x], argTypes := #[38, 38] })
    (base : Nat) (v : Value) (l : List Sr) (hs : a.eval s = v) (hI : OwnS w base v l) (u : Value) (q : List Sr) (hx : a.eval x = u) (hq : SpL w u q) (hlen : l.length + q.length ≤ 2069668946401) (hbase : base ≤ w.heap.size)
    (h : ∀ v' w', OwnS w' base v' (l ++ q) → w.grownBy w' v.ownBlock → Nx w v v' → wpList Try.prog ops Q rest (a.put o.dst v') w') : wpList Try.prog ops Q (o :: rest) a w :=
  BigFrame.wpList_want hw fun _ hK => wp_append_S s x ho base v l hs hI u q hx hq hlen hbase (fun v' w' h1 h2 h3 => hK _ _ (h v' w' h1 h2 h3))
theorem infoh (h : List Int) (hl : h.length = 32) : (Try.prog.info? 40).map (·.size) = some (h.map (Value.int .u8)).length := by
  rw [List.length_map, hl]; kernel_rfl
theorem range_h {W : World} {g o : Nat} {s : Sr} (h : W.rangeAt g o (srl s)) : W.rangeAt g o (s.h.map (Value.int .u8)) := fun j x hx => h j x (by
  rw [srl, List.getElem?_append_left (List.getElem?_eq_some_iff.1 hx).1]; exact hx)
theorem range_n {W : World} {g o : Nat} {s : Sr} (hs : s.ok) (h : W.rangeAt g o (srl s)) : W.cell? ⟨g, o + 32, none⟩ = some (.int .u32 s.n) := h 32 _ (by simp [srl, hs.1])
theorem range_m {W : World} {g o : Nat} {s : Sr} (hs : s.ok) (h : W.rangeAt g o (srl s)) : W.rangeAt g (o + 33) (s.m.map (Value.int .u8)) := fun j x hx => by
  have e : (srl s)[33 + j]? = some x := by
    rw [srl, List.getElem?_append_right (by simp [hs.1]; omega)]
    rw [show 33 + j - (s.h.map (Value.int .u8)).length = j + 1 by simp [hs.1]; omega, List.getElem?_cons_succ]
    exact hx
  have := h (33 + j) x e
  rw [Nat.add_assoc]
  exact this
/-- The reference's store. -/
structure Rst (W : World) (base g : Nat) (v : Value) (most : Int) (l : List Sr) : Prop where
  row : W.heap[g]? = some (.cells #[.int .i64 most, v] 73 (0, 0))
  own : OwnS W base v l
  most0 : 0 ≤ most ∧ most ≤ 2000
  len : (l.length : Int) ≤ most
  nod : (l.map Sr.lb).Nodup
  bg : base ≤ g
  ne : v.ownBlock ≠ some g
def own2 (g : Nat) (v : Value) (k : Nat) : Prop := k = g ∨ v.ownBlock = some k
theorem Rst.low {W : World} {base g : Nat} {v : Value} {most : Int} {l : List Sr} (h : Rst W base g v most l) : ∀ k, own2 g v k → base ≤ k ∧ k < W.heap.size := by
  rintro k (rfl | e)
  · exact ⟨h.bg, lt_of_row h.row⟩
  · exact h.own.1.lt k e
theorem Rst.move {W V : World} {base g : Nat} {v : Value} {most : Int} {l : List Sr} (h : Rst W base g v most l) (hm : ∀ k, own2 g v k → V.heap[k]? = W.heap[k]?) : Rst V base g v most l :=
  ⟨(hm g (.inl rfl)).trans h.row, ⟨own_move h.own.1 (fun k e => hm k (.inr e)), h.own.2⟩, h.most0, h.len, h.nod, h.bg, h.ne⟩
theorem Rst.keep {W V : World} {base g : Nat} {v : Value} {most : Int} {l : List Sr} (h : Rst W base g v most l) (hb : Below W.heap.size W V) : Rst V base g v most l := h.move (fun k e => hb.block k (h.low k e).2)
theorem Rst.below {W V : World} {base g : Nat} {v : Value} {most : Int} {l : List Sr} (h : Rst W base g v most l) (hf : Fr (own2 g v) W V) (hbs : base ≤ W.heap.size) : Below base W V := hf.below (fun k e => (h.low k e).1) hbs
theorem Rst.c0 {W : World} {base g : Nat} {v : Value} {most : Int} {l : List Sr} (h : Rst W base g v most l) : W.cell? ⟨g, 0, none⟩ = some (.int .i64 most) := by rw [cell_of_row W g 0 _ _ _ h.row]; rfl
theorem Rst.c1 {W : World} {base g : Nat} {v : Value} {most : Int} {l : List Sr} (h : Rst W base g v most l) : W.cell? ⟨g, 1, none⟩ = some v := by rw [cell_of_row W g 1 _ _ _ h.row]; rfl
theorem Rst.spl {W : World} {base g : Nat} {v : Value} {most : Int} {l : List Sr} (h : Rst W base g v most l) : SpL W v l := h.own.spl (by have := h.most0; have := h.len; omega)
theorem builtRs (most : Int) : Try.prog.built 73 [(0, .int .i64 most)] = some #[.int .i64 most, .slice none 0 0] := by kernel_rfl
theorem bRs (cs : Array Value) (W : World) : (Instr.box 73 (.agg cs)).run Try.prog W = .ok (.pointer (some ⟨W.heap.size, 0, none⟩)) (W.alloc (.cells cs 73)) := by kernel_rfl
set_option maxRecDepth 100000 in
set_option maxHeartbeats 4000000 in
theorem r_New (most : Int) (h0 : 0 ≤ most) (h1 : most ≤ 2000) (w : World) : Calls Try.prog 10 #[.int .i64 most] w fun e w' => ∃ g, e = .returned (.tuple #[.pointer (some ⟨g, 0, none⟩), .int .i64 0]) ∧ Rst w' w.heap.size g (.slice none 0 0) most [] ∧ Below w.heap.size w w' := by
  have d1 : decide (most < 0) = false := by simp; omega
  have d2 : decide (most > 2000) = false := by simp; omega
  have hb := builtRs most
  have R0 := hp1_0 w (.cells #[.int .i64 most, .slice none 0 0] 73)
  have hw : Below w.heap.size w (w.alloc (.cells #[.int .i64 most, .slice none 0 0] 73)) := (Below.refl _ _).alloc (Nat.le_refl _) _
  go_enter Try.func10, Try.ntmps10
  go_wp2_with (first | (refine wpList_build_as rfl 73 _ rfl [(0, .int .i64 most)] rfl #[.int .i64 most, .slice none 0 0] hb ?_) | (refine wpList_box rfl 73 _ rfl _ rfl (bRs _) ?_) | fail)
  go_ret2
  exact ⟨_, rfl, ⟨R0, own_nilS _ _, ⟨h0, h1⟩, h0, List.nodup_nil, Nat.le_refl _, (fun e => by cases e)⟩, hw⟩
set_option maxRecDepth 100000 in
set_option maxHeartbeats 4000000 in
theorem r_New_no (most : Int) (h0 : most < 0 ∨ 2000 < most) (w : World) : Calls Try.prog 10 #[.int .i64 most] w fun e w' => e = .returned (.tuple #[.pointer none, .int .i64 1]) ∧ w' = w := by
  rcases h0 with h0 | h0
  · have d1 : decide (most < 0) = true := by simp; omega
    go_enter Try.func10, Try.ntmps10
    go_wp2_with (fail)
    go_ret2
    exact ⟨rfl, rfl⟩
  · have d1 : decide (most < 0) = false := by simp; omega
    have d2 : decide (most > 2000) = true := by simp; omega
    go_enter Try.func10, Try.ntmps10
    go_wp2_with (fail)
    go_ret2
    exact ⟨rfl, rfl⟩
set_option maxRecDepth 100000 in
set_option maxHeartbeats 4000000 in
theorem r_Len (base g : Nat) (v : Value) (most : Int) (l : List Sr) (w : World) (hR : Rst w base g v most l) : Calls Try.prog 38 #[.pointer (some ⟨g, 0, none⟩)] w fun e w' => e = .returned (.int .i64 l.length) ∧ w' = w := by
  obtain ⟨ao, cap, rfl⟩ := slen_own hR.own.1
  have c1 := hR.c1
  go_enter Try.func38, Try.ntmps38
  go_wp2_with (fail)
  go_ret
  exact ⟨rfl, rfl⟩
set_option maxRecDepth 100000 in
set_option maxHeartbeats 4000000 in
theorem r_Room (base g : Nat) (v : Value) (most : Int) (l : List Sr) (w : World) (hR : Rst w base g v most l) : Calls Try.prog 39 #[.pointer (some ⟨g, 0, none⟩)] w fun e w' => e = .returned (.int .i64 (most - l.length)) ∧ Below w.heap.size w w' := by
  have hm := hR.most0
  have hl := hR.len
  obtain ⟨ao, cap, rfl⟩ := slen_own hR.own.1
  have c0 : ∀ p : Regrown, (grow (redrawn w p.d) p.os).cell? ⟨g, 0, none⟩ = some (.int .i64 most) := fun p => cell_regrown hR.c0 p.d p.os
  have c1 : ∀ p : Regrown, (grow (redrawn w p.d) p.os).cell? ⟨g, 1, none⟩ = some (.slice ao l.length cap) := fun p => cell_regrown hR.c1 p.d p.os
  go_enter Try.func39, Try.ntmps39
  go_wp2_with (fail)
  refine wp_region_quiet_below (by kernel_rfl) (by kernel_rfl) ?_
  iterate 11 go_big_quiet_step (fail)
  refine wpQuiet_nil ?_
  rintro _ ⟨p, rfl⟩
  have hb := below_regrown w p.d p.os
  go_wp2_with (fail)
  go_ret
  exact ⟨by go_num, hb⟩
set_option maxRecDepth 100000 in
set_option maxHeartbeats 4000000 in
theorem r_List (base g : Nat) (v : Value) (most : Int) (l : List Sr) (w : World) (hR : Rst w base g v most l) : Calls Try.prog 37 #[.pointer (some ⟨g, 0, none⟩)] w fun e w' => ∃ u, e = .returned u ∧ OwnS w' w.heap.size u l ∧ Below w.heap.size w w' := by
  have hm := hR.most0
  have hl := hR.len
  have hw : Below w.heap.size w (w.alloc (.cells #[] 60)) := (Below.refl _ _).alloc (Nat.le_refl _) _
  have hO := own_empS w
  have hR1 := hR.keep hw
  have hq := hR1.spl
  have c1 := hR1.c1
  clear hR hR1
  go_enter Try.func37, Try.ntmps37
  go_wp2_with (first | (refine wpList_bsl0 rfl 38 rfl (run_bsl0 w) ?_) | (at_builtin; refine wpList_append_Sw rfl _ _ rfl w.heap.size _ [] rfl hO _ l rfl hq (by simp; omega) hw.size ?_) | fail)
  intro uN wN hON hgN hxN
  have hwN : Below w.heap.size w wN := hw.grown hgN hw.size (fun k_ e_ => by have := (hO.1.lt k_ e_).1; omega)
  obtain ⟨aoN, nN, cN, rfl⟩ : ∃ ao n c, uN = .slice ao n c := by obtain ⟨a_, c_, h_⟩ := slen_own hON.1; exact ⟨a_, _, c_, h_⟩
  clear hgN hxN hO hq c1
  go_wp2_with (fail)
  go_ret
  exact ⟨_, rfl, hON, hwN⟩
def plz : Option Nat → Int
  | some i => (i : Int)
  | none => -1
theorem plc_app_none {κ : Type} [DecidableEq κ] (x : κ) : ∀ (a b : List κ), plc x a = none → plc x (a ++ b) = (plc x b).map (· + a.length)
  | [], b, _ => by cases h : plc x b <;> simp [h]
  | y :: r, b, h => by
    unfold plc at h
    split at h
    · cases h
    · rename_i hne
      have h1 : plc x r = none := by cases h2 : plc x r with
        | none => rfl
        | some j => rw [h2] at h; cases h
      rw [List.cons_append, plc, if_neg hne, plc_app_none x r b h1]
      cases plc x b <;> simp [Nat.add_assoc]
theorem plc_next {l : List Sr} {k : Nat} (hk : k < l.length) {x : Lb} (h : plc x ((l.take k).map Sr.lb) = none) (hne : (gs l k).lb ≠ x) : plc x ((l.take (k + 1)).map Sr.lb) = none := by
  rw [take_snocS l k hk, List.map_append, plc_app_none x _ _ h, List.map_cons, List.map_nil, plc, if_neg (fun e => hne e.symm)]
  rfl
theorem plc_here {l : List Sr} {k : Nat} (hk : k < l.length) {x : Lb} (h : plc x ((l.take k).map Sr.lb) = none) (he : (gs l k).lb = x) : plc x (l.map Sr.lb) = some k := by
  have e : l = l.take k ++ (gs l k :: l.drop (k + 1)) := by
    have h1 : l.take (k + 1) ++ l.drop (k + 1) = l := List.take_append_drop _ _
    rw [take_snocS l k hk] at h1
    rw [List.append_assoc] at h1
    exact h1.symm
  have hl : (l.take k).length = k := by rw [List.length_take]; omega
  rw [e, List.map_append, plc_app_none x _ _ h, List.map_cons, plc, if_pos he.symm, List.length_map, hl]
  simp
set_option maxRecDepth 100000 in
set_option maxHeartbeats 4000000 in
theorem r_place (l : List Sr) (h : List Int) (hh : h.length = 32) (n : Int) (w : World) (v : Value) (hl : SpL w v l) : Calls Try.prog 54 #[v, .agg (irow .u8 h), .int .u32 n] w fun e w' => e = .returned (.int .i64 (plz (plc (h, n) (l.map Sr.lb)))) ∧ Below w.heap.size w w' := by
  have lokk := hl.ok
  have ll := hl.len
  obtain ⟨ao, cap, rfl⟩ := hl.form
  have R00 := hp1_0 w (.cells (irow .u8 h) 40)
  have hw0 : Below w.heap.size w (w.alloc (.cells (irow .u8 h) 40)) := (Below.refl _ _).alloc (Nat.le_refl _) _
  go_enter Try.func54, Try.ntmps54
  go_wp2_with (first | (refine wpList_box rfl 40 _ rfl _ rfl (bKy _) ?_) | fail)
  go_loopw [7] (fun i wr => ∃ k : Nat, k ≤ l.length ∧ i = .int .i64 k ∧ Below w.heap.size w wr ∧ wr.heap[w.heap.size]? = some (.cells (irow .u8 h) 40 (0, 0)) ∧ Hid (plc (h, n) ((l.take k).map Sr.lb) = none)) (fun i _ => l.length - (intOf i).toNat)
  case atStart => exact ⟨0, by omega, rfl, hw0, R00, hide rfl⟩
  case round =>
    clear hw0 R00
    obtain ⟨k, hk, rfl, hw, R0, htk⟩ := hrel
    by_cases hlt : k < l.length
    · have hd : decide ((k : Int) < (l.length : Int)) = true := by simp; omega
      obtain ⟨b1, o1, rfl, hb1, r1⟩ := hl.at hlt
      have ok1 := lokk.at hlt
      have hk1 : 0 ≤ (k : Int) ∧ (k : Int) < (l.length : Int) := by omega
      have hn1 : (gs l k).lb ≠ (h, n) → Hid (plc (h, n) ((l.take (k + 1)).map Sr.lb) = none) := fun e => hide (plc_next hlt htk.out e)
      have hn2 : (gs l k).lb = (h, n) → plz (plc (h, n) (l.map Sr.lb)) = k := fun e => by rw [plc_here hlt htk.out e]; rfl
      replace r1 := rangeAt_keep r1 (hw.block b1 hb1)
      clear hl htk
      go_wp2_with (fail)
      have hbd : Below wr.heap.size wr wr.drew := below_drN (Below.refl _ _) 1
      replace r1 := rangeAt_keep r1 (hbd.block b1 (Nat.lt_of_lt_of_le hb1 hw.size))
      replace R0 := keep hbd R0
      replace hw := Below.after hw hbd
      clear hbd
      by_cases hne : (gs l k).n = n
      · have hdn : decide ((gs l k).n = n) = true := by simpa using hne
        by_cases hhe : (gs l k).h = h
        · have hdh : decide ((gs l k).h = h) = true := by simpa using hhe
          have hf := hn2 (by rw [Sr.lb, hne, hhe])
          clear hn1 hn2 hne hhe
          refine wp_region_noPanic ?_
          refine wp_region_held (S := fun W => W.rangeAt b1 (o1 + k * 65) (srl (gs l k)) ∧ W.heap[w.heap.size]? = some (.cells (irow .u8 h) 40 (0, 0))) (by kernel_rfl) ?_
          change wpAnyH _ _ _ _ _ _ _ _ (World.drew _)
          generalize wr.drew = w1 at *
          refine wpAnyH_take (i := 0) (v := ?v33) rfl (by kernel_rfl) (by kernel_rfl) (by kernel_rfl) (fun _ _ _ h => h) (Or.inl ⟨by rfl, ?y33⟩) ⟨r1, R0⟩ ?r33
          case y33 =>
            intro w_ hS_
            go_simp
            try with_reducible rfl
          simp only [Act.put, List.getElem_toArray, List.getElem_cons_zero, List.setIfInBounds_toArray, List.set_cons_succ, List.set_cons_zero]
          refine wpAnyH_take (i := 1) (v := ?v34) rfl (by kernel_rfl) (by kernel_rfl) (by kernel_rfl) (fun _ _ _ h => h) (Or.inl ⟨by rfl, ?y34⟩) ⟨r1, R0⟩ ?r34
          case y34 =>
            intro w_ hS_
            go_simp
            try with_reducible rfl
          simp only [Act.put, List.getElem_toArray, List.getElem_cons_succ, List.getElem_cons_zero, List.setIfInBounds_toArray, List.set_cons_succ, List.set_cons_zero]
          refine wpAnyH_take (i := 2) (v := ?v35) rfl (by kernel_rfl) (by kernel_rfl) (by kernel_rfl) (fun _ _ _ h => h) (Or.inl ⟨by rfl, ?y35⟩) ⟨r1, R0⟩ ?r35
          case y35 =>
            intro w_ hS_
            go_simp
            try with_reducible rfl
          simp only [Act.put, List.getElem_toArray, List.getElem_cons_succ, List.getElem_cons_zero, List.setIfInBounds_toArray, List.set_cons_succ, List.set_cons_zero]
          refine wpAnyH_take (i := 3) (v := ?v36) rfl (by kernel_rfl) (by kernel_rfl) (by kernel_rfl) (fun _ _ _ h => h) (Or.inl ⟨by rfl, ?y36⟩) ⟨r1, R0⟩ ?r36
          case y36 =>
            intro w_ hS_
            go_simp
            try with_reducible rfl
          simp only [Act.put, List.getElem_toArray, List.getElem_cons_succ, List.getElem_cons_zero, List.setIfInBounds_toArray, List.set_cons_succ, List.set_cons_zero]
          refine wpAnyH_take (i := 4) (v := .int .u32 (gs l k).n) rfl (by kernel_rfl) (by kernel_rfl) (by kernel_rfl) (fun _ _ _ h => h) (Or.inl ⟨by rfl, ?y37⟩) ⟨r1, R0⟩ ?r37
          case y37 =>
            intro w_ hS_
            have c_ := range_n ok1 hS_.1
            go_simp
            try with_reducible rfl
          simp only [Act.put, List.getElem_toArray, List.getElem_cons_succ, List.getElem_cons_zero, List.setIfInBounds_toArray, List.set_cons_succ, List.set_cons_zero]
          refine wpAnyH_take (i := 5) (v := ?v38) rfl (by kernel_rfl) (by kernel_rfl) (by kernel_rfl) (fun _ _ _ h => h) (Or.inl ⟨by rfl, ?y38⟩) ⟨r1, R0⟩ ?r38
          case y38 =>
            intro w_ hS_
            go_simp
            try with_reducible rfl
          simp only [Act.put, List.getElem_toArray, List.getElem_cons_succ, List.getElem_cons_zero, List.setIfInBounds_toArray, List.set_cons_succ, List.set_cons_zero]
          refine wpAnyH_take (i := 6) (v := .bool true) rfl (by kernel_rfl) (by kernel_rfl) (by kernel_rfl) (fun _ _ _ h => h) (Or.inl ⟨by rfl, ?y39⟩) ⟨r1, R0⟩ ?r39
          case y39 =>
            intro w_ hS_
            go_simp
            simpa using hdn
          simp only [Act.put, List.getElem_toArray, List.getElem_cons_succ, List.getElem_cons_zero, List.setIfInBounds_toArray, List.set_cons_succ, List.set_cons_zero]
          refine wpAnyH_take (i := 7) (v := ?v40) rfl (by kernel_rfl) (by kernel_rfl) (by kernel_rfl) (fun _ _ _ h => h) (Or.inl ⟨by rfl, ?y40⟩) ⟨r1, R0⟩ ?r40
          case y40 =>
            intro w_ hS_
            go_simp
            try with_reducible rfl
          simp only [Act.put, List.getElem_toArray, List.getElem_cons_succ, List.getElem_cons_zero, List.setIfInBounds_toArray, List.set_cons_succ, List.set_cons_zero]
          refine wpAnyH_take (i := 8) (v := ?v41) rfl (by kernel_rfl) (by kernel_rfl) (by kernel_rfl) (fun _ _ _ h => h) (Or.inl ⟨by rfl, ?y41⟩) ⟨r1, R0⟩ ?r41
          case y41 =>
            intro w_ hS_
            go_simp
            try with_reducible rfl
          simp only [Act.put, List.getElem_toArray, List.getElem_cons_succ, List.getElem_cons_zero, List.setIfInBounds_toArray, List.set_cons_succ, List.set_cons_zero]
          refine wpAnyH_take (i := 9) (v := ?v42) rfl (by kernel_rfl) (by kernel_rfl) (by kernel_rfl) (fun _ _ _ h => h) (Or.inl ⟨by rfl, ?y42⟩) ⟨r1, R0⟩ ?r42
          case y42 =>
            intro w_ hS_
            go_simp
            try with_reducible rfl
          simp only [Act.put, List.getElem_toArray, List.getElem_cons_succ, List.getElem_cons_zero, List.setIfInBounds_toArray, List.set_cons_succ, List.set_cons_zero]
          refine wpAnyH_take (i := 10) (v := ?v43) rfl (by kernel_rfl) (by kernel_rfl) (by kernel_rfl) (fun _ _ _ h => h) (Or.inl ⟨by rfl, ?y43⟩) ⟨r1, R0⟩ ?r43
          case y43 =>
            intro w_ hS_
            go_simp
            try with_reducible rfl
          simp only [Act.put, List.getElem_toArray, List.getElem_cons_succ, List.getElem_cons_zero, List.setIfInBounds_toArray, List.set_cons_succ, List.set_cons_zero]
          refine wpAnyH_take (i := 11) (v := ?v44) rfl (by kernel_rfl) (by kernel_rfl) (by kernel_rfl) (fun _ _ _ h => h) (Or.inl ⟨by rfl, ?y44⟩) ⟨r1, R0⟩ ?r44
          case y44 =>
            intro w_ hS_
            go_simp
            try with_reducible rfl
          simp only [Act.put, List.getElem_toArray, List.getElem_cons_succ, List.getElem_cons_zero, List.setIfInBounds_toArray, List.set_cons_succ, List.set_cons_zero]
          refine wpAnyH_take (i := 12) (v := .agg (irow .u8 (gs l k).h)) rfl (by kernel_rfl) (by kernel_rfl) (by kernel_rfl) (fun _ _ _ h => h) (Or.inl ⟨by rfl, ?y45⟩) ⟨r1, R0⟩ ?r45
          case y45 =>
            intro w_ hS_
            simp only [List.getElem_toArray, List.getElem_cons_succ, List.getElem_cons_zero]
            exact run_load_range 40 _ (by rfl) b1 (o1 + k * 65) (by rfl) ((gs l k).h.map (Value.int .u8)) _ (range_h hS_.1) Try.underlying40 rfl (infoh _ ok1.1)
          simp only [Act.put, List.getElem_toArray, List.getElem_cons_succ, List.getElem_cons_zero, List.setIfInBounds_toArray, List.set_cons_succ, List.set_cons_zero]
          refine wpAnyH_take (i := 13) (v := .agg (irow .u8 h)) rfl (by kernel_rfl) (by kernel_rfl) (by kernel_rfl) (fun _ _ _ h => h) (Or.inl ⟨by rfl, ?y46⟩) ⟨r1, R0⟩ ?r46
          case y46 =>
            intro w_ hS_
            simp only [List.getElem_toArray, List.getElem_cons_succ, List.getElem_cons_zero]
            exact run_load_part 40 _ (by rfl) (w.heap.size) 0 (by rfl) 40 (irow .u8 h) (0, 0) (irow .u8 h) _ (hS_.2) (all_row _) Try.underlying40 rfl (infok8 _ hh)
          simp only [Act.put, List.getElem_toArray, List.getElem_cons_succ, List.getElem_cons_zero, List.setIfInBounds_toArray, List.set_cons_succ, List.set_cons_zero]
          refine wpAnyH_take (i := 14) (v := .bool true) rfl (by kernel_rfl) (by kernel_rfl) (by kernel_rfl) (fun _ _ _ h => h) (Or.inl ⟨by rfl, ?y47⟩) ⟨r1, R0⟩ ?r47
          case y47 =>
            intro w_ hS_
            simp only [List.getElem_toArray, List.getElem_cons_succ, List.getElem_cons_zero]
            exact run_eql_op 40 40 _ _ (by rfl) (irow .u8 (gs l k).h) (irow .u8 h) (by rfl) (by rfl) egK _ (by have := eq_key 9998 (gs l k).h h ok1.1 hh w_; rwa [hdh] at this)
          simp only [Act.put, List.getElem_toArray, List.getElem_cons_succ, List.getElem_cons_zero, List.setIfInBounds_toArray, List.set_cons_succ, List.set_cons_zero]
          refine wpAnyH_take (i := 15) (v := ?v48) rfl (by kernel_rfl) (by kernel_rfl) (by kernel_rfl) (fun _ _ _ h => h) (Or.inl ⟨by rfl, ?y48⟩) ⟨r1, R0⟩ ?r48
          case y48 =>
            intro w_ hS_
            go_simp
            try with_reducible rfl
          simp only [Act.put, List.getElem_toArray, List.getElem_cons_succ, List.getElem_cons_zero, List.setIfInBounds_toArray, List.set_cons_succ, List.set_cons_zero]
          refine wpAnyH_done (by kernel_rfl) ?_ _
          refine NoPanic.normal ?_
          go_wp2_with (fail)
          go_ret
          exact ⟨by rw [hf]; rfl, hw⟩
        · have hdh : decide ((gs l k).h = h) = false := by simpa using hhe
          have htk := hn1 (fun e => hhe (congrArg Prod.fst e))
          clear hn1 hn2 hne hhe
          refine wp_region_noPanic ?_
          refine wp_region_held (S := fun W => W.rangeAt b1 (o1 + k * 65) (srl (gs l k)) ∧ W.heap[w.heap.size]? = some (.cells (irow .u8 h) 40 (0, 0))) (by kernel_rfl) ?_
          change wpAnyH _ _ _ _ _ _ _ _ (World.drew _)
          generalize wr.drew = w1 at *
          refine wpAnyH_take (i := 0) (v := ?v17) rfl (by kernel_rfl) (by kernel_rfl) (by kernel_rfl) (fun _ _ _ h => h) (Or.inl ⟨by rfl, ?y17⟩) ⟨r1, R0⟩ ?r17
          case y17 =>
            intro w_ hS_
            go_simp
            try with_reducible rfl
          simp only [Act.put, List.getElem_toArray, List.getElem_cons_zero, List.setIfInBounds_toArray, List.set_cons_succ, List.set_cons_zero]
          refine wpAnyH_take (i := 1) (v := ?v18) rfl (by kernel_rfl) (by kernel_rfl) (by kernel_rfl) (fun _ _ _ h => h) (Or.inl ⟨by rfl, ?y18⟩) ⟨r1, R0⟩ ?r18
          case y18 =>
            intro w_ hS_
            go_simp
            try with_reducible rfl
          simp only [Act.put, List.getElem_toArray, List.getElem_cons_succ, List.getElem_cons_zero, List.setIfInBounds_toArray, List.set_cons_succ, List.set_cons_zero]
          refine wpAnyH_take (i := 2) (v := ?v19) rfl (by kernel_rfl) (by kernel_rfl) (by kernel_rfl) (fun _ _ _ h => h) (Or.inl ⟨by rfl, ?y19⟩) ⟨r1, R0⟩ ?r19
          case y19 =>
            intro w_ hS_
            go_simp
            try with_reducible rfl
          simp only [Act.put, List.getElem_toArray, List.getElem_cons_succ, List.getElem_cons_zero, List.setIfInBounds_toArray, List.set_cons_succ, List.set_cons_zero]
          refine wpAnyH_take (i := 3) (v := ?v20) rfl (by kernel_rfl) (by kernel_rfl) (by kernel_rfl) (fun _ _ _ h => h) (Or.inl ⟨by rfl, ?y20⟩) ⟨r1, R0⟩ ?r20
          case y20 =>
            intro w_ hS_
            go_simp
            try with_reducible rfl
          simp only [Act.put, List.getElem_toArray, List.getElem_cons_succ, List.getElem_cons_zero, List.setIfInBounds_toArray, List.set_cons_succ, List.set_cons_zero]
          refine wpAnyH_take (i := 4) (v := .int .u32 (gs l k).n) rfl (by kernel_rfl) (by kernel_rfl) (by kernel_rfl) (fun _ _ _ h => h) (Or.inl ⟨by rfl, ?y21⟩) ⟨r1, R0⟩ ?r21
          case y21 =>
            intro w_ hS_
            have c_ := range_n ok1 hS_.1
            go_simp
            try with_reducible rfl
          simp only [Act.put, List.getElem_toArray, List.getElem_cons_succ, List.getElem_cons_zero, List.setIfInBounds_toArray, List.set_cons_succ, List.set_cons_zero]
          refine wpAnyH_take (i := 5) (v := ?v22) rfl (by kernel_rfl) (by kernel_rfl) (by kernel_rfl) (fun _ _ _ h => h) (Or.inl ⟨by rfl, ?y22⟩) ⟨r1, R0⟩ ?r22
          case y22 =>
            intro w_ hS_
            go_simp
            try with_reducible rfl
          simp only [Act.put, List.getElem_toArray, List.getElem_cons_succ, List.getElem_cons_zero, List.setIfInBounds_toArray, List.set_cons_succ, List.set_cons_zero]
          refine wpAnyH_take (i := 6) (v := .bool true) rfl (by kernel_rfl) (by kernel_rfl) (by kernel_rfl) (fun _ _ _ h => h) (Or.inl ⟨by rfl, ?y23⟩) ⟨r1, R0⟩ ?r23
          case y23 =>
            intro w_ hS_
            go_simp
            simpa using hdn
          simp only [Act.put, List.getElem_toArray, List.getElem_cons_succ, List.getElem_cons_zero, List.setIfInBounds_toArray, List.set_cons_succ, List.set_cons_zero]
          refine wpAnyH_take (i := 7) (v := ?v24) rfl (by kernel_rfl) (by kernel_rfl) (by kernel_rfl) (fun _ _ _ h => h) (Or.inl ⟨by rfl, ?y24⟩) ⟨r1, R0⟩ ?r24
          case y24 =>
            intro w_ hS_
            go_simp
            try with_reducible rfl
          simp only [Act.put, List.getElem_toArray, List.getElem_cons_succ, List.getElem_cons_zero, List.setIfInBounds_toArray, List.set_cons_succ, List.set_cons_zero]
          refine wpAnyH_take (i := 8) (v := ?v25) rfl (by kernel_rfl) (by kernel_rfl) (by kernel_rfl) (fun _ _ _ h => h) (Or.inl ⟨by rfl, ?y25⟩) ⟨r1, R0⟩ ?r25
          case y25 =>
            intro w_ hS_
            go_simp
            try with_reducible rfl
          simp only [Act.put, List.getElem_toArray, List.getElem_cons_succ, List.getElem_cons_zero, List.setIfInBounds_toArray, List.set_cons_succ, List.set_cons_zero]
          refine wpAnyH_take (i := 9) (v := ?v26) rfl (by kernel_rfl) (by kernel_rfl) (by kernel_rfl) (fun _ _ _ h => h) (Or.inl ⟨by rfl, ?y26⟩) ⟨r1, R0⟩ ?r26
          case y26 =>
            intro w_ hS_
            go_simp
            try with_reducible rfl
          simp only [Act.put, List.getElem_toArray, List.getElem_cons_succ, List.getElem_cons_zero, List.setIfInBounds_toArray, List.set_cons_succ, List.set_cons_zero]
          refine wpAnyH_take (i := 10) (v := ?v27) rfl (by kernel_rfl) (by kernel_rfl) (by kernel_rfl) (fun _ _ _ h => h) (Or.inl ⟨by rfl, ?y27⟩) ⟨r1, R0⟩ ?r27
          case y27 =>
            intro w_ hS_
            go_simp
            try with_reducible rfl
          simp only [Act.put, List.getElem_toArray, List.getElem_cons_succ, List.getElem_cons_zero, List.setIfInBounds_toArray, List.set_cons_succ, List.set_cons_zero]
          refine wpAnyH_take (i := 11) (v := ?v28) rfl (by kernel_rfl) (by kernel_rfl) (by kernel_rfl) (fun _ _ _ h => h) (Or.inl ⟨by rfl, ?y28⟩) ⟨r1, R0⟩ ?r28
          case y28 =>
            intro w_ hS_
            go_simp
            try with_reducible rfl
          simp only [Act.put, List.getElem_toArray, List.getElem_cons_succ, List.getElem_cons_zero, List.setIfInBounds_toArray, List.set_cons_succ, List.set_cons_zero]
          refine wpAnyH_take (i := 12) (v := .agg (irow .u8 (gs l k).h)) rfl (by kernel_rfl) (by kernel_rfl) (by kernel_rfl) (fun _ _ _ h => h) (Or.inl ⟨by rfl, ?y29⟩) ⟨r1, R0⟩ ?r29
          case y29 =>
            intro w_ hS_
            simp only [List.getElem_toArray, List.getElem_cons_succ, List.getElem_cons_zero]
            exact run_load_range 40 _ (by rfl) b1 (o1 + k * 65) (by rfl) ((gs l k).h.map (Value.int .u8)) _ (range_h hS_.1) Try.underlying40 rfl (infoh _ ok1.1)
          simp only [Act.put, List.getElem_toArray, List.getElem_cons_succ, List.getElem_cons_zero, List.setIfInBounds_toArray, List.set_cons_succ, List.set_cons_zero]
          refine wpAnyH_take (i := 13) (v := .agg (irow .u8 h)) rfl (by kernel_rfl) (by kernel_rfl) (by kernel_rfl) (fun _ _ _ h => h) (Or.inl ⟨by rfl, ?y30⟩) ⟨r1, R0⟩ ?r30
          case y30 =>
            intro w_ hS_
            simp only [List.getElem_toArray, List.getElem_cons_succ, List.getElem_cons_zero]
            exact run_load_part 40 _ (by rfl) (w.heap.size) 0 (by rfl) 40 (irow .u8 h) (0, 0) (irow .u8 h) _ (hS_.2) (all_row _) Try.underlying40 rfl (infok8 _ hh)
          simp only [Act.put, List.getElem_toArray, List.getElem_cons_succ, List.getElem_cons_zero, List.setIfInBounds_toArray, List.set_cons_succ, List.set_cons_zero]
          refine wpAnyH_take (i := 14) (v := .bool false) rfl (by kernel_rfl) (by kernel_rfl) (by kernel_rfl) (fun _ _ _ h => h) (Or.inl ⟨by rfl, ?y31⟩) ⟨r1, R0⟩ ?r31
          case y31 =>
            intro w_ hS_
            simp only [List.getElem_toArray, List.getElem_cons_succ, List.getElem_cons_zero]
            exact run_eql_op 40 40 _ _ (by rfl) (irow .u8 (gs l k).h) (irow .u8 h) (by rfl) (by rfl) egK _ (by have := eq_key 9998 (gs l k).h h ok1.1 hh w_; rwa [hdh] at this)
          simp only [Act.put, List.getElem_toArray, List.getElem_cons_succ, List.getElem_cons_zero, List.setIfInBounds_toArray, List.set_cons_succ, List.set_cons_zero]
          refine wpAnyH_take (i := 15) (v := ?v32) rfl (by kernel_rfl) (by kernel_rfl) (by kernel_rfl) (fun _ _ _ h => h) (Or.inl ⟨by rfl, ?y32⟩) ⟨r1, R0⟩ ?r32
          case y32 =>
            intro w_ hS_
            go_simp
            try with_reducible rfl
          simp only [Act.put, List.getElem_toArray, List.getElem_cons_succ, List.getElem_cons_zero, List.setIfInBounds_toArray, List.set_cons_succ, List.set_cons_zero]
          refine wpAnyH_done (by kernel_rfl) ?_ _
          refine NoPanic.normal ?_
          go_wp2_with (fail)
          refine ⟨⟨k + 1, by omega, by go_num, hw, R0, htk⟩, ?_⟩
          simp [intOf]; omega
      · have hdn : decide ((gs l k).n = n) = false := by simpa using hne
        have htk := hn1 (fun e => hne (congrArg Prod.snd e))
        clear hn1 hn2 hne
        refine wp_region_noPanic ?_
        refine wp_region_held (S := fun W => W.rangeAt b1 (o1 + k * 65) (srl (gs l k)) ∧ W.heap[w.heap.size]? = some (.cells (irow .u8 h) 40 (0, 0))) (by kernel_rfl) ?_
        change wpAnyH _ _ _ _ _ _ _ _ (World.drew _)
        generalize wr.drew = w1 at *
        refine wpAnyH_take (i := 0) (v := ?v1) rfl (by kernel_rfl) (by kernel_rfl) (by kernel_rfl) (fun _ _ _ h => h) (Or.inl ⟨by rfl, ?y1⟩) ⟨r1, R0⟩ ?r1
        case y1 =>
          intro w_ hS_
          go_simp
          try with_reducible rfl
        simp only [Act.put, List.getElem_toArray, List.getElem_cons_zero, List.setIfInBounds_toArray, List.set_cons_succ, List.set_cons_zero]
        refine wpAnyH_take (i := 1) (v := ?v2) rfl (by kernel_rfl) (by kernel_rfl) (by kernel_rfl) (fun _ _ _ h => h) (Or.inl ⟨by rfl, ?y2⟩) ⟨r1, R0⟩ ?r2
        case y2 =>
          intro w_ hS_
          go_simp
          try with_reducible rfl
        simp only [Act.put, List.getElem_toArray, List.getElem_cons_succ, List.getElem_cons_zero, List.setIfInBounds_toArray, List.set_cons_succ, List.set_cons_zero]
        refine wpAnyH_take (i := 2) (v := ?v3) rfl (by kernel_rfl) (by kernel_rfl) (by kernel_rfl) (fun _ _ _ h => h) (Or.inl ⟨by rfl, ?y3⟩) ⟨r1, R0⟩ ?r3
        case y3 =>
          intro w_ hS_
          go_simp
          try with_reducible rfl
        simp only [Act.put, List.getElem_toArray, List.getElem_cons_succ, List.getElem_cons_zero, List.setIfInBounds_toArray, List.set_cons_succ, List.set_cons_zero]
        refine wpAnyH_take (i := 3) (v := ?v4) rfl (by kernel_rfl) (by kernel_rfl) (by kernel_rfl) (fun _ _ _ h => h) (Or.inl ⟨by rfl, ?y4⟩) ⟨r1, R0⟩ ?r4
        case y4 =>
          intro w_ hS_
          go_simp
          try with_reducible rfl
        simp only [Act.put, List.getElem_toArray, List.getElem_cons_succ, List.getElem_cons_zero, List.setIfInBounds_toArray, List.set_cons_succ, List.set_cons_zero]
        refine wpAnyH_take (i := 4) (v := .int .u32 (gs l k).n) rfl (by kernel_rfl) (by kernel_rfl) (by kernel_rfl) (fun _ _ _ h => h) (Or.inl ⟨by rfl, ?y5⟩) ⟨r1, R0⟩ ?r5
        case y5 =>
          intro w_ hS_
          have c_ := range_n ok1 hS_.1
          go_simp
          try with_reducible rfl
        simp only [Act.put, List.getElem_toArray, List.getElem_cons_succ, List.getElem_cons_zero, List.setIfInBounds_toArray, List.set_cons_succ, List.set_cons_zero]
        refine wpAnyH_take (i := 5) (v := ?v6) rfl (by kernel_rfl) (by kernel_rfl) (by kernel_rfl) (fun _ _ _ h => h) (Or.inl ⟨by rfl, ?y6⟩) ⟨r1, R0⟩ ?r6
        case y6 =>
          intro w_ hS_
          go_simp
          try with_reducible rfl
        simp only [Act.put, List.getElem_toArray, List.getElem_cons_succ, List.getElem_cons_zero, List.setIfInBounds_toArray, List.set_cons_succ, List.set_cons_zero]
        refine wpAnyH_take (i := 6) (v := .bool false) rfl (by kernel_rfl) (by kernel_rfl) (by kernel_rfl) (fun _ _ _ h => h) (Or.inl ⟨by rfl, ?y7⟩) ⟨r1, R0⟩ ?r7
        case y7 =>
          intro w_ hS_
          go_simp
          simpa using hdn
        simp only [Act.put, List.getElem_toArray, List.getElem_cons_succ, List.getElem_cons_zero, List.setIfInBounds_toArray, List.set_cons_succ, List.set_cons_zero]
        refine wpAnyH_take (i := 7) (v := ?v8) rfl (by kernel_rfl) (by kernel_rfl) (by kernel_rfl) (fun _ _ _ h => h) (Or.inl ⟨by rfl, ?y8⟩) ⟨r1, R0⟩ ?r8
        case y8 =>
          intro w_ hS_
          go_simp
          try with_reducible rfl
        simp only [Act.put, List.getElem_toArray, List.getElem_cons_succ, List.getElem_cons_zero, List.setIfInBounds_toArray, List.set_cons_succ, List.set_cons_zero]
        refine wpAnyH_take (i := 8) (v := undef) rfl (by kernel_rfl) (by kernel_rfl) (by kernel_rfl) (fun _ _ _ h => h) (Or.inr ⟨by rfl, rfl⟩) ⟨r1, R0⟩ ?r9
        simp only [Act.put, List.getElem_toArray, List.getElem_cons_succ, List.getElem_cons_zero, List.setIfInBounds_toArray, List.set_cons_succ, List.set_cons_zero]
        refine wpAnyH_take (i := 9) (v := undef) rfl (by kernel_rfl) (by kernel_rfl) (by kernel_rfl) (fun _ _ _ h => h) (Or.inr ⟨by rfl, rfl⟩) ⟨r1, R0⟩ ?r10
        simp only [Act.put, List.getElem_toArray, List.getElem_cons_succ, List.getElem_cons_zero, List.setIfInBounds_toArray, List.set_cons_succ, List.set_cons_zero]
        refine wpAnyH_take (i := 10) (v := undef) rfl (by kernel_rfl) (by kernel_rfl) (by kernel_rfl) (fun _ _ _ h => h) (Or.inr ⟨by rfl, rfl⟩) ⟨r1, R0⟩ ?r11
        simp only [Act.put, List.getElem_toArray, List.getElem_cons_succ, List.getElem_cons_zero, List.setIfInBounds_toArray, List.set_cons_succ, List.set_cons_zero]
        refine wpAnyH_take (i := 11) (v := undef) rfl (by kernel_rfl) (by kernel_rfl) (by kernel_rfl) (fun _ _ _ h => h) (Or.inr ⟨by rfl, rfl⟩) ⟨r1, R0⟩ ?r12
        simp only [Act.put, List.getElem_toArray, List.getElem_cons_succ, List.getElem_cons_zero, List.setIfInBounds_toArray, List.set_cons_succ, List.set_cons_zero]
        refine wpAnyH_take (i := 12) (v := undef) rfl (by kernel_rfl) (by kernel_rfl) (by kernel_rfl) (fun _ _ _ h => h) (Or.inr ⟨by rfl, rfl⟩) ⟨r1, R0⟩ ?r13
        simp only [Act.put, List.getElem_toArray, List.getElem_cons_succ, List.getElem_cons_zero, List.setIfInBounds_toArray, List.set_cons_succ, List.set_cons_zero]
        refine wpAnyH_take (i := 13) (v := undef) rfl (by kernel_rfl) (by kernel_rfl) (by kernel_rfl) (fun _ _ _ h => h) (Or.inr ⟨by rfl, rfl⟩) ⟨r1, R0⟩ ?r14
        simp only [Act.put, List.getElem_toArray, List.getElem_cons_succ, List.getElem_cons_zero, List.setIfInBounds_toArray, List.set_cons_succ, List.set_cons_zero]
        refine wpAnyH_take (i := 14) (v := undef) rfl (by kernel_rfl) (by kernel_rfl) (by kernel_rfl) (fun _ _ _ h => h) (Or.inr ⟨by rfl, rfl⟩) ⟨r1, R0⟩ ?r15
        simp only [Act.put, List.getElem_toArray, List.getElem_cons_succ, List.getElem_cons_zero, List.setIfInBounds_toArray, List.set_cons_succ, List.set_cons_zero]
        refine wpAnyH_take (i := 15) (v := ?v16) rfl (by kernel_rfl) (by kernel_rfl) (by kernel_rfl) (fun _ _ _ h => h) (Or.inl ⟨by rfl, ?y16⟩) ⟨r1, R0⟩ ?r16
        case y16 =>
          intro w_ hS_
          go_simp
          try with_reducible rfl
        simp only [Act.put, List.getElem_toArray, List.getElem_cons_succ, List.getElem_cons_zero, List.setIfInBounds_toArray, List.set_cons_succ, List.set_cons_zero]
        refine wpAnyH_done (by kernel_rfl) ?_ _
        refine NoPanic.normal ?_
        go_wp2_with (fail)
        refine ⟨⟨k + 1, by omega, by go_num, hw, R0, htk⟩, ?_⟩
        simp [intOf]; omega
    · obtain rfl : k = l.length := by omega
      have hd : decide ((l.length : Int) < (l.length : Int)) = false := by simp
      have hf : plc (h, n) (l.map Sr.lb) = none := by have := htk.out; rwa [List.take_length] at this
      go_wp2_with (fail)
      go_ret
      exact ⟨by rw [hf]; rfl, hw⟩

end Go.Proofs.Ytebgdenfaiinmaa
