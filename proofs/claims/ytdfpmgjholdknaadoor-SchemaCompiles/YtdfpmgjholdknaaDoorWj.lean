import Derived.Test.YtdfpmgjholdknaaDoorProg
import Derived.WalkKit
import Derived.WalkSpells
import Derived.WalkLawsBesides
import Derived.Lib.QuietBelow
import Derived.Laws.BitsAllLaws
import Derived.BigQuiet
import Derived.WalkMore
import Derived.Test.YtdfpmgjholdknaaDoorKa
import Derived.Test.YtdfpmgjholdknaaDoorWg
namespace Go.Proofs.YtdfpmgjholdknaaDoor
set_option maxRecDepth 100000
open Go Go.RowKit Go.Sort
attribute [local go_sem] setCell_drewN alloc_drewN

/-- A call that answers v in every world that keeps what was in w. -/
def GivesB (w : World) (f : FuncId) (args : Array Value) (v : Value) : Prop := ∀ W, Below w.heap.size w W → Calls Tryd.prog f args W fun e w' => e = .returned v ∧ Below W.heap.size W w'
theorem GivesB.keep {w W : World} {f : FuncId} {args : Array Value} {v : Value} (h : GivesB w f args v) (hb : Below w.heap.size w W) : GivesB W f args v := fun V hV => h V (Below.after hb hV)
theorem GivesB.re {w : World} {f : FuncId} {args : Array Value} {v : Value} (h : GivesB w f args v) {d : Nat} {os : Array Obj} : Calls Tryd.prog f args (grow (redrawn w d) os) fun e w'' => e = .returned v ∧ ∃ p : Regrown, w'' = grow (redrawn w p.d) p.os := Calls.regrown_of (h _ (below_regrown w d os))
theorem GivesB.at {w : World} {f : FuncId} {args : Array Value} {v : Value} (h : GivesB w f args v) : Calls Tryd.prog f args w fun e w' => e = .returned v ∧ Below w.heap.size w w' := h w (Below.refl _ _)

/-- An item: its length, and it. -/
def itm (p : List B) : List B := en p.length ++ p
/-- A list's bytes. -/
def jn : List (List B) → List B
  | [] => []
  | p :: l => itm p ++ jn l
theorem jn_app (a b : List (List B)) : jn (a ++ b) = jn a ++ jn b := by
  induction a with
  | nil => rfl
  | cons p l ih => rw [List.cons_append, jn, jn, ih, List.append_assoc]
theorem jn_one (p : List B) : jn [p] = itm p := by rw [jn, jn, List.append_nil]
theorem itm_len (p : List B) : (itm p).length = (en p.length).length + p.length := by rw [itm, List.length_append]
/-- An item of a list. -/
def gp (ps : List (List B)) (i : Nat) : List B := ps.getD i []
theorem take_snoc (ps : List (List B)) (k : Nat) (h : k < ps.length) : ps.take (k + 1) = ps.take k ++ [gp ps k] := by
  rw [List.take_succ_eq_append_getElem h, gp, List.getD_eq_getElem?_getD, List.getElem?_eq_getElem h]; rfl
theorem jn_snoc (ps : List (List B)) (k : Nat) (h : k < ps.length) : jn (ps.take (k + 1)) = jn (ps.take k) ++ itm (gp ps k) := by
  rw [take_snoc ps k h, jn_app, jn_one]
theorem jn_mono (ps : List (List B)) (k : Nat) : (jn (ps.take k)).length ≤ (jn ps).length := by
  conv => rhs; rw [← List.take_append_drop k ps, jn_app, List.length_append]
  omega
/-- Items handed in. -/
def PcB (W : World) (v : Value) (ps : List (List B)) : Prop := ∃ ao cap, v = .slice ao ps.length cap ∧ ps.length ≤ 5864062014634 ∧ (ao = none → cap = 0) ∧ ∀ i, i < ps.length → ∃ b off u, ao = some ⟨b, off, none⟩ ∧ b < W.heap.size ∧ W.cell? ⟨b, off + i, none⟩ = some u ∧ BysB W u (gp ps i) ∧ (gp ps i).length ≤ 140737488351232
theorem PcB.keep {W V : World} {v : Value} {ps : List (List B)} (h : PcB W v ps) (hb : Below W.heap.size W V) : PcB V v ps := by
  obtain ⟨ao, cap, e, hl, hn, hc⟩ := h
  refine ⟨ao, cap, e, hl, hn, fun i hi => ?_⟩
  obtain ⟨b, off, u, e1, h1, h2, h3, h4⟩ := hc i hi
  exact ⟨b, off, u, e1, Nat.lt_of_lt_of_le h1 hb.size, (hb.cell h1).trans h2, h3.keep hb, h4⟩
theorem PcB.form {W : World} {v : Value} {ps : List (List B)} (h : PcB W v ps) : ∃ ao cap, v = .slice ao ps.length cap := by
  obtain ⟨ao, cap, e, _⟩ := h
  exact ⟨ao, cap, e⟩
theorem PcB.at {W : World} {ao : Option Addr} {l cap : Nat} {ps : List (List B)} (h : PcB W (.slice ao l cap) ps) {i : Nat} (hi : i < ps.length) : ∃ b off u uc, ao = some ⟨b, off, none⟩ ∧ b < W.heap.size ∧ W.cell? ⟨b, off + i, none⟩ = some (.slice u (gp ps i).length uc) ∧ BysB W (.slice u (gp ps i).length uc) (gp ps i) ∧ (gp ps i).length ≤ 140737488351232 := by
  obtain ⟨ao', cap', e, _, _, hc⟩ := h
  cases e
  obtain ⟨b, off, u, e1, h1, h2, h3, h4⟩ := hc i hi
  obtain ⟨uo, uc, rfl⟩ := h3.form
  exact ⟨b, off, uo, uc, e1, h1, h2, h3, h4⟩
theorem PcB.len {W : World} {v : Value} {ps : List (List B)} (h : PcB W v ps) : ps.length ≤ 5864062014634 := by
  obtain ⟨_, _, _, hl, _⟩ := h
  exact hl
set_option maxHeartbeats 1000000 in
theorem a_sizeOfItem (p : List B) (ao : Option Addr) (cap : Nat) (hl : p.length ≤ 140737488351232) : Gives 80 #[.slice ao p.length cap] (.int .i64 ((itm p).length : Int)) := by
  intro w
  have hten := en_ten (n := p.length) (by omega)
  have hS := a_size p.length (by omega) w
  have hlen := itm_len p
  generalize (itm p).length = L at *
  generalize (en p.length).length = N at *
  go_enter Tryd.func80, Tryd.ntmps80
  go_wp2_with (fail)
  refine hS.mono ?_
  rintro e_ w1 ⟨rfl, hb⟩
  go_wp2
  go_ret
  exact ⟨by rw [hlen, Int.natCast_add]; rfl, hb⟩
set_option maxHeartbeats 1000000 in
theorem a_addItem (d p : List B) (base : Nat) (w : World) (v u : Value) (hO : Own w base v d) (hu : BysB w u p) (hbl : ∀ V, Below base w V → BysB V u p) (hb : base ≤ w.heap.size) (hl : d.length + (itm p).length ≤ 140737488355000) : Calls Tryd.prog 81 #[v, u] w fun e w' => ∃ x, e = .returned x ∧ Own w' base x (d ++ itm p) ∧ Below base w w' := by
  have hpl := hu.2.1
  have hlen := itm_len p
  obtain ⟨uo, uc, rfl⟩ := hu.form
  have cN := a_addNumber d p.length (by omega) base w v hO hb (by have := en_pos p.length; have := en_ten (n := p.length) (by omega); omega)
  go_enter Tryd.func81, Tryd.ntmps81
  go_wp2_with (fail)
  refine cN.mono ?_
  rintro e_ w1 ⟨x, rfl, hx, hb1⟩
  clear cN
  have hE := hbl w1 hb1
  have hs1 := hb1.size
  have hx2 : (d ++ en p.length).length + p.length ≤ 140737488355328 := by rw [List.length_append]; omega
  have hfin : (d ++ en p.length) ++ p = d ++ itm p := by rw [itm, List.append_assoc]
  generalize hD : d ++ en p.length = D at *
  go_wp2_with (at_builtin; refine wpList_append_B rfl _ _ rfl base _ D rfl hx _ p rfl hE hx2 (by omega) ?_)
  intro v2 w2 hO2 hgr
  have hw2 : Below base w w2 := hb1.grown hgr (by omega) (own_low hx)
  clear hgr hx hb1
  go_wp2
  go_ret
  exact ⟨v2, rfl, hO2, hw2⟩
theorem jn_bd (ps : List (List B)) (h : ∀ i, i < ps.length → (gp ps i).length ≤ 140737488351232) : ∀ k, k ≤ ps.length → (jn (ps.take k)).length ≤ k * 140737488351250
  | 0, _ => by simp [jn]
  | k + 1, hk => by
    have h1 := jn_bd ps h k (by omega)
    have h2 := h k (by omega)
    have h3 := en_ten (n := (gp ps k).length) (by omega)
    rw [jn_snoc ps k (by omega), List.length_append, itm_len]
    omega
/-- What Join answers. -/
def jbad (ps : List (List B)) : Prop := 4096 < ps.length ∨ 4194304 < (jn ps).length
instance (ps : List (List B)) : Decidable (jbad ps) := by unfold jbad; exact inferInstance
def jout (ps : List (List B)) : List B := if jbad ps then [] else jn ps
def jer (ps : List (List B)) : Int := if jbad ps then 2 else 0
theorem own_none (W : World) (b : Nat) : Own W b (.slice none 0 0) [] := ⟨rfl, .inl ⟨rfl, rfl⟩⟩
set_option maxRecDepth 100000 in
set_option maxHeartbeats 4000000 in
theorem a_join (ps : List (List B)) (w : World) (v : Value) (hB : PcB w v ps) : Calls Tryd.prog 74 #[v] w fun e w' => ∃ u, e = .returned (.tuple #[u, .int .i64 (jer ps)]) ∧ Own w' w.heap.size u (jout ps) ∧ Below w.heap.size w w' := by
  have hlen := hB.len
  have hbd := jn_bd ps (fun i hi => by obtain ⟨_, _, _, _, _, hc⟩ := id hB; obtain ⟨_, _, _, _, _, _, _, h⟩ := hc i hi; exact h)
  obtain ⟨ao, cap, rfl⟩ := hB.form
  obtain ⟨i0, hi, hz0, hz1, hz2⟩ := info8
  by_cases h1 : 4096 < ps.length
  · have d1 : decide ((ps.length : Int) > 4096) = true := by simp; omega
    have e1 : jer ps = 2 := if_pos (.inl h1)
    have e2 : jout ps = [] := if_pos (.inl h1)
    rw [e1, e2]
    clear hbd e1 e2
    go_enter Tryd.func74, Tryd.ntmps74
    go_wp2_with (fail)
    go_ret2
    exact ⟨_, rfl, own_none _ _, Below.refl _ _⟩
  · have d1 : decide ((ps.length : Int) > 4096) = false := by simp; omega
    go_enter Tryd.func74, Tryd.ntmps74
    go_wp2_with (fail)
    go_loopw [4, 15] (fun s i wr => ∃ k : Nat, k ≤ ps.length ∧ i = .int .i64 k ∧ s = .int .i64 ((jn (ps.take k)).length : Int) ∧ Below w.heap.size w wr) (fun _ i _ => ps.length - (intOf i).toNat)
    case atStart => exact ⟨0, by omega, rfl, rfl, Below.refl _ _⟩
    case round =>
      obtain ⟨k, hk, rfl, rfl, hw⟩ := hrel
      by_cases hlt : k < ps.length
      · have hd : decide ((k : Int) < (ps.length : Int)) = true := by simp; omega
        obtain ⟨b, off, uo, uc, e, hb1, hb2, hb3, hb4⟩ := hB.at hlt
        subst e
        replace hb2 := (hw.cell (p := ⟨b, off + k, none⟩) hb1).trans hb2
        have hbk := hbd (k + 1) (by omega)
        rw [jn_snoc ps k hlt, List.length_append] at hbk
        have hsn : Hid ((jn (ps.take (k + 1))).length = (jn (ps.take k)).length + (itm (gp ps k)).length) := hide (by rw [jn_snoc ps k hlt, List.length_append])
        have cS := a_sizeOfItem (gp ps k) uo uc hb4 wr
        have hk1 : 0 ≤ (k : Int) ∧ (k : Int) < (ps.length : Int) := by omega
        clear hB hbd hb3
        generalize (jn (ps.take k)).length = S at *
        generalize (itm (gp ps k)).length = I at *
        generalize (gp ps k).length = P at *
        go_wp2_with (fail)
        refine cS.mono ?_
        rintro e_ w1 ⟨rfl, hb⟩
        replace hw := Below.after hw hb
        clear cS hb
        have hsum : (S : Int) + (I : Int) ≤ 9223372036854775807 := by omega
        go_wp2_with (fail)
        refine ⟨⟨k + 1, by omega, by go_num, by rw [hsn.out, Int.natCast_add], hw⟩, ?_⟩
        simp [intOf]; omega
      · obtain rfl : k = ps.length := by omega
        have hd : decide ((ps.length : Int) < (ps.length : Int)) = false := by simp
        rw [List.take_length]
        clear hbd
        by_cases h2 : 4194304 < (jn ps).length
        · have e1 : jer ps = 2 := if_pos (.inr h2)
          have e2 : jout ps = [] := if_pos (.inr h2)
          have hfin : Hid (jer ps = 2 ∧ jout ps = []) := hide ⟨e1, e2⟩
          clear e1 e2
          generalize (jn ps).length = S at *
          have d2 : decide ((S : Int) > 4194304) = true := by simp; omega
          go_wp2_with (fail)
          go_ret2
          rw [hfin.out.1, hfin.out.2]
          exact ⟨_, rfl, own_none _ _, hw⟩
        · have hnb : ¬ jbad ps := by unfold jbad; omega
          have e1 : jer ps = 0 := if_neg hnb
          have e2 : jout ps = jn ps := if_neg hnb
          have hfin : Hid (jer ps = 0 ∧ jout ps = jn ps) := hide ⟨e1, e2⟩
          clear e1 e2
          have hmono := jn_mono ps
          have hmk := make_lc 0 (jn ps).length (by omega) (by omega) wr
          rw [show ((0 : Nat) : Int) = 0 from rfl] at hmk
          have r0 := hp1_0 wr (.cells (irow .u8 (zr (jn ps).length)) 5)
          have hw0 := hw.alloc hw.size (.cells (irow .u8 (zr (jn ps).length)) 5)
          have hO0 : Own (wr.alloc (.cells (irow .u8 (zr (jn ps).length)) 5)) w.heap.size (.slice (some ⟨wr.heap.size, 0, none⟩) 0 (jn ps).length) [] := by
            have := own_of_row (d := []) (T := zr (jn ps).length) (b := w.heap.size) r0 hw.size (by rw [zr_len]; unfold maxLen; simp; omega)
            rw [zr_len] at this
            simpa using this
          clear r0 hnb
          generalize hS : (jn ps).length = S at *
          have d2 : decide ((S : Int) > 4194304) = false := by simp; omega
          go_wp2_with (fail)
          generalize wr.alloc (.cells (irow .u8 (zr S)) 5) = w2 at *
          clear hmk
          go_loopw [7, 30] (fun s i wr => ∃ (k : Nat) (so : Option Addr) (sc : Nat), k ≤ ps.length ∧ i = .int .i64 k ∧ s = .slice so (jn (ps.take k)).length sc ∧ Own wr w.heap.size (.slice so (jn (ps.take k)).length sc) (jn (ps.take k)) ∧ Below w.heap.size w wr) (fun _ i _ => ps.length - (intOf i).toNat)
          case atStart => exact ⟨0, _, _, by omega, rfl, rfl, hO0, hw0⟩
          case round =>
            clear hO0 hw0 hw
            obtain ⟨k, so, sc, hk, rfl, rfl, hO, hw⟩ := hrel
            by_cases hlt : k < ps.length
            · have hd2 : decide ((k : Int) < (ps.length : Int)) = true := by simp; omega
              obtain ⟨b, off, uo, uc, e, hb1, hb2, hb3, hb4⟩ := hB.at hlt
              subst e
              replace hb2 := (hw.cell (p := ⟨b, off + k, none⟩) hb1).trans hb2
              have hsn : Hid (jn (ps.take (k + 1)) = jn (ps.take k) ++ itm (gp ps k)) := hide (jn_snoc ps k hlt)
              have hmk := hmono (k + 1)
              rw [hsn.out, List.length_append] at hmk
              have cA := a_addItem (jn (ps.take k)) (gp ps k) w.heap.size wr _ _ hO (hb3.keep hw) (fun V hV => hb3.keep (hw.trans hV)) hw.size (by omega)
              have hk1 : 0 ≤ (k : Int) ∧ (k : Int) < (ps.length : Int) := by omega
              clear hb3 hO hmk
              generalize jn (ps.take k) = J at *
              generalize itm (gp ps k) = I at *
              generalize (gp ps k).length = P at *
              go_wp2_with (fail)
              refine cA.mono ?_
              rintro e_ w3 ⟨x, rfl, hx, hb⟩
              replace hw := hw.trans hb
              obtain ⟨xo, xc, rfl⟩ := slen_own hx
              clear cA hb
              go_wp2_with (fail)
              refine ⟨⟨k + 1, xo, xc, by omega, by go_num, by rw [hsn.out, List.length_append], by rw [hsn.out]; exact hx, hw⟩, ?_⟩
              simp [intOf]; omega
            · obtain rfl : k = ps.length := by omega
              have hd2 : decide ((ps.length : Int) < (ps.length : Int)) = false := by simp
              rw [List.take_length] at hO
              rw [List.take_length]
              generalize hJ : jn ps = J at *
              go_wp2_with (fail)
              go_ret2
              rw [hfin.out.1, hfin.out.2]
              exact ⟨_, rfl, hO, hw⟩
theorem Gives.toB {f : FuncId} {args : Array Value} {v : Value} (h : Gives f args v) (w : World) : GivesB w f args v := fun W _ => h W
end Go.Proofs.YtdfpmgjholdknaaDoor
