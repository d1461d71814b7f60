import Derived.Test.YtlglalhddeldbaaProg
import Derived.WalkKit
import Derived.WalkSpells
import Derived.WalkLawsBesides
import Derived.Lib.QuietBelow
import Derived.Laws.BitsAllLaws
import Derived.BigQuiet
import Derived.WalkMore
import Derived.Test.YtlglalhddeldbaaKit
import Derived.Test.YtlglalhddeldbaaXsa
namespace Go.Proofs.Ytlglalhddeldbaa
open Go Go.RowKit Go.Sort
attribute [local go_sem] setCell_drewN alloc_drewN

theorem grown_none {a b c : World} {row : Option Nat} (h : a.grownBy b none) (h2 : b.grownBy c row) (hr : ∀ k, row = some k → a.heap.size ≤ k) : a.grownBy c none := by
  refine ⟨h2.os.trans h.os, h2.tape.trans h.tape, h2.output.trans h.output, Nat.le_trans h.size h2.size, fun k hk hn => ?_⟩
  have h3 := h.size
  refine (h2.block k (by omega) (fun e => ?_)).trans (h.block k hk hn)
  have := hr k e.symm
  omega
set_option maxRecDepth 100000 in
set_option maxHeartbeats 2000000 in
theorem full_nil (x : Int) (w : World) : Calls Try.prog 16 #[.slice none 0 0, .int .u8 x] w fun e w' => e = .returned (.tuple #[]) ∧ w.grownBy w' none := by
  obtain ⟨i0, hi, hz0, hz1, hz2⟩ := info8
  go_enter Try.func16, Try.ntmps16
  go_wp2_with (fail)
  refine wp_loop_rounds 1 ?_
  rw [rounds_succ]
  go_wp2_with (fail)
  go_loopw [0, 5] (fun v i wr => ∃ (j : Nat) (ao : Option Addr) (ac : Nat) (xs : List Value), j ≤ 90 ∧ i = .int .i64 j ∧ v = .slice ao j ac ∧ wr.ownsRow w.heap.size 5 1 (.slice ao j ac) j xs ∧ w.grownBy wr none) (fun _ i _ => 90 - (intOf i).toNat)
  case atStart => exact ⟨0, none, 0, [], by omega, rfl, rfl, ⟨rfl, .inl ⟨rfl, rfl⟩⟩, World.grownBy.refl _ _⟩
  case round =>
    obtain ⟨j, ao, ac, xs, hj, rfl, rfl, hown, hw⟩ := hrel
    have hws := hw.size
    by_cases hlt2 : j < 90
    · have hd : decide ((j : Int) < 90) = true := by simp; omega
      have hown_ := hown.alloc (.cells #[.int .u8 x] 5)
      go_wp2_with (at_builtin; suffices h9 : True ∧ _ from h9.2)
      refine ⟨trivial, ?_⟩
      refine wpList_plain rfl fun _ hK => wp_append_where (.tmp 20) (.tmp 22) 22 rfl w.heap.size 5 i0 (.int .u8 0) 1 1 Try.underlying22 hi hz0 hz1 hz2 rfl (by decide) _ j xs rfl hown_ ⟨wr.heap.size, 0, none⟩ 1 1 [.int .u8 x] rfl rfl (by decide) (new_cell wr x) (by simp [Value.oneCell']) (by unfold maxLen; omega) (by omega) (by rw [size_alloc1]; omega) (fun v2 w2 hown2 hgrow _ => hK _ _ ?_)
      have hg2 := grown_none (grown_none hw (World.grownBy_alloc wr (.cells #[.int .u8 x] 5) none) (fun k e => by cases e)) hgrow (fun k e => (own_high_row hown k e).1)
      obtain ⟨ao2, ac2, rfl⟩ := slen_own hown2
      clear hown hown_ hgrow hw
      go_wp2_with (fail)
      refine ⟨⟨j + 1, ao2, ac2, _, by omega, by go_num, rfl, hown2, hg2⟩, ?_⟩
      simp [intOf]; omega
    · obtain rfl : j = 90 := by omega
      have hd : decide ((90 : Int) < 90) = false := by decide
      go_wp2_with (fail)
      go_end0
      exact ⟨rfl, hw⟩
theorem l_fullM (w : World) (b : Nat) (v : Value) (d : List B) (z : B) (hO : Own w b v d) (hl : d.length + 90 ≤ 140737488355328) : Calls Try.prog 16 #[v, .int .u8 (bv z)] w fun e w' => e = .returned (.tuple #[]) ∧ w.grownBy w' v.ownBlock ∧ Own w' b v (List.replicate d.length z) := by
  obtain ⟨h1, ⟨rfl, h0⟩ | ⟨g, cap, cur, rfl, hbg, hg, hn, hm, hs, _⟩⟩ := hO
  · refine (full_nil (bv z) w).mono fun e w' ⟨h1, h2⟩ => ⟨h1, h2, ?_⟩
    rw [h0]
    exact own_none _ _
  · rw [Nat.mul_one] at hs
    refine (full_marks g d.length cap (bv z) cur w hg hs hn hm hl).mono fun e w' ⟨h1, h2, cur', h3, h4, h5⟩ => ⟨h1, h2, ?_⟩
    unfold Own
    rw [List.length_replicate]
    refine ⟨by simp [bl], .inr ⟨g, cap, cur', rfl, hbg, h3, hn, hm, by omega, ?_⟩⟩
    apply List.ext_getElem?
    intro i
    rcases Nat.lt_or_ge i d.length with q | q
    · rw [Nat.mul_one, List.getElem?_take_of_lt q, Array.getElem?_toList, h5 i q]
      simp [bl, q]
    · rw [Nat.mul_one, List.getElem?_eq_none (by rw [List.length_take]; omega), List.getElem?_eq_none (by simp [bl]; exact q)]
/-- A byte of a list of one's own, as it is read and written. -/
theorem Own.setAt {W : World} {b0 : Nat} {v : Value} {d : List B} (h : Own W b0 v d) {j : Nat} (hj : j < d.length) : ∃ b off uc, v = .slice (some ⟨b, off, none⟩) d.length uc ∧ b0 ≤ b ∧ b < W.heap.size ∧ W.cell? ⟨b, off + j, none⟩ = some (.int .u8 (bv (gb d j))) ∧ W.frozen? ⟨b, off + j, none⟩ = false ∧ ∀ z, Own (W.setCell ⟨b, off + j, none⟩ (.int .u8 (bv z))) b0 v (d.set j z) ∧ W.grownBy (W.setCell ⟨b, off + j, none⟩ (.int .u8 (bv z))) v.ownBlock := by
  obtain ⟨h1, ⟨rfl, h0⟩ | ⟨g, cap, cur, rfl, hbg, hg, hn, hm, hs, ht⟩⟩ := h
  · omega
  · refine ⟨g, 0, cap, rfl, hbg, lt_of_row hg, ?_, by rw [Nat.zero_add]; exact row_frozen hg j, fun z => ⟨?_, ?_⟩⟩
    · have this : (cur.toList.take (d.length * 1))[j]? = some (Value.int .u8 (bv (gb d j))) := by
        rw [ht, List.getElem?_map, bl, List.getElem?_map, List.getElem?_eq_getElem hj, gb, List.getD_eq_getElem?_getD, List.getElem?_eq_getElem hj]; rfl
      rw [List.getElem?_take_of_lt (by omega), Array.getElem?_toList] at this
      rw [Nat.zero_add, cell_of_row _ _ _ _ _ _ hg]
      exact this
    · have hq := heap_setCell_same W g j cur _ (.int .u8 (bv z)) hg
      rw [Nat.zero_add]
      unfold Own
      rw [List.length_set]
      refine ⟨by simp [bl], .inr ⟨g, cap, _, rfl, hbg, hq, hn, hm, by rw [Array.size_setIfInBounds]; exact hs, ?_⟩⟩
      rw [Array.toList_setIfInBounds, List.take_set, ht, bl, bl, List.map_set, List.map_set]
    · rw [Nat.zero_add]
      exact grown_setCell (World.grownBy.refl _ _)
theorem gp_set (ps : List (List B)) (i k : Nat) (p : List B) (hi : i < ps.length) : gp (ps.set i p) k = if k = i then p else gp ps k := by
  rw [gp, List.getD_eq_getElem?_getD, List.getElem?_set]
  by_cases e : i = k
  · rw [if_pos e, if_pos hi, if_pos e.symm]; rfl
  · rw [if_neg e, if_neg (fun h => e h.symm), gp, List.getD_eq_getElem?_getD]
theorem ext_gp {a b : List (List B)} (hl : a.length = b.length) (h : ∀ k, k < a.length → gp a k = gp b k) : a = b := by
  apply List.ext_getElem hl
  intro i h1 h2
  have := h i h1
  rwa [gp, gp, List.getD_eq_getElem?_getD, List.getD_eq_getElem?_getD, List.getElem?_eq_getElem h1, List.getElem?_eq_getElem h2] at this
/-- One item has turned. -/
theorem Its.upd {W V : World} {b : Nat} {v : Value} {us : List Value} {ps : List (List B)} {i : Nat} {p : List B} (h : Its W b v us ps) (hi : i < ps.length) (hg : W.grownBy V (gv us i).ownBlock) (hO : Own V b (gv us i) p) : Its V b v us (ps.set i p) := by
  obtain ⟨h1, h2, h3, h4, h5⟩ := h
  refine ⟨?_, by rw [List.length_set]; exact h2, fun k hk => ?_, h4, h5⟩
  · obtain ⟨p1, p2 | ⟨g, cp, cur, p2, pb, pg, p3⟩⟩ := h1
    · exact ⟨p1, .inl p2⟩
    · refine ⟨p1, .inr ⟨g, cp, cur, p2, pb, (hg.block g (lt_of_row pg) (fun e => ?_)).trans pg, p3⟩⟩
      exact h4 i (by omega) g e.symm (by rw [p2]; rfl)
  · rw [gp_set _ _ _ _ hi]
    split
    · rename_i e; subst e; exact hO
    · rename_i e
      obtain ⟨q1, q2 | ⟨g, cap, cur, q2, hb2, hr, q3⟩⟩ := h3 k hk
      · exact ⟨q1, .inl q2⟩
      · refine ⟨q1, .inr ⟨g, cap, cur, q2, hb2, (hg.block g (lt_of_row hr) (fun e2 => ?_)).trans hr, q3⟩⟩
        have hk2 : (gv us k).ownBlock = some g := by rw [q2]; rfl
        rcases Nat.lt_or_ge k i with q | q
        · exact h5 k i q (by omega) g hk2 e2.symm
        · exact h5 i k (by omega) hk g e2.symm hk2
theorem Its.at {W : World} {b : Nat} {v : Value} {us : List Value} {ps : List (List B)} (h : Its W b v us ps) {i : Nat} (hi : i < ps.length) : ∃ gx off xc uo uc, v = .slice (some ⟨gx, off, none⟩) ps.length xc ∧ W.cell? ⟨gx, off + i, none⟩ = some (gv us i) ∧ gv us i = .slice uo (gp ps i).length uc ∧ Own W b (gv us i) (gp ps i) := by
  obtain ⟨h1, h2, h3, _⟩ := h
  obtain ⟨uo, uc, hu⟩ := slen_own (h3 i (by omega))
  rcases h1.2 with ⟨_, h0⟩ | ⟨g, cp, cur, p2, pb, pg, p3⟩
  · omega
  · have := h1.cells (g := g) (by rw [p2]; rfl) i (gv us i) (gvb (by omega))
    rw [addr_add] at this
    exact ⟨g, 0, cp, uo, uc, by rw [p2, h2], this, hu, h3 i (by omega)⟩
/-- The mark of the item i. -/
def mb (i : Nat) : B := BitVec.ofNat 8 (11 * i)
theorem bv_mb (i : Nat) : (11 * (i : Int)) % 256 = bv (mb i) := by
  rw [mb, bv, BitVec.toNat_ofNat]; omega
/-- The items up to i written over. -/
def mk (ps : List (List B)) (i : Nat) : List (List B) := (List.range ps.length).map fun k => if k < i then List.replicate (gp ps k).length (mb k) else gp ps k
theorem mk_len (ps : List (List B)) (i : Nat) : (mk ps i).length = ps.length := by simp [mk]
theorem mk_gp (ps : List (List B)) (i k : Nat) (hk : k < ps.length) : gp (mk ps i) k = if k < i then List.replicate (gp ps k).length (mb k) else gp ps k := by
  rw [gp, mk, List.getD_eq_getElem?_getD, List.getElem?_map, List.getElem?_range hk]; rfl
theorem mk_zero (ps : List (List B)) : mk ps 0 = ps := ext_gp (mk_len _ _) (fun k hk => by rw [mk_len] at hk; rw [mk_gp ps 0 k hk, if_neg (by omega)])
theorem mk_succ (ps : List (List B)) (i : Nat) (hi : i < ps.length) : (mk ps i).set i (List.replicate (gp ps i).length (mb i)) = mk ps (i + 1) := by
  refine ext_gp (by rw [List.length_set, mk_len, mk_len]) (fun k hk => ?_)
  rw [List.length_set, mk_len] at hk
  rw [gp_set _ _ _ _ (by rw [mk_len]; exact hi), mk_gp _ _ _ hk, mk_gp _ _ _ hk]
  by_cases e : k = i
  · subst e; rw [if_pos rfl, if_pos (by omega)]
  · rw [if_neg e]
    by_cases q : k < i
    · rw [if_pos q, if_pos (by omega)]
    · rw [if_neg q, if_neg (by omega)]
theorem mk_len_at (ps : List (List B)) (i k : Nat) (hk : k < ps.length) : (gp (mk ps i) k).length = (gp ps k).length := by
  rw [mk_gp _ _ _ hk]
  split
  · rw [List.length_replicate]
  · rfl
theorem part_set (p : List B) (z : B) (j : Nat) (hj : j < p.length) : (List.replicate j z ++ p.drop j).set j z = List.replicate (j + 1) z ++ p.drop (j + 1) := by
  rw [List.set_append_right _ _ (by simp), List.length_replicate, Nat.sub_self, List.drop_eq_getElem_cons hj, List.set_cons_zero, List.replicate_succ', List.append_assoc]
  rfl
theorem set_set' (ps : List (List B)) (i : Nat) (a b : List B) : (ps.set i a).set i b = ps.set i b := by
  simp
theorem set_self (ps : List (List B)) (i : Nat) (hi : i < ps.length) : ps.set i (gp ps i) = ps := by
  refine ext_gp (by rw [List.length_set]) (fun k hk => ?_)
  rw [gp_set _ _ _ _ hi]
  split
  · rename_i e; rw [e]
  · rfl
theorem sp_bd (d : List B) : (spp (sp d)).length ≤ 4096 ∧ ∀ i, i < (spp (sp d)).length → (gp (spp (sp d)) i).length ≤ d.length := by
  have key : ∀ (f p c : Nat) (l : List B), c ≤ 4096 → ((spp (spl f p c l)).length + c ≤ 4096 ∨ (spp (spl f p c l)).length = 0) ∧ ∀ x ∈ spp (spl f p c l), x.length ≤ l.length := by
    intro f
    induction f with
    | zero => intro p c l hc; exact ⟨.inr rfl, fun x hx => by simp [spl, spp] at hx⟩
    | succ f ih =>
      intro p c l hc
      rw [spl]
      split
      · exact ⟨.inr rfl, fun x hx => by simp [spp] at hx⟩
      · split
        · exact ⟨.inr rfl, fun x hx => by simp [spp] at hx⟩
        · rename_i hne hcc
          cases hr : ri l with
          | er e => exact ⟨.inr rfl, fun x hx => by simp [spp] at hx⟩
          | ok y n =>
            have hro := ri_ok hr
            have hih := ih (p + n) (c + 1) (l.drop n) (by omega)
            simp only
            cases hs : spl f (p + n) (c + 1) (l.drop n) with
            | er e q => exact ⟨.inr rfl, fun x hx => by simp [RS.cons, spp] at hx⟩
            | ok t =>
              rw [hs] at hih
              simp only [spp, RS.cons] at hih ⊢
              refine ⟨.inl ?_, fun x hx => ?_⟩
              · rw [List.length_cons]
                rcases hih.1 with h | h <;> omega
              · rcases List.mem_cons.1 hx with rfl | h
                · exact hro.2.2.2.2
                · have := hih.2 x h
                  rw [List.length_drop] at this
                  omega
  have h2 : (spp (sp d)).length ≤ 4096 ∧ ∀ x ∈ spp (sp d), x.length ≤ d.length := by
    rw [sp]
    split
    · exact ⟨by simp [spp], fun x hx => by simp [spp] at hx⟩
    · have := key d.length 0 0 d (by omega)
      exact ⟨by rcases this.1 with h | h <;> omega, this.2⟩
  refine ⟨h2.1, fun i hi => h2.2 _ ?_⟩
  rw [gp, List.getD_eq_getElem?_getD, List.getElem?_eq_getElem hi]
  exact List.getElem_mem hi
set_option maxRecDepth 100000 in
set_option maxHeartbeats 8000000 in
theorem splits_any (d : List B) (W : World) (v : Value) (hB : BysB W v d) (hcap : ∀ a l c, v = .slice a l c → l ≤ c) (hdl : d.length ≤ 140737488351232) : Calls Try.prog 7 #[v] W fun e w' => e = .returned (.bool true) ∧ Below W.heap.size W w' := by
  have hl := hB.2.1
  obtain ⟨hpl, hpi⟩ := sp_bd d
  replace hpi := hide hpi
  have cL := l_lent d W v hB
  go_enter Try.func7, Try.ntmps7
  go_wp2_with (fail)
  refine cL.mono ?_
  rintro e_ w1 ⟨_, rfl, g, rfl, hgW, rg, hw⟩
  clear cL
  have hC := bysB_row rg (by omega) (d.length + 80)
  have lg := lt_of_row rg
  have cS := a_split d w1 _ hC (fun a l c e => by cases e; omega)
  generalize hps : spp (sp d) = ps at *
  generalize hpa : spa (sp d) = pa at *
  generalize hpe : spe (sp d) = pe at *
  go_wp2_with (fail)
  refine cS.mono ?_
  rintro e_ w2 ⟨x, us, rfl, hI, hb⟩
  replace hw := Below.after hw hb
  have hbl := hb
  replace rg := keep hb rg
  clear hb cS hC
  have cR := r_split d w2 v (hB.keep hw) hcap
  rw [hps, hpa, hpe] at cR
  clear hpa hpe
  go_wp2_with (fail)
  refine cR.mono ?_
  rintro e_ w3 ⟨y, vs, rfl, hJ, hb⟩
  replace hw := Below.after hw hb
  replace hbl := hbl.trans (hb.mono hbl.size)
  replace rg := keep hb rg
  replace hI := hI.keep hb
  clear hb cR
  have hbnd : ∀ i, i < ps.length → (gp ps i).length ≤ 140737488351232 := fun i hi => by have := hpi.out i hi; omega
  replace hbnd := hide hbnd
  have cI := l_items ps w3 x y (hI.pcb (by omega) hbnd.out) (hJ.pcb (by omega) hbnd.out)
  clear hJ
  go_wp2_with (fail)
  refine cI.mono ?_
  rintro e_ w4 ⟨rfl, hb⟩
  replace hw := Below.after hw hb
  replace hbl := hbl.trans (hb.mono hbl.size)
  replace rg := keep hb rg
  replace hI := hI.keep hb
  clear hb cI
  have cK := l_kept d g w4 v (hB.keep hw) rg
  go_wp2_with (fail)
  refine cK.mono ?_
  rintro e_ w5 ⟨rfl, hb⟩
  replace hw := Below.after hw hb
  replace hbl := hbl.trans (hb.mono hbl.size)
  replace rg := keep hb rg
  replace hI := hI.keep hb
  clear hb cK
  obtain ⟨xo, xc, hxe⟩ := slen_own hI.1
  rw [hI.2.1] at hxe
  subst hxe
  have hWg : W.heap.size ≤ w1.heap.size := by omega
  go_wp2_with (fail)
  go_loopw [11] (fun i wr => ∃ k : Nat, k ≤ ps.length ∧ i = .int .i64 k ∧ Its wr w1.heap.size (.slice xo ps.length xc) us (mk ps k) ∧ Below w1.heap.size w5 wr) (fun i _ => ps.length - (intOf i).toNat)
  case atStart => exact ⟨0, by omega, rfl, by rw [mk_zero]; exact hI, Below.refl _ _⟩
  case round =>
    clear hI
    obtain ⟨k, hk, rfl, hI, hw6⟩ := hrel
    by_cases hlt : k < ps.length
    · have hd : decide ((k : Int) < (ps.length : Int)) = true := by simp; omega
      have hbk := hbnd.out k hlt
      go_wp2_with (fail)
      go_loopw [12] (fun i wr => ∃ j : Nat, j ≤ (gp ps k).length ∧ i = .int .i64 j ∧ Its wr w1.heap.size (.slice xo ps.length xc) us ((mk ps k).set k (List.replicate j (mb k) ++ (gp ps k).drop j)) ∧ Below w1.heap.size w5 wr) (fun i _ => (gp ps k).length - (intOf i).toNat)
      case atStart =>
        refine ⟨0, by omega, rfl, ?_, hw6⟩
        have e := set_self (mk ps k) k (by rw [mk_len]; exact hlt)
        rw [mk_gp _ _ _ hlt, if_neg (by omega)] at e
        simp only [List.replicate_zero, List.nil_append, List.drop_zero]
        rw [e]
        exact hI
      case round =>
        clear hI hw6
        obtain ⟨j, hj, rfl, hI, hw6⟩ := hrel
        have hll : ((mk ps k).set k (List.replicate j (mb k) ++ (gp ps k).drop j)).length = ps.length := by rw [List.length_set, mk_len]
        have hgk : gp ((mk ps k).set k (List.replicate j (mb k) ++ (gp ps k).drop j)) k = List.replicate j (mb k) ++ (gp ps k).drop j := by rw [gp_set _ _ _ _ (by rw [mk_len]; exact hlt), if_pos rfl]
        obtain ⟨gx, off, xc2, uo, uc, hxe, hcx, hue, hOk⟩ := hI.at (i := k) (by omega)
        rw [hgk] at hue hOk
        have hlk : (List.replicate j (mb k) ++ (gp ps k).drop j).length = (gp ps k).length := by rw [List.length_append, List.length_replicate, List.length_drop]; omega
        rw [hll] at hxe
        cases hxe
        have hk1 : 0 ≤ (k : Int) ∧ (k : Int) < (ps.length : Int) := by omega
        by_cases hltj : j < (gp ps k).length
        · have hdj : decide ((j : Int) < ((gp ps k).length : Int)) = true := by simp; omega
          obtain ⟨b, of2, uc2, hve, hb0, hbs, hcell, hfz, hset⟩ := hOk.setAt (j := j) (by omega)
          obtain ⟨hO2, hgr⟩ := hset (mb k)
          have hI2 := hI.upd (i := k) (by rw [hll]; exact hlt) hgr hO2
          rw [set_set', part_set _ _ _ hltj] at hI2
          have hw7 := hw6.setCell (p := ⟨b, of2 + j, none⟩) hb0 (.int .u8 (bv (mb k)))
          rw [hlk] at hve
          rw [hve] at hcx
          have hj1 : 0 ≤ (j : Int) ∧ (j : Int) < ((gp ps k).length : Int) := by omega
          have hmb := bv_mb k
          clear hI hOk hO2 hgr hset hgk hw6 hlk hll hve hue
          generalize gb (List.replicate j (mb k) ++ (gp ps k).drop j) j = z at *
          generalize hZ : bv (mb k) = Z at *
          go_wp2_with (fail)
          refine ⟨⟨j + 1, by omega, by go_num, hI2, hw7⟩, ?_⟩
          simp [intOf]; omega
        · obtain rfl : j = (gp ps k).length := by omega
          have hdj : decide (((gp ps k).length : Int) < ((gp ps k).length : Int)) = false := by simp
          rw [List.drop_length, List.append_nil, mk_succ ps k hlt] at hI
          rw [hlk] at hue
          rw [hue] at hcx
          clear hOk hgk hll hlk hue
          go_wp2_with (fail)
          refine ⟨⟨k + 1, by omega, by go_num, hI, hw6⟩, ?_⟩
          simp [intOf]; omega
    · obtain rfl : k = ps.length := by omega
      have hd : decide ((ps.length : Int) < (ps.length : Int)) = false := by simp
      generalize hqs : mk ps ps.length = qs at *
      have hql : qs.length = ps.length := by rw [← hqs, mk_len]
      have hqg : ∀ i, i < ps.length → gp qs i = List.replicate (gp ps i).length (mb i) := fun i hi => by rw [← hqs, mk_gp _ _ _ hi, if_pos hi]
      replace hqg := hide hqg
      replace hqs := hide hqs
      replace hql := hide hql
      go_wp2_with (fail)
      go_loopw [13] (fun i wr => ∃ k : Nat, k ≤ ps.length ∧ i = .int .i64 k ∧ Its wr w1.heap.size (.slice xo ps.length xc) us qs ∧ Below w1.heap.size w5 wr) (fun i _ => ps.length - (intOf i).toNat)
      case atStart => exact ⟨0, by omega, rfl, hI, hw6⟩
      case round =>
        clear hI hw6
        obtain ⟨k, hk, rfl, hI, hw6⟩ := hrel
        have hs6 := hw6.size
        by_cases hlt : k < ps.length
        · have hd2 : decide ((k : Int) < (ps.length : Int)) = true := by simp; omega
          obtain ⟨gx, off, xc2, uo, uc, hxe, hcx, hue, hOk⟩ := hI.at (i := k) (by rw [hql.out]; exact hlt)
          rw [hql.out] at hxe
          cases hxe
          have hk1 : 0 ≤ (k : Int) ∧ (k : Int) < (ps.length : Int) := by omega
          have hmb := bv_mb k
          have hbk := hbnd.out k hlt
          have cF := l_fullM wr w1.heap.size (gv us k) (gp qs k) (mb k) hOk (by rw [hqg.out k hlt, List.length_replicate]; omega)
          rw [hqg.out k hlt, List.length_replicate, ← hqg.out k hlt] at cF
          have hlo := own_low hOk
          clear hOk
          generalize hU : gv us k = U at *
          generalize hZ : bv (mb k) = Z at *
          replace hue := hide hue
          go_wp2_with (fail)
          refine cF.mono ?_
          rintro e_ w7 ⟨rfl, hgr, hO7⟩
          have hI7 := hI.upd (i := k) (by rw [hql.out]; exact hlt) (by rw [hU]; exact hgr) (by rw [hU]; exact hO7)
          rw [set_self qs k (by rw [hql.out]; exact hlt)] at hI7
          have hw7 := hw6.grown hgr (by have := hbl.size; omega) (fun k' e => hlo k' e)
          clear cF hI hw6 hgr hO7
          go_wp2_with (fail)
          refine ⟨⟨k + 1, by omega, by go_num, hI7, hw7⟩, ?_⟩
          simp [intOf]; omega
        · obtain rfl : k = ps.length := by omega
          have hd2 : decide ((ps.length : Int) < (ps.length : Int)) = false := by simp
          go_wp2_with (fail)
          go_loopw [14] (fun i wr2 => ∃ k : Nat, k ≤ ps.length ∧ i = .int .i64 k ∧ wr2 = wr) (fun i _ => ps.length - (intOf i).toNat)
          case atStart => exact ⟨0, by omega, rfl, rfl⟩
          case round =>
            obtain ⟨k, hk, rfl, rfl⟩ := hrel
            by_cases hlt : k < ps.length
            · have hd3 : decide ((k : Int) < (ps.length : Int)) = true := by simp; omega
              obtain ⟨gx, off, xc2, uo, uc, hxe, hcx, hue, hOk⟩ := hI.at (i := k) (by rw [hql.out]; exact hlt)
              rw [hql.out] at hxe
              cases hxe
              have hqk := hqg.out k hlt
              have hbk := hbnd.out k hlt
              rw [hqk, List.length_replicate] at hue
              rw [hue] at hcx
              have hk1 : 0 ≤ (k : Int) ∧ (k : Int) < (ps.length : Int) := by omega
              have hmb := bv_mb k
              replace hue := hide hue
              replace hqk := hide hqk
              go_wp2_with (fail)
              go_loopw [15] (fun i wr2 => ∃ j : Nat, j ≤ (gp ps k).length ∧ i = .int .i64 j ∧ wr2 = wr) (fun i _ => (gp ps k).length - (intOf i).toNat)
              case atStart => exact ⟨0, by omega, rfl, rfl⟩
              case round =>
                obtain ⟨j, hj, rfl, rfl⟩ := hrel
                by_cases hltj : j < (gp ps k).length
                · have hdj : decide ((j : Int) < ((gp ps k).length : Int)) = true := by simp; omega
                  obtain ⟨b, of2, uc2, hve, hb0, hbs, hcell, hfz, _⟩ := hOk.setAt (j := j) (by rw [hqk.out, List.length_replicate]; exact hltj)
                  have hzz : gb (gp qs k) j = mb k := by rw [hqk.out, gb, List.getD_eq_getElem?_getD, List.getElem?_replicate, if_pos hltj]; rfl
                  rw [hzz] at hcell
                  rw [hqk.out, List.length_replicate, hue.out] at hve
                  cases hve
                  have hj1 : 0 ≤ (j : Int) ∧ (j : Int) < ((gp ps k).length : Int) := by omega
                  clear hzz hfz
                  generalize hZ : bv (mb k) = Z at *
                  go_wp2_with (fail)
                  refine ⟨⟨j + 1, by omega, by go_num, trivial⟩, ?_⟩
                  simp [intOf]; omega
                · obtain rfl : j = (gp ps k).length := by omega
                  have hdj : decide (((gp ps k).length : Int) < ((gp ps k).length : Int)) = false := by simp
                  go_wp2_with (fail)
                  refine ⟨⟨k + 1, by omega, by go_num, trivial⟩, ?_⟩
                  simp [intOf]; omega
            · obtain rfl : k = ps.length := by omega
              have hd3 : decide ((ps.length : Int) < (ps.length : Int)) = false := by simp
              have rg2 : wr.heap[g]? = _ := (hw6.block g lg).trans rg
              have hww : Below W.heap.size W wr := hw.trans (hw6.mono hWg)
              have cK := l_kept d g wr v (hB.keep hww) rg2
              go_wp2_with (fail)
              refine cK.mono ?_
              rintro e_ w9 ⟨rfl, hb⟩
              have hw9 := Below.after hww hb
              clear cK hb
              go_wp2_with (fail)
              go_ret
              exact ⟨rfl, hw9⟩
end Go.Proofs.Ytlglalhddeldbaa
