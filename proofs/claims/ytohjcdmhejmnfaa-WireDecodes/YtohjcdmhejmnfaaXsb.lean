import Derived.Test.YtohjcdmhejmnfaaProg
import Derived.WalkKit
import Derived.WalkSpells
import Derived.WalkLawsBesides
import Derived.Lib.QuietBelow
import Derived.Laws.BitsAllLaws
import Derived.BigQuiet
import Derived.WalkMore
import Derived.Test.YtohjcdmhejmnfaaKit
import Derived.Test.YtohjcdmhejmnfaaXsa
namespace Go.Proofs.Ytohjcdmhejmnfaa
open Go Go.RowKit Go.Sort
attribute [local go_sem] setCell_drewN alloc_drewN

theorem grown_none {a b c : World} {row : Option Nat} (h : a.grownBy b none) (h2 : b.grownBy c row) (hr : ∀ k, row = some k → a.heap.size ≤ k) : a.grownBy c none := by
  refine ⟨h2.os.trans h.os, h2.tape.trans h.tape, h2.output.trans h.output, Nat.le_trans h.size h2.size, fun k hk hn => ?_⟩
  have h3 := h.size
  refine (h2.block k (by omega) (fun e => ?_)).trans (h.block k hk hn)
  have := hr k e.symm
  omega
set_option maxRecDepth 100000 in
set_option maxHeartbeats 2000000 in
theorem full_nil (x : Int) (w : World) : Calls Try.prog 14 #[.slice none 0 0, .int .u8 x] w fun e w' => e = .returned (.tuple #[]) ∧ w.grownBy w' none := by
  obtain ⟨i0, hi, hz0, hz1, hz2⟩ := info8
  go_enter Try.func14, Try.ntmps14
  go_wp2_with (fail)
  refine wp_loop_rounds 1 ?_
  rw [rounds_succ]
  go_wp2_with (fail)
  go_loopw [0, 5] (fun v i wr => ∃ (j : Nat) (ao : Option Addr) (ac : Nat) (xs : List Value), j ≤ 90 ∧ i = .int .i64 j ∧ v = .slice ao j ac ∧ wr.ownsRow w.heap.size 5 1 (.slice ao j ac) j xs ∧ w.grownBy wr none) (fun _ i _ => 90 - (intOf i).toNat)
  case atStart => exact ⟨0, none, 0, [], by omega, rfl, rfl, ⟨rfl, .inl ⟨rfl, rfl⟩⟩, World.grownBy.refl _ _⟩
  case round =>
    obtain ⟨j, ao, ac, xs, hj, rfl, rfl, hown, hw⟩ := hrel
    have hws := hw.size
    by_cases hlt2 : j < 90
    · have hd : decide ((j : Int) < 90) = true := by simp; omega
      have hown_ := hown.alloc (.cells #[.int .u8 x] 5)
      go_wp2_with (at_builtin; suffices h9 : True ∧ _ from h9.2)
      refine ⟨trivial, ?_⟩
      refine wpList_plain rfl fun _ hK => wp_append_where (.tmp 20) (.tmp 22) 24 rfl w.heap.size 5 i0 (.int .u8 0) 1 1 Try.underlying24 hi hz0 hz1 hz2 rfl (by decide) _ j xs rfl hown_ ⟨wr.heap.size, 0, none⟩ 1 1 [.int .u8 x] rfl rfl (by decide) (new_cell wr x) (by simp [Value.oneCell']) (by unfold maxLen; omega) (by omega) (by rw [size_alloc1]; omega) (fun v2 w2 hown2 hgrow _ => hK _ _ ?_)
      have hg2 := grown_none (grown_none hw (World.grownBy_alloc wr (.cells #[.int .u8 x] 5) none) (fun k e => by cases e)) hgrow (fun k e => (own_high_row hown k e).1)
      obtain ⟨ao2, ac2, rfl⟩ := slen_own hown2
      clear hown hown_ hgrow hw
      go_wp2_with (fail)
      refine ⟨⟨j + 1, ao2, ac2, _, by omega, by go_num, rfl, hown2, hg2⟩, ?_⟩
      simp [intOf]; omega
    · obtain rfl : j = 90 := by omega
      have hd : decide ((90 : Int) < 90) = false := by decide
      go_wp2_with (fail)
      go_end0
      exact ⟨rfl, hw⟩
theorem l_fullM (w : World) (b : Nat) (v : Value) (d : List B) (z : B) (hO : Own w b v d) (hl : d.length + 90 ≤ 140737488355328) : Calls Try.prog 14 #[v, .int .u8 (bv z)] w fun e w' => e = .returned (.tuple #[]) ∧ w.grownBy w' v.ownBlock ∧ Own w' b v (List.replicate d.length z) := by
  obtain ⟨h1, ⟨rfl, h0⟩ | ⟨g, cap, cur, rfl, hbg, hg, hn, hm, hs, _⟩⟩ := hO
  · refine (full_nil (bv z) w).mono fun e w' ⟨h1, h2⟩ => ⟨h1, h2, ?_⟩
    rw [h0]
    exact own_none _ _
  · rw [Nat.mul_one] at hs
    refine (full_marks g d.length cap (bv z) cur w hg hs hn hm hl).mono fun e w' ⟨h1, h2, cur', h3, h4, h5⟩ => ⟨h1, h2, ?_⟩
    unfold Own
    rw [List.length_replicate]
    refine ⟨by simp [bl], .inr ⟨g, cap, cur', rfl, hbg, h3, hn, hm, by omega, ?_⟩⟩
    apply List.ext_getElem?
    intro i
    rcases Nat.lt_or_ge i d.length with q | q
    · rw [Nat.mul_one, List.getElem?_take_of_lt q, Array.getElem?_toList, h5 i q]
      simp [bl, q]
    · rw [Nat.mul_one, List.getElem?_eq_none (by rw [List.length_take]; omega), List.getElem?_eq_none (by simp [bl]; exact q)]
/-- A byte of a list of one's own, as it is read and written. -/
theorem Own.setAt {W : World} {b0 : Nat} {v : Value} {d : List B} (h : Own W b0 v d) {j : Nat} (hj : j < d.length) : ∃ b off uc, v = .slice (some ⟨b, off, none⟩) d.length uc ∧ b0 ≤ b ∧ b < W.heap.size ∧ W.cell? ⟨b, off + j, none⟩ = some (.int .u8 (bv (gb d j))) ∧ W.frozen? ⟨b, off + j, none⟩ = false ∧ ∀ z, Own (W.setCell ⟨b, off + j, none⟩ (.int .u8 (bv z))) b0 v (d.set j z) ∧ W.grownBy (W.setCell ⟨b, off + j, none⟩ (.int .u8 (bv z))) v.ownBlock := by
  obtain ⟨h1, ⟨rfl, h0⟩ | ⟨g, cap, cur, rfl, hbg, hg, hn, hm, hs, ht⟩⟩ := h
  · omega
  · refine ⟨g, 0, cap, rfl, hbg, lt_of_row hg, ?_, by rw [Nat.zero_add]; exact row_frozen hg j, fun z => ⟨?_, ?_⟩⟩
    · have this : (cur.toList.take (d.length * 1))[j]? = some (Value.int .u8 (bv (gb d j))) := by
        rw [ht, List.getElem?_map, bl, List.getElem?_map, List.getElem?_eq_getElem hj, gb, List.getD_eq_getElem?_getD, List.getElem?_eq_getElem hj]; rfl
      rw [List.getElem?_take_of_lt (by omega), Array.getElem?_toList] at this
      rw [Nat.zero_add, cell_of_row _ _ _ _ _ _ hg]
      exact this
    · have hq := heap_setCell_same W g j cur _ (.int .u8 (bv z)) hg
      rw [Nat.zero_add]
      unfold Own
      rw [List.length_set]
      refine ⟨by simp [bl], .inr ⟨g, cap, _, rfl, hbg, hq, hn, hm, by rw [Array.size_setIfInBounds]; exact hs, ?_⟩⟩
      rw [Array.toList_setIfInBounds, List.take_set, ht, bl, bl, List.map_set, List.map_set]
    · rw [Nat.zero_add]
      exact grown_setCell (World.grownBy.refl _ _)
theorem gp_set (ps : List (List B)) (i k : Nat) (p : List B) (hi : i < ps.length) : gp (ps.set i p) k = if k = i then p else gp ps k := by
  rw [gp, List.getD_eq_getElem?_getD, List.getElem?_set]
  by_cases e : i = k
  · rw [if_pos e, if_pos hi, if_pos e.symm]; rfl
  · rw [if_neg e, if_neg (fun h => e h.symm), gp, List.getD_eq_getElem?_getD]
theorem ext_gp {a b : List (List B)} (hl : a.length = b.length) (h : ∀ k, k < a.length → gp a k = gp b k) : a = b := by
  apply List.ext_getElem hl
  intro i h1 h2
  have := h i h1
  rwa [gp, gp, List.getD_eq_getElem?_getD, List.getD_eq_getElem?_getD, List.getElem?_eq_getElem h1, List.getElem?_eq_getElem h2] at this
/-- One item has turned. -/
theorem Its.upd {W V : World} {b : Nat} {v : Value} {us : List Value} {ps : List (List B)} {i : Nat} {p : List B} (h : Its W b v us ps) (hi : i < ps.length) (hg : W.grownBy V (gv us i).ownBlock) (hO : Own V b (gv us i) p) : Its V b v us (ps.set i p) := by
  obtain ⟨h1, h2, h3, h4, h5⟩ := h
  refine ⟨?_, by rw [List.length_set]; exact h2, fun k hk => ?_, h4, h5⟩
  · obtain ⟨p1, p2 | ⟨g, cp, cur, p2, pb, pg, p3⟩⟩ := h1
    · exact ⟨p1, .inl p2⟩
    · refine ⟨p1, .inr ⟨g, cp, cur, p2, pb, (hg.block g (lt_of_row pg) (fun e => ?_)).trans pg, p3⟩⟩
      exact h4 i (by omega) g e.symm (by rw [p2]; rfl)
  · rw [gp_set _ _ _ _ hi]
    split
    · rename_i e; subst e; exact hO
    · rename_i e
      obtain ⟨q1, q2 | ⟨g, cap, cur, q2, hb2, hr, q3⟩⟩ := h3 k hk
      · exact ⟨q1, .inl q2⟩
      · refine ⟨q1, .inr ⟨g, cap, cur, q2, hb2, (hg.block g (lt_of_row hr) (fun e2 => ?_)).trans hr, q3⟩⟩
        have hk2 : (gv us k).ownBlock = some g := by rw [q2]; rfl
        rcases Nat.lt_or_ge k i with q | q
        · exact h5 k i q (by omega) g hk2 e2.symm
        · exact h5 i k (by omega) hk g e2.symm hk2
theorem Its.at {W : World} {b : Nat} {v : Value} {us : List Value} {ps : List (List B)} (h : Its W b v us ps) {i : Nat} (hi : i < ps.length) : ∃ gx off xc uo uc, v = .slice (some ⟨gx, off, none⟩) ps.length xc ∧ W.cell? ⟨gx, off + i, none⟩ = some (gv us i) ∧ gv us i = .slice uo (gp ps i).length uc ∧ Own W b (gv us i) (gp ps i) := by
  obtain ⟨h1, h2, h3, _⟩ := h
  obtain ⟨uo, uc, hu⟩ := slen_own (h3 i (by omega))
  rcases h1.2 with ⟨_, h0⟩ | ⟨g, cp, cur, p2, pb, pg, p3⟩
  · omega
  · have := h1.cells (g := g) (by rw [p2]; rfl) i (gv us i) (gvb (by omega))
    rw [addr_add] at this
    exact ⟨g, 0, cp, uo, uc, by rw [p2, h2], this, hu, h3 i (by omega)⟩
/-- The mark of the item i. -/
def mb (i : Nat) : B := BitVec.ofNat 8 (11 * i)
theorem bv_mb (i : Nat) : (11 * (i : Int)) % 256 = bv (mb i) := by
  rw [mb, bv, BitVec.toNat_ofNat]; omega
/-- The items up to i written over. -/
def mk (ps : List (List B)) (i : Nat) : List (List B) := (List.range ps.length).map fun k => if k < i then List.replicate (gp ps k).length (mb k) else gp ps k
theorem mk_len (ps : List (List B)) (i : Nat) : (mk ps i).length = ps.length := by simp [mk]
theorem mk_gp (ps : List (List B)) (i k : Nat) (hk : k < ps.length) : gp (mk ps i) k = if k < i then List.replicate (gp ps k).length (mb k) else gp ps k := by
  rw [gp, mk, List.getD_eq_getElem?_getD, List.getElem?_map, List.getElem?_range hk]; rfl
theorem mk_zero (ps : List (List B)) : mk ps 0 = ps := ext_gp (mk_len _ _) (fun k hk => by rw [mk_len] at hk; rw [mk_gp ps 0 k hk, if_neg (by omega)])
theorem mk_succ (ps : List (List B)) (i : Nat) (hi : i < ps.length) : (mk ps i).set i (List.replicate (gp ps i).length (mb i)) = mk ps (i + 1) := by
  refine ext_gp (by rw [List.length_set, mk_len, mk_len]) (fun k hk => ?_)
  rw [List.length_set, mk_len] at hk
  rw [gp_set _ _ _ _ (by rw [mk_len]; exact hi), mk_gp _ _ _ hk, mk_gp _ _ _ hk]
  by_cases e : k = i
  · subst e; rw [if_pos rfl, if_pos (by omega)]
  · rw [if_neg e]
    by_cases q : k < i
    · rw [if_pos q, if_pos (by omega)]
    · rw [if_neg q, if_neg (by omega)]
theorem mk_len_at (ps : List (List B)) (i k : Nat) (hk : k < ps.length) : (gp (mk ps i) k).length = (gp ps k).length := by
  rw [mk_gp _ _ _ hk]
  split
  · rw [List.length_replicate]
  · rfl
theorem part_set (p : List B) (z : B) (j : Nat) (hj : j < p.length) : (List.replicate j z ++ p.drop j).set j z = List.replicate (j + 1) z ++ p.drop (j + 1) := by
  rw [List.set_append_right _ _ (by simp), List.length_replicate, Nat.sub_self, List.drop_eq_getElem_cons hj, List.set_cons_zero, List.replicate_succ', List.append_assoc]
  rfl
theorem set_set' (ps : List (List B)) (i : Nat) (a b : List B) : (ps.set i a).set i b = ps.set i b := by
  simp
theorem set_self (ps : List (List B)) (i : Nat) (hi : i < ps.length) : ps.set i (gp ps i) = ps := by
  refine ext_gp (by rw [List.length_set]) (fun k hk => ?_)
  rw [gp_set _ _ _ _ hi]
  split
  · rename_i e; rw [e]
  · rfl
theorem sp_bd (d : List B) : (spp (sp d)).length ≤ 4096 ∧ ∀ i, i < (spp (sp d)).length → (gp (spp (sp d)) i).length ≤ d.length := by
  have key : ∀ (f p c : Nat) (l : List B), c ≤ 4096 → ((spp (spl f p c l)).length + c ≤ 4096 ∨ (spp (spl f p c l)).length = 0) ∧ ∀ x ∈ spp (spl f p c l), x.length ≤ l.length := by
    intro f
    induction f with
    | zero => intro p c l hc; exact ⟨.inr rfl, fun x hx => by simp [spl, spp] at hx⟩
    | succ f ih =>
      intro p c l hc
      rw [spl]
      split
      · exact ⟨.inr rfl, fun x hx => by simp [spp] at hx⟩
      · split
        · exact ⟨.inr rfl, fun x hx => by simp [spp] at hx⟩
        · rename_i hne hcc
          cases hr : ri l with
          | er e => exact ⟨.inr rfl, fun x hx => by simp [spp] at hx⟩
          | ok y n =>
            have hro := ri_ok hr
            have hih := ih (p + n) (c + 1) (l.drop n) (by omega)
            simp only
            cases hs : spl f (p + n) (c + 1) (l.drop n) with
            | er e q => exact ⟨.inr rfl, fun x hx => by simp [RS.cons, spp] at hx⟩
            | ok t =>
              rw [hs] at hih
              simp only [spp, RS.cons] at hih ⊢
              refine ⟨.inl ?_, fun x hx => ?_⟩
              · rw [List.length_cons]
                rcases hih.1 with h | h <;> omega
              · rcases List.mem_cons.1 hx with rfl | h
                · exact hro.2.2.2.2
                · have := hih.2 x h
                  rw [List.length_drop] at this
                  omega
  have h2 : (spp (sp d)).length ≤ 4096 ∧ ∀ x ∈ spp (sp d), x.length ≤ d.length := by
    rw [sp]
    split
    · exact ⟨by simp [spp], fun x hx => by simp [spp] at hx⟩
    · have := key d.length 0 0 d (by omega)
      exact ⟨by rcases this.1 with h | h <;> omega, this.2⟩
  refine ⟨h2.1, fun i hi => h2.2 _ ?_⟩
  rw [gp, List.getD_eq_getElem?_getD, List.getElem?_eq_getElem hi]
  exact List.getElem_mem hi
end Go.Proofs.Ytohjcdmhejmnfaa
