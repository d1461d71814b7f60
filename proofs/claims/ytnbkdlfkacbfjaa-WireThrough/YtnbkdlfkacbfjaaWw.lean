import Derived.Test.YtnbkdlfkacbfjaaProg
import Derived.WalkKit
import Derived.WalkSpells
import Derived.WalkLawsBesides
import Derived.Lib.QuietBelow
import Derived.Laws.BitsAllLaws
import Derived.BigQuiet
import Derived.WalkMore
import Derived.Test.YtnbkdlfkacbfjaaKit
import Derived.Test.YtnbkdlfkacbfjaaWt
namespace Go.Proofs.Ytnbkdlfkacbfjaa
open Go Go.RowKit Go.Sort
attribute [local go_sem] setCell_drewN alloc_drewN

set_option maxRecDepth 100000 in
theorem info48 : ∃ i, Try.prog.info? 35 = some i ∧ i.zero = some (.agg #[.int .i64 0, .int .i64 0, .int .u64 0, .slice none 0 0]) ∧ i.size = 4 ∧ i.bytes = 48 := ⟨_, rfl, rfl, rfl, rfl⟩
/-- The cells of fields. -/
def frs : List Fd → List Value → List Value
  | f :: fs, u :: us => frow f u ++ frs fs us
  | _, _ => []
theorem frs_len : ∀ (fs : List Fd) (us : List Value), us.length = fs.length → (frs fs us).length = fs.length * 4
  | [], _, _ => by simp [frs]
  | f :: fs, [], h => by simp at h
  | f :: fs, u :: us, h => by
    rw [frs, List.length_append, frs_len fs us (by simpa using h), List.length_cons]
    show 4 + _ = _
    omega
theorem frs_snoc : ∀ (fs : List Fd) (us : List Value) (f : Fd) (u : Value), us.length = fs.length → frs (fs ++ [f]) (us ++ [u]) = frs fs us ++ frow f u
  | [], [], f, u, _ => by simp [frs]
  | [], _ :: _, _, _, h => by simp at h
  | _ :: _, [], _, _, h => by simp at h
  | g :: fs, v :: us, f, u, h => by
    rw [List.cons_append, List.cons_append, frs, frs, frs_snoc fs us f u (by simpa using h), List.append_assoc]
theorem frs_at : ∀ (fs : List Fd) (us : List Value) (i j : Nat), us.length = fs.length → i < fs.length → j < 4 → (frs fs us)[i * 4 + j]? = (frow (gf fs i) (gv us i))[j]?
  | [], _, i, _, _, h, _ => by simp at h
  | f :: fs, [], _, _, h, _, _ => by simp at h
  | f :: fs, u :: us, 0, j, h, _, hj => by
    rw [frs, Nat.zero_mul, Nat.zero_add, List.getElem?_append_left (by show j < 4; exact hj)]
    rfl
  | f :: fs, u :: us, i + 1, j, h, hi, hj => by
    rw [frs, List.getElem?_append_right (by show 4 ≤ _; omega)]
    have : (i + 1) * 4 + j - (frow f u).length = i * 4 + j := by show _ - 4 = _; omega
    rw [this, frs_at fs us i j (by simpa using h) (by simpa using hi) hj]
    rfl
/-- Fields handed out: a list of one's own, the data each of its own. -/
def Fts (W : World) (base : Nat) (v : Value) (us : List Value) (fs : List Fd) : Prop :=
  W.ownsRow base 35 4 v fs.length (frs fs us) ∧ us.length = fs.length ∧ (∀ i, i < us.length → Own W base (gv us i) (gf fs i).dat) ∧
  (∀ i, i < us.length → ∀ k, (gv us i).ownBlock = some k → v.ownBlock ≠ some k) ∧ (∀ i j, i < j → j < us.length → ∀ k, (gv us i).ownBlock = some k → (gv us j).ownBlock ≠ some k)
theorem Fts.keep {W V : World} {b : Nat} {v : Value} {us : List Value} {fs : List Fd} (h : Fts W b v us fs) (hb : Below W.heap.size W V) : Fts V b v us fs :=
  ⟨own_keep_row h.1 hb, h.2.1, fun i hi => (h.2.2.1 i hi).keep hb, h.2.2.2⟩
theorem fts_nil (W : World) (b : Nat) : Fts W b (.slice none 0 0) [] [] := ⟨⟨rfl, .inl ⟨rfl, rfl⟩⟩, rfl, fun i hi => by simp at hi, fun i hi => by simp at hi, fun i j _ hj => by simp at hj⟩
theorem fts_empty (W : World) : Fts (W.alloc (.cells #[] 35)) W.heap.size (.slice (some ⟨W.heap.size, 0, none⟩) 0 0) [] [] :=
  ⟨⟨rfl, .inr ⟨W.heap.size, 0, #[], rfl, Nat.le_refl _, hp1_0 _ _, Nat.le_refl _, by decide, rfl, rfl⟩⟩, rfl, fun i hi => by simp at hi, fun i hi => by simp at hi, fun i j _ hj => by simp at hj⟩
theorem gf_app_lo {fs : List Fd} {f : Fd} {i : Nat} (h : i < fs.length) : gf (fs ++ [f]) i = gf fs i := by
  rw [gf, gf, List.getD_eq_getElem?_getD, List.getElem?_append_left h, ← List.getD_eq_getElem?_getD]
theorem gf_app_hi {fs : List Fd} {f : Fd} : gf (fs ++ [f]) fs.length = f := by
  rw [gf, List.getD_eq_getElem?_getD, List.getElem?_append_right (Nat.le_refl _), Nat.sub_self]; rfl
theorem Fts.high {W : World} {b : Nat} {v : Value} {us : List Value} {fs : List Fd} (h : Fts W b v us fs) : (∀ k, v.ownBlock = some k → k < W.heap.size) ∧ ∀ i, i < us.length → ∀ k, (gv us i).ownBlock = some k → k < W.heap.size :=
  ⟨fun k e => (own_high_row h.1 k e).2, fun i hi k e => own_high (h.2.2.1 i hi) k e⟩
theorem Fts.snoc {W W' : World} {b L : Nat} {v v' : Value} {us : List Value} {fs : List Fd} {u : Value} {f : Fd} (h : Fts W b v us fs) (hL : ∀ k, v.ownBlock = some k → k < L) (hLi : ∀ i, i < us.length → ∀ k, (gv us i).ownBlock = some k → k < L) (hbL : b ≤ L)
    (hu : Own W L u f.dat) (ho : W'.ownsRow b 35 4 v' (fs.length + 1) (frs fs us ++ frow f u)) (hg : W.grownBy W' v.ownBlock) (hk : Nx W v v') : Fts W' b v' (us ++ [u]) (fs ++ [f]) := by
  obtain ⟨h1, h2, h3, h4, h5⟩ := h
  have hu2 : Own W' L u f.dat := hu.grown2 hg hL
  have hlu : ∀ k, u.ownBlock = some k → L ≤ k ∧ k < W.heap.size := fun k e => ⟨own_low hu k e, own_high hu k e⟩
  refine ⟨by rw [List.length_append, List.length_singleton, frs_snoc fs us f u h2]; exact ho, by rw [List.length_append, List.length_append, h2]; rfl, fun i hi => ?_, fun i hi k e => ?_, fun i j hij hj k e => ?_⟩
  · rw [List.length_append, List.length_singleton] at hi
    rcases Nat.lt_or_ge i us.length with q | q
    · rw [gv_app_lo q, gf_app_lo (by omega)]
      have ho3 := h3 i q
      obtain ⟨q1, q2 | ⟨g, cap, cur, q2, hb2, hr, q3⟩⟩ := ho3
      · exact ⟨q1, .inl q2⟩
      · refine ⟨q1, .inr ⟨g, cap, cur, q2, hb2, (hg.block g (lt_of_row hr) (fun e => ?_)).trans hr, q3⟩⟩
        exact h4 i q g (by rw [q2]; rfl) e.symm
    · obtain rfl : i = us.length := by omega
      rw [gv_app_hi, h2, gf_app_hi]
      obtain ⟨q1, q2 | ⟨g, cap, cur, q2, hb2, hr⟩⟩ := hu2
      · exact ⟨q1, .inl q2⟩
      · exact ⟨q1, .inr ⟨g, cap, cur, q2, by omega, hr⟩⟩
  · rw [List.length_append, List.length_singleton] at hi
    intro e2
    rcases hk with hk1 | ⟨k', hk1, hk2⟩
    · rw [hk1] at e2
      rcases Nat.lt_or_ge i us.length with q | q
      · rw [gv_app_lo q] at e
        exact h4 i q k e e2
      · obtain rfl : i = us.length := by omega
        rw [gv_app_hi] at e
        have := hL k e2
        have := (hlu k e).1
        omega
    · rw [hk1] at e2
      cases e2
      rcases Nat.lt_or_ge i us.length with q | q
      · rw [gv_app_lo q] at e
        have := own_high (h3 i q) _ e
        omega
      · obtain rfl : i = us.length := by omega
        rw [gv_app_hi] at e
        have := (hlu _ e).2
        omega
  · rw [List.length_append, List.length_singleton] at hj
    rcases Nat.lt_or_ge j us.length with q | q
    · rw [gv_app_lo (by omega)] at e
      rw [gv_app_lo q]
      exact h5 i j hij q k e
    · obtain rfl : j = us.length := by omega
      rw [gv_app_lo hij] at e
      rw [gv_app_hi]
      intro e2
      have := hLi i hij k e
      have := (hlu k e2).1
      omega
theorem Fts.fds {W : World} {b : Nat} {v : Value} {us : List Value} {fs : List Fd} (h : Fts W b v us fs) (hl : fs.length ≤ 2932031007317) (hp : ∀ i, i < fs.length → Fok (gf fs i)) : Fds W v fs := by
  obtain ⟨h1, h2, h3, _⟩ := h
  have h1' := h1
  obtain ⟨_, ⟨rfl, h0⟩ | ⟨g, cap, cur, rfl, hb, hg, hn, hm, hs, ht⟩⟩ := h1'
  · refine ⟨none, 0, by rw [h0], hl, by omega, fun _ => rfl, fun i hi => ?_⟩
    omega
  · refine ⟨some ⟨g, 0, none⟩, cap, rfl, hl, hn, (fun e => by cases e), fun i hi => ⟨g, 0, gv us i, rfl, lt_of_row hg, fun j x hx => ?_, (h3 i (by omega)).bysB (by have := (hp i hi).2.1; omega), hp i hi⟩⟩
    have hj : j < 4 := by have := (List.getElem?_eq_some_iff.1 hx).1; exact this
    have := h1.cells (g := g) rfl (i * 4 + j) x (by rw [frs_at fs us i j h2 hi hj]; exact hx)
    rw [addr_add, ← Nat.add_assoc] at this
    exact this
theorem new_cells4 (wr : World) (cs : Array Value) (t : TypeId) : ∀ j x, cs.toList[j]? = some x → (wr.alloc (.cells cs t)).cell? ((⟨wr.heap.size, 0, none⟩ : Addr).add j) = some x := by
  intro j x hx
  rw [addr_add, cell_of_row _ _ _ _ _ _ (hp1_0 wr (.cells cs t)), Nat.zero_add]
  simpa using hx
/-- A field laid behind a list of one's own. -/
theorem wpList_append_F {w : World} {ops : Array Oper} {rest : List Oper} {o : Oper} {a : Act} {Q : Exit → Act → World → Prop} (hgd : o.guard = none) (s x : Operand)
    (ho : o.op = .call { callee := .builtin .append, args := #[s, x], argTypes := #[25, 25] })
    (base : Nat) (v : Value) (us : List Value) (fs : List Fd) (hs : a.eval s = v) (L : Nat) (hI : Fts w base v us fs) (hL : ∀ k, v.ownBlock = some k → k < L) (hLi : ∀ i, i < us.length → ∀ k, (gv us i).ownBlock = some k → k < L) (hbL : base ≤ L)
    (u : Value) (f : Fd) (hu : Own w L u f.dat) (g : Nat) (hx : a.eval x = .slice (some ⟨g, 0, none⟩) 1 1) (hnews : ∀ j x, (frow f u)[j]? = some x → w.cell? ((⟨g, 0, none⟩ : Addr).add j) = some x)
    (hlen : fs.length < 2932031007317) (hbase : base ≤ w.heap.size)
    (h : ∀ v' w', Fts w' base v' (us ++ [u]) (fs ++ [f]) → w.grownBy w' v.ownBlock → Nx w v v' → wpList Try.prog ops Q rest (a.put o.dst v') w') : wpList Try.prog ops Q (o :: rest) a w := by
  obtain ⟨i0, hi, hz0, hz1, hz2⟩ := info48
  refine wpList_plain hgd fun _ hK => wp_append_nx s x 25 ho base 35 i0 (.agg #[.int .i64 0, .int .i64 0, .int .u64 0, .slice none 0 0]) 4 48 Try.underlying25 hi hz0 hz1 hz2 rfl (by decide) v fs.length (frs fs us) hs hI.1 ⟨g, 0, none⟩ 1 1 (frow f u) hx rfl hnews (fun x hx => ?_) (by unfold maxLen; omega) (by omega) hbase (fun v' w' h1 h2 h3 => hK _ _ (h v' w' (hI.snoc hL hLi hbL hu h1 h2 h3) h2 h3))
  obtain ⟨ao, cap, rfl⟩ := slen_own hu
  simp [frow] at hx
  rcases hx with rfl | rfl | rfl | rfl <;> rfl
set_option maxRecDepth 100000 in
set_option maxHeartbeats 4000000 in
theorem l_alike (fs : List Fd) (w : World) (u v : Value) (hu : Fds w u fs) (hv : Fds w v fs) : Calls Try.prog 7 #[u, v] w fun e w' => e = .returned (.bool true) ∧ Below w.heap.size w w' := by
  obtain ⟨ao, cap, rfl⟩ := hu.form
  obtain ⟨bo, bcap, rfl⟩ := hv.form
  have hlen := hu.len
  go_enter Try.func7, Try.ntmps7
  go_wp2_with (fail)
  go_loopw [5] (fun i wr => ∃ k : Nat, k ≤ fs.length ∧ i = .int .i64 k ∧ Below w.heap.size w wr) (fun i _ => fs.length - (intOf i).toNat)
  case atStart => exact ⟨0, by omega, rfl, Below.refl _ _⟩
  case round =>
    obtain ⟨k, hk, rfl, hw⟩ := hrel
    by_cases hlt : k < fs.length
    · have hd : decide ((k : Int) < (fs.length : Int)) = true := by simp; omega
      obtain ⟨b, off, uo, uc, e, hb1, hb2, hb3, _⟩ := hu.at hlt
      obtain ⟨b', off', vo, vc, e', hb1', hb2', hb3', _⟩ := hv.at hlt
      subst e
      subst e'
      replace hb2 := range_keep2 (w := w) hb2 hw hb1
      replace hb2' := range_keep2 (w := w) hb2' hw hb1'
      have cS : GivesB wr 13 #[.slice uo (gf fs k).dat.length uc, .slice vo (gf fs k).dat.length vc] (.bool true) := fun V hV => same_any (bl (gf fs k).dat) V _ _ (hb3.1.keep (Below.after hw hV)) (hb3'.1.keep (Below.after hw hV))
      have hk1 : 0 ≤ (k : Int) ∧ (k : Int) < (fs.length : Int) := by omega
      generalize gf fs k = f at *
      generalize f.dat.length = P at *
      have ha0 := hb2 0 _ rfl
      have ha1 := hb2 1 _ rfl
      have ha2 := hb2 2 _ rfl
      have ha3 := hb2 3 _ rfl
      have hb0' := hb2' 0 _ rfl
      have hb1_ := hb2' 1 _ rfl
      have hb2_ := hb2' 2 _ rfl
      have hb3_ := hb2' 3 _ rfl
      clear hu hv hb3 hb3' hb2 hb2'
      have ka0 : ∀ p : Regrown, (grow (redrawn wr p.d) p.os).cell? ⟨b, off + k * 4, none⟩ = some (.int .i64 f.no) := fun p => cell_regrown ha0 p.d p.os
      have ka1 : ∀ p : Regrown, (grow (redrawn wr p.d) p.os).cell? ⟨b, off + k * 4 + 1, none⟩ = some (.int .i64 f.ty) := fun p => cell_regrown (ha1) p.d p.os
      have ka2 : ∀ p : Regrown, (grow (redrawn wr p.d) p.os).cell? ⟨b, off + k * 4 + 2, none⟩ = some (.int .u64 (f.num : Int)) := fun p => cell_regrown (ha2) p.d p.os
      have ka3 : ∀ p : Regrown, (grow (redrawn wr p.d) p.os).cell? ⟨b, off + k * 4 + 3, none⟩ = some (.slice uo P uc) := fun p => cell_regrown (ha3) p.d p.os
      have kb0 : ∀ p : Regrown, (grow (redrawn wr p.d) p.os).cell? ⟨b', off' + k * 4, none⟩ = some (.int .i64 f.no) := fun p => cell_regrown hb0' p.d p.os
      have kb1 : ∀ p : Regrown, (grow (redrawn wr p.d) p.os).cell? ⟨b', off' + k * 4 + 1, none⟩ = some (.int .i64 f.ty) := fun p => cell_regrown hb1_ p.d p.os
      have kb2 : ∀ p : Regrown, (grow (redrawn wr p.d) p.os).cell? ⟨b', off' + k * 4 + 2, none⟩ = some (.int .u64 (f.num : Int)) := fun p => cell_regrown hb2_ p.d p.os
      have kb3 : ∀ p : Regrown, (grow (redrawn wr p.d) p.os).cell? ⟨b', off' + k * 4 + 3, none⟩ = some (.slice vo P vc) := fun p => cell_regrown hb3_ p.d p.os
      go_wp2_with (fail)
      refine wp_region_quiet_below (by kernel_rfl) (by kernel_rfl) ?_
      go_big_quiet_step (fail)
      go_big_quiet_step (fail)
      go_big_quiet_step (fail)
      go_big_quiet_step (fail)
      go_big_quiet_step (fail)
      go_big_quiet_step (fail)
      go_big_quiet_step (fail)
      go_big_quiet_step (fail)
      go_big_quiet_step (fail)
      go_big_quiet_step (fail)
      go_big_quiet_step (fail)
      go_big_quiet_step (fail)
      go_big_quiet_step (fail)
      go_big_quiet_step (fail)
      go_big_quiet_step (fail)
      go_big_quiet_step (fail)
      go_big_quiet_step (fail)
      go_big_quiet_step (fail)
      go_big_quiet_step (fail)
      go_big_quiet_step (fail)
      go_big_quiet_step (fail)
      go_big_quiet_step (fail)
      go_big_quiet_step (fail)
      go_big_quiet_step (fail)
      go_big_quiet_step (fail)
      go_big_quiet_step (fail)
      go_big_quiet_step (fail)
      go_big_quiet_step (fail)
      go_big_quiet_step (fail)
      go_big_quiet_step (fail)
      go_big_quiet_step (fail)
      go_big_quiet_step (fail)
      go_big_quiet_step (fail)
      go_big_quiet_step (fail)
      go_big_quiet_step (fail)
      go_big_quiet_step (fail)
      go_big_quiet_step (fail)
      go_big_quiet_step (fail)
      go_big_quiet_step (fail)
      go_big_quiet_step (fail)
      go_big_quiet_step (fail)
      go_big_quiet_step (fail)
      go_big_quiet_step (fail)
      go_big_quiet_step (fail)
      go_big_quiet_step (fail)
      go_big_quiet_step (fail)
      go_big_quiet_step (fail)
      go_big_quiet_step (fail)
      go_big_quiet_step (exact cS.re)
      go_big_quiet_step (fail)
      go_big_quiet_step (fail)
      refine wpQuiet_nil ?_
      rintro _ ⟨p, rfl⟩
      have hb := below_regrown wr p.d p.os
      generalize grow (redrawn wr p.d) p.os = w1 at *
      clear ka0 ka1 ka2 ka3 kb0 kb1 kb2 kb3 cS
      replace hw := Below.after hw hb
      clear hb
      go_wp2_with (fail)
      refine ⟨⟨k + 1, by omega, by go_num, hw⟩, ?_⟩
      simp [intOf]; omega
    · obtain rfl : k = fs.length := by omega
      have hd : decide ((fs.length : Int) < (fs.length : Int)) = false := by simp
      go_wp2_with (fail)
      go_ret
      exact ⟨rfl, hw⟩
end Go.Proofs.Ytnbkdlfkacbfjaa
