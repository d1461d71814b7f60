import Derived.Test.YtnbkdlfkacbfjaaProg
import Derived.WalkKit
import Derived.WalkSpells
import Derived.WalkLawsBesides
import Derived.Lib.QuietBelow
import Derived.Laws.BitsAllLaws
import Derived.BigQuiet
import Derived.WalkMore
import Derived.Test.YtnbkdlfkacbfjaaKit
import Derived.Maps.AppendAt
import Derived.RangeFuncBox
import Derived.Test.YtnbkdlfkacbfjaaXdb
namespace Go.Proofs.Ytnbkdlfkacbfjaa
open Go Go.RowKit Go.Sort
attribute [local go_sem] setCell_drewN alloc_drewN
open Go.Shelf
attribute [local go_sem] Oper.semAt_some
/-- A range over a method of a receiver, no round of which leaves. -/
theorem wp_range_bound {P : Program} {g : Operand} {ps : Array Tmp} {assign body : Code} {Q : Exit → Act → World → Prop} {a : Act} {w : World} {gf : Nat} {r : Value} (hg : a.eval g = .func (.func gf) #[r] #[]) (eg : ∀ args w, (callFunc gf args).run P w = .ok (.enter gf args) w)
    (h : ∀ (fn : FuncId) (rec : LoopState → Option Code → Loop), rec = (fun st pe => { state := st, pending := pe, fn, tmps := a.tmps, params := ps, assign, body, defers := w.heap.size }) →
      Calls P gf #[r, .func (.yield (w.heap.size + 1)) #[] #[]] ((w.alloc (.deferred (some []))).alloc (.loop (rec .ready none))) fun e w' => (∃ v, e = .returned v) ∧ w'.heap[w.heap.size + 1]? = some (.loop (rec .ready none)) ∧ Q .normal { a with defers := { target := .collected w.heap.size, args := #[] } :: a.defers } (w'.putObj (w.heap.size + 1) (.loop (rec .exhausted none)))) :
    (Code.rangeFunc g ps assign body).wp P Q a w := by
  refine (wpIn_wide (n := 4)).1 (wpIn_rangeFunc (F := Fence.wide) ?_)
  intro fn hfn
  obtain ⟨W1, hW1⟩ : ∃ W1, (w.alloc (.deferred (some []))).alloc (.loop { state := .ready, pending := none, fn, tmps := a.tmps, params := ps, assign, body, defers := w.heap.size }) = W1 := ⟨_, rfl⟩
  refine ⟨w.heap.size + 1, [{ target := .collected w.heap.size, args := #[] }], W1, { target := .fn (.func gf) #[], args := #[r, .func (.yield (w.heap.size + 1)) #[] #[]] }, W1, gf, #[r, .func (.yield (w.heap.size + 1)) #[] #[]], W1, ?_, ?_, ?_, ?_, ?_, ?_⟩
  · rw [← hW1]; exact run_enterLoop_outer _ _ _ _ _
  · simp only [resolve, hg]
    simp [go_sem]
  · exact fun _ _ => trivial
  · simp [invoke, go_sem, eg]
  · exact fun _ => by decide
  · rw [← hW1]
    refine callsIn_wide.2 ((h fn _ rfl).mono ?_)
    rintro e w3 ⟨⟨v, rfl⟩, hl, hq⟩
    exact ⟨none, _, run_endLoop hl (by simp), hq⟩
theorem wpIn_of_value {F : Fence} {n : Nat} {P : Program} {o : Oper} {a : Act} {w : World} {K : Act → World → Prop} {Q : Exit → Act → World → Prop} {v : Value} {w' : World} (h : o.wp P a w K Q) (hab : o.about P w a.eval = none) (hpl : ∀ c, o.op ≠ .defer c) (hr : (execOp a.eval o).run P w = .ok (.value v) w') : o.wpIn F n P a w K Q := by
  refine ⟨fun f hf => (by rw [hab] at hf; cases hf), ?_⟩
  rw [Oper.semAt_plain F _ _ hpl, hr, Oper.uponIn_value]
  unfold Oper.wp at h
  rw [hr, Oper.upon_value] at h
  exact h
/-- A field laid behind a list of one's own, within a round. -/
theorem wpListIn_append_F {F : Fence} {n : Nat} {w : World} {ops : Array Oper} {rest : List Oper} {o : Oper} {a : Act} {Q : Exit → Act → World → Prop} (hgd : o.guard = none) (s x : Operand)
    (ho : o.op = .call { callee := .builtin .append, args := #[s, x], argTypes := #[25, 25] })
    (base : Nat) (v : Value) (us : List Value) (fs : List Fd) (hs : a.eval s = v) (L : Nat) (hI : Fts w base v us fs) (hL : ∀ k, v.ownBlock = some k → k < L) (hLi : ∀ i, i < us.length → ∀ k, (gv us i).ownBlock = some k → k < L) (hbL : base ≤ L)
    (u : Value) (f : Fd) (hu : Own w L u f.dat) (g : Nat) (hx : a.eval x = .slice (some ⟨g, 0, none⟩) 1 1) (hnews : ∀ j x, (frow f u)[j]? = some x → w.cell? ((⟨g, 0, none⟩ : Addr).add j) = some x)
    (hlen : fs.length < 2932031007317) (hbase : base ≤ w.heap.size)
    (h : ∀ v' w', Fts w' base v' (us ++ [u]) (fs ++ [f]) → w.grownBy w' v.ownBlock → Nx w v v' → wpListIn F n Try.prog ops Q rest (a.put o.dst v') w') : wpListIn F n Try.prog ops Q (o :: rest) a w := by
  obtain ⟨i0, hi, hz0, hz1, hz2⟩ := info48
  have hone : ∀ x ∈ frow f u, x.oneCell' = true := by
    intro x hx
    obtain ⟨ao, cap, rfl⟩ := slen_own hu
    simp [frow] at hx
    rcases hx with rfl | rfl | rfl | rfl <;> rfl
  have hm : fs.length + 1 ≤ maxLen := by unfold maxLen; omega
  obtain ⟨v1, w1, hr, _, _, _⟩ := run_append_own (P := Try.prog) w base 25 o.type 35 i0 (.agg #[.int .i64 0, .int .i64 0, .int .u64 0, .slice none 0 0]) 4 48 Try.underlying25 hi hz0 hz1 hz2 rfl (by decide) v fs.length (frs fs us) hI.1 ⟨g, 0, none⟩ 1 1 (frow f u) rfl hnews hone hm (by omega) hbase
  refine wpListIn_plain hgd fun _ hK => wpIn_of_value (v := v1) (w' := w1) (wp_append_nx s x 25 ho base 35 i0 (.agg #[.int .i64 0, .int .i64 0, .int .u64 0, .slice none 0 0]) 4 48 Try.underlying25 hi hz0 hz1 hz2 rfl (by decide) v fs.length (frs fs us) hs hI.1 ⟨g, 0, none⟩ 1 1 (frow f u) hx rfl hnews hone hm (by omega) hbase (fun v' w' h1 h2 h3 => hK _ _ (h v' w' (hI.snoc hL hLi hbL hu h1 h2 h3) h2 h3))) ?_ ?_ ?_
  · simp [Oper.about, ho, resolve, Target.leads, Sem.run_pure]
  · rw [ho]; intro c hc; cases hc
  · simp [execOp, ho, resolve, invoke, builtin, hs, hx, hr, Result.andThen]
theorem wpListIn_alloc {F : Fence} {n : Nat} {P : Program} {ops : Array Oper} {rest : List Oper} {o : Oper} {a : Act} {w : World} {Q : Exit → Act → World → Prop} (hgd : o.guard = none) (ty : TypeId) (ho : o.op = .alloc ty) (cs : Array Value)
    (hz : ∀ W, (Instr.alloc ty true (.tuple #[])).run P W = .ok (.pointer (some ⟨W.heap.size, 0, none⟩)) (W.alloc (.cells cs ty)))
    (h : wpListIn F n P ops Q rest (a.put o.dst (.pointer (some ⟨w.heap.size, 0, none⟩))) (w.alloc (.cells cs ty))) : wpListIn F n P ops Q (o :: rest) a w := by
  refine wpListIn_plain hgd fun K hK => ⟨fun f hf => (by simp [Oper.about, ho] at hf), ?_⟩
  rw [Oper.semAt_plain F _ _ (by rw [ho]; intro c hc; cases hc)]
  unfold execOp
  simp only [ho, Sem.run_bind, hz, Result.andThen_ok, Sem.run_pure]
  exact hK _ _ h
theorem wpListIn_store_row {F : Fence} {n : Nat} {P : Program} {ops : Array Oper} {rest : List Oper} {o : Oper} {a : Act} {w : World} {Q : Exit → Act → World → Prop} (hgd : o.guard = none) (ty : TypeId) (x y : Operand) (ho : o.op = .store ty x y)
    (g : Nat) (cells : Array Value) (hx : a.eval x = .pointer (some ⟨g, 0, none⟩)) (hy : a.eval y = .agg cells)
    (t : TypeId) (old : Array Value) (hr : w.heap[g]? = some (.cells old t (0, 0))) (hi : (P.info? ty).map (·.size) = some cells.size)
    (hold : old.size = cells.size) (h1 : cells.all (·.oneCell') = true)
    (h : wpListIn F n P ops Q rest (a.put o.dst undef) (w.setRow g cells)) : wpListIn F n P ops Q (o :: rest) a w := by
  refine wpListIn_plain hgd fun K hK => ⟨fun f hf => (by simp [Oper.about, ho] at hf), ?_⟩
  rw [Oper.semAt_plain F _ _ (by rw [ho]; intro c hc; cases hc)]
  unfold execOp
  simp only [ho, hx, hy, Instr.storeAt, Instr.sureAddr, Sem.run_bind, Sem.run_pure, Result.andThen_ok, run_storeVar_row w g t ty old cells hr hi hold h1]
  exact hK _ _ h
theorem whl_er {d : List B} : ∀ (k p : Nat) (last : Int) (c : Nat) {q : Nat} {e : Int}, (whl d k p last c).2 = some (q, e) → e ≠ 0
  | 0, _, _, _, _, _, h => by simp [whl] at h
  | k + 1, p, last, c, q, e, h => by
    by_cases hlt : p < d.length
    · rw [whl, if_pos hlt] at h
      cases hr : rh (d.drop p) last c with
      | er e' =>
        rw [hr] at h
        simp at h
        rw [← h.2]
        exact rh_er hr
      | ok no ty n =>
        rw [hr] at h
        simp only at h
        cases hv : rv (d.drop (p + n)) ty with
        | er e' =>
          rw [hv] at h
          simp at h
          rw [← h.2]
          exact rv_er hv
        | ok num dat m =>
          rw [hv] at h
          exact whl_er k _ _ _ h
    · rw [whl, if_neg hlt] at h
      simp at h
/-- What Decode comes to. -/
def dwh (d : List B) : List (Nat × Fd) × Option (Nat × Int) := if 4194304 < d.length then ([], some (0, 2)) else whl d d.length 0 0 0
def dfs (x : List (Nat × Fd) × Option (Nat × Int)) : List Fd := match x.2 with
  | none => x.1.map (·.2)
  | some _ => []
def dpl (x : List (Nat × Fd) × Option (Nat × Int)) : Int := match x.2 with
  | none => 0
  | some (p, _) => (p : Int)
def der (x : List (Nat × Fd) × Option (Nat × Int)) : Int := match x.2 with
  | none => 0
  | some (_, e) => e
theorem Fts.down {W : World} {b c : Nat} {v : Value} {us : List Value} {fs : List Fd} (h : Fts W b v us fs) (hc : c ≤ b) : Fts W c v us fs := by
  obtain ⟨h1, h2, h3, h4⟩ := h
  refine ⟨?_, h2, fun i hi => own_down (h3 i hi) hc, h4⟩
  obtain ⟨q1, q2 | ⟨g, cap, cur, q2, hb, q3⟩⟩ := h1
  · exact ⟨q1, .inl q2⟩
  · exact ⟨q1, .inr ⟨g, cap, cur, q2, by omega, q3⟩⟩

theorem Own.move {W V : World} {b : Nat} {v : Value} {d : List B} (h : Own W b v d) (hm : ∀ g o, b ≤ g → W.heap[g]? = some o → V.heap[g]? = some o) : Own V b v d := by
  obtain ⟨q1, q2 | ⟨g, cap, cur, q2, hb, q3, q4⟩⟩ := h
  · exact ⟨q1, .inl q2⟩
  · exact ⟨q1, .inr ⟨g, cap, cur, q2, hb, hm _ _ hb q3, q4⟩⟩
theorem Fts.move {W V : World} {b : Nat} {v : Value} {us : List Value} {fs : List Fd} (h : Fts W b v us fs) (hm : ∀ g o, b ≤ g → W.heap[g]? = some o → V.heap[g]? = some o) : Fts V b v us fs := by
  obtain ⟨h1, h2, h3, h4⟩ := h
  refine ⟨?_, h2, fun i hi => (h3 i hi).move hm, h4⟩
  obtain ⟨q1, q2 | ⟨g, cap, cur, q2, hb, q3, q4⟩⟩ := h1
  · exact ⟨q1, .inl q2⟩
  · exact ⟨q1, .inr ⟨g, cap, cur, q2, hb, hm _ _ hb q3, q4⟩⟩
theorem results_tmp3b {fn : Func} {t u v : Tmp} (h : fn.results = #[.tmp t, .tmp u, .tmp v]) (tmps : Array Value) (P : Program) (w : World) : (results fn tmps).run P w = .ok (.tuple #[tmps.getD t undef, tmps.getD u undef, tmps.getD v undef]) w := by
  simp [results, h]
/-- What holds between two rounds. -/
def DecJ (w : World) (v : Value) (r : Loop) (pre : List (Nat × Fd)) (A : World) : Prop :=
  A.heap[w.heap.size + 3]? = some (.loop r) ∧ A.heap[w.heap.size + 2]? = some (.deferred (some [])) ∧ A.heap[w.heap.size + 1]? = some (.cells (wkr v) 44 (0, 0)) ∧
  (∃ u us, A.heap[w.heap.size]? = some (.cells #[u] 25 (0, 0)) ∧ Fts A (w.heap.size + 4) u us (pre.map (·.2))) ∧ Below w.heap.size w A
theorem DecJ.keep {w A C : World} {v : Value} {r : Loop} {pre : List (Nat × Fd)} (h : DecJ w v r pre A) (hb : Below A.heap.size A C) : DecJ w v r pre C := by
  obtain ⟨h1, h2, h3, ⟨u, us, h4, h5⟩, h6⟩ := h
  exact ⟨Go.Proofs.Ytnbkdlfkacbfjaa.keep hb h1, Go.Proofs.Ytnbkdlfkacbfjaa.keep hb h2, Go.Proofs.Ytnbkdlfkacbfjaa.keep hb h3, ⟨u, us, Go.Proofs.Ytnbkdlfkacbfjaa.keep hb h4, h5.keep hb⟩, Below.after h6 hb⟩
theorem zWk (W : World) : (Instr.alloc 44 true (.tuple #[])).run Try.prog W = .ok (.pointer (some ⟨W.heap.size, 0, none⟩)) (W.alloc (.cells #[.slice none 0 0, .int .i64 0, .int .i64 0] 44)) := by kernel_rfl
theorem infoW : (Try.prog.info? 44).map (·.size) = some 3 := by kernel_rfl
end Go.Proofs.Ytnbkdlfkacbfjaa

