import Derived.Test.YtilgicikcjcdjaaDoorProg
import Derived.WalkKit
import Derived.WalkSpells
import Derived.WalkLawsBesides
import Derived.Lib.QuietBelow
import Derived.BigQuiet
import Derived.OrdersHeld
import Derived.Laws.MakeOwn
import Derived.RangeFuncBox
import Derived.RangeFuncNested
import Derived.RangeFuncBound
import Derived.RangeFuncCalls
import Derived.RangeFuncLeaves
import Derived.Shelf.Abstract
import Derived.Shelf.RegionOpen
import Derived.OwnWalkIn
import Derived.TacticsInMore
import Derived.LoopNIn
import Derived.LoopIn
import Derived.OwnWalk
import Derived.Deep.RegionHeld3
import Derived.Test.YtilgicikcjcdjaaDoorS0
import Derived.Test.YtilgicikcjcdjaaDoorS4
import Derived.Test.YtilgicikcjcdjaaDoorS3
import Derived.Laws.BytesArg
import Derived.Laws.Tables
import Derived.OrdersIn
import Derived.Lib.QuietBelowIn
import Derived.Sort.BigQuietIn
namespace Go.Proofs.YtilgicikcjcdjaaDoor
set_option maxRecDepth 100000
open Go Go.RowKit Go.Sort
attribute [local go_sem] setCell_drewN alloc_drewN

/-- No block but v's own has turned. -/
def Frm (w w' : World) (v : Value) : Prop := ∀ k, k < w.heap.size → v.ownBlock ≠ some k → w'.heap[k]? = w.heap[k]?
/-- v' lies where v lay, or in a new block. -/
def Nx (w : World) (v v' : Value) : Prop := v'.ownBlock = v.ownBlock ∨ ∃ k, v'.ownBlock = some k ∧ w.heap.size ≤ k
theorem Nx.refl (w : World) (v : Value) : Nx w v v := .inl rfl
theorem Nx.trans {w W : World} {v s s' : Value} (h : Nx w v s) (hs : w.heap.size ≤ W.heap.size) (h2 : Nx W s s') : Nx w v s' := by
  rcases h2 with e | ⟨k, e, hk⟩
  · rcases h with e2 | ⟨k, e2, hk⟩
    · exact .inl (e.trans e2)
    · exact .inr ⟨k, e.trans e2, hk⟩
  · exact .inr ⟨k, e, by omega⟩
theorem Nx.unalloc {W : World} {o : Obj} {s s' : Value} (h : Nx (W.alloc o) s s') : Nx W s s' := by
  rcases h with e | ⟨k, e, hk⟩
  · exact .inl e
  · exact .inr ⟨k, e, by rw [size_alloc1] at hk; omega⟩
theorem Nx.ne {w : World} {v s : Value} (h : Nx w v s) {k : Nat} (hk : k < w.heap.size) (hv : v.ownBlock ≠ some k) : s.ownBlock ≠ some k := by
  rcases h with e | ⟨k', e, hk'⟩
  · rw [e]; exact hv
  · rw [e]; intro e2; cases e2; omega
theorem wp_append_nx {P : Program} {w : World} {o : Oper} {a : Act} {K : Act → World → Prop} {Q : Exit → Act → World → Prop} (s x : Operand) (t : TypeId)
    (ho : o.op = .call { callee := .builtin .append, args := #[s, x], argTypes := #[t, t] })
    (base : Nat) (e : TypeId) (i : TypeInfo) (z : Value) (size bytes : Nat) (ht : P.underlying t = some (.slice e)) (hi : P.info? e = some i) (hz : i.zero = some z)
    (hsize : i.size = size) (hby : i.bytes = bytes) (hzs : z.cells.size = size) (hsz : 0 < size)
    (v : Value) (n : Nat) (xs : List Value) (hs : a.eval s = v) (hown : w.ownsRow base e size v n xs)
    (ad : Addr) (m c : Nat) (news : List Value) (hx : a.eval x = .slice (some ad) m c) (hl : news.length = m * size) (hnews : ∀ j u, news[j]? = some u → w.cell? (ad.add j) = some u) (h1 : ∀ u ∈ news, u.oneCell' = true)
    (h63 : n + m ≤ maxLen) (hbytes : (n + m) * bytes ≤ 140737488355328) (hbase : base ≤ w.heap.size)
    (h : ∀ v' w', w'.ownsRow base e size v' (n + m) (xs ++ news) → w.grownBy w' v.ownBlock → Nx w v v' → K (a.put o.dst v') w') : o.wp P a w K Q := by
  obtain ⟨v', w', hr, h2, h3, h4⟩ := run_append_own (P := P) w base t o.type e i z size bytes ht hi hz hsize hby hzs hsz _ n xs hown ad m c news hl hnews h1 h63 hbytes hbase
  have key : Nx w v v' := by
    rcases hown.2 with ⟨rfl, hn0⟩ | ⟨g1, cap1, cur, rfl, hbg, hg, hnc, hcm, hcs, htake⟩
    · have hown2 : w.ownsRow w.heap.size e size (.slice none 0 0) n xs := ⟨hown.1, .inl ⟨rfl, hn0⟩⟩
      obtain ⟨v2, w2, hr2, g2, _, g4⟩ := run_append_own (P := P) w w.heap.size t o.type e i z size bytes ht hi hz hsize hby hzs hsz _ n xs hown2 ad m c news hl hnews h1 h63 hbytes (Nat.le_refl _)
      have he := hr.symm.trans hr2
      injection he with e1 e2
      subst e1
      rcases g2.2 with ⟨hv, _⟩ | ⟨g, cap, _, hv, hbg, _⟩
      · exact .inl (by rw [hv])
      · exact .inr ⟨g, by rw [hv]; rfl, hbg⟩
    · by_cases hroom : n + m ≤ cap1
      · have hr2 := run_append_room (P := P) w t o.type e i ht hi g1 n cap1 cur hg ad m c news (by rw [hsize]; exact hl) hnews h1 hroom (by rw [hsize, hl, hcs, ← Nat.add_mul]; exact Nat.mul_le_mul_right _ hroom)
        have he := hr.symm.trans hr2
        injection he with e1 e2
        exact .inl (by rw [e1]; rfl)
      · have holds : ∀ j u, xs[j]? = some u → w.cell? ((⟨g1, 0, none⟩ : Addr).add j) = some u := hown.cells (g := g1) rfl
        have hr2 := run_append_grow (P := P) w t o.type e i z ht hi hz ⟨g1, 0, none⟩ n cap1 xs (by rw [hsize]; exact hown.1) holds ad m c news (by rw [hsize]; exact hl) hnews (by omega) (by simp only [maxLen] at h63; omega) (growslice_fits (by omega) (by rw [hby]; exact hbytes))
        have he := hr.symm.trans hr2
        injection he with e1 e2
        exact .inr ⟨w.heap.size, by rw [e1]; rfl, Nat.le_refl _⟩
  unfold Oper.wp execOp
  simp only [ho, resolve, invoke, builtin, Sem.run_bind, Sem.run_pure, Result.andThen_ok, List.map_toArray, List.map_cons, List.map_nil, hs, hx, hr]
  exact h v' w' h2 h3 key
section
attribute [local go_sem] Oper.semAt_some
theorem wpListIn_load_want {F : Fence} {n : Nat} {P : Program} {ops : Array Oper} {rest : List Oper} {o : Oper} {a : Act} {w : World} {Q : Exit → Act → World → Prop} (hg : o.guard = none) (ty : TypeId) (x : Operand) (ho : o.op = .load ty x)
    (g : Nat) (hx : a.eval x = .pointer (some ⟨g, 0, none⟩)) (t : TypeId) (cs : Array Value) (fr : Nat × Nat) (d : TypeDesc) (hr : w.heap[g]? = some (.cells cs t fr))
    (hu : P.underlying ty = some d) (hd : (match d with | .struct _ | .array _ _ => true | _ => false) = true) (hi : (P.info? ty).map (·.size) = some cs.size)
    (h : wpListIn F n P ops Q rest (a.put o.dst (.agg cs)) w) : wpListIn F n P ops Q (o :: rest) a w := by
  refine wpListIn_plain hg fun K hK => ?_
  refine ⟨?_, ?_⟩
  · intro f hf
    simp [Oper.about, ho] at hf
  · rw [Oper.semAt_plain F _ _ (by rw [ho]; intro c hc; cases hc)]
    unfold execOp
    simp only [ho, hx, Instr.loadAt, Instr.sureAddr, Sem.run_bind, Sem.run_pure, Result.andThen_ok, run_loadVar_row w g t ty cs fr d hr hu hd hi]
    exact hK _ _ h
theorem wpIn_of_value {F : Fence} {n : Nat} {P : Program} {o : Oper} {a : Act} {w : World} {K : Act → World → Prop} {Q : Exit → Act → World → Prop} {v : Value} {w' : World} (h : o.wp P a w K Q) (hab : o.about P w a.eval = none) (hpl : ∀ c, o.op ≠ .defer c) (hr : (execOp a.eval o).run P w = .ok (.value v) w') : o.wpIn F n P a w K Q := by
  refine ⟨fun f hf => (by rw [hab] at hf; cases hf), ?_⟩
  rw [Oper.semAt_plain F _ _ hpl, hr, Oper.uponIn_value]
  unfold Oper.wp at h
  rw [hr, Oper.upon_value] at h
  exact h
theorem wpListIn_alloc {F : Fence} {n : Nat} {P : Program} {ops : Array Oper} {rest : List Oper} {o : Oper} {a : Act} {w : World} {Q : Exit → Act → World → Prop} (hgd : o.guard = none) (ty : TypeId) (ho : o.op = .alloc ty) (cs : Array Value)
    (hz : ∀ W, (Instr.alloc ty true (.tuple #[])).run P W = .ok (.pointer (some ⟨W.heap.size, 0, none⟩)) (W.alloc (.cells cs ty)))
    (h : wpListIn F n P ops Q rest (a.put o.dst (.pointer (some ⟨w.heap.size, 0, none⟩))) (w.alloc (.cells cs ty))) : wpListIn F n P ops Q (o :: rest) a w := by
  refine wpListIn_plain hgd fun K hK => ⟨fun f hf => (by simp [Oper.about, ho] at hf), ?_⟩
  rw [Oper.semAt_plain F _ _ (by rw [ho]; intro c hc; cases hc)]
  unfold execOp
  simp only [ho, Sem.run_bind, hz, Result.andThen_ok, Sem.run_pure]
  exact hK _ _ h
theorem wpListIn_store_row {F : Fence} {n : Nat} {P : Program} {ops : Array Oper} {rest : List Oper} {o : Oper} {a : Act} {w : World} {Q : Exit → Act → World → Prop} (hgd : o.guard = none) (ty : TypeId) (x y : Operand) (ho : o.op = .store ty x y)
    (g : Nat) (cells : Array Value) (hx : a.eval x = .pointer (some ⟨g, 0, none⟩)) (hy : a.eval y = .agg cells)
    (t : TypeId) (old : Array Value) (hr : w.heap[g]? = some (.cells old t (0, 0))) (hi : (P.info? ty).map (·.size) = some cells.size)
    (hold : old.size = cells.size) (h1 : cells.all (·.oneCell') = true)
    (h : wpListIn F n P ops Q rest (a.put o.dst undef) (w.setRow g cells)) : wpListIn F n P ops Q (o :: rest) a w := by
  refine wpListIn_plain hgd fun K hK => ⟨fun f hf => (by simp [Oper.about, ho] at hf), ?_⟩
  rw [Oper.semAt_plain F _ _ (by rw [ho]; intro c hc; cases hc)]
  unfold execOp
  simp only [ho, hx, hy, Instr.storeAt, Instr.sureAddr, Sem.run_bind, Sem.run_pure, Result.andThen_ok, run_storeVar_row w g t ty old cells hr hi hold h1]
  exact hK _ _ h
theorem results_tmp3b {fn : Func} {t u v : Tmp} (h : fn.results = #[.tmp t, .tmp u, .tmp v]) (tmps : Array Value) (P : Program) (w : World) : (results fn tmps).run P w = .ok (.tuple #[tmps.getD t undef, tmps.getD u undef, tmps.getD v undef]) w := by
  simp [results, h]
end
/-- Keys' cells, one key behind the other. -/
def kcs (ks : List (List Int)) : List Value := ks.flatMap fun k => k.map (Value.int .u8)
theorem kcs_app (a b : List (List Int)) : kcs (a ++ b) = kcs a ++ kcs b := by simp [kcs]
theorem kcs_one (k : List Int) : kcs [k] = k.map (Value.int .u8) := by simp [kcs]
/-- A list of keys in a block of its own, from a block on. -/
def OwnK (W : World) (b : Nat) (v : Value) (ks : List (List Int)) : Prop := W.ownsRow b 26 32 v ks.length (kcs ks)
theorem OwnK.move {W W' : World} {b : Nat} {v : Value} {ks : List (List Int)} (h : OwnK W b v ks) (hm : ∀ g o, v.ownBlock = some g → W.heap[g]? = some o → W'.heap[g]? = some o) : OwnK W' b v ks := by
  obtain ⟨h1, h2⟩ := h
  refine ⟨h1, ?_⟩
  rcases h2 with h2 | ⟨g, cap, cur, rfl, hb, hg, rest⟩
  · exact .inl h2
  · exact .inr ⟨g, cap, cur, rfl, hb, hm g _ rfl hg, rest⟩
theorem OwnK.keep {W W' : World} {b : Nat} {v : Value} {ks : List (List Int)} (h : OwnK W b v ks) (hb : Below W.heap.size W W') : OwnK W' b v ks := h.move (fun _ _ _ hg => Go.Proofs.YtilgicikcjcdjaaDoor.keep hb hg)
theorem OwnK.lt {W : World} {b : Nat} {v : Value} {ks : List (List Int)} (h : OwnK W b v ks) : ∀ k, v.ownBlock = some k → b ≤ k ∧ k < W.heap.size := World.ownsRow.lt h
theorem infoKy : ∃ i, Tryd.prog.info? 26 = some i ∧ i.zero = some (.agg (irow .u8 (zr 32))) ∧ i.size = 32 ∧ i.bytes = 32 := ⟨_, rfl, rfl, rfl, rfl⟩
theorem run_bslK (key : List Int) (hkl : key.length = 32) (W : World) : (Instr.buildSlice 54 1 #[(0, .agg (irow .u8 key))]).run Tryd.prog W = .ok (.slice (some ⟨W.heap.size, 0, none⟩) 1 1) (W.alloc (.cells (irow .u8 key) 26)) := by
  obtain ⟨x0, x1, x2, x3, x4, x5, x6, x7, x8, x9, x10, x11, x12, x13, x14, x15, x16, x17, x18, x19, x20, x21, x22, x23, x24, x25, x26, x27, x28, x29, x30, x31, rfl⟩ := len32 key hkl
  kernel_rfl
theorem row_news {W : World} {g : Nat} {key : List Int} {t : TypeId} (rg : W.heap[g]? = some (.cells (irow .u8 key) t (0, 0))) : ∀ j x, (key.map (Value.int .u8))[j]? = some x → W.cell? ((⟨g, 0, none⟩ : Addr).add j) = some x := by
  intro j x hx
  rw [addr_add, cell_of_row _ _ _ _ _ _ rg, Nat.zero_add]
  simpa [irow] using hx
/-- A key laid behind a list of one's own, as a step. -/
theorem wp_append_K {w : World} {o : Oper} {a : Act} {K : Act → World → Prop} {Q : Exit → Act → World → Prop} (s x : Operand) (ho : o.op = .call { callee := .builtin .append, args := #[s, x], argTypes := #[54, 54] })
    (base : Nat) (v : Value) (ks : List (List Int)) (hs : a.eval s = v) (hI : OwnK w base v ks) (g : Nat) (key : List Int) (hkl : key.length = 32) (hx : a.eval x = .slice (some ⟨g, 0, none⟩) 1 1) (rg : w.heap[g]? = some (.cells (irow .u8 key) 26 (0, 0))) (hlen : ks.length ≤ 1000000) (hbase : base ≤ w.heap.size)
    (h : ∀ v' w', OwnK w' base v' (ks ++ [key]) → w.grownBy w' v.ownBlock → Nx w v v' → K (a.put o.dst v') w') : o.wp Tryd.prog a w K Q := by
  obtain ⟨i0, hi, hz0, hz1, hz2⟩ := infoKy
  refine wp_append_nx s x 54 ho base 26 i0 (.agg (irow .u8 (zr 32))) 32 32 Tryd.underlying54 hi hz0 hz1 hz2 rfl (by decide) v ks.length (kcs ks) hs hI ⟨g, 0, none⟩ 1 1 (key.map (Value.int .u8)) hx (by simp [hkl]) (row_news rg) (ints_one .u8 _) (by unfold maxLen; omega) (by omega) hbase (fun v' w' h1 h2 h3 => h v' w' ?_ h2 h3)
  unfold OwnK
  rw [kcs_app, kcs_one, List.length_append, List.length_singleton]
  exact h1
theorem wpList_append_K {w : World} {ops : Array Oper} {rest : List Oper} {o : Oper} {a : Act} {Q : Exit → Act → World → Prop} (hgd : o.guard = none) (s x : Operand) (ho : o.op = .call { callee := .builtin .append, args := #[s, x], argTypes := #[54, 54] })
    (base : Nat) (v : Value) (ks : List (List Int)) (hs : a.eval s = v) (hI : OwnK w base v ks) (g : Nat) (key : List Int) (hkl : key.length = 32) (hx : a.eval x = .slice (some ⟨g, 0, none⟩) 1 1) (rg : w.heap[g]? = some (.cells (irow .u8 key) 26 (0, 0))) (hlen : ks.length ≤ 1000000) (hbase : base ≤ w.heap.size)
    (h : ∀ v' w', OwnK w' base v' (ks ++ [key]) → w.grownBy w' v.ownBlock → Nx w v v' → wpList Tryd.prog ops Q rest (a.put o.dst v') w') : wpList Tryd.prog ops Q (o :: rest) a w :=
  wpList_plain hgd fun _ hK => wp_append_K s x ho base v ks hs hI g key hkl hx rg hlen hbase (fun v' w' h1 h2 h3 => hK _ _ (h v' w' h1 h2 h3))
theorem wpListIn_append_K {F : Fence} {n : Nat} {w : World} {ops : Array Oper} {rest : List Oper} {o : Oper} {a : Act} {Q : Exit → Act → World → Prop} (hgd : o.guard = none) (s x : Operand) (ho : o.op = .call { callee := .builtin .append, args := #[s, x], argTypes := #[54, 54] })
    (base : Nat) (v : Value) (ks : List (List Int)) (hs : a.eval s = v) (hI : OwnK w base v ks) (g : Nat) (key : List Int) (hkl : key.length = 32) (hx : a.eval x = .slice (some ⟨g, 0, none⟩) 1 1) (rg : w.heap[g]? = some (.cells (irow .u8 key) 26 (0, 0))) (hlen : ks.length ≤ 1000000) (hbase : base ≤ w.heap.size)
    (h : ∀ v' w', OwnK w' base v' (ks ++ [key]) → w.grownBy w' v.ownBlock → Nx w v v' → wpListIn F n Tryd.prog ops Q rest (a.put o.dst v') w') : wpListIn F n Tryd.prog ops Q (o :: rest) a w := by
  obtain ⟨i0, hi, hz0, hz1, hz2⟩ := infoKy
  obtain ⟨v1, w1, hr, _, _, _⟩ := run_append_own (P := Tryd.prog) w base 54 o.type 26 i0 (.agg (irow .u8 (zr 32))) 32 32 Tryd.underlying54 hi hz0 hz1 hz2 rfl (by decide) v ks.length (kcs ks) hI ⟨g, 0, none⟩ 1 1 (key.map (Value.int .u8)) (by simp [hkl]) (row_news rg) (ints_one .u8 _) (by unfold maxLen; omega) (by omega) hbase
  refine wpListIn_plain hgd fun _ hK => wpIn_of_value (v := v1) (w' := w1) (wp_append_K s x ho base v ks hs hI g key hkl hx rg hlen hbase (fun v' w' h1 h2 h3 => hK _ _ (h v' w' h1 h2 h3))) ?_ ?_ ?_
  · simp [Oper.about, ho, resolve, Target.leads, Sem.run_pure]
  · rw [ho]; intro c hc; cases hc
  · simp [execOp, ho, resolve, invoke, builtin, hs, hx, hr, Result.andThen]
theorem wpList_bslK {w : World} {ops : Array Oper} {rest : List Oper} {o : Oper} {a : Act} {Q : Exit → Act → World → Prop} (hgd : o.guard = none) (x : Operand) (ho : o.op = .buildSlice 54 1 #[(0, x)]) (key : List Int) (hkl : key.length = 32) (hx : a.eval x = .agg (irow .u8 key))
    (h : wpList Tryd.prog ops Q rest (a.put o.dst (.slice (some ⟨w.heap.size, 0, none⟩) 1 1)) (w.alloc (.cells (irow .u8 key) 26))) : wpList Tryd.prog ops Q (o :: rest) a w := by
  refine wpList_plain hgd fun K hK => ?_
  refine wp_world_op _ _ ?_ (hK _ _ h)
  have hr := run_bslK key hkl w
  simp [execOp, ho, hx, hr, Result.andThen]
theorem wpListIn_bslK {F : Fence} {n : Nat} {w : World} {ops : Array Oper} {rest : List Oper} {o : Oper} {a : Act} {Q : Exit → Act → World → Prop} (hgd : o.guard = none) (x : Operand) (ho : o.op = .buildSlice 54 1 #[(0, x)]) (key : List Int) (hkl : key.length = 32) (hx : a.eval x = .agg (irow .u8 key))
    (h : wpListIn F n Tryd.prog ops Q rest (a.put o.dst (.slice (some ⟨w.heap.size, 0, none⟩) 1 1)) (w.alloc (.cells (irow .u8 key) 26))) : wpListIn F n Tryd.prog ops Q (o :: rest) a w := by
  have hr := run_bslK key hkl w
  refine wpListIn_plain hgd fun K hK => wpIn_of_value (v := .slice (some ⟨w.heap.size, 0, none⟩) 1 1) (w' := w.alloc (.cells (irow .u8 key) 26)) (wp_world_op _ _ ?_ (hK _ _ h)) ?_ ?_ ?_
  · simp [execOp, ho, hx, hr, Result.andThen]
  · simp [Oper.about, ho]
  · rw [ho]; intro c hc; cases hc
  · simp [execOp, ho, hx, hr, Result.andThen]
/-- A range over a closure: off its end, or left. -/
theorem wp_range_clo {P : Program} {g : Operand} {ps : Array Tmp} {assign body : Code} {Q : Exit → Act → World → Prop} {a : Act} {w : World} {gf : Nat} {lb : Array Value} (hg : a.eval g = .func (.func gf) #[] lb) (eg : ∀ args w, (callFunc gf args).run P w = .ok (.enter gf args) w)
    (h : ∀ (fn : FuncId) (rec : LoopState → Option Code → Loop), rec = (fun st pe => { state := st, pending := pe, fn, tmps := a.tmps, params := ps, assign, body, defers := w.heap.size }) →
      Calls P gf (#[.func (.yield (w.heap.size + 1)) #[] #[]] ++ lb) ((w.alloc (.deferred (some []))).alloc (.loop (rec .ready none))) fun e w' => (∃ v, e = .returned v) ∧
        ((w'.heap[w.heap.size + 1]? = some (.loop (rec .ready none)) ∧ Q .normal { a with defers := { target := .collected w.heap.size, args := #[] } :: a.defers } (w'.putObj (w.heap.size + 1) (.loop (rec .exhausted none)))) ∨
         ∃ c, w'.heap[w.heap.size + 1]? = some (.loop (rec .done (some c))) ∧ c.wp P Q { a with defers := { target := .collected w.heap.size, args := #[] } :: a.defers } (w'.putObj (w.heap.size + 1) (.loop (rec .exhausted (some c)))))) :
    (Code.rangeFunc g ps assign body).wp P Q a w := by
  refine (wpIn_wide (n := 4)).1 (wpIn_rangeFunc (F := Fence.wide) ?_)
  intro fn hfn
  obtain ⟨W1, hW1⟩ : ∃ W1, (w.alloc (.deferred (some []))).alloc (.loop { state := .ready, pending := none, fn, tmps := a.tmps, params := ps, assign, body, defers := w.heap.size }) = W1 := ⟨_, rfl⟩
  refine ⟨w.heap.size + 1, [{ target := .collected w.heap.size, args := #[] }], W1, { target := .fn (.func gf) lb, args := #[.func (.yield (w.heap.size + 1)) #[] #[]] }, W1, gf, #[.func (.yield (w.heap.size + 1)) #[] #[]] ++ lb, W1, ?_, ?_, ?_, ?_, ?_, ?_⟩
  · rw [← hW1]; exact run_enterLoop_outer _ _ _ _ _
  · simp only [resolve, hg]
    simp [go_sem]
  · exact fun _ _ => trivial
  · simp [invoke, go_sem, eg]
  · exact fun _ => by decide
  · rw [← hW1]
    refine callsIn_wide.2 ((h fn _ rfl).mono ?_)
    rintro e w3 ⟨⟨v, rfl⟩, (⟨hl, hq⟩ | ⟨c, hl, hq⟩)⟩
    · exact ⟨none, _, run_endLoop hl (by simp), hq⟩
    · exact ⟨some c, _, run_endLoop hl (by simp), wpIn_wide.2 hq⟩

end Go.Proofs.YtilgicikcjcdjaaDoor

namespace Go.Proofs.YtilgicikcjcdjaaDoor
set_option maxRecDepth 100000
open Go Go.RowKit Go.Sort
attribute [local go_sem] setCell_drewN alloc_drewN

attribute [local go_sem] Oper.semAt_some
theorem row_set {W : World} {g : Nat} {cs : Array Value} {t : TypeId} (hg : W.heap[g]? = some (.cells cs t (0, 0))) (j : Nat) (z : Value) : (W.setCell ⟨g, j, none⟩ z).heap[g]? = some (.cells (cs.setIfInBounds j z) t (0, 0)) :=
  heap_setCell_same W g j _ t _ hg
/-- The first so many messages' keys. -/
def msgs (key : List Int) (m : Nat) : List (List Int) := (List.range m).map (mat key)
theorem msgs_succ (key : List Int) (m : Nat) : msgs key (m + 1) = msgs key m ++ [mat key m] := by simp [msgs, List.range_succ]
theorem msgs_len (key : List Int) (m : Nat) : (msgs key m).length = m := by simp [msgs]
/-- What holds between two rounds of Skip. -/
def SkJ (w : World) (c : Nat) (key : List Int) (n : Int) (m : Nat) (r : Loop) (i : Nat) (A : World) : Prop :=
  A.heap[w.heap.size + 5]? = some (.loop r) ∧ A.heap[w.heap.size + 4]? = some (.deferred (some [])) ∧ A.heap[w.heap.size + 3]? = some (.cells #[.int .i64 (m : Int)] 2 (0, 0)) ∧ A.heap[w.heap.size + 2]? = some (.cells #[(.func (.func 14) #[.pointer (some ⟨c, 0, none⟩)] #[])] 51 (0, 0)) ∧
  (∃ v, A.heap[w.heap.size + 1]? = some (.cells #[v] 54 (0, 0)) ∧ OwnK A w.heap.size v (msgs key i) ∧ (∀ k, v.ownBlock = some k → k = w.heap.size ∨ w.heap.size + 6 ≤ k)) ∧
  A.heap[c]? = some (.cells (chc (kat key i) (n + (i : Int))) 48 (0, 0)) ∧ But c w A
theorem sta_but {c : Nat} {w A : World} (h : Sta w) (hc : 1 < c) (hs : 1 < w.heap.size) (hb : But c w A) : Sta A := h.belowN (n := 2) (by decide) (hb.below (by omega) (by omega))
theorem kon_but {c : Nat} {w A : World} (h : Kon w) (hc : 1 < c) (hs : 1 < w.heap.size) (hb : But c w A) : Kon A := h.belowN (n := 2) (by decide) (hb.below (by omega) (by omega))
theorem but_grown {c : Nat} {w A C : World} {row : Option Nat} (h : But c w A) (hg : A.grownBy C row) (hr : ∀ k, row = some k → w.heap.size ≤ k) : But c w C :=
  ⟨hg.os.trans h.os, hg.tape.trans h.tape, hg.output.trans h.output, Nat.le_trans h.size hg.size, fun k hk hc => (hg.block k (by have := h.size; omega) (fun e => by have := hr k e.symm; omega)).trans (h.block k hk hc)⟩
set_option maxRecDepth 100000 in
set_option maxHeartbeats 4000000 in
theorem a_Skip (key : List Int) (hkl : key.length = 32) (hkz : ∀ z ∈ key, 0 ≤ z ∧ z < 256) (n : Int) (hn0 : 0 ≤ n) (m : Nat) (hm : n + (m : Int) ≤ 4294967295) (hm5 : m ≤ 100000) (most : Int) (hmo : (m : Int) ≤ most) (w : World) (hS : Sta w) (hK : Kon w) (c : Nat) (hc1 : 1 < c) (rM : w.heap[c]? = some (.cells (chc key n) 48 (0, 0))) :
    Calls Tryd.prog 16 #[.pointer (some ⟨c, 0, none⟩), .int .u32 (n + (m : Int)), .int .i64 most] w fun e w' => ∃ v, e = .returned (.tuple #[v, .int .i64 0]) ∧ OwnK w' w.heap.size v (msgs key m) ∧ w'.heap[c]? = some (.cells (chc (kat key m) (n + (m : Int))) 48 (0, 0)) ∧ But c w w' := by
  have hcl := lt_of_row rM
  have c0 := cell_n key hkl rM
  have d1 : decide (n + (m : Int) < n) = false := by simp; omega
  have d2 : decide ((m : Int) > most) = false := by simp; omega
  have hsb : n + (m : Int) - n = (m : Int) := by omega
  obtain ⟨i0, hi, hz0, hz1, hz2⟩ := infoKy
  have hmk := run_make (P := Tryd.prog) w 54 26 i0 _ Tryd.underlying54 hi hz0 .i64 .i64 0 (m : Int) (by omega) (by omega) (by rw [hz2]; omega) (by omega)
  have hown : OwnK (w.alloc (.cells (madeCells (Value.agg (irow .u8 (zr 32))).cells ((m : Int).toNat * i0.size)) 26)) w.heap.size (.slice (some ⟨w.heap.size, 0, none⟩) 0 m) [] := World.ownsRow_made w _ m (Nat.le_refl _) (by unfold maxLen; omega) (by rw [size_madeCells, hz1]; simp)
  simp only [Int.toNat_zero, Int.toNat_natCast] at hmk hown
  generalize madeCells (Value.agg (irow .u8 (zr 32))).cells (m * i0.size) = M at *
  refine (callsIn_wide (n := 4)).1 (callsIn_of_wp_marks Tryd.func16 rfl trivial ?_)
  refine wpIn_wide.2 ?_
  simp only [Tryd.ntmps16, List.size_toArray, List.length_cons, List.length_nil, Nat.reduceAdd, Nat.reduceSub, Array.replicate_succ, Array.replicate_zero, List.push_toArray, List.append_toArray, List.nil_append, List.cons_append]
  go_wp2_with (fail)
  refine (a_steps c (m : Int) _).mono ?_
  rintro e_ w4 ⟨rfl, hw4⟩
  have O0 := hp4_0 w (.cells M 26) (.cells #[.slice (some ⟨w.heap.size, 0, none⟩) 0 m] 54) (.cells #[(.func (.func 14) #[.pointer (some ⟨c, 0, none⟩)] #[])] 51) (.cells #[.int .i64 (m : Int)] 2)
  have O1 := hp4_1 w (.cells M 26) (.cells #[.slice (some ⟨w.heap.size, 0, none⟩) 0 m] 54) (.cells #[(.func (.func 14) #[.pointer (some ⟨c, 0, none⟩)] #[])] 51) (.cells #[.int .i64 (m : Int)] 2)
  have O2 := hp4_2 w (.cells M 26) (.cells #[.slice (some ⟨w.heap.size, 0, none⟩) 0 m] 54) (.cells #[(.func (.func 14) #[.pointer (some ⟨c, 0, none⟩)] #[])] 51) (.cells #[.int .i64 (m : Int)] 2)
  have O3 := hp4_3 w (.cells M 26) (.cells #[.slice (some ⟨w.heap.size, 0, none⟩) 0 m] 54) (.cells #[(.func (.func 14) #[.pointer (some ⟨c, 0, none⟩)] #[])] 51) (.cells #[.int .i64 (m : Int)] 2)
  have hs4 : w4.heap.size = w.heap.size + 4 := by rw [hw4]; simp
  have hb4 : Below w.heap.size w w4 := by rw [hw4]; exact ((((Below.refl _ _).alloc (Nat.le_refl _) _).alloc (by simp) _).alloc (by simp; omega) _).alloc (by simp; omega) _
  have hown4 : OwnK w4 w.heap.size (.slice (some ⟨w.heap.size, 0, none⟩) 0 m) [] := by
    rw [hw4]
    exact (hown.keep ((Below.refl _ _).alloc (Nat.le_refl _) _)).keep (((Below.refl _ _).alloc (Nat.le_refl _) _).alloc (by simp) _)
  rw [← hw4] at O0 O1 O2 O3
  have hsx : ((w.alloc (.cells M 26)).alloc (.cells #[.slice (some ⟨w.heap.size, 0, none⟩) 0 m] 54)).heap.size = w.heap.size + 2 := by simp
  rw [hsx]
  have r4 := keep hb4 rM
  clear hw4 hown hmk hsx c0 d1 d2 hsb
  go_wp2_with (fail)
  refine wp_range_clo (gf := 29) (lb := #[.pointer (some ⟨w.heap.size + 2 + 1, 0, none⟩), .pointer (some ⟨w.heap.size + 2, 0, none⟩)]) rfl (enters_of Tryd.func29 (by kernel_rfl) rfl) ?_
  intro fn rec hrec
  rw [hs4] at hrec ⊢
  have y0 := hp2_0 w4 (.deferred (some [])) (.loop (rec .ready none))
  have y1 := hp2_1 w4 (.deferred (some [])) (.loop (rec .ready none))
  have hb0 : Below w4.heap.size w4 ((w4.alloc (.deferred (some []))).alloc (.loop (rec .ready none))) := ((Below.refl _ _).alloc (Nat.le_refl _) _).alloc (by simp) _
  rw [hs4] at y0 y1
  have h0 : SkJ w c key n m (rec .ready none) 0 ((w4.alloc (.deferred (some []))).alloc (.loop (rec .ready none))) := by
    refine ⟨y1, y0, keep hb0 O3, keep hb0 O2, ⟨_, keep hb0 O1, hown4.keep hb0, fun k e => ?_⟩, ?_, But.of (Below.after hb4 hb0)⟩
    · cases e; exact .inl rfl
    · rw [keep hb0 r4]; simp [kat]
  generalize (w4.alloc (.deferred (some []))).alloc (.loop (rec .ready none)) = W1 at *
  clear y0 y1 hb0 O0 O1 O2 O3 hown4 r4 hb4 rM
  have hsw : 1 < w.heap.size := by omega
  refine (a_steps1 key hkl hkz n hn0 (m : Int) m (by simp) hm c (w.heap.size + 2 + 1) (w.heap.size + 2) (w.heap.size + 4 + 1) (SkJ w c key n m (rec .ready none)) (fun _ _ => False) ?_ ?_ W1 h0).mono ?_
  · rintro i A ⟨a1, a2, a3, a4, a5, a6, a7⟩
    exact ⟨sta_but hS hc1 hsw a7, kon_but hK hc1 hsw a7, a3, a4, a6⟩
  · clear h0
    rintro i A C hi ⟨a1, a2, a3, a4, ⟨v, a5, a5o, a5b⟩, a6, a7⟩ hB rC
    have hAs : w.heap.size + 5 < A.heap.size := lt_of_row a1
    have hCs := hB.size
    have g1 := hB.row a1 (by omega)
    have g2 := hB.row a2 (by omega)
    have g3 := hB.row a3 (by omega)
    have g4 := hB.row a4 (by omega)
    have g5 := hB.row a5 (by omega)
    have g5o : OwnK C w.heap.size v (msgs key i) := a5o.move (fun k o e h => hB.row h (by have := (a5o.lt k e).1; omega))
    have g7 := a7.trans hB
    have hvlt := a5o.lt
    clear a1 a2 a3 a4 a5 a5o a6 a7 hB
    have hy := run_yield (P := Tryd.prog) (args := #[.int .u32 (n + (i : Int)), .agg (irow .u8 (mat key i))]) g1 (by rw [hrec]; rfl)
    rw [hrec] at hy
    refine ⟨fn, _, _, _, hy, roundIn_of_wpIn trivial ?_⟩
    have hml := mat_len key i
    have hmsg : Hid (msgs key (i + 1) = msgs key i ++ [mat key i]) := hide (msgs_succ key i)
    have hmln : (msgs key i).length ≤ 100000 := by rw [msgs_len]; omega
    generalize mat key i = X at *
    generalize msgs key i = L at *
    have r0 := hp1_0 C (.cells (irow .u8 (zr 32)) 26)
    have hbx : Below C.heap.size C ((C.alloc (.cells (irow .u8 (zr 32)) 26)).setRow C.heap.size (irow .u8 X)) := below_setRow ((Below.refl _ _).alloc (Nat.le_refl _) _) (Nat.le_refl _) _
    have rB := setRow_heap _ C.heap.size _ (irow .u8 X) _ _ r0
    clear hy
    gi_wp2_with (first | (refine wpListIn_alloc rfl 26 rfl (irow .u8 (zr 32)) zkey ?_) | (refine wpListIn_store_row rfl 26 _ _ rfl C.heap.size (irow .u8 X) rfl rfl 26 _ r0 (infok8 _ hml) (fit32 _ _ (zr_len 32) hml) (irow_one _ _) ?_) | fail)
    have hsC : C.heap.size < ((C.alloc (.cells (irow .u8 (zr 32)) 26)).setRow C.heap.size (irow .u8 X)).heap.size := lt_of_row rB
    generalize (C.alloc (.cells (irow .u8 (zr 32)) 26)).setRow C.heap.size (irow .u8 X) = C1 at *
    clear r0
    have e1 := keep hbx g1
    refine ⟨_, run_beginRound e1 (by rw [hrec]), ?_⟩
    have hoth : ∀ g, g ≠ w.heap.size + 4 + 1 → (C1.putObj (w.heap.size + 4 + 1) (.loop { rec .ready none with state := .busy })).heap[g]? = C1.heap[g]? := fun g hg => World.putObj_heap_other hg
    have e1' : (C1.putObj (w.heap.size + 4 + 1) (.loop { rec .ready none with state := .busy })).heap[w.heap.size + 4 + 1]? = some (.loop { rec .ready none with state := .busy }) := World.putObj_heap_same (lt_of_row e1)
    have e2 := (hoth (w.heap.size + 4) (by omega)).trans (keep hbx g2)
    have e3 := (hoth (w.heap.size + 3) (by omega)).trans (keep hbx g3)
    have e4 := (hoth (w.heap.size + 2) (by omega)).trans (keep hbx g4)
    have e5 := (hoth (w.heap.size + 1) (by omega)).trans (keep hbx g5)
    have e5o : OwnK (C1.putObj (w.heap.size + 4 + 1) (.loop { rec .ready none with state := .busy })) w.heap.size v L := (g5o.keep hbx).move (fun k o e h => (hoth k (by have := a5b k e; omega)).trans h)
    have e6 := (hoth c (by omega)).trans (keep hbx rC)
    have e7 : But c w (C1.putObj (w.heap.size + 4 + 1) (.loop { rec .ready none with state := .busy })) := but_grown (g7.trans (But.of hbx)) (grownBy_putObj' _ _ _) (fun k e => by cases e; omega)
    have rB2 := (hoth C.heap.size (by omega)).trans rB
    have hszC : (C1.putObj (w.heap.size + 4 + 1) (.loop { rec .ready none with state := .busy })).heap.size = C1.heap.size := World.putObj_size
    generalize C1.putObj (w.heap.size + 4 + 1) (.loop { rec .ready none with state := .busy }) = C2 at *
    clear hoth rB hbx e1 g1 g2 g3 g4 g5 g5o g7 rC
    rw [← hszC] at hsC
    clear hszC
    obtain ⟨so, sc, rfl⟩ := slen_own e5o
    have c5 : C2.cell? ⟨w.heap.size + 1, 0, none⟩ = some (.slice so L.length sc) := by rw [cell_of_row _ _ 0 _ _ _ e5]; rfl
    have hbn : Below C2.heap.size C2 (C2.alloc (.cells (irow .u8 X) 26)) := (Below.refl _ _).alloc (Nat.le_refl _) _
    have rN := hp1_0 C2 (.cells (irow .u8 X) 26)
    have hnl : L.length < 9223372036854775807 := by omega
    gi_wp2_with (first | (refine wpListIn_load_want rfl 26 _ rfl C.heap.size rfl 26 _ (0, 0) _ rB2 Tryd.underlying26 rfl (infok8 _ hml) ?_) | (refine wpListIn_bslK rfl _ rfl X hml rfl ?_) | (gi_at_builtin; suffices h9 : True ∧ _ from h9.2) | fail)
    refine ⟨trivial, ?_⟩
    refine wpListIn_append_K rfl (.tmp 36) (.tmp 38) rfl w.heap.size _ L rfl (e5o.keep hbn) C2.heap.size X hml rfl rN (by omega) (by rw [size_alloc1]; omega) ?_
    intro v4 w4' hI4 hgr hnx
    have hgk : ∀ k, (Value.slice so L.length sc).ownBlock = some k → w.heap.size ≤ k ∧ (k = w.heap.size ∨ w.heap.size + 6 ≤ k) := fun k e => ⟨(hvlt k e).1, a5b k e⟩
    have hoth : ∀ g, g < C2.heap.size → (g < w.heap.size ∨ (w.heap.size < g ∧ g < w.heap.size + 6)) → w4'.heap[g]? = C2.heap[g]? := fun g hg hh => (hgr.block g (by rw [size_alloc1]; omega) (fun e => by have := hgk g e.symm; omega)).trans (hbn.block g hg)
    have q1 := (hoth (w.heap.size + 4 + 1) (by omega) (by omega)).trans e1'
    have q2 := (hoth (w.heap.size + 4) (by omega) (by omega)).trans e2
    have q3 := (hoth (w.heap.size + 3) (by omega) (by omega)).trans e3
    have q4 := (hoth (w.heap.size + 2) (by omega) (by omega)).trans e4
    have q5 := (hoth (w.heap.size + 1) (by omega) (by omega)).trans e5
    have q6 := (hoth c (by omega) (by omega)).trans e6
    have q7 : But c w w4' := but_grown (e7.trans (But.of hbn)) hgr (fun k e => (hgk k e).1)
    have q5b : ∀ k, v4.ownBlock = some k → k = w.heap.size ∨ w.heap.size + 6 ≤ k := fun k e => by
      rcases hnx with h | ⟨k', h, hk⟩
      · exact (hgk k (h ▸ e)).2
      · rw [h] at e; cases e; rw [size_alloc1] at hk; omega
    clear hoth e1' e2 e3 e4 e5 e5o e6 e7 hbn rB2 c5 hgr hnx hgk rN
    obtain ⟨ao4, ac4, hv4⟩ := slen_own hI4
    have c6 : w4'.cell? ⟨w.heap.size + 1, 0, none⟩ = some (.slice so L.length sc) := by rw [cell_of_row _ _ 0 _ _ _ q5]; rfl
    have f6 : w4'.frozen? ⟨w.heap.size + 1, 0, none⟩ = false := by simp [World.frozen?, q5]
    generalize (L ++ [X]).length = fl at hv4
    subst hv4
    gi_wp2_with (fail)
    have p1 := heap_other (g := w.heap.size + 1) (j := 0) (v := .slice ao4 fl ac4) q1 (by omega)
    have p2 := heap_other (g := w.heap.size + 1) (j := 0) (v := .slice ao4 fl ac4) q2 (by omega)
    have p3 := heap_other (g := w.heap.size + 1) (j := 0) (v := .slice ao4 fl ac4) q3 (by omega)
    have p4 := heap_other (g := w.heap.size + 1) (j := 0) (v := .slice ao4 fl ac4) q4 (by omega)
    have p6 := heap_other (g := w.heap.size + 1) (j := 0) (v := .slice ao4 fl ac4) q6 (by omega)
    have p5 := row_set q5 0 (.slice ao4 fl ac4)
    have p5o : OwnK (w4'.setCell ⟨w.heap.size + 1, 0, none⟩ (.slice ao4 fl ac4)) w.heap.size (.slice ao4 fl ac4) (L ++ [X]) := hI4.move (fun k o e h => heap_other h (by have := q5b k e; omega))
    have p7 : But c w (w4'.setCell ⟨w.heap.size + 1, 0, none⟩ (.slice ao4 fl ac4)) := but_grown q7 (grownBy_setCell' _ _ _) (fun k e => by cases e; omega)
    generalize w4'.setCell ⟨w.heap.size + 1, 0, none⟩ (.slice ao4 fl ac4) = w5 at *
    refine ⟨_, _, run_endRound none p1, .inl ⟨rfl, ?_, ?_, ?_, ?_, ⟨.slice ao4 fl ac4, ?_, ?_, q5b⟩, ?_, ?_⟩⟩
    · rw [World.putObj_heap_same (lt_of_row p1)]; simp [hrec]
    · exact (World.putObj_heap_other (by omega)).trans p2
    · exact (World.putObj_heap_other (by omega)).trans p3
    · exact (World.putObj_heap_other (by omega)).trans p4
    · exact (World.putObj_heap_other (by omega)).trans p5
    · rw [hmsg.out]; exact p5o.move (fun k o e h => (World.putObj_heap_other (by have := q5b k e; omega)).trans h)
    · rw [World.putObj_heap_other (by omega), p6]; simp [Int.add_assoc]
    · exact but_grown p7 (grownBy_putObj' _ _ _) (fun k e => by cases e; omega)
  · clear h0
    rintro e w2 ⟨⟨r, rfl⟩, (hJ | ⟨_, _, hF⟩)⟩
    · obtain ⟨j1, j2, j3, j4, ⟨u, j5, j5o, j5b⟩, j6, j7⟩ := hJ
      refine ⟨⟨_, rfl⟩, .inl ⟨j1, ?_⟩⟩
      have hoth : ∀ g, g ≠ w.heap.size + 4 + 1 → (w2.putObj (w.heap.size + 4 + 1) (.loop (rec .exhausted none))).heap[g]? = w2.heap[g]? := fun g hg => World.putObj_heap_other hg
      have k2 := (hoth (w.heap.size + 4) (by omega)).trans j2
      have k5 := (hoth (w.heap.size + 1) (by omega)).trans j5
      have k5o : OwnK (w2.putObj (w.heap.size + 4 + 1) (.loop (rec .exhausted none))) w.heap.size u (msgs key m) := j5o.move (fun k o e h => (hoth k (by have := j5b k e; omega)).trans h)
      have k6 := (hoth c (by omega)).trans j6
      have k7 := but_grown j7 (grownBy_putObj' w2 (w.heap.size + 4 + 1) (.loop (rec .exhausted none))) (fun k e => by cases e; omega)
      clear hoth j1 j2 j3 j4 j5 j5o j6 j7
      generalize w2.putObj (w.heap.size + 4 + 1) (.loop (rec .exhausted none)) = w3 at *
      obtain ⟨so, sc, rfl⟩ := slen_own k5o
      have hL := msgs_len key m
      generalize hfl : (msgs key m).length = fl at *
      have c4 : w3.cell? ⟨w.heap.size + 1, 0, none⟩ = some (.slice so fl sc) := by rw [cell_of_row _ _ 0 _ _ _ k5]; rfl
      clear hL
      replace hfl := hide hfl
      go_wp2_with (fail)
      refine ⟨by simp, .inl ⟨_, _, rfl, run_takeDeferred k2, ?_⟩⟩
      refine ⟨_, results_tmp2 rfl _ _ _, .slice so fl sc, rfl, ?_, ?_, ?_⟩
      · exact k5o.move (fun k o e h => (World.putObj_heap_other (by have := j5b k e; omega)).trans h)
      · exact (World.putObj_heap_other (by omega)).trans k6
      · exact but_grown k7 (grownBy_putObj' _ _ _) (fun k e => by cases e; omega)
    · exact hF.elim

end Go.Proofs.YtilgicikcjcdjaaDoor

namespace Go.Proofs.YtilgicikcjcdjaaDoor
set_option maxRecDepth 100000
open Go Go.RowKit Go.Sort
attribute [local go_sem] setCell_drewN alloc_drewN

theorem kcs_len : ∀ (ks : List (List Int)), (∀ k ∈ ks, k.length = 32) → (kcs ks).length = ks.length * 32
  | [], _ => rfl
  | k :: r, h => by
    have i := kcs_len r (fun x hx => h x (by simp [hx]))
    have e := h k (by simp)
    simp only [kcs, List.flatMap_cons, List.length_append, List.length_map, List.length_cons] at i ⊢
    omega
theorem kcs_get : ∀ (ks : List (List Int)) (i : Nat), (∀ k ∈ ks, k.length = 32) → i < ks.length → ((kcs ks).drop (i * 32)).take 32 = (ks.getD i []).map (Value.int .u8)
  | [], i, _, h => by simp at h
  | k :: r, 0, hl, _ => by
    have e := hl k (by simp)
    simp [kcs, e]
  | k :: r, (i + 1), hl, h => by
    have e := hl k (by simp)
    have j := kcs_get r i (fun x hx => hl x (by simp [hx])) (by simpa using h)
    rw [show kcs (k :: r) = k.map (Value.int .u8) ++ kcs r from rfl, show (i + 1) * 32 = (k.map (Value.int .u8)).length + i * 32 by simp [e]; omega, List.drop_append]
    simp only [Nat.add_sub_cancel_left, List.getD_cons_succ]
    rw [List.drop_eq_nil_of_le (by omega), List.nil_append]
    exact j
/-- A key of a list, as it lies there. -/
theorem OwnK.part {W : World} {b : Nat} {v : Value} {ks : List (List Int)} (h : OwnK W b v ks) (hl : ∀ k ∈ ks, k.length = 32) (i : Nat) (hi : i < ks.length) : ∃ g cap cur, v = .slice (some ⟨g, 0, none⟩) ks.length cap ∧ W.heap[g]? = some (.cells cur 26 (0, 0)) ∧ cur.extract (i * 32) (i * 32 + (irow .u8 (ks.getD i [])).size) = irow .u8 (ks.getD i []) := by
  obtain ⟨_, ⟨rfl, h0⟩ | ⟨g, cap, cur, rfl, _, hg, _, _, _, ht⟩⟩ := h
  · omega
  · refine ⟨g, cap, cur, rfl, hg, ?_⟩
    have hk : (ks.getD i []).length = 32 := hl _ (by rw [List.getD_eq_getElem?_getD, List.getElem?_eq_getElem hi]; exact List.getElem_mem _)
    have e := kcs_get ks i hl hi
    rw [← ht] at e
    apply Array.ext'
    rw [irow_size, hk]
    simp only [Array.toList_extract, irow, List.extract_eq_take_drop]
    rw [← e, List.drop_take, List.take_take]
    congr 1
    omega
set_option maxRecDepth 100000 in
set_option maxHeartbeats 4000000 in
theorem l_alike (ks : List (List Int)) (hl : ∀ k ∈ ks, k.length = 32) (hs : ks.length ≤ 1000000) (w : World) (b1 b2 : Nat) (v1 v2 : Value) (h1 : OwnK w b1 v1 ks) (h2 : OwnK w b2 v2 ks) : Calls Tryd.prog 18 #[v1, v2] w fun e w' => e = .returned (.bool true) ∧ Below w.heap.size w w' := by
  obtain ⟨a1, c1, e1⟩ := slen_own h1
  obtain ⟨a2, c2, e2⟩ := slen_own h2
  subst e1 e2
  go_enter Tryd.func18, Tryd.ntmps18
  go_wp2_with (fail)
  go_loopw [5] (fun i wr => ∃ k : Nat, k ≤ ks.length ∧ i = .int .i64 k ∧ Below w.heap.size w wr) (fun i _ => ks.length - (intOf i).toNat)
  case atStart => exact ⟨0, by omega, rfl, Below.refl _ _⟩
  case round =>
    obtain ⟨k, hk, rfl, hw⟩ := hrel
    by_cases hlt : k < ks.length
    · have hd : decide ((k : Int) < (ks.length : Int)) = true := by simp; omega
      obtain ⟨g1, cp1, cur1, hv1, r1, x1⟩ := (h1.keep hw).part hl k hlt
      obtain ⟨g2, cp2, cur2, hv2, r2, x2⟩ := (h2.keep hw).part hl k hlt
      cases hv1
      cases hv2
      have hX : (ks.getD k []).length = 32 := hl _ (by rw [List.getD_eq_getElem?_getD, List.getElem?_eq_getElem hlt]; exact List.getElem_mem _)
      have eX := eqKs _ hX
      generalize ks.getD k [] = X at *
      clear h1 h2
      generalize ks.length = L at *
      go_wp2_with (fail)
      have Hr1 := keepr r1
      have Hr2 := keepr r2
      refine wp_region_quiet_below (by kernel_rfl) (by kernel_rfl) ?_
      go_big_quiet_step (fail)
      go_big_quiet_step (fail)
      go_big_quiet_step (fail)
      refine wpQuiet_load_part rfl 26 _ rfl g1 (k * 32) rfl 26 cur1 (0, 0) (irow .u8 X) _ Hr1.out x1 Tryd.underlying26 rfl (infok8 _ hX) ?_
      simp only [Act.put, List.setIfInBounds_toArray, List.set_cons_succ, List.set_cons_zero]
      go_big_quiet_step (fail)
      go_big_quiet_step (fail)
      go_big_quiet_step (fail)
      refine wpQuiet_load_part rfl 26 _ rfl g2 (k * 32) rfl 26 cur2 (0, 0) (irow .u8 X) _ Hr2.out x2 Tryd.underlying26 rfl (infok8 _ hX) ?_
      simp only [Act.put, List.setIfInBounds_toArray, List.set_cons_succ, List.set_cons_zero]
      go_big_quiet_step (fail)
      refine wpQuiet_nil ?_
      rintro _ ⟨p, rfl⟩
      have hb := below_regrown wr p.d p.os
      generalize grow (redrawn wr p.d) p.os = w5 at *
      clear Hr1 Hr2
      replace r1 := keep hb r1
      replace r2 := keep hb r2
      replace hw := Below.after hw hb
      clear hb
      go_wp2_with (fail)
      refine ⟨⟨k + 1, by omega, by go_num, hw⟩, ?_⟩
      simp [intOf]; omega
    · obtain rfl : k = ks.length := by omega
      have hd : decide ((ks.length : Int) < (ks.length : Int)) = false := by simp
      clear h1 h2
      generalize ks.length = L at *
      go_wp2_with (fail)
      go_ret
      exact ⟨rfl, hw⟩

end Go.Proofs.YtilgicikcjcdjaaDoor

namespace Go.Proofs.YtilgicikcjcdjaaDoor
set_option maxRecDepth 100000
open Go Go.RowKit Go.Sort
attribute [local go_sem] setCell_drewN alloc_drewN

/-- The marks behind what is handed. -/
def mk4 (k : Nat) : List Int := (List.range k).map fun (i : Nat) => 100 + (i : Int)
theorem mk4_len (k : Nat) : (mk4 k).length = k := by simp [mk4]
theorem mk4_get (k i : Nat) (h : i < k) : (mk4 k).getD i 0 = 100 + (i : Int) := by
  simp [mk4, List.getD_eq_getElem?_getD, List.getElem?_map, List.getElem?_range h]
/-- Some marks are there, zeros behind them. -/
def mz (k : Nat) : List Int := mk4 k ++ zr (80 - k)
theorem mz_len (k : Nat) (h : k ≤ 80) : (mz k).length = 80 := by simp [mz, mk4_len, zr_len]; omega
theorem mz_set (k : Nat) (h : k < 80) : (mz k).set k (100 + (k : Int)) = mz (k + 1) := by
  have e1 : zr (80 - k) = 0 :: zr (80 - (k + 1)) := by
    rw [show 80 - k = (80 - (k + 1)) + 1 by omega]; rfl
  have e2 : mk4 (k + 1) = mk4 k ++ [100 + (k : Int)] := by simp [mk4, List.range_succ]
  rw [mz, mz, e1, e2, List.set_append_right _ _ (by rw [mk4_len]; exact Nat.le_refl _), mk4_len, Nat.sub_self, List.set_cons_zero, List.append_assoc]
  rfl
theorem bmz_set (bs : List Int) (k : Nat) (h : k < 80) : (bs ++ mz k).set (bs.length + k) (100 + (k : Int)) = bs ++ mz (k + 1) := by
  rw [List.set_append_right _ _ (by omega), Nat.add_sub_cancel_left, mz_set k h]
/-- The bytes turned about and changed. -/
def tn4 (bs : List Int) : List Int := xl bs.reverse 51
theorem tn4_len (bs : List Int) : (tn4 bs).length = bs.length := by simp [tn4, xl_len]
theorem tn4_bd (bs : List Int) : ∀ z ∈ tn4 bs, 0 ≤ z ∧ z < 256 := xl_bd _ _
theorem tn4_get (bs : List Int) (i : Nat) (h : i < bs.length) : (tn4 bs).getD i 0 = bits .xor .u8 (bs.getD (bs.length - 1 - i) 0) 51 := by
  rw [tn4, xl_get _ _ _ (by simpa using h), List.getD_eq_getElem?_getD, List.getElem?_reverse h, List.getD_eq_getElem?_getD]
theorem make_len (n : Nat) (hn : n ≤ 140737488355328) (w : World) : (Instr.makeSlice 67 (.int .i64 (n : Int)) (.int .i64 (n : Int))).run Tryd.prog w = .ok (.slice (some ⟨w.heap.size, 0, none⟩) n n) (w.alloc (.cells (irow .u8 (zr n)) 5)) := make_i64 n (by omega) w
theorem conv_bys {W : World} {v : Value} {bs : List Int} (h : Bys W v bs) : (convert 67 9 v).run Tryd.prog W = .ok (.string (strOfNums bs)) W := by
  obtain ⟨ao, cap, rfl, _, hc, _⟩ := h
  cases ao with
  | none =>
    have : bs = [] := by
      cases bs with
      | nil => rfl
      | cons x xs => obtain ⟨b, off, e, _⟩ := hc 0 (by simp); cases e
    subst this
    exact run_convert_bytes_nil W 67 5 Tryd.underlying67 Tryd.underlying5 _ _ 9 Tryd.underlying9
  | some ad =>
    rcases Nat.eq_zero_or_pos bs.length with e0 | e0
    · have : bs = [] := List.eq_nil_of_length_eq_zero e0
      subst this
      obtain ⟨b, off, sp⟩ := ad
      rw [run_convert_bytes_string W 67 9 5 _ _ _ Tryd.underlying67 Tryd.underlying5 Tryd.underlying9]
      have := run_bytesToString (P := Tryd.prog) W ⟨b, off, sp⟩ 0 cap [] (by rfl)
      exact this
    · obtain ⟨b, off, e, _⟩ := hc 0 e0
      cases e
      exact run_convert_bytes_arg W 67 5 Tryd.underlying67 Tryd.underlying5 b off bs.length cap bs rfl (fun i hi => by
        obtain ⟨b', off', e, _, h⟩ := hc i hi
        cases e
        exact h) 9 Tryd.underlying9
theorem str_inj {a b : List Int} (ha : ∀ z ∈ a, 0 ≤ z ∧ z < 256) (hb : ∀ z ∈ b, 0 ≤ z ∧ z < 256) (h : strOfNums a = strOfNums b) : a = b := by
  have h1 := congrArg (fun x => x.data.toList) h
  simp only [strOfNums_data] at h1
  have key : ∀ (a b : List Int), (∀ z ∈ a, 0 ≤ z ∧ z < 256) → (∀ z ∈ b, 0 ≤ z ∧ z < 256) → a.map (fun n => UInt8.ofNat n.toNat) = b.map (fun n => UInt8.ofNat n.toNat) → a = b := by
    intro a
    induction a with
    | nil => intro b _ _ h; cases b with
      | nil => rfl
      | cons y ys => simp at h
    | cons x xs ih => intro b ha hb h; cases b with
      | nil => simp at h
      | cons y ys =>
        simp only [List.map_cons, List.cons.injEq] at h
        have hx := ha x (by simp)
        have hy := hb y (by simp)
        have e := congrArg UInt8.toNat h.1
        simp only [UInt8.toNat_ofNat'] at e
        rw [Nat.mod_eq_of_lt (by omega), Nat.mod_eq_of_lt (by omega)] at e
        have exy : x = y := by omega
        rw [exy, ih ys (fun z h => ha z (by simp [h])) (fun z h => hb z (by simp [h])) h.2]
  exact key a b ha hb h1
theorem str_dec {a b : List Int} (ha : ∀ z ∈ a, 0 ≤ z ∧ z < 256) (hb : ∀ z ∈ b, 0 ≤ z ∧ z < 256) : ((strOfNums a).toList == (strOfNums b).toList) = decide (a = b) := by
  by_cases h : a = b
  · subst h; simp
  · rw [decide_eq_false h, beq_eq_false_iff_ne]
    intro e
    rw [ByteArray.toList_eq, ByteArray.toList_eq] at e
    exact h (str_inj ha hb (Go.WideShapes.bytes_inj e))
end Go.Proofs.YtilgicikcjcdjaaDoor

namespace Go.Proofs.YtilgicikcjcdjaaDoor
set_option maxRecDepth 100000
open Go Go.RowKit Go.Sort
attribute [local go_sem] setCell_drewN alloc_drewN

/-- A call that answers v in every world that keeps what was in w. -/
def GivesB (w : World) (f : FuncId) (args : Array Value) (v : Value) : Prop := ∀ W, Below w.heap.size w W → Calls Tryd.prog f args W fun e w' => e = .returned v ∧ Below W.heap.size W w'
theorem GivesB.keep {w W : World} {f : FuncId} {args : Array Value} {v : Value} (h : GivesB w f args v) (hb : Below w.heap.size w W) : GivesB W f args v := fun V hV => h V (Below.after hb hV)
theorem GivesB.re {w : World} {f : FuncId} {args : Array Value} {v : Value} (h : GivesB w f args v) {d : Nat} {os : Array Obj} : Calls Tryd.prog f args (grow (redrawn w d) os) fun e w'' => e = .returned v ∧ ∃ p : Regrown, w'' = grow (redrawn w p.d) p.os := Calls.regrown_of (h _ (below_regrown w d os))
theorem GivesB.at {w : World} {f : FuncId} {args : Array Value} {v : Value} (h : GivesB w f args v) : Calls Tryd.prog f args w fun e w' => e = .returned v ∧ Below w.heap.size w w' := h w (Below.refl _ _)
theorem eqHm (l : List Int) (hl : l.length = 32) (W : World) : (Op.equalIn 10000 26 (.agg (irow .u8 l)) (.agg (irow .u8 l))).run Tryd.prog W = .ok true W := by
  rw [eqK _ _ hl hl]; simp
end Go.Proofs.YtilgicikcjcdjaaDoor

namespace Go.Proofs.YtilgicikcjcdjaaDoor
set_option maxRecDepth 100000
open Go Go.RowKit Go.Sort
attribute [local go_sem] setCell_drewN alloc_drewN

attribute [local go_sem] Oper.semAt_some
theorem wp_append_Ks {w : World} {o : Oper} {a : Act} {K : Act → World → Prop} {Q : Exit → Act → World → Prop} (s x : Operand) (ho : o.op = .call { callee := .builtin .append, args := #[s, x], argTypes := #[54, 54] })
    (base : Nat) (v : Value) (ks : List (List Int)) (hs : a.eval s = v) (hI : OwnK w base v ks) (b2 : Nat) (y : Value) (es : List (List Int)) (hx : a.eval x = y) (hE : OwnK w b2 y es) (hlen : ks.length + es.length ≤ 1000000) (hbase : base ≤ w.heap.size)
    (h : ∀ v' w', OwnK w' base v' (ks ++ es) → w.grownBy w' v.ownBlock → Nx w v v' → K (a.put o.dst v') w') : o.wp Tryd.prog a w K Q := by
  obtain ⟨i0, hi, hz0, hz1, hz2⟩ := infoKy
  rcases hE.2 with ⟨rfl, h0⟩ | ⟨g, cap, cur, rfl, _⟩
  · obtain rfl : es = [] := List.length_eq_zero_iff.1 h0
    have hrun := run_append_owned_none (P := Tryd.prog) w base 54 o.type 26 i0 32 Tryd.underlying54 hi _ ks.length _ hI
    unfold Oper.wp
    simp [execOp, ho, resolve, invoke, builtin, hs, hx, hrun, Result.andThen]
    exact h v w (by simpa using hI) (World.grownBy.refl _ _) (Nx.refl _ _)
  · refine wp_append_nx s x 54 ho base 26 i0 (.agg (irow .u8 (zr 32))) 32 32 Tryd.underlying54 hi hz0 hz1 hz2 rfl (by decide) v ks.length (kcs ks) hs hI ⟨g, 0, none⟩ es.length cap (kcs es) hx hE.1 (World.ownsRow.cells hE rfl) ?_ (by unfold maxLen; omega) (by omega) hbase (fun v' w' h1 h2 h3 => h v' w' ?_ h2 h3)
    · intro u hu
      simp only [kcs, List.mem_flatMap, List.mem_map] at hu
      obtain ⟨k, _, z, _, rfl⟩ := hu
      rfl
    · unfold OwnK
      rw [kcs_app, List.length_append]
      exact h1
theorem msgs_all (key : List Int) (m : Nat) : ∀ k ∈ msgs key m, k.length = 32 := by
  intro k hk
  simp only [msgs, List.mem_map] at hk
  obtain ⟨i, _, rfl⟩ := hk
  exact mat_len key i
theorem msgs_get (key : List Int) (m : Nat) : ∀ i, i < m → (msgs key m).getD i [] = mat key i := by
  intro i hi
  simp [msgs, List.getD_eq_getElem?_getD, hi]
theorem ecut4 {G : Prop} {A : Nat → Nat → Value → Value → World → Prop} (T : Nat → Nat → Value → Value → World → Prop) (h1 : (∀ a b c d W, T a b c d W → A a b c d W) → G) (h2 : ∀ a b c d W, T a b c d W → A a b c d W) : G := h1 h2
theorem lt_of_heap {W : World} {g : Nat} {o : Obj} (h : W.heap[g]? = some o) : g < W.heap.size := (Array.getElem?_eq_some_iff.1 h).1
theorem ownK_empty {W : World} {g : Nat} (r : W.heap[g]? = some (.cells #[] 26 (0, 0))) : OwnK W g (.slice (some ⟨g, 0, none⟩) 0 0) [] := ⟨rfl, .inr ⟨g, 0, #[], rfl, Nat.le_refl _, r, Nat.le_refl _, by decide, rfl, rfl⟩⟩
theorem nilfn (lb : Array Value) (W : World) : (binOp .eql 64 (.func (.func 24) #[] lb) .nilFunc).run Tryd.prog W = .ok (.bool false) W := by kernel_rfl
/-- What holds between two rounds. -/
def FwJ (w w4 : World) (e : Nat) (key : List Int) (r : Loop) (i : Nat) (A : World) : Prop :=
  A.heap[e + 5]? = some (.loop r) ∧ A.heap[e + 4]? = some (.deferred (some [])) ∧ (∃ v, A.heap[e + 1]? = some (.cells #[v] 54 (0, 0)) ∧ OwnK A e v (msgs key i) ∧ ∀ k, v.ownBlock = some k → k = e ∨ e + 9 ≤ k) ∧ (∀ g, g < e → A.heap[g]? = w4.heap[g]?) ∧ Below w.heap.size w A
theorem results_cell_bool {P : Program} {fn : Func} {p : Tmp} {ty : TypeId} (h : fn.results = #[.cell p ty]) (tmps : Array Value) (w : World) (g : Nat) (v : Value) (hp : tmps.getD p undef = .pointer (some ⟨g, 0, none⟩)) (hg : (loadVar ty ⟨g, 0, none⟩).run P w = .ok v w) : (results fn tmps).run P w = .ok v w := by
  have hp' : tmps[p]?.getD undef = .pointer (some ⟨g, 0, none⟩) := by simpa using hp
  simp [results, h, hp', asAddr, hg]
theorem row_cell_set {w : World} {g : Nat} {u : Value} {t : TypeId} (h : w.heap[g]? = some (.cells #[u] t (0, 0))) (b : Value) : (loadVar 4 ⟨g, 0, none⟩).run Tryd.prog (w.setCell ⟨g, 0, none⟩ b) = .ok b (w.setCell ⟨g, 0, none⟩ b) := by
  have r := row_set h 0 b
  have c : (w.setCell ⟨g, 0, none⟩ b).cell? ⟨g, 0, none⟩ = some b := by rw [cell_of_row _ g 0 _ _ _ r]; rfl
  simp [loadVar, c, go_sem]
theorem row_load {w : World} {g : Nat} {b : Value} {t : TypeId} (h : w.heap[g]? = some (.cells #[b] t (0, 0))) : (loadVar 4 ⟨g, 0, none⟩).run Tryd.prog w = .ok b w := by
  have c : w.cell? ⟨g, 0, none⟩ = some b := by rw [cell_of_row _ g 0 _ _ _ h]; rfl
  simp [loadVar, c, go_sem]
theorem new_k (key : List Int) (hkl : key.length = 32) (n : Int) (w : World) : Calls Tryd.prog 4 #[.agg (irow .u8 key), .int .u32 n] w fun e w' => ∃ v, e = .returned v ∧ ((∃ g, v = .pointer (some ⟨g, 0, none⟩) ∧ w.heap.size ≤ g ∧ w'.heap[g]? = some (.cells (chc key n) 48 (0, 0))) ∧ Below w.heap.size w w') :=
  (a_New key hkl n w).mono fun _ _ ⟨g, h1, h2, h3, h4⟩ => ⟨_, h1, ⟨g, rfl, h2, h3⟩, h4⟩
end Go.Proofs.YtilgicikcjcdjaaDoor

namespace Go.Proofs.YtilgicikcjcdjaaDoor
set_option maxRecDepth 100000
open Go Go.RowKit Go.Sort
attribute [local go_sem] setCell_drewN alloc_drewN

theorem wrap32 (x : Int) (h0 : 0 ≤ x) (h1 : x ≤ 4294967295) : IntKind.u32.wrap x = x := by
  have e : x % 2 ^ IntKind.u32.bits = x := Int.emod_eq_of_lt h0 (by show x < 2 ^ 32; omega)
  unfold IntKind.wrap
  simp only [e, IntKind.signed]
  simp
theorem results_c2s {P : Program} {fn : Func} {p q r : Tmp} {ty tz : TypeId} (h : fn.results = #[.cell p ty, .cell q tz, .tmp r]) (tmps : Array Value) (w : World) (g k : Nat) (t u : TypeId) (cs ds : Array Value) (fr gr : Nat × Nat) (d d2 : TypeDesc)
    (hp : tmps.getD p undef = .pointer (some ⟨g, 0, none⟩)) (hq : tmps.getD q undef = .pointer (some ⟨k, 0, none⟩)) (hg : w.heap[g]? = some (.cells cs t fr)) (hk : w.heap[k]? = some (.cells ds u gr))
    (hu : P.underlying ty = some d) (hd : (match d with | .struct _ | .array _ _ => true | _ => false) = true) (hu2 : P.underlying tz = some d2) (hd2 : (match d2 with | .struct _ | .array _ _ => true | _ => false) = true) (hi : (P.info? ty).map (·.size) = some cs.size) (hj : (P.info? tz).map (·.size) = some ds.size) :
    (results fn tmps).run P w = .ok (.tuple #[.agg cs, .agg ds, tmps.getD r undef]) w := by
  have hp' : tmps[p]?.getD undef = .pointer (some ⟨g, 0, none⟩) := by simpa using hp
  have hq' : tmps[q]?.getD undef = .pointer (some ⟨k, 0, none⟩) := by simpa using hq
  simp [results, h, hp', hq', asAddr, run_loadVar_row w g t ty cs fr d hg hu hd hi, run_loadVar_row w k u tz ds gr d2 hk hu2 hd2 hj]
set_option maxRecDepth 100000 in
set_option maxHeartbeats 4000000 in
theorem r_Next_end (key : List Int) (hkl : key.length = 32) (w : World) : Calls Tryd.prog 10 #[.agg (chc key 4294967295)] w fun e w' => e = .returned (.tuple #[.agg (chc key 4294967295), .agg (irow .u8 (zr 32)), .int .i64 110]) ∧ Below w.heap.size w w' := by
  have R0 := hp3_0 w (.cells (chc key 4294967295) 29) (.cells (chc (zr 32) 0) 29) (.cells (irow .u8 (zr 32)) 26)
  have R1 := hp3_1 w (.cells (chc key 4294967295) 29) (.cells (chc (zr 32) 0) 29) (.cells (irow .u8 (zr 32)) 26)
  have R2 := hp3_2 w (.cells (chc key 4294967295) 29) (.cells (chc (zr 32) 0) 29) (.cells (irow .u8 (zr 32)) 26)
  have hw : Below w.heap.size w (((w.alloc (.cells (chc key 4294967295) 29)).alloc (.cells (chc (zr 32) 0) 29)).alloc (.cells (irow .u8 (zr 32)) 26)) := ((((Below.refl _ _).alloc (Nat.le_refl _) _).alloc (by simp) _).alloc (by simp; omega) _)
  have c0 := cell_n key hkl R0
  have k1 := setRow_heap _ (w.heap.size + 1) _ (chc key 4294967295) _ _ R1
  have k2 := (setRow_other (((w.alloc (.cells (chc key 4294967295) 29)).alloc (.cells (chc (zr 32) 0) 29)).alloc (.cells (irow .u8 (zr 32)) 26)) (w.heap.size + 1) (w.heap.size + 1 + 1) (chc key 4294967295) (by omega)).trans R2
  go_enter Tryd.func10, Tryd.ntmps10
  go_wp2_with (first | (refine wpList_box rfl 29 _ rfl _ rfl (bR _) ?_) | (refine wpList_alloc rfl 29 rfl (chc (zr 32) 0) zchr ?_) | (refine wpList_alloc rfl 26 rfl (irow .u8 (zr 32)) zkey ?_) | (refine wpList_load_want rfl 29 _ rfl (w.heap.size) rfl 29 (chc key 4294967295) (0, 0) _ R0 Tryd.underlying29 rfl (infoR _ hkl _) ?_) | (refine wpList_build_as rfl 26 _ rfl [] rfl (irow .u8 (zr 32)) zbt11 ?_) | (refine wpList_store_row rfl 29 _ _ rfl (w.heap.size + 1) (chc key 4294967295) rfl rfl 29 _ R1 (infoR _ hkl _) (by rw [chc_size _ (zr_len 32), chc_size _ hkl]) (chc_one _ _) ?_; refine wpList_stay ?_) | fail)
  unfold WpStay
  go_wp2_with (first | (refine wpList_store_row rfl 26 _ _ rfl (w.heap.size + 1 + 1) (irow .u8 (zr 32)) rfl rfl 26 _ k2 (infok8 _ (zr_len 32)) rfl (irow_one _ _) ?_) | fail)
  exact bodyPost_ret (results_c2s Tryd.results10 _ _ (w.heap.size + 1) (w.heap.size + 1 + 1) _ _ _ _ _ _ _ _ rfl rfl ((setRow_other _ (w.heap.size + 1 + 1) (w.heap.size + 1) _ (by omega)).trans k1) (setRow_heap _ (w.heap.size + 1 + 1) _ (irow .u8 (zr 32)) _ _ k2) Tryd.underlying29 rfl Tryd.underlying26 rfl (infoR _ hkl _) (infok8 _ (zr_len 32))) rfl ⟨rfl, below_setRow (below_setRow hw (show w.heap.size ≤ w.heap.size + 1 by omega) _) (show w.heap.size ≤ w.heap.size + 1 + 1 by omega) _⟩
set_option maxRecDepth 100000 in
set_option maxHeartbeats 4000000 in
theorem r_Next_aux (key A2 A1 : List Int) (hkl : key.length = 32) (l2 : A2.length = 32) (l1 : A1.length = 32) (n : Int) (hn0 : 0 ≤ n) (hn1 : n ≤ 4294967294) (w : World)
    (cS : ∀ V, Calls Tryd.prog 15 #[.agg (irow .u8 key)] V fun e w' => e = .returned (.tuple #[.agg (irow .u8 A2), .agg (irow .u8 A1)]) ∧ Below V.heap.size V w') :
    Calls Tryd.prog 10 #[.agg (chc key n)] w fun e w' => e = .returned (.tuple #[.agg (chc A2 (n + 1)), .agg (irow .u8 A1), .int .i64 0]) ∧ Below w.heap.size w w' := by
  have R0 := hp3_0 w (.cells (chc key n) 29) (.cells (chc (zr 32) 0) 29) (.cells (irow .u8 (zr 32)) 26)
  have R1 := hp3_1 w (.cells (chc key n) 29) (.cells (chc (zr 32) 0) 29) (.cells (irow .u8 (zr 32)) 26)
  have R2 := hp3_2 w (.cells (chc key n) 29) (.cells (chc (zr 32) 0) 29) (.cells (irow .u8 (zr 32)) 26)
  have hw : Below w.heap.size w (((w.alloc (.cells (chc key n) 29)).alloc (.cells (chc (zr 32) 0) 29)).alloc (.cells (irow .u8 (zr 32)) 26)) := ((((Below.refl _ _).alloc (Nat.le_refl _) _).alloc (by simp) _).alloc (by simp; omega) _)
  have c0 := cell_n key hkl R0
  have hd : (n == 4294967295) = false := by simp; omega
  have hd2 : decide (n = 4294967295) = false := by simp; omega
  have hwr := wrap32 (n + 1) (by omega) (by omega)
  go_enter Tryd.func10, Tryd.ntmps10
  go_wp2_with (first | (refine wpList_box rfl 29 _ rfl _ rfl (bR _) ?_) | (refine wpList_alloc rfl 29 rfl (chc (zr 32) 0) zchr ?_) | (refine wpList_alloc rfl 26 rfl (irow .u8 (zr 32)) zkey ?_) | (refine wpList_load_part rfl 26 _ rfl (w.heap.size) 0 rfl 29 (chc key n) (0, 0) (irow .u8 key) _ R0 (chc_key _ hkl _) Tryd.underlying26 rfl (infok8 _ hkl) ?_) | fail)
  try simp only [size_alloc1, Act.put, List.setIfInBounds_toArray, List.set_cons_succ, List.set_cons_zero]
  clear hd hd2 c0
  generalize (((w.alloc (.cells (chc key n) 29)).alloc (.cells (chc (zr 32) 0) 29)).alloc (.cells (irow .u8 (zr 32)) 26)) = w0 at *
  refine (cS w0).mono ?_
  rintro e_ w1 ⟨rfl, hb⟩
  replace R0 := keep hb R0
  replace R1 := keep hb R1
  replace R2 := keep hb R2
  have lR2 := lt_of_row R2
  replace hw := Below.after hw hb
  clear hb cS
  have zc0 := hp2_0 w1 (.cells (irow .u8 (zr 32)) 26) (.cells (irow .u8 (zr 32)) 26)
  have zc1 := hp2_1 w1 (.cells (irow .u8 (zr 32)) 26) (.cells (irow .u8 (zr 32)) 26)
  have yc00 := setRow_heap ((w1.alloc (.cells (irow .u8 (zr 32)) 26)).alloc (.cells (irow .u8 (zr 32)) 26)) (w1.heap.size) _ (irow .u8 A2) _ _ zc0
  have yc01 := (setRow_other ((w1.alloc (.cells (irow .u8 (zr 32)) 26)).alloc (.cells (irow .u8 (zr 32)) 26)) (w1.heap.size) (w1.heap.size + 1) (irow .u8 A2) (by omega)).trans zc1
  have yc10 := (setRow_other (((w1.alloc (.cells (irow .u8 (zr 32)) 26)).alloc (.cells (irow .u8 (zr 32)) 26)).setRow (w1.heap.size) (irow .u8 A2)) (w1.heap.size + 1) (w1.heap.size) (irow .u8 A1) (by omega)).trans yc00
  have yc11 := setRow_heap (((w1.alloc (.cells (irow .u8 (zr 32)) 26)).alloc (.cells (irow .u8 (zr 32)) 26)).setRow (w1.heap.size) (irow .u8 A2)) (w1.heap.size + 1) _ (irow .u8 A1) _ _ yc01
  have hbF : Below w1.heap.size w1 ((((w1.alloc (.cells (irow .u8 (zr 32)) 26)).alloc (.cells (irow .u8 (zr 32)) 26)).setRow (w1.heap.size) (irow .u8 A2)).setRow (w1.heap.size + 1) (irow .u8 A1)) := (below_setRow (below_setRow (((Below.refl _ _).alloc (Nat.le_refl _) _).alloc (by simp) _) (show w1.heap.size ≤ w1.heap.size by omega) (irow .u8 A2)) (show w1.heap.size ≤ w1.heap.size + 1 by omega) (irow .u8 A1))
  go_wp2_with (first | (refine wpList_alloc rfl 26 rfl (irow .u8 (zr 32)) zkey ?_) | (refine wpList_store_row rfl 26 _ _ rfl (w1.heap.size) (irow .u8 A2) rfl rfl 26 _ zc0 (infok8 _ l2) (fit32 _ _ (zr_len 32) l2) (irow_one _ _) ?_; refine wpList_stay ?_) | fail)
  unfold WpStay
  go_wp2_with (first | (refine wpList_store_row rfl 26 _ _ rfl (w1.heap.size + 1) (irow .u8 A1) rfl rfl 26 _ yc01 (infok8 _ l1) (fit32 _ _ (zr_len 32) l1) (irow_one _ _) ?_; refine wpList_stay ?_) | fail)
  unfold WpStay
  replace R0 := keep hbF R0
  replace R1 := keep hbF R1
  replace R2 := keep hbF R2
  replace hw := Below.after hw hbF
  clear hbF zc0 zc1 yc00 yc01
  generalize ((((w1.alloc (.cells (irow .u8 (zr 32)) 26)).alloc (.cells (irow .u8 (zr 32)) 26)).setRow (w1.heap.size) (irow .u8 A2)).setRow (w1.heap.size + 1) (irow .u8 A1)) = w2 at *
  generalize w1.heap.size = g1 at *
  go_wp2_with (fail)
  have hbd : Below w2.heap.size w2 w2.drew := below_drN (Below.refl _ _) 1
  replace R0 := keep hbd R0
  replace R1 := keep hbd R1
  replace R2 := keep hbd R2
  replace yc10 := keep hbd yc10
  replace yc11 := keep hbd yc11
  replace hw := Below.after hw hbd
  clear hbd
  refine wp_region_noPanic ?_
  refine wp_region_held (S := fun W => W.heap[w.heap.size]? = some (.cells (chc key n) 29 (0, 0)) ∧ W.heap[g1]? = some (.cells (irow .u8 A2) 26 (0, 0)) ∧ W.heap[g1 + 1]? = some (.cells (irow .u8 A1) 26 (0, 0))) (by kernel_rfl) ?_
  change wpAnyH _ _ _ _ _ _ _ _ (World.drew _)
  generalize w2.drew = w3 at *
  refine wpAnyH_take (i := 0) (v := .agg (irow .u8 A2)) rfl (by kernel_rfl) (by kernel_rfl) (by kernel_rfl) (fun _ _ _ h => h) (Or.inl ⟨by rfl, ?y3⟩) (⟨R0, yc10, yc11⟩) ?r3
  case y3 =>
    intro w_ hS_
    simp only [List.getElem_toArray, List.getElem_cons_zero]
    exact run_load_part 26 _ (by rfl) (g1) 0 (by rfl) 26 (irow .u8 A2) (0, 0) (irow .u8 A2) _ (hS_.2.1) (all_row _) Tryd.underlying26 rfl (infok8 _ l2)
  simp only [Act.put, List.getElem_toArray, List.getElem_cons_zero, List.setIfInBounds_toArray, List.set_cons_succ, List.set_cons_zero]
  refine wpAnyH_take (i := 1) (v := ?v4) rfl (by kernel_rfl) (by kernel_rfl) (by kernel_rfl) (fun _ _ _ h => h) (Or.inl ⟨by rfl, ?y4⟩) (⟨R0, yc10, yc11⟩) ?r4
  case y4 =>
    intro w_ hS_
    go_simp
    try with_reducible rfl
  simp only [Act.put, List.getElem_toArray, List.getElem_cons_succ, List.getElem_cons_zero, List.setIfInBounds_toArray, List.set_cons_succ, List.set_cons_zero]
  refine wpAnyH_take (i := 2) (v := .int .u32 n) rfl (by kernel_rfl) (by kernel_rfl) (by kernel_rfl) (fun _ _ _ h => h) (Or.inl ⟨by rfl, ?y5⟩) (⟨R0, yc10, yc11⟩) ?r5
  case y5 =>
    intro w_ hS_
    have c_ := cell_n key hkl hS_.1
    go_simp
    try with_reducible rfl
  simp only [Act.put, List.getElem_toArray, List.getElem_cons_succ, List.getElem_cons_zero, List.setIfInBounds_toArray, List.set_cons_succ, List.set_cons_zero]
  refine wpAnyH_take (i := 3) (v := ?v6) rfl (by kernel_rfl) (by kernel_rfl) (by kernel_rfl) (fun _ _ _ h => h) (Or.inl ⟨by rfl, ?y6⟩) (⟨R0, yc10, yc11⟩) ?r6
  case y6 =>
    intro w_ hS_
    go_simp
    try with_reducible rfl
  simp only [Act.put, List.getElem_toArray, List.getElem_cons_succ, List.getElem_cons_zero, List.setIfInBounds_toArray, List.set_cons_succ, List.set_cons_zero]
  refine wpAnyH_take (i := 4) (v := .agg (chc A2 (n + 1))) rfl (by kernel_rfl) (by kernel_rfl) (by kernel_rfl) (fun _ _ _ h => h) (Or.inl ⟨by rfl, ?y7⟩) (⟨R0, yc10, yc11⟩) ?r7
  case y7 =>
    intro w_ hS_
    have h_ := run_build (P := Tryd.prog) w_ 29 #[(0, .agg (irow .u8 A2)), (1, .int .u32 (n + 1))] (chc A2 (n + 1)) (builtR A2 l2 (n + 1))
    simp [execOp, Act.eval, h_, Result.andThen]
  simp only [Act.put, List.getElem_toArray, List.getElem_cons_succ, List.getElem_cons_zero, List.setIfInBounds_toArray, List.set_cons_succ, List.set_cons_zero]
  refine wpAnyH_take (i := 5) (v := .agg (irow .u8 A1)) rfl (by kernel_rfl) (by kernel_rfl) (by kernel_rfl) (fun _ _ _ h => h) (Or.inl ⟨by rfl, ?y8⟩) (⟨R0, yc10, yc11⟩) ?r8
  case y8 =>
    intro w_ hS_
    simp only [List.getElem_toArray, List.getElem_cons_succ, List.getElem_cons_zero]
    exact run_load_part 26 _ (by rfl) (g1 + 1) 0 (by rfl) 26 (irow .u8 A1) (0, 0) (irow .u8 A1) _ (hS_.2.2) (all_row _) Tryd.underlying26 rfl (infok8 _ l1)
  simp only [Act.put, List.getElem_toArray, List.getElem_cons_succ, List.getElem_cons_zero, List.setIfInBounds_toArray, List.set_cons_succ, List.set_cons_zero]
  refine wpAnyH_one (k := 6) (fuel := 2) (by kernel_rfl) rfl (by kernel_rfl) (fun K_ hK_ => ?_)
  refine wp_store_row 29 _ _ rfl (w.heap.size + 1) (chc A2 (n + 1)) rfl rfl 29 _ R1 (infoR _ l2 _) (by rw [chc_size _ (zr_len 32), chc_size _ l2]) (chc_one _ _) ?_
  replace R0 := (setRow_other w3 (w.heap.size + 1) (w.heap.size) (chc A2 (n + 1)) (by omega)).trans R0
  replace R2 := (setRow_other w3 (w.heap.size + 1) (w.heap.size + 1 + 1) (chc A2 (n + 1)) (by omega)).trans R2
  replace yc10 := (setRow_other w3 (w.heap.size + 1) (g1) (chc A2 (n + 1)) (by omega)).trans yc10
  replace yc11 := (setRow_other w3 (w.heap.size + 1) (g1 + 1) (chc A2 (n + 1)) (by omega)).trans yc11
  replace R1 := setRow_heap w3 (w.heap.size + 1) _ (chc A2 (n + 1)) _ _ R1
  replace hw := below_setRow hw (show w.heap.size ≤ w.heap.size + 1 by omega) (chc A2 (n + 1))
  refine hK_ _ _ (⟨R0, yc10, yc11⟩) ?_
  simp only [Act.put]
  clear hK_
  generalize w3.setRow (w.heap.size + 1) (chc A2 (n + 1)) = q1 at *
  refine wpAnyH_one (k := 7) (fuel := 1) (by kernel_rfl) rfl (by kernel_rfl) (fun K_ hK_ => ?_)
  refine wp_store_row 26 _ _ rfl (w.heap.size + 1 + 1) (irow .u8 A1) rfl rfl 26 _ R2 (infok8 _ l1) (fit32 _ _ (zr_len 32) l1) (irow_one _ _) ?_
  replace R0 := (setRow_other q1 (w.heap.size + 1 + 1) (w.heap.size) (irow .u8 A1) (by omega)).trans R0
  replace R1 := (setRow_other q1 (w.heap.size + 1 + 1) (w.heap.size + 1) (irow .u8 A1) (by omega)).trans R1
  replace yc10 := (setRow_other q1 (w.heap.size + 1 + 1) (g1) (irow .u8 A1) (by omega)).trans yc10
  replace yc11 := (setRow_other q1 (w.heap.size + 1 + 1) (g1 + 1) (irow .u8 A1) (by omega)).trans yc11
  replace R2 := setRow_heap q1 (w.heap.size + 1 + 1) _ (irow .u8 A1) _ _ R2
  replace hw := below_setRow hw (show w.heap.size ≤ w.heap.size + 1 + 1 by omega) (irow .u8 A1)
  refine hK_ _ _ (⟨R0, yc10, yc11⟩) ?_
  simp only [Act.put]
  clear hK_
  generalize q1.setRow (w.heap.size + 1 + 1) (irow .u8 A1) = q2 at *
  refine wpAnyH_take (i := 8) (v := ?v9) rfl (by kernel_rfl) (by kernel_rfl) (by kernel_rfl) (fun _ _ _ h => h) (Or.inl ⟨by rfl, ?y9⟩) (⟨R0, yc10, yc11⟩) ?r9
  case y9 =>
    intro w_ hS_
    go_simp
    try with_reducible rfl
  simp only [Act.put, List.getElem_toArray, List.getElem_cons_succ, List.getElem_cons_zero, List.setIfInBounds_toArray, List.set_cons_succ, List.set_cons_zero]
  refine wpAnyH_done (by kernel_rfl) ?_ _
  refine NoPanic.normal ?_
  go_wp2
  exact bodyPost_ret (results_c2s Tryd.results10 _ _ (w.heap.size + 1) (w.heap.size + 1 + 1) _ _ _ _ _ _ _ _ rfl rfl R1 R2 Tryd.underlying29 rfl Tryd.underlying26 rfl (infoR _ l2 _) (infok8 _ l1)) rfl ⟨rfl, hw⟩
theorem r_Next (key : List Int) (hkl : key.length = 32) (hkz : ∀ z ∈ key, 0 ≤ z ∧ z < 256) (n : Int) (hn0 : 0 ≤ n) (hn1 : n ≤ 4294967294) (w : World) :
    Calls Tryd.prog 10 #[.agg (chc key n)] w fun e w' => e = .returned (.tuple #[.agg (chc (hm key [2]) (n + 1)), .agg (irow .u8 (hm key [1])), .int .i64 0]) ∧ Below w.heap.size w w' :=
  r_Next_aux key (hm key [2]) (hm key [1]) hkl (hm_len _ _) (hm_len _ _) n hn0 hn1 w (fun V => r_Step key hkl hkz V)
def nums (n : Int) (m : Nat) : List Int := (List.range m).map fun i : Nat => n + (i : Int)
theorem nums_succ (n : Int) (m : Nat) : nums n (m + 1) = nums n m ++ [n + (m : Int)] := by simp [nums, List.range_succ]
theorem nums_len (n : Int) (m : Nat) : (nums n m).length = m := by simp [nums]
theorem nums_get (n : Int) (m i : Nat) (h : i < m) : (nums n m).getD i 0 = n + (i : Int) := by simp [nums, List.getD_eq_getElem?_getD, h]
/-- A list of numbers in a block of its own. -/
def OwnU (W : World) (b : Nat) (v : Value) (ns : List Int) : Prop := W.ownsRow b 27 1 v ns.length (ns.map (Value.int .u32))
theorem OwnU.move {W W' : World} {b : Nat} {v : Value} {ks : List Int} (h : OwnU W b v ks) (hm : ∀ g o, v.ownBlock = some g → W.heap[g]? = some o → W'.heap[g]? = some o) : OwnU W' b v ks := by
  obtain ⟨h1, h2⟩ := h
  refine ⟨h1, ?_⟩
  rcases h2 with h2 | ⟨g, cap, cur, rfl, hb, hg, rest⟩
  · exact .inl h2
  · exact .inr ⟨g, cap, cur, rfl, hb, hm g _ rfl hg, rest⟩
theorem OwnU.keep {W W' : World} {b : Nat} {v : Value} {ks : List Int} (h : OwnU W b v ks) (hb : Below W.heap.size W W') : OwnU W' b v ks := h.move (fun _ _ _ hg => Go.Proofs.YtilgicikcjcdjaaDoor.keep hb hg)
theorem OwnU.lt {W : World} {b : Nat} {v : Value} {ks : List Int} (h : OwnU W b v ks) : ∀ k, v.ownBlock = some k → b ≤ k ∧ k < W.heap.size := World.ownsRow.lt h
theorem ownU_empty {W : World} {g : Nat} (r : W.heap[g]? = some (.cells #[] 27 (0, 0))) : OwnU W g (.slice (some ⟨g, 0, none⟩) 0 0) [] := ⟨rfl, .inr ⟨g, 0, #[], rfl, Nat.le_refl _, r, Nat.le_refl _, by decide, rfl, rfl⟩⟩
theorem OwnU.down {W : World} {b c : Nat} {v : Value} {ks : List Int} (h : OwnU W b v ks) (hc : c ≤ b) : OwnU W c v ks := by
  obtain ⟨h1, h2 | ⟨g, cap, cur, rfl, hb, rest⟩⟩ := h
  · exact ⟨h1, .inl h2⟩
  · exact ⟨h1, .inr ⟨g, cap, cur, rfl, by omega, rest⟩⟩
theorem OwnK.down {W : World} {b c : Nat} {v : Value} {ks : List (List Int)} (h : OwnK W b v ks) (hc : c ≤ b) : OwnK W c v ks := by
  obtain ⟨h1, h2 | ⟨g, cap, cur, rfl, hb, rest⟩⟩ := h
  · exact ⟨h1, .inl h2⟩
  · exact ⟨h1, .inr ⟨g, cap, cur, rfl, by omega, rest⟩⟩
theorem infoUu : ∃ i, Tryd.prog.info? 27 = some i ∧ i.zero = some (.int .u32 0) ∧ i.size = 1 ∧ i.bytes = 4 := ⟨_, rfl, rfl, rfl, rfl⟩
theorem wpList_append_U {w : World} {ops : Array Oper} {rest : List Oper} {o : Oper} {a : Act} {Q : Exit → Act → World → Prop} (hgd : o.guard = none) (s x : Operand) (ho : o.op = .call { callee := .builtin .append, args := #[s, x], argTypes := #[60, 60] })
    (base : Nat) (v : Value) (ks : List Int) (hs : a.eval s = v) (hI : OwnU w base v ks) (g : Nat) (z : Int) (hx : a.eval x = .slice (some ⟨g, 0, none⟩) 1 1) (rg : w.heap[g]? = some (.cells #[.int .u32 z] 27 (0, 0))) (hlen : ks.length ≤ 1000000) (hbase : base ≤ w.heap.size)
    (h : ∀ v' w', OwnU w' base v' (ks ++ [z]) → w.grownBy w' v.ownBlock → Nx w v v' → wpList Tryd.prog ops Q rest (a.put o.dst v') w') : wpList Tryd.prog ops Q (o :: rest) a w := by
  obtain ⟨i0, hi, hz0, hz1, hz2⟩ := infoUu
  refine wpList_plain hgd fun _ hK => wp_append_nx s x 60 ho base 27 i0 (.int .u32 0) 1 4 Tryd.underlying60 hi hz0 hz1 hz2 rfl (by decide) v ks.length (ks.map (Value.int .u32)) hs hI ⟨g, 0, none⟩ 1 1 [.int .u32 z] hx rfl ?_ (by simp [Value.oneCell']) (by unfold maxLen; omega) (by omega) hbase (fun v' w' h1 h2 h3 => hK _ _ (h v' w' ?_ h2 h3))
  · intro j u hu
    match j, hu with
    | 0, hu => cases hu; rw [addr_add, cell_of_row _ _ _ _ _ _ rg]; rfl
    | (j + 1), hu => simp at hu
  · unfold OwnU
    rw [List.map_append, List.length_append]
    exact h1
def Apart (v u : Value) : Prop := ∀ k k', v.ownBlock = some k → u.ownBlock = some k' → k ≠ k'
set_option maxRecDepth 100000 in
set_option maxHeartbeats 4000000 in
theorem r_Ahead (key : List Int) (hkl : key.length = 32) (hkz : ∀ z ∈ key, 0 ≤ z ∧ z < 256) (n : Int) (hn0 : 0 ≤ n) (hn1 : n ≤ 4294967295) (k : Int) (hk : k ≤ 100000) (w : World) : Calls Tryd.prog 19 #[.agg (chc key n), .int .i64 k] w fun e w' => ∃ v u, e = .returned (.tuple #[v, u]) ∧ OwnU w' w.heap.size v (nums n (ahm n k)) ∧ OwnK w' w.heap.size u (msgs key (ahm n k)) ∧ Apart v u ∧ Below w.heap.size w w' := by
  have hmx : ∀ i : Nat, i < ahm n k ↔ ((i : Int) < k ∧ n + (i : Int) < 4294967295) := by intro i; unfold ahm; omega
  have hm5 : ahm n k ≤ 100000 := by unfold ahm; omega
  have hm6 : n + (ahm n k : Int) ≤ 4294967295 := by unfold ahm; omega
  generalize ahm n k = m at *
  have R0 := hp3_0 w (.cells (chc key n) 29) (.cells #[] 27) (.cells #[] 26)
  have R1 := hp3_1 w (.cells (chc key n) 29) (.cells #[] 27) (.cells #[] 26)
  have R2 := hp3_2 w (.cells (chc key n) 29) (.cells #[] 27) (.cells #[] 26)
  have hw0 : Below w.heap.size w (((w.alloc (.cells (chc key n) 29)).alloc (.cells #[] 27)).alloc (.cells #[] 26)) := (((Below.refl _ _).alloc (Nat.le_refl _) _).alloc (by simp) _).alloc (by simp; omega) _
  go_enter Tryd.func19, Tryd.ntmps19
  go_wp2_with (first | (refine wpList_box rfl 29 _ rfl _ rfl (bR _) ?_) | fail)
  try simp only [size_alloc1, Act.put, List.setIfInBounds_toArray, List.set_cons_succ, List.set_cons_zero]
  generalize ((w.alloc (.cells (chc key n) 29)).alloc (.cells #[] 27)).alloc (.cells #[] 26) = w0 at *
  go_loopw [6, 7, 8] (fun a6 a7 a8 wr => ∃ i : Nat, i ≤ m ∧ a8 = .int .i64 (i : Int) ∧ wr.heap[w.heap.size]? = some (.cells (chc (kat key i) (n + (i : Int))) 29 (0, 0)) ∧ OwnU wr (w.heap.size + 1) a6 (nums n i) ∧ OwnK wr (w.heap.size + 1) a7 (msgs key i) ∧ Apart a6 a7 ∧ Below w.heap.size w wr) (fun _ _ a8 _ => m - (intOf a8).toNat)
  case atStart => exact ⟨0, by omega, rfl, by rw [R0]; simp [kat], ownU_empty R1, (ownK_empty R2).down (by omega), (fun k k' h1 h2 => by cases h1; cases h2; exact Nat.ne_of_lt (Nat.lt_succ_self _)), hw0⟩
  case round =>
    clear R0 R1 R2 hw0
    obtain ⟨i, hi, rfl, R0, hU, hO, hap, hw⟩ := hrel
    have hk0 := kat_len hkl i
    have c0 := cell_n _ hk0 R0
    by_cases hlt : i < m
    · obtain ⟨q1, q2⟩ := (hmx i).1 hlt
      have hd : decide ((i : Int) < k) = true := by simp; omega
      have hd2 : decide (n + (i : Int) < 4294967295) = true := by simp; omega
      have cX := fun V => r_Next (kat key i) hk0 (kat_bd hkz i) (n + (i : Int)) (by omega) (by omega) V
      rw [show hm (kat key i) [1] = mat key i from rfl, show hm (kat key i) [2] = kat key (i + 1) from rfl] at cX
      have hk1 := kat_len hkl (i + 1)
      have hXl := mat_len key i
      have hms := msgs_succ key i
      have hns := nums_succ n i
      have hll : (msgs key i).length = i := msgs_len key i
      have hlu : (nums n i).length = i := nums_len n i
      generalize mat key i = X at *
      go_wp2_with (first | (refine wpList_load_want rfl 29 _ rfl (w.heap.size) rfl 29 (chc (kat key i) (n + (i : Int))) (0, 0) _ R0 Tryd.underlying29 rfl (infoR _ hk0 _) ?_) | fail)
      have hUl := hU.lt
      have hOl := hO.lt
      have lR0 := lt_of_row R0
      refine (cX wr).mono ?_
      rintro e_ w1 ⟨rfl, hb⟩
      have hs1 := hb.size
      replace R0 := keep hb R0
      replace hU := hU.keep hb
      replace hO := hO.keep hb
      replace hw := Below.after hw hb
      clear hb cX c0 hd hd2
      have zd0 := hp2_0 w1 (.cells (chc (zr 32) 0) 29) (.cells (irow .u8 (zr 32)) 26)
      have zd1 := hp2_1 w1 (.cells (chc (zr 32) 0) 29) (.cells (irow .u8 (zr 32)) 26)
      have yd00 := setRow_heap ((w1.alloc (.cells (chc (zr 32) 0) 29)).alloc (.cells (irow .u8 (zr 32)) 26)) (w1.heap.size) _ (chc (kat key (i + 1)) (n + (i : Int) + 1)) _ _ zd0
      have yd01 := (setRow_other ((w1.alloc (.cells (chc (zr 32) 0) 29)).alloc (.cells (irow .u8 (zr 32)) 26)) (w1.heap.size) (w1.heap.size + 1) (chc (kat key (i + 1)) (n + (i : Int) + 1)) (by omega)).trans zd1
      have yd10 := (setRow_other (((w1.alloc (.cells (chc (zr 32) 0) 29)).alloc (.cells (irow .u8 (zr 32)) 26)).setRow (w1.heap.size) (chc (kat key (i + 1)) (n + (i : Int) + 1))) (w1.heap.size + 1) (w1.heap.size) (irow .u8 X) (by omega)).trans yd00
      have yd11 := setRow_heap (((w1.alloc (.cells (chc (zr 32) 0) 29)).alloc (.cells (irow .u8 (zr 32)) 26)).setRow (w1.heap.size) (chc (kat key (i + 1)) (n + (i : Int) + 1))) (w1.heap.size + 1) _ (irow .u8 X) _ _ yd01
      have hbF : Below w1.heap.size w1 ((((w1.alloc (.cells (chc (zr 32) 0) 29)).alloc (.cells (irow .u8 (zr 32)) 26)).setRow (w1.heap.size) (chc (kat key (i + 1)) (n + (i : Int) + 1))).setRow (w1.heap.size + 1) (irow .u8 X)) := (below_setRow (below_setRow (((Below.refl _ _).alloc (Nat.le_refl _) _).alloc (by simp) _) (show w1.heap.size ≤ w1.heap.size by omega) (chc (kat key (i + 1)) (n + (i : Int) + 1))) (show w1.heap.size ≤ w1.heap.size + 1 by omega) (irow .u8 X))
      go_wp2_with (first | (refine wpList_alloc rfl 26 rfl (irow .u8 (zr 32)) zkey ?_) | (refine wpList_alloc rfl 29 rfl (chc (zr 32) 0) zchr ?_) | (refine wpList_store_row rfl 29 _ _ rfl (w1.heap.size) (chc (kat key (i + 1)) (n + (i : Int) + 1)) rfl rfl 29 _ zd0 (infoR _ hk1 _) (by rw [chc_size _ (zr_len 32), chc_size _ hk1]) (chc_one _ _) ?_; refine wpList_stay ?_) | fail)
      unfold WpStay
      go_wp2_with (first | (refine wpList_store_row rfl 26 _ _ rfl (w1.heap.size + 1) (irow .u8 X) rfl rfl 26 _ yd01 (infok8 _ hXl) (fit32 _ _ (zr_len 32) hXl) (irow_one _ _) ?_; refine wpList_stay ?_) | fail)
      unfold WpStay
      replace R0 := keep hbF R0
      replace hU := hU.keep hbF
      replace hO := hO.keep hbF
      replace hw := Below.after hw hbF
      clear hbF zd0 zd1 yd00 yd01
      generalize ((((w1.alloc (.cells (chc (zr 32) 0) 29)).alloc (.cells (irow .u8 (zr 32)) 26)).setRow (w1.heap.size) (chc (kat key (i + 1)) (n + (i : Int) + 1))).setRow (w1.heap.size + 1) (irow .u8 X)) = w2 at *
      generalize w1.heap.size = g1 at *
      have c0 := cell_n _ hk0 R0
      have lg1 := lt_of_row yd11
      have rU := hp1_0 w2 (.cells #[.int .u32 (n + (i : Int))] 27)
      have hba : Below w2.heap.size w2 (w2.alloc (.cells #[.int .u32 (n + (i : Int))] 27)) := (Below.refl _ _).alloc (Nat.le_refl _) _
      go_wp2_with (at_builtin; refine wpList_append_U rfl (.tmp 30) (.tmp 33) rfl (w.heap.size + 1) _ (nums n i) rfl (hU.keep hba) w2.heap.size _ rfl rU (by omega) (by rw [size_alloc1]; omega) ?_)
      intro v' w3 hU3 hgr hnx
      have hs3 := hgr.size
      rw [size_alloc1] at hs3
      have hoth : ∀ k, k < w2.heap.size → (∀ k', u6.ownBlock = some k' → k ≠ k') → w3.heap[k]? = w2.heap[k]? := fun k hk2 hne => (hgr.block k (by rw [size_alloc1]; omega) (fun e => hne k e.symm rfl)).trans (hba.block k hk2)
      have hvb : ∀ k, v'.ownBlock = some k → (u6.ownBlock = some k ∨ w2.heap.size ≤ k) ∧ k < w3.heap.size := fun k e => ⟨by
        rcases hnx with h | ⟨k', h, hk'⟩
        · exact .inl (h ▸ e)
        · rw [h] at e; cases e; rw [size_alloc1] at hk'; exact .inr (by omega), (hU3.lt k e).2⟩
      replace R0 := (hoth _ (by omega) (fun k' e => by have := hUl k' e; omega)).trans R0
      replace yd10 := (hoth _ (by omega) (fun k' e => by have := hUl k' e; omega)).trans yd10
      replace yd11 := (hoth _ (by omega) (fun k' e => by have := hUl k' e; omega)).trans yd11
      replace hO := hO.move (fun k o e h => (hoth k (lt_of_heap h) (fun k' e' => fun h' => hap k' k e' e h'.symm)).trans h)
      replace hw := (Below.after hw hba).grown hgr (by rw [size_alloc1]; have := hw.size; omega) (fun k e => by have := hUl k e; omega)
      clear hoth hgr hnx hba rU hU c0
      have rK := hp1_0 w3 (.cells (irow .u8 X) 26)
      have hbk : Below w3.heap.size w3 (w3.alloc (.cells (irow .u8 X) 26)) := (Below.refl _ _).alloc (Nat.le_refl _) _
      go_wp2_with (first | (refine wpList_load_want rfl 26 _ rfl (g1 + 1) rfl 26 (irow .u8 X) (0, 0) _ yd11 Tryd.underlying26 rfl (infok8 _ hXl) ?_) | (refine wpList_bslK rfl _ rfl X hXl rfl ?_) | (at_builtin; refine wpList_append_K rfl (.tmp 35) (.tmp 37) rfl (w.heap.size + 1) _ (msgs key i) rfl (hO.keep hbk) w3.heap.size X hXl rfl rK (by omega) (by rw [size_alloc1]; omega) ?_) | fail)
      intro u' w4 hO4 hgr hnx
      have hs4 := hgr.size
      rw [size_alloc1] at hs4
      have hoth : ∀ k, k < w3.heap.size → (∀ k', u7.ownBlock = some k' → k ≠ k') → w4.heap[k]? = w3.heap[k]? := fun k hk2 hne => (hgr.block k (by rw [size_alloc1]; omega) (fun e => hne k e.symm rfl)).trans (hbk.block k hk2)
      replace R0 := (hoth _ (by omega) (fun k' e => by have := hOl k' e; omega)).trans R0
      replace yd10 := (hoth _ (by omega) (fun k' e => by have := hOl k' e; omega)).trans yd10
      replace hU3 := hU3.move (fun k o e h => (hoth k (lt_of_heap h) (fun k' e' => fun h' => by
        rcases (hvb k e).1 with h1 | h1
        · exact hap k k' h1 e' h'
        · have := hOl k' e'; omega)).trans h)
      replace hw := (Below.after hw hbk).grown hgr (by rw [size_alloc1]; have := hw.size; omega) (fun k e => by have := hOl k e; omega)
      have hap2 : Apart v' u' := fun k k' e e' h' => by
        rcases hnx with h | ⟨k2, h, hk2⟩
        · rw [h] at e'
          rcases (hvb k e).1 with h1 | h1
          · exact hap k k' h1 e' h'
          · have := hOl k' e'; omega
        · rw [h] at e'; cases e'
          have := (hvb k e).2
          rw [size_alloc1] at hk2; omega
      clear hoth hgr hnx hbk rK hO yd11 hap hvb
      have k0 := setRow_heap w4 w.heap.size _ (chc (kat key (i + 1)) (n + (i : Int) + 1)) _ _ R0
      have hU5 : OwnU (w4.setRow w.heap.size (chc (kat key (i + 1)) (n + (i : Int) + 1))) (w.heap.size + 1) v' (nums n i ++ [n + (i : Int)]) := hU3.move (fun k o e h => (setRow_other w4 w.heap.size k _ (by have := hU3.lt k e; omega)).trans h)
      have hO5 : OwnK (w4.setRow w.heap.size (chc (kat key (i + 1)) (n + (i : Int) + 1))) (w.heap.size + 1) u' (msgs key i ++ [X]) := hO4.move (fun k o e h => (setRow_other w4 w.heap.size k _ (by have := hO4.lt k e; omega)).trans h)
      have hw5 := below_setRow hw (Nat.le_refl _) (chc (kat key (i + 1)) (n + (i : Int) + 1))
      go_wp2_with (first | (refine wpList_load_want rfl 29 _ rfl (g1) rfl 29 (chc (kat key (i + 1)) (n + (i : Int) + 1)) (0, 0) _ yd10 Tryd.underlying29 rfl (infoR _ hk1 _) ?_) | (refine wpList_store_row rfl 29 _ _ rfl (w.heap.size) (chc (kat key (i + 1)) (n + (i : Int) + 1)) rfl rfl 29 _ R0 (infoR _ hk1 _) (by rw [chc_size _ hk0, chc_size _ hk1]) (chc_one _ _) ?_) | fail)
      refine ⟨⟨i + 1, by omega, by go_num, by rw [k0]; simp [Int.add_assoc], by rw [hns]; exact hU5, by rw [hms]; exact hO5, hap2, hw5⟩, ?_⟩
      simp [intOf]; omega
    · obtain rfl : i = m := by omega
      have hno : ¬ ((i : Int) < k ∧ n + (i : Int) < 4294967295) := fun h => hlt ((hmx i).2 h)
      by_cases q1 : (i : Int) < k
      · have hd : decide ((i : Int) < k) = true := by simp; omega
        have hd2 : decide (n + (i : Int) < 4294967295) = false := by simp; omega
        clear hno
        go_wp2_with (fail)
        refine bodyPost_ret (results_tmp2 rfl _ _ _) rfl ?_
        exact ⟨_, _, rfl, hU.down (by omega), hO.down (by omega), hap, hw⟩
      · have hd : decide ((i : Int) < k) = false := by simp; omega
        clear hno
        go_wp2_with (fail)
        refine bodyPost_ret (results_tmp2 rfl _ _ _) rfl ?_
        exact ⟨_, _, rfl, hU.down (by omega), hO.down (by omega), hap, hw⟩

end Go.Proofs.YtilgicikcjcdjaaDoor

namespace Go.Proofs.YtilgicikcjcdjaaDoor
set_option maxRecDepth 100000
open Go Go.RowKit Go.Sort

variable {n : Nat} {P : Program} {ops : Array Oper} {Q : Exit → Act → World → Prop} {md : Region.Mode}
/-- An operation that defers nothing is run within a round as outside one. -/
theorem wpIn_round {o : Oper} {a : Act} {w : World} {K K' : Act → World → Prop} (l : Nat) (hpl : ∀ c, o.op ≠ .defer c) (hK : ∀ a w, K a w → K' a w) (h : o.wpIn Fence.wide n P a w K Q) : o.wpIn (Fence.wide.inRound l) n P a w K' Q := by
  replace h := Oper.wpIn_mono hK h
  unfold Oper.wpIn at h ⊢
  rw [Oper.semAt_plain _ _ _ hpl] at h ⊢
  refine ⟨h.1, ?_⟩
  replace h := h.2
  generalize (execOp a.eval o).run P w = r at *
  cases r with
  | ok x w' => cases x <;> exact h
  | _ => exact h
theorem wpOpIn_round {i : Nat} {a : Act} {w : World} {K K' : Act → World → Prop} (l : Nat) (hpl : ∀ (o : Oper), ops[i]? = some o → ∀ c, o.op ≠ .defer c) (hK : ∀ a w, K a w → K' a w) (h : wpOpIn Fence.wide n P ops Q i K a w) : wpOpIn (Fence.wide.inRound l) n P ops Q i K' a w := by
  unfold wpOpIn at h ⊢
  cases ho : ops[i]? with
  | none => rw [ho] at h; exact hK _ _ h
  | some o =>
    rw [ho] at h
    simp only at h ⊢
    by_cases hw : Region.wanted o (yielded ops a.tmps) = true
    · rw [if_pos hw] at h ⊢
      exact wpIn_round l (hpl o ho) hK h
    · rw [if_neg hw] at h ⊢
      exact ⟨h.1, hK _ _ h.2⟩
theorem wpAnyIn_round (l : Nat) (hpl : ∀ (i : Nat) (o : Oper), ops[i]? = some o → ∀ c, o.op ≠ .defer c) : ∀ (fuel : Nat) (listed : Array Bool) (a : Act) (w : World), wpAnyIn Fence.wide n P md ops Q fuel listed a w → wpAnyIn (Fence.wide.inRound l) n P md ops Q fuel listed a w
  | 0, _, _, _, h => h
  | fuel + 1, _, _, _, h => ⟨h.1, fun i hi => wpOpIn_round l (hpl i) (fun a w h => wpAnyIn_round l hpl fuel _ a w h) (h.2 i hi)⟩
def noDefer (o : Oper) : Bool := match o.op with | .defer _ => false | _ => true
theorem noDefer_spec {ops : Array Oper} (h : ops.all noDefer = true) : ∀ (i : Nat) (o : Oper), ops[i]? = some o → ∀ c, o.op ≠ .defer c := by
  intro i o ho c hc
  have hm := (Array.all_eq_true_iff_forall_mem.1 h) o (Array.mem_of_getElem? ho)
  simp [noDefer, hc] at hm
/-- A drawn region that only reads, within a round: one walk of the text's order serves every order. -/
theorem wpIn_region_quiet_round {id : Nat} {a : Act} {w : World} (l0 : Nat) {l : List Oper} (hnd : l.toArray.all noDefer = true) (hm : P.follows .mixedOrders = true) (hB : Region.lexB .any l.toArray = true)
    (h : wpQuietIn Fence.wide n P l.toArray (fun w' => ∃ p : Regrown, w' = grow (redrawn w p.d) p.os) (fun a' => ∀ w', (∃ p : Regrown, w' = grow (redrawn w p.d) p.os) → Q .normal a' w') l a) : (Code.region id l.toArray true).wpIn (Fence.wide.inRound l0) n P Q a w := by
  refine wpIn_region_any hm (wpAnyIn_round l0 (noDefer_spec hnd) _ _ _ _ ?_)
  simp only [Region.lexB, Bool.and_eq_true] at hB
  refine wpAnyIn_of_quiet (C := fun w' => ∃ p : Regrown, w' = grow (redrawn w p.d) p.os) (Q := fun a' => ∀ w', (∃ p : Regrown, w' = grow (redrawn w p.d) p.os) → Q .normal a' w') rfl (fun _ w' hw' h => h w' hw') _ _ _ _ ⟨⟨w.drawn + 1, #[]⟩, by rw [grow_empty]; rfl⟩ ?_
  have h2 := wpAnyQIn_lex (F := Fence.wide) (n := n) (C := fun w' => ∃ p : Regrown, w' = grow (redrawn w p.d) p.os) (md := .any) hB.1 l.toArray.toList 0 (Array.replicate l.toArray.size false) a (by simp) (by simpa using hB.2) h
  simpa using h2
/-- A part of a row, read in such a region. -/
theorem wpQuietIn_load_part {F : Fence} {C : World → Prop} {Q : Act → Prop} {a : Act} {o : Oper} {rest : List Oper} (hw : Region.wanted o (yielded ops a.tmps) = true) (ty : TypeId) (x : Operand) (ho : o.op = .load ty x)
    (g off : Nat) (hx : a.eval x = .pointer (some ⟨g, off, none⟩)) (t : TypeId) (cs : Array Value) (fr : Nat × Nat) (part : Array Value) (d : TypeDesc) (hg : ∀ w, C w → w.heap[g]? = some (.cells cs t fr)) (hp : cs.extract off (off + part.size) = part)
    (hu : P.underlying ty = some d) (hd : d.isRow = true) (hi : (P.info? ty).map (·.size) = some part.size)
    (h : wpQuietIn F n P ops C Q rest (a.put o.dst (.agg part))) : wpQuietIn F n P ops C Q (o :: rest) a := by
  refine wpQuietIn_step (fun w _ f hf => by simp [Oper.about, ho] at hf) fun K hK => ?_
  rw [if_pos hw]
  refine ⟨.agg part, fun w hw => ?_, hK _ h⟩
  have hr := World.rangeAt_of_block (hg w hw) off part.size
  rw [hp] at hr
  have hl := run_loadVar_mid (P := P) w g off ty part.toList d hr hu hd (by simpa using hi)
  unfold Oper.quietAtIn execOp
  simp only [ho, hx, Instr.loadAt, Instr.sureAddr, Sem.run_bind, Sem.run_pure, Result.andThen_ok, hl]
  exact ⟨by simp, rfl⟩
end Go.Proofs.YtilgicikcjcdjaaDoor

namespace Go.Proofs.YtilgicikcjcdjaaDoor
set_option maxRecDepth 100000
open Go Go.RowKit Go.Sort
attribute [local go_sem] setCell_drewN alloc_drewN

attribute [local go_sem] Oper.semAt_some
set_option maxRecDepth 100000 in
set_option maxHeartbeats 4000000 in
theorem a_Skip_arg (key : List Int) (hkl : key.length = 32) (n t most : Int) (_hn : 0 ≤ n ∧ n ≤ 4294967295) (_ht : 0 ≤ t ∧ t ≤ 4294967295) (h : t < n) (w : World) (c : Nat) (rM : w.heap[c]? = some (.cells (chc key n) 48 (0, 0))) :
    Calls Tryd.prog 16 #[.pointer (some ⟨c, 0, none⟩), .int .u32 t, .int .i64 most] w fun e w' => e = .returned (.tuple #[.slice none 0 0, .int .i64 1]) ∧ Below w.heap.size w w' := by
  have c0 := cell_n key hkl rM
  have d1 : decide (t < n) = true := by simp; omega
  refine (callsIn_wide (n := 4)).1 (callsIn_of_wp_marks Tryd.func16 rfl trivial ?_)
  refine wpIn_wide.2 ?_
  simp only [Tryd.ntmps16, List.size_toArray, List.length_cons, List.length_nil, Nat.reduceAdd, Nat.reduceSub, Array.replicate_succ, Array.replicate_zero, List.push_toArray, List.append_toArray, List.nil_append, List.cons_append]
  go_wp2
  refine ⟨_, results_tmp2 rfl _ _ _, rfl, Below.refl _ _⟩
set_option maxRecDepth 100000 in
set_option maxHeartbeats 4000000 in
theorem a_Skip_skip (key : List Int) (hkl : key.length = 32) (n t most : Int) (_hn : 0 ≤ n ∧ n ≤ 4294967295) (_ht : 0 ≤ t ∧ t ≤ 4294967295) (h : n ≤ t) (h2 : most < t - n) (w : World) (c : Nat) (rM : w.heap[c]? = some (.cells (chc key n) 48 (0, 0))) :
    Calls Tryd.prog 16 #[.pointer (some ⟨c, 0, none⟩), .int .u32 t, .int .i64 most] w fun e w' => e = .returned (.tuple #[.slice none 0 0, .int .i64 133]) ∧ Below w.heap.size w w' := by
  have c0 := cell_n key hkl rM
  have d1 : decide (t < n) = false := by simp; omega
  have d2 : decide (most < t - n) = true := by simp; omega
  refine (callsIn_wide (n := 4)).1 (callsIn_of_wp_marks Tryd.func16 rfl trivial ?_)
  refine wpIn_wide.2 ?_
  simp only [Tryd.ntmps16, List.size_toArray, List.length_cons, List.length_nil, Nat.reduceAdd, Nat.reduceSub, Array.replicate_succ, Array.replicate_zero, List.push_toArray, List.append_toArray, List.nil_append, List.cons_append]
  go_wp2
  refine ⟨_, results_tmp2 rfl _ _ _, rfl, Below.refl _ _⟩
theorem results_css {P : Program} {fn : Func} {p q r : Tmp} {ty : TypeId} (h : fn.results = #[.cell p ty, .tmp q, .tmp r]) (tmps : Array Value) (w : World) (g : Nat) (t : TypeId) (cs : Array Value) (fr : Nat × Nat) (d : TypeDesc)
    (hp : tmps.getD p undef = .pointer (some ⟨g, 0, none⟩)) (hg : w.heap[g]? = some (.cells cs t fr)) (hu : P.underlying ty = some d) (hd : (match d with | .struct _ | .array _ _ => true | _ => false) = true) (hi : (P.info? ty).map (·.size) = some cs.size) :
    (results fn tmps).run P w = .ok (.tuple #[.agg cs, tmps.getD q undef, tmps.getD r undef]) w := by
  have hp' : tmps[p]?.getD undef = .pointer (some ⟨g, 0, none⟩) := by simpa using hp
  simp [results, h, hp', asAddr, run_loadVar_row w g t ty cs fr d hg hu hd hi]
set_option maxRecDepth 100000 in
set_option maxHeartbeats 4000000 in
theorem r_Skip_arg (key : List Int) (hkl : key.length = 32) (n t most : Int) (_hn : 0 ≤ n ∧ n ≤ 4294967295) (_ht : 0 ≤ t ∧ t ≤ 4294967295) (_hmo : -9223372036854775808 ≤ most ∧ most ≤ 9223372036854775807) (h : t < n) (w : World) :
    Calls Tryd.prog 17 #[.agg (chc key n), .int .u32 t, .int .i64 most] w fun e w' => e = .returned (.tuple #[.agg (chc key n), .slice none 0 0, .int .i64 1]) ∧ Below w.heap.size w w' := by
  have R0 := hp2_0 w (.cells (chc key n) 29) (.cells (chc (zr 32) 0) 29)
  have R1 := hp2_1 w (.cells (chc key n) 29) (.cells (chc (zr 32) 0) 29)
  have hw : Below w.heap.size w ((w.alloc (.cells (chc key n) 29)).alloc (.cells (chc (zr 32) 0) 29)) := (((Below.refl _ _).alloc (Nat.le_refl _) _).alloc (by simp) _)
  have c0 := cell_n key hkl R0
  have k1 := setRow_heap _ (w.heap.size + 1) _ (chc key n) _ _ R1
  have d1 : decide (t < n) = true := by simp; omega
  go_enter Tryd.func17, Tryd.ntmps17
  go_wp2_with (first | (refine wpList_box rfl 29 _ rfl _ rfl (bR _) ?_) | (refine wpList_alloc rfl 29 rfl (chc (zr 32) 0) zchr ?_) | (refine wpList_load_want rfl 29 _ rfl (w.heap.size) rfl 29 (chc key n) (0, 0) _ R0 Tryd.underlying29 rfl (infoR _ hkl _) ?_) | (refine wpList_store_row rfl 29 _ _ rfl (w.heap.size + 1) (chc key n) rfl rfl 29 _ R1 (infoR _ hkl _) (by rw [chc_size _ (zr_len 32), chc_size _ hkl]) (chc_one _ _) ?_) | fail)
  exact bodyPost_ret (results_css Tryd.results17 _ _ (w.heap.size + 1) _ _ _ _ rfl k1 Tryd.underlying29 rfl (infoR _ hkl _)) rfl ⟨rfl, below_setRow hw (show w.heap.size ≤ w.heap.size + 1 by omega) _⟩
set_option maxRecDepth 100000 in
set_option maxHeartbeats 4000000 in
theorem r_Skip_neg (key : List Int) (hkl : key.length = 32) (n t most : Int) (_hn : 0 ≤ n ∧ n ≤ 4294967295) (_ht : 0 ≤ t ∧ t ≤ 4294967295) (_hmo : -9223372036854775808 ≤ most ∧ most ≤ 9223372036854775807) (h : n ≤ t) (h2 : most < 0) (w : World) :
    Calls Tryd.prog 17 #[.agg (chc key n), .int .u32 t, .int .i64 most] w fun e w' => e = .returned (.tuple #[.agg (chc key n), .slice none 0 0, .int .i64 133]) ∧ Below w.heap.size w w' := by
  have R0 := hp2_0 w (.cells (chc key n) 29) (.cells (chc (zr 32) 0) 29)
  have R1 := hp2_1 w (.cells (chc key n) 29) (.cells (chc (zr 32) 0) 29)
  have hw : Below w.heap.size w ((w.alloc (.cells (chc key n) 29)).alloc (.cells (chc (zr 32) 0) 29)) := (((Below.refl _ _).alloc (Nat.le_refl _) _).alloc (by simp) _)
  have c0 := cell_n key hkl R0
  have k1 := setRow_heap _ (w.heap.size + 1) _ (chc key n) _ _ R1
  have d1 : decide (t < n) = false := by simp; omega
  have d2 : decide (most < 0) = true := by simp; omega
  go_enter Tryd.func17, Tryd.ntmps17
  go_wp2_with (first | (refine wpList_box rfl 29 _ rfl _ rfl (bR _) ?_) | (refine wpList_alloc rfl 29 rfl (chc (zr 32) 0) zchr ?_) | (refine wpList_load_want rfl 29 _ rfl (w.heap.size) rfl 29 (chc key n) (0, 0) _ R0 Tryd.underlying29 rfl (infoR _ hkl _) ?_) | (refine wpList_store_row rfl 29 _ _ rfl (w.heap.size + 1) (chc key n) rfl rfl 29 _ R1 (infoR _ hkl _) (by rw [chc_size _ (zr_len 32), chc_size _ hkl]) (chc_one _ _) ?_) | fail)
  exact bodyPost_ret (results_css Tryd.results17 _ _ (w.heap.size + 1) _ _ _ _ rfl k1 Tryd.underlying29 rfl (infoR _ hkl _)) rfl ⟨rfl, below_setRow hw (show w.heap.size ≤ w.heap.size + 1 by omega) _⟩
set_option maxRecDepth 100000 in
set_option maxHeartbeats 4000000 in
theorem r_Skip_most (key : List Int) (hkl : key.length = 32) (n t most : Int) (_hn : 0 ≤ n ∧ n ≤ 4294967295) (_ht : 0 ≤ t ∧ t ≤ 4294967295) (_hmo : -9223372036854775808 ≤ most ∧ most ≤ 9223372036854775807) (h : n ≤ t) (h3 : 0 ≤ most) (h2 : most < t - n) (w : World) :
    Calls Tryd.prog 17 #[.agg (chc key n), .int .u32 t, .int .i64 most] w fun e w' => e = .returned (.tuple #[.agg (chc key n), .slice none 0 0, .int .i64 133]) ∧ Below w.heap.size w w' := by
  have R0 := hp2_0 w (.cells (chc key n) 29) (.cells (chc (zr 32) 0) 29)
  have R1 := hp2_1 w (.cells (chc key n) 29) (.cells (chc (zr 32) 0) 29)
  have hw : Below w.heap.size w ((w.alloc (.cells (chc key n) 29)).alloc (.cells (chc (zr 32) 0) 29)) := (((Below.refl _ _).alloc (Nat.le_refl _) _).alloc (by simp) _)
  have c0 := cell_n key hkl R0
  have k1 := setRow_heap _ (w.heap.size + 1) _ (chc key n) _ _ R1
  have d1 : decide (t < n) = false := by simp; omega
  have d2 : decide (most < 0) = false := by simp; omega
  have d3 : decide (most < t - n) = true := by simp; omega
  have q1 : 0 ≤ t - n := by omega
  go_enter Tryd.func17, Tryd.ntmps17
  go_wp2_with (first | (refine wpList_box rfl 29 _ rfl _ rfl (bR _) ?_) | (refine wpList_alloc rfl 29 rfl (chc (zr 32) 0) zchr ?_) | (refine wpList_load_want rfl 29 _ rfl (w.heap.size) rfl 29 (chc key n) (0, 0) _ R0 Tryd.underlying29 rfl (infoR _ hkl _) ?_) | (refine wpList_store_row rfl 29 _ _ rfl (w.heap.size + 1) (chc key n) rfl rfl 29 _ R1 (infoR _ hkl _) (by rw [chc_size _ (zr_len 32), chc_size _ hkl]) (chc_one _ _) ?_) | fail)
  exact bodyPost_ret (results_css Tryd.results17 _ _ (w.heap.size + 1) _ _ _ _ rfl k1 Tryd.underlying29 rfl (infoR _ hkl _)) rfl ⟨rfl, below_setRow hw (show w.heap.size ≤ w.heap.size + 1 by omega) _⟩
set_option maxRecDepth 100000 in
set_option maxHeartbeats 4000000 in
theorem r_Skip (key : List Int) (hkl : key.length = 32) (hkz : ∀ z ∈ key, 0 ≤ z ∧ z < 256) (n : Int) (hn0 : 0 ≤ n) (m : Nat) (hmn : n + (m : Int) ≤ 4294967295) (hm5 : m ≤ 100000) (most : Int) (hmo : (m : Int) ≤ most) (hmx : most ≤ 9223372036854775807) (w : World) :
    Calls Tryd.prog 17 #[.agg (chc key n), .int .u32 (n + (m : Int)), .int .i64 most] w fun e w' => ∃ v, e = .returned (.tuple #[.agg (chc (kat key m) (n + (m : Int))), v, .int .i64 0]) ∧ OwnK w' w.heap.size v (msgs key m) ∧ Below w.heap.size w w' := by
  have R0 := hp3_0 w (.cells (chc key n) 29) (.cells (chc (zr 32) 0) 29) (.cells #[] 26)
  have R1 := hp3_1 w (.cells (chc key n) 29) (.cells (chc (zr 32) 0) 29) (.cells #[] 26)
  have R2 := hp3_2 w (.cells (chc key n) 29) (.cells (chc (zr 32) 0) 29) (.cells #[] 26)
  have hw0 : Below w.heap.size w (((w.alloc (.cells (chc key n) 29)).alloc (.cells (chc (zr 32) 0) 29)).alloc (.cells #[] 26)) := (((Below.refl _ _).alloc (Nat.le_refl _) _).alloc (by simp) _).alloc (by simp; omega) _
  have c0 : ((w.alloc (.cells (chc key n) 29)).alloc (.cells (chc (zr 32) 0) 29)).cell? ⟨w.heap.size, 32, none⟩ = some (.int .u32 n) := cell_n key hkl (hp2_0 w (.cells (chc key n) 29) (.cells (chc (zr 32) 0) 29))
  have d1 : decide (n + (m : Int) < n) = false := by simp; omega
  have d2 : decide (most < 0) = false := by simp; omega
  have d3 : decide (most < (m : Int)) = false := by simp; omega
  have hsb : n + (m : Int) - n = (m : Int) := by omega
  have q0 : 0 ≤ n + (m : Int) := by omega
  go_enter Tryd.func17, Tryd.ntmps17
  go_wp2_with (first | (refine wpList_box rfl 29 _ rfl _ rfl (bR _) ?_) | (refine wpList_alloc rfl 29 rfl (chc (zr 32) 0) zchr ?_) | fail)
  try simp only [size_alloc1, Act.put, List.setIfInBounds_toArray, List.set_cons_succ, List.set_cons_zero]
  clear c0 d1 d2 d3 hsb
  generalize (((w.alloc (.cells (chc key n) 29)).alloc (.cells (chc (zr 32) 0) 29)).alloc (.cells #[] 26)) = w0 at *
  go_loopw [9] (fun a9 wr => ∃ i : Nat, i ≤ m ∧ wr.heap[w.heap.size]? = some (.cells (chc (kat key i) (n + (i : Int))) 29 (0, 0)) ∧ wr.heap[w.heap.size + 1]? = some (.cells (chc (zr 32) 0) 29 (0, 0)) ∧ OwnK wr (w.heap.size + 2) a9 (msgs key i) ∧ Below w.heap.size w wr) (fun a9 _ => m - slen a9)
  case atStart => exact ⟨0, by omega, by rw [R0]; simp [kat], R1, ownK_empty R2, hw0⟩
  case round =>
    clear R0 R1 R2 hw0
    obtain ⟨i, hi, R0, R1, hO, hw⟩ := hrel
    have hk0 := kat_len hkl i
    have c0 := cell_n _ hk0 R0
    have hll : (msgs key i).length = i := msgs_len key i
    obtain ⟨ao9, ac9, e9⟩ := slen_own hO
    rw [hll] at e9
    subst e9
    by_cases hlt : i < m
    · have hd : decide (n + (i : Int) < n + (m : Int)) = true := by simp; omega
      have cX := fun V => r_Next (kat key i) hk0 (kat_bd hkz i) (n + (i : Int)) (by omega) (by omega) V
      rw [show hm (kat key i) [1] = mat key i from rfl, show hm (kat key i) [2] = kat key (i + 1) from rfl] at cX
      have hk1 := kat_len hkl (i + 1)
      have hXl := mat_len key i
      have hms := msgs_succ key i
      generalize mat key i = X at *
      replace hms := hide hms
      replace hll := hide hll
      go_wp2_with (first | (refine wpList_load_want rfl 29 _ rfl (w.heap.size) rfl 29 (chc (kat key i) (n + (i : Int))) (0, 0) _ R0 Tryd.underlying29 rfl (infoR _ hk0 _) ?_) | fail)
      have hOl := hO.lt
      have lR1 := lt_of_row R1
      refine (cX wr).mono ?_
      rintro e_ w1 ⟨rfl, hb⟩
      have hs1 := hb.size
      replace R0 := keep hb R0
      replace R1 := keep hb R1
      replace hO := hO.keep hb
      replace hw := Below.after hw hb
      clear hb cX c0 hd
      have zd0 := hp2_0 w1 (.cells (chc (zr 32) 0) 29) (.cells (irow .u8 (zr 32)) 26)
      have zd1 := hp2_1 w1 (.cells (chc (zr 32) 0) 29) (.cells (irow .u8 (zr 32)) 26)
      have yd00 := setRow_heap ((w1.alloc (.cells (chc (zr 32) 0) 29)).alloc (.cells (irow .u8 (zr 32)) 26)) (w1.heap.size) _ (chc (kat key (i + 1)) (n + (i : Int) + 1)) _ _ zd0
      have yd01 := (setRow_other ((w1.alloc (.cells (chc (zr 32) 0) 29)).alloc (.cells (irow .u8 (zr 32)) 26)) (w1.heap.size) (w1.heap.size + 1) (chc (kat key (i + 1)) (n + (i : Int) + 1)) (by omega)).trans zd1
      have yd10 := (setRow_other (((w1.alloc (.cells (chc (zr 32) 0) 29)).alloc (.cells (irow .u8 (zr 32)) 26)).setRow (w1.heap.size) (chc (kat key (i + 1)) (n + (i : Int) + 1))) (w1.heap.size + 1) (w1.heap.size) (irow .u8 X) (by omega)).trans yd00
      have yd11 := setRow_heap (((w1.alloc (.cells (chc (zr 32) 0) 29)).alloc (.cells (irow .u8 (zr 32)) 26)).setRow (w1.heap.size) (chc (kat key (i + 1)) (n + (i : Int) + 1))) (w1.heap.size + 1) _ (irow .u8 X) _ _ yd01
      have hbF : Below w1.heap.size w1 ((((w1.alloc (.cells (chc (zr 32) 0) 29)).alloc (.cells (irow .u8 (zr 32)) 26)).setRow (w1.heap.size) (chc (kat key (i + 1)) (n + (i : Int) + 1))).setRow (w1.heap.size + 1) (irow .u8 X)) := (below_setRow (below_setRow (((Below.refl _ _).alloc (Nat.le_refl _) _).alloc (by simp) _) (show w1.heap.size ≤ w1.heap.size by omega) (chc (kat key (i + 1)) (n + (i : Int) + 1))) (show w1.heap.size ≤ w1.heap.size + 1 by omega) (irow .u8 X))
      go_wp2_with (first | (refine wpList_alloc rfl 26 rfl (irow .u8 (zr 32)) zkey ?_) | (refine wpList_alloc rfl 29 rfl (chc (zr 32) 0) zchr ?_) | (refine wpList_store_row rfl 29 _ _ rfl (w1.heap.size) (chc (kat key (i + 1)) (n + (i : Int) + 1)) rfl rfl 29 _ zd0 (infoR _ hk1 _) (by rw [chc_size _ (zr_len 32), chc_size _ hk1]) (chc_one _ _) ?_; refine wpList_stay ?_) | fail)
      unfold WpStay
      go_wp2_with (first | (refine wpList_store_row rfl 26 _ _ rfl (w1.heap.size + 1) (irow .u8 X) rfl rfl 26 _ yd01 (infok8 _ hXl) (fit32 _ _ (zr_len 32) hXl) (irow_one _ _) ?_; refine wpList_stay ?_) | fail)
      unfold WpStay
      replace R0 := keep hbF R0
      replace R1 := keep hbF R1
      replace hO := hO.keep hbF
      replace hw := Below.after hw hbF
      clear hbF zd0 zd1 yd00 yd01
      generalize ((((w1.alloc (.cells (chc (zr 32) 0) 29)).alloc (.cells (irow .u8 (zr 32)) 26)).setRow (w1.heap.size) (chc (kat key (i + 1)) (n + (i : Int) + 1))).setRow (w1.heap.size + 1) (irow .u8 X)) = w2 at *
      generalize w1.heap.size = g1 at *
      have lg1 := lt_of_row yd11
      go_wp2_with (first | (refine wpList_load_want rfl 29 _ rfl (g1) rfl 29 (chc (kat key (i + 1)) (n + (i : Int) + 1)) (0, 0) _ yd10 Tryd.underlying29 rfl (infoR _ hk1 _) ?_) | (refine wpList_store_row rfl 29 _ _ rfl (w.heap.size) (chc (kat key (i + 1)) (n + (i : Int) + 1)) rfl rfl 29 _ R0 (infoR _ hk1 _) (by rw [chc_size _ hk0, chc_size _ hk1]) (chc_one _ _) ?_; refine wpList_stay ?_) | fail)
      unfold WpStay
      have k0 := setRow_heap w2 w.heap.size _ (chc (kat key (i + 1)) (n + (i : Int) + 1)) _ _ R0
      replace R1 := (setRow_other w2 w.heap.size (w.heap.size + 1) (chc (kat key (i + 1)) (n + (i : Int) + 1)) (by omega)).trans R1
      replace yd11 := (setRow_other w2 w.heap.size (g1 + 1) (chc (kat key (i + 1)) (n + (i : Int) + 1)) (by omega)).trans yd11
      replace hO : OwnK (w2.setRow w.heap.size (chc (kat key (i + 1)) (n + (i : Int) + 1))) (w.heap.size + 2) (.slice ao9 i ac9) (msgs key i) := hO.move (fun k o e h => (setRow_other w2 w.heap.size k _ (by have := hOl k e; omega)).trans h)
      replace hw := below_setRow hw (Nat.le_refl _) (chc (kat key (i + 1)) (n + (i : Int) + 1))
      have hsz3 : (w2.setRow w.heap.size (chc (kat key (i + 1)) (n + (i : Int) + 1))).heap.size = w2.heap.size := by simp
      rw [← hsz3] at lg1
      clear hsz3 R0
      generalize w2.setRow w.heap.size (chc (kat key (i + 1)) (n + (i : Int) + 1)) = w3 at *
      have rK := hp1_0 w3 (.cells (irow .u8 X) 26)
      have hbk : Below w3.heap.size w3 (w3.alloc (.cells (irow .u8 X) 26)) := (Below.refl _ _).alloc (Nat.le_refl _) _
      have hl6 : (msgs key i).length ≤ 1000000 := by rw [hll.out]; omega
      go_wp2_with (first | (refine wpList_load_want rfl 26 _ rfl (g1 + 1) rfl 26 (irow .u8 X) (0, 0) _ yd11 Tryd.underlying26 rfl (infok8 _ hXl) ?_) | (refine wpList_bslK rfl _ rfl X hXl rfl ?_) | (at_builtin; refine wpList_append_K rfl (.tmp 43) (.tmp 45) rfl (w.heap.size + 2) _ (msgs key i) rfl (hO.keep hbk) w3.heap.size X hXl rfl rK hl6 (by rw [size_alloc1]; omega) ?_) | fail)
      intro u' w4 hO4 hgr hnx
      have hs4 := hgr.size
      rw [size_alloc1] at hs4
      have hoth : ∀ k, k < w.heap.size + 2 → w4.heap[k]? = w3.heap[k]? := fun k hk2 => (hgr.block k (by rw [size_alloc1]; omega) (fun e => by have := hOl k e.symm; omega)).trans (hbk.block k (by omega))
      replace k0 := (hoth _ (by omega)).trans k0
      replace R1 := (hoth _ (by omega)).trans R1
      replace hw := (Below.after hw hbk).grown hgr (by rw [size_alloc1]; have := hw.size; omega) (fun k e => by have := hOl k e; omega)
      clear hoth hgr hnx hbk rK hO yd11 yd10
      rw [← hms.out] at hO4
      obtain ⟨ao4, ac4, e4⟩ := slen_own hO4
      rw [msgs_len] at e4
      subst e4
      go_wp2_with (fail)
      refine ⟨⟨i + 1, by omega, by rw [k0]; simp [Int.add_assoc], R1, hO4, hw⟩, ?_⟩
      simp [slen]; omega
    · obtain rfl : i = m := by omega
      have hd : decide (n + (i : Int) < n + (i : Int)) = false := by simp
      have k1 := setRow_heap wr (w.heap.size + 1) _ (chc (kat key i) (n + (i : Int))) _ _ R1
      have hO5 : OwnK (wr.setRow (w.heap.size + 1) (chc (kat key i) (n + (i : Int)))) w.heap.size (.slice ao9 i ac9) (msgs key i) := (hO.move (fun k o e h => (setRow_other wr (w.heap.size + 1) k _ (by have := hO.lt k e; omega)).trans h)).down (by omega)
      have hw5 := below_setRow hw (show w.heap.size ≤ w.heap.size + 1 by omega) (chc (kat key i) (n + (i : Int)))
      clear hO hll
      go_wp2_with (first | (refine wpList_load_want rfl 29 _ rfl (w.heap.size) rfl 29 (chc (kat key i) (n + (i : Int))) (0, 0) _ R0 Tryd.underlying29 rfl (infoR _ hk0 _) ?_) | (refine wpList_store_row rfl 29 _ _ rfl (w.heap.size + 1) (chc (kat key i) (n + (i : Int))) rfl rfl 29 _ R1 (infoR _ hk0 _) (by rw [chc_size _ (zr_len 32), chc_size _ hk0]) (chc_one _ _) ?_) | fail)
      exact bodyPost_ret (results_css Tryd.results17 _ _ (w.heap.size + 1) _ _ _ _ rfl k1 Tryd.underlying29 rfl (infoR _ hk0 _)) rfl ⟨_, rfl, hO5, hw5⟩
def at2 (i : Int) : Nat := (i % 2).toNat
theorem at2_lt (i : Int) : at2 i < 2 := by unfold at2; omega
theorem tmod2 (i : Int) : i.tmod 2 = if 0 ≤ i then i % 2 else -(-i % 2) := by
  split
  · rename_i h; exact Int.tmod_eq_emod_of_nonneg h
  · rename_i h
    rw [show i = -(-i) by omega, Int.neg_tmod, Int.tmod_eq_emod_of_nonneg (by omega)]
    omega
theorem at2_nn {i : Int} (h : 0 ≤ i.tmod 2) : i.tmod 2 = (at2 i : Int) := by
  have ht := tmod2 i
  unfold at2
  generalize i.tmod 2 = q at *
  split at ht <;> omega
theorem at2_ng {i : Int} (h : i.tmod 2 < 0) : wrap64 (i.tmod 2 + 2) = (at2 i : Int) := by
  have ht := tmod2 i
  unfold at2
  generalize i.tmod 2 = q at *
  unfold wrap64
  split at ht <;> omega
set_option maxHeartbeats 1000000 in
theorem at2_walk (i : Int) : Gives 7 #[.int .i64 i] (.int .i64 (at2 i)) := by
  intro w
  have hn := @at2_nn i
  have hg := @at2_ng i
  generalize (at2 i : Int) = v at *
  go_enter Tryd.func7, Tryd.ntmps7
  go_wp2
  · have h := hg (by assumption)
    go_ret
    rw [h]
    exact ⟨rfl, Below.refl _ _⟩
  · have h := hn (by assumption)
    go_ret
    rw [h]
    exact ⟨rfl, Below.refl _ _⟩
/-- An act's cells. -/
def acr (K O : Int) (key : List Int) (N Mo : Int) : Array Value := ([Value.int .i64 K, Value.int .i64 O] ++ (key.map (Value.int .u8) ++ [Value.int .u32 N, Value.int .i64 Mo])).toArray
theorem acr_size (K O : Int) (key : List Int) (hkl : key.length = 32) (N Mo : Int) : (acr K O key N Mo).size = 36 := by simp [acr, hkl]
theorem acr_one (K O : Int) (key : List Int) (N Mo : Int) : (acr K O key N Mo).all (·.oneCell') = true := by
  simp [acr, Value.oneCell']
theorem acr_0 (K O : Int) (key : List Int) (N Mo : Int) : (acr K O key N Mo)[0]? = some (.int .i64 K) := by simp [acr]
theorem acr_1 (K O : Int) (key : List Int) (N Mo : Int) : (acr K O key N Mo)[1]? = some (.int .i64 O) := by simp [acr]
theorem acr_n (K O : Int) (key : List Int) (hkl : key.length = 32) (N Mo : Int) : (acr K O key N Mo)[34]? = some (.int .u32 N) := by simp [acr, hkl]
theorem acr_m (K O : Int) (key : List Int) (hkl : key.length = 32) (N Mo : Int) : (acr K O key N Mo)[35]? = some (.int .i64 Mo) := by simp [acr, hkl]
theorem acr_key (K O : Int) (key : List Int) (hkl : key.length = 32) (N Mo : Int) : (acr K O key N Mo).extract 2 (2 + (irow .u8 key).size) = irow .u8 key := by
  apply Array.ext'
  simp [acr, irow, hkl]
theorem infoA (K O : Int) (key : List Int) (hkl : key.length = 32) (N Mo : Int) : (Tryd.prog.info? 35).map (·.size) = some (acr K O key N Mo).size := by
  rw [acr_size _ _ _ hkl]; kernel_rfl
theorem bA (cs : Array Value) (W : World) : (Instr.box 35 (.agg cs)).run Tryd.prog W = .ok (.pointer (some ⟨W.heap.size, 0, none⟩)) (W.alloc (.cells cs 35)) := by kernel_rfl
/-- Whether an act's numbers are such that few steps are gone. -/
def bnd (K N Mo f : Int) : Bool := if K = 1 then decide (N < f) || decide (Mo < N - f) || decide (N - f ≤ 5000) else decide (K ≠ 2) || decide (Mo ≤ 5000)
set_option maxRecDepth 100000 in
set_option maxHeartbeats 4000000 in
theorem l_bounded (K O : Int) (key : List Int) (hkl : key.length = 32) (N Mo f : Int) (hN : 0 ≤ N ∧ N ≤ 4294967295) (hf : 0 ≤ f ∧ f ≤ 4294967295) (w : World) :
    Calls Tryd.prog 8 #[.agg (acr K O key N Mo), .int .u32 f] w fun e w' => e = .returned (.bool (bnd K N Mo f)) ∧ Below w.heap.size w w' := by
  have R0 := hp1_0 w (.cells (acr K O key N Mo) 35)
  have hw : Below w.heap.size w (w.alloc (.cells (acr K O key N Mo) 35)) := (Below.refl _ _).alloc (Nat.le_refl _) _
  have c0 := (cell_of_row _ _ 0 _ _ _ R0).trans (acr_0 K O key N Mo)
  have cn := (cell_of_row _ _ 34 _ _ _ R0).trans (acr_n K O key hkl N Mo)
  have cm := (cell_of_row _ _ 35 _ _ _ R0).trans (acr_m K O key hkl N Mo)
  unfold bnd
  by_cases h1 : K = 1
  · subst h1
    rw [if_pos rfl]
    by_cases h2 : N < f
    · have d2 : decide (N < f) = true := by simp; omega
      rw [d2]
      go_enter Tryd.func8, Tryd.ntmps8
      go_wp2_with (first | (refine wpList_box rfl 35 _ rfl _ rfl (bA _) ?_) | fail)
      go_ret
      exact ⟨rfl, hw⟩
    · have d2 : decide (N < f) = false := by simp; omega
      have q1 : 0 ≤ N - f := by omega
      rw [d2]
      by_cases h3 : Mo < N - f
      · have d3 : decide (Mo < N - f) = true := by simp; omega
        rw [d3]
        go_enter Tryd.func8, Tryd.ntmps8
        go_wp2_with (first | (refine wpList_box rfl 35 _ rfl _ rfl (bA _) ?_) | fail)
        go_ret
        exact ⟨rfl, hw⟩
      · have d3 : decide (Mo < N - f) = false := by simp; omega
        rw [d3]
        go_enter Tryd.func8, Tryd.ntmps8
        go_wp2_with (first | (refine wpList_box rfl 35 _ rfl _ rfl (bA _) ?_) | fail)
        go_ret
        exact ⟨by simp, hw⟩
  · rw [if_neg h1]
    have d1 : (K == 1) = false := by simpa using h1
    by_cases h2 : K = 2
    · subst h2
      go_enter Tryd.func8, Tryd.ntmps8
      go_wp2_with (first | (refine wpList_box rfl 35 _ rfl _ rfl (bA _) ?_) | fail)
      go_ret
      exact ⟨by simp, hw⟩
    · have d2 : (K != 2) = true := by simpa using h2
      go_enter Tryd.func8, Tryd.ntmps8
      go_wp2_with (first | (refine wpList_box rfl 35 _ rfl _ rfl (bA _) ?_) | fail)
      go_ret
      exact ⟨by simp [h2], hw⟩

end Go.Proofs.YtilgicikcjcdjaaDoor
