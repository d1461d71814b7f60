import Derived.Test.YtnbkdlfkacbfjaaXth
import Derived.Test.YtnbkdlfkacbfjaaXdv
import Derived.Test.YtnbkdlfkacbfjaaXdn
import Derived.Test.YtnbkdlfkacbfjaaWg
import Derived.Test.YtnbkdlfkacbfjaaWh
import Derived.OrdersIn
import Derived.OrdersHeld
import Derived.RangeFuncCalls
import Derived.RangeFuncBox
import Derived.Deep.CutRange
import Derived.Deep.RegionHeld3
namespace Go.Proofs.Ytnbkdlfkacbfjaa
open Go Go.RowKit Go.Sort
attribute [local go_sem] setCell_drewN alloc_drewN
attribute [local go_sem] Oper.semAt_some
section
variable {n : Nat} {P : Program} {ops : Array Oper} {Q : Exit → Act → World → Prop} {md : Region.Mode}
/-- An operation that defers nothing is run within a round as outside one. -/
theorem wpIn_round {o : Oper} {a : Act} {w : World} {K K' : Act → World → Prop} (l : Nat) (hpl : ∀ c, o.op ≠ .defer c) (hK : ∀ a w, K a w → K' a w) (h : o.wpIn Fence.wide n P a w K Q) : o.wpIn (Fence.wide.inRound l) n P a w K' Q := by
  replace h := Oper.wpIn_mono hK h
  unfold Oper.wpIn at h ⊢
  rw [Oper.semAt_plain _ _ _ hpl] at h ⊢
  refine ⟨h.1, ?_⟩
  replace h := h.2
  generalize (execOp a.eval o).run P w = r at *
  cases r with
  | ok x w' => cases x <;> exact h
  | _ => exact h
theorem wpOpIn_round {i : Nat} {a : Act} {w : World} {K K' : Act → World → Prop} (l : Nat) (hpl : ∀ (o : Oper), ops[i]? = some o → ∀ c, o.op ≠ .defer c) (hK : ∀ a w, K a w → K' a w) (h : wpOpIn Fence.wide n P ops Q i K a w) : wpOpIn (Fence.wide.inRound l) n P ops Q i K' a w := by
  unfold wpOpIn at h ⊢
  cases ho : ops[i]? with
  | none => rw [ho] at h; exact hK _ _ h
  | some o =>
    rw [ho] at h
    simp only at h ⊢
    by_cases hw : Region.wanted o (yielded ops a.tmps) = true
    · rw [if_pos hw] at h ⊢
      exact wpIn_round l (hpl o ho) hK h
    · rw [if_neg hw] at h ⊢
      exact ⟨h.1, hK _ _ h.2⟩
theorem wpAnyIn_round (l : Nat) (hpl : ∀ (i : Nat) (o : Oper), ops[i]? = some o → ∀ c, o.op ≠ .defer c) : ∀ (fuel : Nat) (listed : Array Bool) (a : Act) (w : World), wpAnyIn Fence.wide n P md ops Q fuel listed a w → wpAnyIn (Fence.wide.inRound l) n P md ops Q fuel listed a w
  | 0, _, _, _, h => h
  | fuel + 1, _, _, _, h => ⟨h.1, fun i hi => wpOpIn_round l (hpl i) (fun a w h => wpAnyIn_round l hpl fuel _ a w h) (h.2 i hi)⟩
def noDefer (o : Oper) : Bool := match o.op with | .defer _ => false | _ => true
theorem noDefer_spec {ops : Array Oper} (h : ops.all noDefer = true) : ∀ (i : Nat) (o : Oper), ops[i]? = some o → ∀ c, o.op ≠ .defer c := by
  intro i o ho c hc
  have hm := (Array.all_eq_true_iff_forall_mem.1 h) o (Array.mem_of_getElem? ho)
  simp [noDefer, hc] at hm
theorem Fts.at {W : World} {b : Nat} {v : Value} {us : List Value} {fs : List Fd} (h : Fts W b v us fs) {i : Nat} (hi : i < fs.length) : ∃ g cap, v = .slice (some ⟨g, 0, none⟩) fs.length cap ∧ b ≤ g ∧ g < W.heap.size ∧ W.rangeAt g (i * 4) (frow (gf fs i) (gv us i)) := by
  obtain ⟨h1, h2, h3, _⟩ := h
  have h1' := h1
  obtain ⟨_, ⟨rfl, h0⟩ | ⟨g, cap, cur, rfl, hb, hg, hn, hm, hs, ht⟩⟩ := h1'
  · omega
  · refine ⟨g, cap, rfl, hb, lt_of_row hg, fun j x hx => ?_⟩
    have hj : j < 4 := by have := (List.getElem?_eq_some_iff.1 hx).1; exact this
    have := h1.cells (g := g) rfl (i * 4 + j) x (by rw [frs_at fs us i j h2 hi hj]; exact hx)
    rw [addr_add, Nat.zero_add] at this
    exact this

theorem wpIn_of_wp {o : Oper} {a : Act} {w : World} {K K' : Act → World → Prop} (hpl : ∀ c, o.op ≠ .defer c) (hK : ∀ a w, K a w → K' a w) (h : o.wp P a w K Q) : o.wpIn Fence.wide n P a w K' Q := by
  replace h := Oper.wp_mono hK h
  unfold Oper.wp at h
  unfold Oper.wpIn
  rw [Oper.semAt_plain _ _ _ hpl]
  refine ⟨fun _ _ => trivial, ?_⟩
  generalize (execOp a.eval o).run P w = r at *
  cases r with
  | ok x w' =>
    cases x with
    | enter f args => exact ⟨(fun h => by cases h), callsIn_wide.2 h⟩
    | row r args => exact ⟨(fun h => by cases h), fun c cs _ => let ⟨v, w', r, s⟩ := h c cs; ⟨v, w', r, stepsIn_wide.2 s⟩⟩
    | round => exact h.elim
    | _ => exact h
  | halt x w' => cases x <;> exact h
theorem wpAnyIn_of_any (hL : ¬ LetsOut Q) (hpl : ∀ (i : Nat) (o : Oper), ops[i]? = some o → ∀ c, o.op ≠ .defer c) : ∀ (fuel : Nat) (listed : Array Bool) (a : Act) (w : World), wpAny P md ops Q fuel listed a w → wpAnyIn Fence.wide n P md ops Q fuel listed a w
  | 0, _, _, _, h => h
  | fuel + 1, listed, a, w, h => ⟨h.1, fun i hi => by
    have h2 := h.2 i hi
    unfold wpOp at h2
    unfold wpOpIn
    cases ho : ops[i]? with
    | none => rw [ho] at h2; exact wpAnyIn_of_any hL hpl fuel _ a w h2
    | some o =>
      rw [ho] at h2
      simp only at h2 ⊢
      by_cases hw : Region.wanted o (yielded ops a.tmps) = true
      · rw [if_pos hw] at h2 ⊢
        rcases h2 with h2 | ⟨_, h2⟩
        · exact wpIn_of_wp (hpl i o ho) (fun a w h => wpAnyIn_of_any hL hpl fuel _ a w h) h2
        · exact absurd h2 hL
      · rw [if_neg hw] at h2 ⊢
        exact ⟨fun _ _ => trivial, wpAnyIn_of_any hL hpl fuel _ _ w h2⟩⟩
/-- A drawn region within a round, by what holds throughout it. -/
theorem wpIn_region_held_round {S : World → Prop} {id : Nat} {a : Act} {w : World} (l0 : Nat) (hnd : ops.all noDefer = true) (hm : P.follows .mixedOrders = true) (hL : ¬ LetsOut Q)
    (h : wpAnyH P .any ops Q S ops.size (Array.replicate ops.size false) a { w with drawn := w.drawn + 1 }) : (Code.region id ops true).wpIn (Fence.wide.inRound l0) n P Q a w :=
  wpIn_region_any hm (wpAnyIn_round l0 (noDefer_spec hnd) _ _ _ _ (wpAnyIn_of_any hL (noDefer_spec hnd) _ _ _ _ (wpAny_of_held _ _ _ _ h)))
end
theorem a_Fields (ao : Option Addr) (l c : Nat) (w : World) : Calls Try.prog 6 #[.slice ao l c] w fun e w' => e = .returned (.func (.func 10) #[] #[.pointer (some ⟨w.heap.size, 0, none⟩)]) ∧ w' = w.alloc (.cells #[.slice ao l c] 22) := by
  go_enter Try.func6, Try.ntmps6
  go_wp2
  go_ret
  exact ⟨rfl, rfl⟩
theorem own_form_rowT {W : World} {b : Nat} {e : TypeId} {sz : Nat} {v : Value} {n : Nat} {xs : List Value} (h : W.ownsRow b e sz v n xs) : ∃ ao cap, v = .slice ao n cap := by
  obtain ⟨_, ⟨rfl, rfl⟩ | ⟨g, cap, cur, rfl, _⟩⟩ := h
  · exact ⟨_, _, rfl⟩
  · exact ⟨_, _, rfl⟩
/-- What stays from there on. -/
def StT (w : World) (d : List B) (stop : Int) (bv : Value) (gA B1 : Nat) (u pu : Value) (us : List Value) (WL : List (Nat × Fd)) (V : World) : Prop :=
  V.heap[w.heap.size]? = some (.cells #[.int .i64 stop] 3 (0, 0)) ∧ V.heap[w.heap.size + 1]? = some (.cells #[.bool false] 4 (0, 0)) ∧ V.heap[gA]? = some (.cells (irow .u8 (bl d ++ marks 80)) 5 (0, 0)) ∧ Fts V B1 u us (WL.map (·.2)) ∧ Nms V B1 pu (WL.map (·.1)) ∧ BysB V bv d ∧ Below w.heap.size w V
theorem dwh_fok (d : List B) : ∀ x ∈ (dwh d).1, Fok x.2 := by
  intro x hx
  unfold dwh at hx
  split at hx
  · simp at hx
  · exact whl_oks (by omega) _ _ _ _ x hx
/-- What holds between two rounds. -/
def ThJ (Wb W0 : World) (B0 e gn : Nat) (L : Loop) (C : List (Nat × Fd) → Prop) (pre : List (Nat × Fd)) (A : World) : Prop :=
  A.heap[e + 1]? = some (.loop L) ∧ A.heap[e]? = some (.deferred (some [])) ∧ A.heap[gn]? = some (.cells #[.int .i64 (pre.length : Int)] 3 (0, 0)) ∧ (∀ g, g < e → g ≠ gn → A.heap[g]? = W0.heap[g]?) ∧ Below B0 Wb A ∧ e + 2 ≤ A.heap.size ∧ C pre
theorem ThJ.below {Wb W0 : World} {B0 e gn : Nat} {L : Loop} {C : List (Nat × Fd) → Prop} {pre : List (Nat × Fd)} {A V : World} (hz : B0 ≤ e) (h : ThJ Wb W0 B0 e gn L C pre A) (hb : Below A.heap.size A V) : ThJ Wb W0 B0 e gn L C pre V := by
  obtain ⟨h1, h2, h3, h4, h5, h6, h7⟩ := h
  exact ⟨keep hb h1, keep hb h2, keep hb h3, fun g hg hne => (hb.block g (by omega)).trans (h4 g hg hne), h5.trans (hb.mono (by omega)), Nat.le_trans h6 hb.size, h7⟩
theorem ThJ.set {Wb W0 : World} {B0 e gn : Nat} {L : Loop} {C : List (Nat × Fd) → Prop} {pre : List (Nat × Fd)} {A : World} (hz : B0 ≤ e) (hn : gn < e) (g j : Nat) (u : Value) (hg : e + 2 ≤ g) (h : ThJ Wb W0 B0 e gn L C pre A) : ThJ Wb W0 B0 e gn L C pre (A.setCell ⟨g, j, none⟩ u) := by
  obtain ⟨h1, h2, h3, h4, h5, h6, h7⟩ := h
  exact ⟨heap_other h1 (by omega), heap_other h2 (by omega), heap_other h3 (by omega), fun k hk hne => (Below.heap_setCell _ _ _ _ (by show k ≠ g; omega)).trans (h4 k hk hne), h5.setCell (p := ⟨g, j, none⟩) (show B0 ≤ g by omega) u, by simpa [World.setCell] using h6, h7⟩
theorem run_load_rowT {P : Program} {o : Oper} {a : Act} {w : World} (ty : TypeId) (x : Operand) (ho : o.op = .load ty x) (g : Nat) (hx : a.eval x = .pointer (some ⟨g, 0, none⟩)) (t : TypeId) (cs : Array Value) (fr : Nat × Nat) (d : TypeDesc) (hg : w.heap[g]? = some (.cells cs t fr))
    (hu : P.underlying ty = some d) (hd : (match d with | .struct _ | .array _ _ => true | _ => false) = true) (hi : (P.info? ty).map (·.size) = some cs.size) : (execOp a.eval o).run P w = .ok (.value (.agg cs)) w := by
  unfold execOp
  simp only [ho, hx, Instr.loadAt, Instr.sureAddr, Sem.run_bind, Sem.run_pure, Result.andThen_ok, run_loadVar_row w g t ty cs fr d hg hu hd hi]
theorem run_bF1 (a b c d : Value) (W : World) : (Instr.buildSlice 25 1 #[(0, .agg #[a, b, c, d])]).run Try.prog W = .ok (.slice (some ⟨W.heap.size, 0, none⟩) 1 1) (W.alloc (.cells #[a, b, c, d] 35)) := by kernel_rfl
theorem op_bF1 {o : Oper} {a : Act} {w : World} (p : Operand) (ho : o.op = .buildSlice 25 1 #[(0, p)]) (x y z t : Value) (hp : a.eval p = .agg #[x, y, z, t]) : (execOp a.eval o).run Try.prog w = .ok (.value (.slice (some ⟨w.heap.size, 0, none⟩) 1 1)) (w.alloc (.cells #[x, y, z, t] 35)) := by
  have hr := run_bF1 x y z t w
  unfold execOp
  simp only [ho, Sem.run_bind, Sem.run_pure, List.map_toArray, List.map_cons, List.map_nil, hp, hr, Result.andThen_ok]
theorem nms_at {W : World} {b : Nat} {v : Value} {ns : List Nat} (h : Nms W b v ns) {i : Nat} {m : Nat} (hi : ns[i]? = some m) : ∃ g cap, v = .slice (some ⟨g, 0, none⟩) ns.length cap ∧ g < W.heap.size ∧ W.cell? ⟨g, i, none⟩ = some (.int .i64 (m : Int)) := by
  have h' := h
  obtain ⟨_, ⟨rfl, h0⟩ | ⟨g, cap, cur, rfl, hb, hg, _⟩⟩ := h
  · have := (List.getElem?_eq_some_iff.1 hi).1
    omega
  · refine ⟨g, cap, rfl, lt_of_row hg, ?_⟩
    have := World.ownsRow.cells h' (g := g) rfl i (.int .i64 (m : Int)) (by rw [List.getElem?_map, hi]; rfl)
    rw [addr_add, Nat.zero_add] at this
    exact this
theorem elemFT : Try.prog.underlying 25 = some (.slice (Try.prog.elem 25)) := by kernel_rfl
theorem sizeFT (W : World) : (sizeOf (Try.prog.elem 25)).run Try.prog W = .ok 4 W := by kernel_rfl
theorem slf_mid (g len cap k : Nat) (h : k + 1 ≤ cap) (W : World) : (Instr.sliceAt 25 (.slice (some ⟨g, 0, none⟩) len cap) (some (.int .i64 (k : Int))) (some (.int .i64 ((k : Int) + 1))) none).run Try.prog W = .ok (.slice (some ⟨g, k * 4, none⟩) 1 (cap - k)) W := by
  rw [run_sliceAt_slice _ _ _ _ _ _ elemFT, run_slice_lh W 25 _ len cap elemFT .i64 .i64 _ _ (by omega) (by omega) (by omega), sizeFT]
  show Result.ok (sliced _ _ _ _ 4) W = _
  rw [Int.toNat_natCast, show ((k : Int) + 1).toNat = k + 1 by omega, sliced]
  simp [Addr.add]
  rw [if_neg (by omega)]
  by_cases hk : k = 0
  · simp [hk]
  · rw [if_neg (by omega)]
theorem fds_mid {W : World} {b gu n uc K : Nat} {us : List Value} {fs : List Fd} {f : Fd} (h : Fts W b (.slice (some ⟨gu, 0, none⟩) n uc) us fs) (hi : fs[K]? = some f) (hf : Fok f) : K + 1 ≤ uc ∧ Fds W (.slice (some ⟨gu, K * 4, none⟩) 1 (uc - K)) [f] := by
  have hl := (List.getElem?_eq_some_iff.1 hi).1
  have hgf : gf fs K = f := by rw [gf, List.getD_eq_getElem?_getD, hi]; rfl
  obtain ⟨g, cap, e, _, hg, hr⟩ := h.at (i := K) hl
  cases e
  have hcap : fs.length ≤ uc := by
    obtain ⟨⟨_, ⟨h1, _⟩ | ⟨g, cap, cur, h1, _, _, hn, _⟩⟩, _⟩ := h
    · cases h1
    · cases h1; exact hn
  have ho := h.2.2.1 K (by rw [h.2.1]; exact hl)
  rw [hgf] at hr ho
  refine ⟨by omega, ⟨some ⟨gu, K * 4, none⟩, uc - K, rfl, by simp, by simp; omega, (fun e => by cases e), fun i hi => ?_⟩⟩
  obtain rfl : i = 0 := by simpa using hi
  exact ⟨gu, K * 4, _, rfl, hg, by simpa [gf] using hr, ho.bysB (by have := hf.2.1; show f.dat.length ≤ _; omega), hf⟩
theorem jx_fact {pre : List (Nat × Fd)} {K : Nat} {stop : Int} (hK : pre.length = K) (h : pre = [] ∨ (pre.length : Int) < stop) (hs : stop ≤ (K : Int) + 1) : stop ≤ ((K + 1 : Nat) : Int) ∧ (K + 1 = 1 ∨ ((K + 1 : Nat) : Int) ≤ stop) := by
  rcases h with h | h
  · subst h
    simp at hK
    omega
  · omega
theorem ecutW {G : Prop} {A : World → Prop} (T : World → Prop) (h1 : (∀ W, T W → A W) → G) (h2 : ∀ W, T W → A W) : G := h1 h2
theorem wp_exit_in {P : Program} {n : Nat} {Q : Exit → Act → World → Prop} {a : Act} {w : World} (h : Exit.inBlock n Q .normal a w) : (Code.exit n).wp P (Exit.inBlock n Q) a w := by
  refine wp_exit ?_
  simpa [Exit.inBlock] using h
theorem ofInt_toNatT (a : B) : BitVec.ofInt 8 (a.toNat : Int) = a := by
  rw [BitVec.ofInt_natCast, BitVec.ofNat_toNat, BitVec.setWidth_eq]
theorem xor8T (a b : B) : bits .xor .u8 (bv a) (bv b) = bv (a ^^^ b) := by
  show IntKind.u8.wrap ((BitVec.ofInt 8 a.toNat ^^^ BitVec.ofInt 8 b.toNat).toNat : Int) = ((a ^^^ b).toNat : Int)
  rw [ofInt_toNatT, ofInt_toNatT]
  show (((a ^^^ b).toNat : Int)) % 256 = _
  have := (a ^^^ b).isLt
  omega
/-- A list, turned up to a place. -/
def mxB (xb : B) (d : List B) (k : Nat) : List B := (d.map (· ^^^ xb)).take k ++ d.drop k
theorem mxB_len (xb : B) (d : List B) (k : Nat) (h : k ≤ d.length) : (mxB xb d k).length = d.length := by simp [mxB]; omega
theorem mxB_zero (xb : B) (d : List B) : mxB xb d 0 = d := by simp [mxB]
theorem mxB_all (xb : B) (d : List B) : mxB xb d d.length = d.map (· ^^^ xb) := by
  unfold mxB
  rw [List.drop_length, List.append_nil, List.take_of_length_le (by simp)]
theorem mxB_get (xb : B) (d : List B) (k : Nat) (y : B) (h : d[k]? = some y) : (mxB xb d k)[k]? = some y := by
  have hl := (List.getElem?_eq_some_iff.1 h).1
  unfold mxB
  rw [List.getElem?_append_right (by simp; omega)]
  simp only [List.length_take, List.length_map]
  rw [List.getElem?_drop, show k + (k - min k d.length) = k by omega]
  exact h
theorem mxB_set (xb : B) (d : List B) (k : Nat) (y : B) (h : d[k]? = some y) : (mxB xb d k).set k (y ^^^ xb) = mxB xb d (k + 1) := by
  have hl := (List.getElem?_eq_some_iff.1 h).1
  have hy : d[k] = y := by rw [List.getElem?_eq_getElem hl] at h; exact Option.some.inj h
  have h1 : ((d.map (· ^^^ xb)).take k).length = k := by simp; omega
  unfold mxB
  rw [List.set_append_right _ _ (by omega), h1, Nat.sub_self, List.drop_eq_getElem_cons hl, List.set_cons_zero, List.take_succ_eq_append_getElem (by simp; exact hl), List.append_assoc]
  simp [hy]
theorem own_setT {W : World} {b g n c t : Nat} {l : List B} (h : Own W b (.slice (some ⟨g, 0, none⟩) n c) l) (z : B) : Own (W.setCell ⟨g, t, none⟩ (.int .u8 (bv z))) b (.slice (some ⟨g, 0, none⟩) n c) (l.set t z) := by
  obtain ⟨q1, ⟨hv, _⟩ | ⟨g1, cap1, cur, hv, hbg, hg, hnc, hcm, hcs, htake⟩⟩ := h
  · cases hv
  · cases hv
    refine ⟨by simp [bl], .inr ⟨g, c, cur.setIfInBounds t (.int .u8 (bv z)), by rw [List.length_set], hbg, heap_setCell_same W g t cur _ (.int .u8 (bv z)) hg, by rw [List.length_set]; exact hnc, hcm, by rw [Array.size_setIfInBounds]; exact hcs, ?_⟩⟩
    rw [Array.toList_setIfInBounds, List.length_set, List.take_set, htake]
    simp only [bl, List.map_set]
theorem own_cellT {W : World} {b g n c t : Nat} {l : List B} {y : B} (h : Own W b (.slice (some ⟨g, 0, none⟩) n c) l) (hy : l[t]? = some y) : W.cell? ⟨g, t, none⟩ = some (.int .u8 (bv y)) ∧ W.frozen? ⟨g, t, none⟩ = false := by
  have hc := World.ownsRow.cells h (g := g) rfl t (.int .u8 (bv y)) (by rw [bl, List.getElem?_map, List.getElem?_map, hy]; rfl)
  rw [addr_add, Nat.zero_add] at hc
  obtain ⟨q1, ⟨hv, _⟩ | ⟨g1, cap1, cur, hv, hbg, hg, _⟩⟩ := h
  · cases hv
  · cases hv
    exact ⟨hc, row_frozen hg t⟩
theorem lt_of_heapT {W : World} {g : Nat} {o : Obj} (h : W.heap[g]? = some o) : g < W.heap.size := (Array.getElem?_eq_some_iff.1 h).1
theorem results_cell_bool {P : Program} {fn : Func} {p : Tmp} {ty : TypeId} (h : fn.results = #[.cell p ty]) (tmps : Array Value) (w : World) (g : Nat) (v : Value) (hp : tmps.getD p undef = .pointer (some ⟨g, 0, none⟩)) (hg : (loadVar ty ⟨g, 0, none⟩).run P w = .ok v w) : (results fn tmps).run P w = .ok v w := by
  have hp' : tmps[p]?.getD undef = .pointer (some ⟨g, 0, none⟩) := by simpa using hp
  simp [results, h, hp', asAddr, hg]
theorem row_load {w : World} {g : Nat} {b : Value} {t : TypeId} (h : w.heap[g]? = some (.cells #[b] t (0, 0))) : (loadVar 4 ⟨g, 0, none⟩).run Try.prog w = .ok b w := by
  have c : w.cell? ⟨g, 0, none⟩ = some b := by rw [cell_of_row _ g 0 _ _ _ h]; rfl
  simp [loadVar, c, go_sem]
theorem nilfnT (lb : Array Value) (W : World) : (binOp .eql 31 (.func (.func 10) #[] lb) .nilFunc).run Try.prog W = .ok (.bool false) W := by kernel_rfl
set_option maxRecDepth 100000 in
set_option maxHeartbeats 16000000 in
theorem through_any (d : List B) (stop : Int) (xb : B) (av : Value) (w : World) (hB : BysB w av d) (hcap : ∀ a l c, av = .slice a l c → l ≤ c) : Calls Try.prog 3 #[av, .int .i64 stop, .int .u8 (bv xb)] w fun e w' => e = .returned (.bool true) ∧ Below w.heap.size w w' := by
  have hBl := hB.2.1
  obtain ⟨bo, bc, rfl⟩ := hB.form
  have R0 := hp2_0 w (.cells #[.int .i64 stop] 3) (.cells #[.bool false] 4)
  have R1 := hp2_1 w (.cells #[.int .i64 stop] 3) (.cells #[.bool false] 4)
  have hw : Below w.heap.size w ((w.alloc (.cells #[.int .i64 stop] 3)).alloc (.cells #[.bool false] 4)) := ((Below.refl _ _).alloc (Nat.le_refl _) _).alloc (by simp) _
  have cL := hide (l_lent d _ _ (hB.keep hw))
  refine (callsIn_wide (n := 4)).1 (callsIn_of_wp_marks Try.func3 rfl trivial ?_)
  refine wpIn_wide.2 ?_
  simp only [Try.ntmps3, List.size_toArray, List.length_cons, List.length_nil, Nat.reduceAdd, Nat.reduceSub, Array.replicate_succ, Array.replicate_zero, List.push_toArray, List.append_toArray, List.nil_append, List.cons_append]
  go_wp2_with (fail)
  refine cL.out.mono ?_
  rintro e_ w1 ⟨_, rfl, gA, rfl, lgA, RA, hb⟩
  clear cL
  generalize (w.alloc (.cells #[.int .i64 stop] 3)).alloc (.cells #[.bool false] 4) = w0 at *
  have l01 := lt_of_row R1
  replace R0 := keep hb R0
  replace R1 := keep hb R1
  replace hw := Below.after hw hb
  clear hb
  have cX := hide (r_whole d w1 _ (hB.keep hw) hcap)
  go_wp2_with (fail)
  refine cX.out.mono ?_
  rintro e_ Wb ⟨u, us, pu, rfl, hFt, hNm, hb⟩
  clear cX
  have lA1 := lt_of_row RA
  replace R0 := keep hb R0
  replace R1 := keep hb R1
  replace RA := keep hb RA
  replace hw := Below.after hw hb
  clear hb
  obtain ⟨uo, uc, rfl⟩ := own_form_rowT hFt.1
  obtain ⟨po, pc, rfl⟩ := own_form_rowT hNm
  obtain ⟨WL, hWL⟩ : ∃ l, (dwh d).1 = l := ⟨_, rfl⟩
  have hWf : ∀ x ∈ WL, Fok x.2 := fun x hx => dwh_fok d x (hWL ▸ hx)
  rw [hWL, List.length_map] at hFt hNm
  rw [show ((dwh d).1.map (·.2)).length = WL.length by rw [hWL, List.length_map], show ((dwh d).1.map (·.1)).length = WL.length by rw [hWL, List.length_map]]
  have hs1 := hide (fun V (h : Below Wb.heap.size Wb V) => (⟨keep h R0, keep h R1, keep h RA, hFt.keep h, own_keep_row hNm h, hB.keep (Below.after hw h), Below.after hw h⟩ : StT w d stop (.slice bo d.length bc) gA w1.heap.size (.slice uo WL.length uc) (.slice po WL.length pc) us WL V))
  have lw0 : w.heap.size + 1 < Wb.heap.size := lt_of_row R1
  have lwA : gA < Wb.heap.size := lt_of_row RA
  have nAw : w.heap.size + 1 < gA := by omega
  clear R0 R1 RA hFt hNm hB hw lA1 l01 lgA
  generalize hBz : Wb.heap.size = B0 at *
  generalize der (dwh d) = E0 at *
  generalize dpl (dwh d) = P0 at *
  go_wp2_with (fail)
  refine (a_Fields (some ⟨gA, 0, none⟩) d.length (d.length + 80) _).mono ?_
  rintro e_ w3_ ⟨rfl, rfl⟩
  have hnf := nilfnT #[.pointer (some ⟨B0 + 1 + 1, 0, none⟩)]
  go_wp2_with (fail)
  have rL := hp5_0 Wb (.cells #[(.slice uo WL.length uc)] 25) (.cells #[(.slice po WL.length pc)] 26) (.cells #[(.slice (some ⟨gA, 0, none⟩) d.length (d.length + 80))] 22) (.cells #[.int .i64 0] 3) (.cells #[.int .i64 0] 3)
  have rP := hp5_1 Wb (.cells #[(.slice uo WL.length uc)] 25) (.cells #[(.slice po WL.length pc)] 26) (.cells #[(.slice (some ⟨gA, 0, none⟩) d.length (d.length + 80))] 22) (.cells #[.int .i64 0] 3) (.cells #[.int .i64 0] 3)
  have rF := hp5_2 Wb (.cells #[(.slice uo WL.length uc)] 25) (.cells #[(.slice po WL.length pc)] 26) (.cells #[(.slice (some ⟨gA, 0, none⟩) d.length (d.length + 80))] 22) (.cells #[.int .i64 0] 3) (.cells #[.int .i64 0] 3)
  have rN := hp5_3 Wb (.cells #[(.slice uo WL.length uc)] 25) (.cells #[(.slice po WL.length pc)] 26) (.cells #[(.slice (some ⟨gA, 0, none⟩) d.length (d.length + 80))] 22) (.cells #[.int .i64 0] 3) (.cells #[.int .i64 0] 3)
  have rR := hp5_4 Wb (.cells #[(.slice uo WL.length uc)] 25) (.cells #[(.slice po WL.length pc)] 26) (.cells #[(.slice (some ⟨gA, 0, none⟩) d.length (d.length + 80))] 22) (.cells #[.int .i64 0] 3) (.cells #[.int .i64 0] 3)
  have hw : Below B0 Wb (((((Wb.alloc (.cells #[(.slice uo WL.length uc)] 25)).alloc (.cells #[(.slice po WL.length pc)] 26)).alloc (.cells #[(.slice (some ⟨gA, 0, none⟩) d.length (d.length + 80))] 22)).alloc (.cells #[.int .i64 0] 3)).alloc (.cells #[.int .i64 0] 3)) := by
    rw [← hBz]
    exact (((((Below.refl _ _).alloc (Nat.le_refl _) _).alloc (by simp) _).alloc (by simp; omega) _).alloc (by simp; omega) _).alloc (by simp; omega) _
  rw [hBz] at rL rP rF rN rR
  generalize (((((Wb.alloc (.cells #[(.slice uo WL.length uc)] 25)).alloc (.cells #[(.slice po WL.length pc)] 26)).alloc (.cells #[(.slice (some ⟨gA, 0, none⟩) d.length (d.length + 80))] 22)).alloc (.cells #[.int .i64 0] 3)).alloc (.cells #[.int .i64 0] 3)) = w4 at *
  have k1 : B0 < B0 + 1 := by omega
  have k2 : B0 + 1 < B0 + 1 + 1 := by omega
  have k3 : B0 + 1 + 1 < B0 + 1 + 1 + 1 := by omega
  have k4 : B0 + 1 + 1 + 1 < B0 + 1 + 1 + 1 + 1 := by omega
  generalize B0 + 1 + 1 + 1 + 1 = gr at *
  generalize B0 + 1 + 1 + 1 = gn at *
  generalize B0 + 1 + 1 = gF at *
  generalize B0 + 1 = gP at *
  clear hnf
  refine wp_loop_rounds 3 ?_
  rw [rounds_succ]
  have cR : w4.cell? ⟨gr, 0, none⟩ = some (.int .i64 0) := by rw [cell_of_row _ _ 0 _ _ _ rR]; rfl
  have cN : w4.cell? ⟨gn, 0, none⟩ = some (.int .i64 0) := by rw [cell_of_row _ _ 0 _ _ _ rN]; rfl
  have fN : w4.frozen? ⟨gn, 0, none⟩ = false := by simp [World.frozen?, rN]
  go_wp2_with (fail)
  clear cR cN fN
  replace rL := heap_other (v := .int .i64 0) (j := 0) rL (show B0 ≠ gn by omega)
  replace rP := heap_other (v := .int .i64 0) (j := 0) rP (show gP ≠ gn by omega)
  replace rF := heap_other (v := .int .i64 0) (j := 0) rF (show gF ≠ gn by omega)
  replace rR := heap_other (v := .int .i64 0) (j := 0) rR (show gr ≠ gn by omega)
  replace hw := hw.setCell (p := ⟨gn, 0, none⟩) (show B0 ≤ gn by omega) (.int .i64 0)
  have rN' : (w4.setCell ⟨gn, 0, none⟩ (.int .i64 0)).heap[gn]? = some (.cells #[.int .i64 0] 3 (0, 0)) := row_set rN 0 (.int .i64 0)
  clear rN
  have rN := rN'
  clear rN'
  generalize w4.setCell ⟨gn, 0, none⟩ (.int .i64 0) = v0 at *
  have lr := lt_of_row rR
  have hst := hs1.out _ hw
  obtain ⟨e, he⟩ : ∃ e, v0.heap.size = e := ⟨_, rfl⟩
  apply ecutW (fun W : World => ∃ m : Nat, W.heap[gn]? = some (.cells #[.int .i64 (m : Int)] 3 (0, 0)) ∧ W.heap[e]? = some (.deferred (some [])) ∧ (∀ g, g < e → g ≠ gn → W.heap[g]? = v0.heap[g]?) ∧ Below B0 Wb W ∧ e + 2 ≤ W.heap.size ∧ (m = WL.length ∨ (m : Int) = stop ∨ (stop < 1 ∧ m = 1)))
  · intro key_
    refine wp_range_clo (gf := 10) (lb := #[.pointer (some ⟨gF, 0, none⟩)]) rfl (enters_of Try.func10 (by kernel_rfl) rfl) ?_
    intro fn rec hrec
    rw [he] at hrec ⊢
    have y0 := hp2_0 v0 (.deferred (some [])) (.loop (rec .ready none))
    have y1 := hp2_1 v0 (.deferred (some [])) (.loop (rec .ready none))
    have hb0 : Below v0.heap.size v0 ((v0.alloc (.deferred (some []))).alloc (.loop (rec .ready none))) := ((Below.refl _ _).alloc (Nat.le_refl _) _).alloc (by simp) _
    have hs6 : ((v0.alloc (.deferred (some []))).alloc (.loop (rec .ready none))).heap.size = e + 2 := by simp [he]
    rw [he] at y0 y1 lr
    have k5 : gn < e ∧ gr < e ∧ B0 ≤ e ∧ gF < e ∧ gP < e := by omega
    have J0 : ThJ Wb v0 B0 e gn (rec .ready none) (fun pre => pre = [] ∨ (pre.length : Int) < stop) [] ((v0.alloc (.deferred (some []))).alloc (.loop (rec .ready none))) := ⟨y1, y0, keep hb0 rN, fun g hg _ => hb0.block g (by omega), hw.trans (hb0.mono (by omega)), by omega, .inl rfl⟩
    have hy_ : ∀ pre (y : Nat × Fd) u A C, ThJ Wb v0 B0 e gn (rec .ready none) (fun pre => pre = [] ∨ (pre.length : Int) < stop) pre A → Below A.heap.size A C → Own C A.heap.size u y.2.dat → (pre ++ [y]) <+: (dwh d).1 → Fok y.2 → pre.length < 64 → (e + 2) ≤ A.heap.size → YieldAt Fence.wide 2 Try.prog (e + 1) #[.int .i64 (y.1 : Int), .agg #[.int .i64 y.2.no, .int .i64 y.2.ty, .int .u64 (y.2.num : Int), u]] C fun e_ C' => (e_ = .returned (.bool true) ∧ ThJ Wb v0 B0 e gn (rec .ready none) (fun pre => pre = [] ∨ (pre.length : Int) < stop) (pre ++ [y]) C' ∧ ∀ g, e + 2 ≤ g → g < C.heap.size → C'.heap[g]? = C.heap[g]?) ∨ (e_ = .returned (.bool false) ∧ ThJ Wb v0 B0 e gn (rec .done (some (.exit 2))) (fun pre => stop ≤ (pre.length : Int) ∧ (pre.length = 1 ∨ (pre.length : Int) ≤ stop)) (pre ++ [y]) C') := by
      intro pre y u A C hJ hbC ho hpre hf hl64 hA2
      obtain ⟨g1, g2, g3, g4, g5, g6, g7⟩ := hJ.below k5.2.2.1 hbC
      clear hJ
      have hyy := run_yield (P := Try.prog) (args := #[.int .i64 (y.1 : Int), .agg #[.int .i64 y.2.no, .int .i64 y.2.ty, .int .u64 (y.2.num : Int), u]]) g1 (by rw [hrec]; rfl)
      rw [hrec] at hyy
      refine ⟨fn, _, _, _, hyy, roundIn_of_wpIn trivial ?_⟩
      clear hyy
      obtain ⟨K, hK⟩ : ∃ K, pre.length = K := ⟨_, rfl⟩
      have hget : WL[K]? = some y := by
        obtain ⟨t_, ht⟩ := hpre
        rw [← hWL, ← ht, ← hK]
        simp
      have hKl : K < WL.length := (List.getElem?_eq_some_iff.1 hget).1
      have hge : decide ((K : Int) ≥ (WL.length : Int)) = false := by simp; omega
      rw [hK] at g3 hl64
      obtain ⟨xo, xc, hu⟩ := slen_own ho
      subst hu
      have hoL := own_low ho
      have hoH := own_high ho
      have hCs : e + 2 ≤ C.heap.size := Nat.le_trans hA2 hbC.size
      have r0 := hp1_0 C (.cells #[.int .i64 0, .int .i64 0, .int .u64 0, .slice none 0 0] 35)
      have hbx : Below C.heap.size C ((C.alloc (.cells #[.int .i64 0, .int .i64 0, .int .u64 0, .slice none 0 0] 35)).setRow C.heap.size #[.int .i64 y.2.no, .int .i64 y.2.ty, .int .u64 (y.2.num : Int), .slice xo y.2.dat.length xc]) := below_setRow ((Below.refl _ _).alloc (Nat.le_refl _) _) (Nat.le_refl _) _
      have rB := setRow_heap _ C.heap.size _ #[.int .i64 y.2.no, .int .i64 y.2.ty, .int .u64 (y.2.num : Int), .slice xo y.2.dat.length xc] _ _ r0
      have hone : (#[Value.int .i64 y.2.no, .int .i64 y.2.ty, .int .u64 (y.2.num : Int), .slice xo y.2.dat.length xc] : Array Value).all (·.oneCell') = true := by simp [Value.oneCell']
      gi_wp2_with (first | (refine wpListIn_alloc rfl 35 rfl #[.int .i64 0, .int .i64 0, .int .u64 0, .slice none 0 0] zFd ?_) | (refine wpListIn_store_row rfl 35 _ _ rfl C.heap.size #[.int .i64 y.2.no, .int .i64 y.2.ty, .int .u64 (y.2.num : Int), .slice xo y.2.dat.length xc] rfl rfl 35 _ r0 infoF rfl hone ?_) | fail)
      clear r0
      generalize (C.alloc (.cells #[.int .i64 0, .int .i64 0, .int .u64 0, .slice none 0 0] 35)).setRow C.heap.size #[.int .i64 y.2.no, .int .i64 y.2.ty, .int .u64 (y.2.num : Int), .slice xo y.2.dat.length xc] = C1 at *
      have e1 := keep hbx g1
      refine ⟨_, run_beginRound e1 (by rw [hrec]), ?_⟩
      have hoth : ∀ g, g ≠ e + 1 → (C1.putObj (e + 1) (.loop { rec .ready none with state := .busy })).heap[g]? = C1.heap[g]? := fun g hg => World.putObj_heap_other hg
      have e1' : (C1.putObj (e + 1) (.loop { rec .ready none with state := .busy })).heap[e + 1]? = some (.loop { rec .ready none with state := .busy }) := World.putObj_heap_same (lt_of_row e1)
      have e2 := (hoth e (by omega)).trans (keep hbx g2)
      have e3 := (hoth gn (by omega)).trans (keep hbx g3)
      have e4 : ∀ g, g < e → g ≠ gn → (C1.putObj (e + 1) (.loop { rec .ready none with state := .busy })).heap[g]? = v0.heap[g]? := fun g hg hne => (hoth g (by omega)).trans ((hbx.block g (by omega)).trans (g4 g hg hne))
      have e5 : Below B0 Wb (C1.putObj (e + 1) (.loop { rec .ready none with state := .busy })) := (g5.trans (hbx.mono (by omega))).grown (grownBy_putObj' _ _ _) (by have := hbx.size; omega) (fun k h => by cases h; omega)
      have e8 : Hid (∀ g, e + 2 ≤ g → g < C.heap.size → (C1.putObj (e + 1) (.loop { rec .ready none with state := .busy })).heap[g]? = C.heap[g]?) := hide (fun g hg hl => (hoth g (by omega)).trans (hbx.block g hl))
      have rB2 := (hoth C.heap.size (by omega)).trans rB
      have ho2 : Own (C1.putObj (e + 1) (.loop { rec .ready none with state := .busy })) A.heap.size (.slice xo y.2.dat.length xc) y.2.dat := own_but (ho.keep hbx) (fun q hq => hoth q (by have := hoL q hq; omega))
      have hszC : (C1.putObj (e + 1) (.loop { rec .ready none with state := .busy })).heap.size = C1.heap.size := World.putObj_size
      have hsC := lt_of_row rB
      generalize (C1.putObj (e + 1) (.loop { rec .ready none with state := .busy })) = C2 at *
      rw [← hszC] at hsC
      clear hoth rB hbx e1 g1 g2 g3 g4 g5 hszC hone ho
      obtain ⟨R0, R1, RA, hFt, hNm, hBd, hwW⟩ := hs1.out _ e5
      have hget2 : (WL.map (·.2))[K]? = some y.2 := by rw [List.getElem?_map, hget]; rfl
      have hget1 : (WL.map (·.1))[K]? = some y.1 := by rw [List.getElem?_map, hget]; rfl
      obtain ⟨gu, ucap, eU, _, hgu, _⟩ := hFt.at (i := K) (by rw [List.length_map]; exact hKl)
      rw [List.length_map] at eU
      cases eU
      obtain ⟨gp, pcap, eP, hgp, cP⟩ := nms_at hNm hget1
      rw [List.length_map] at eP
      cases eP
      obtain ⟨hKc, hU2⟩ := fds_mid hFt hget2 hf
      have hsl := slf_mid gu WL.length uc K hKc
      have hyb := ho2.bysB (by have := hf.2.1; omega)
      have eL := (e4 B0 (by omega) (by omega)).trans rL
      have eP := (e4 gP (by omega) (by omega)).trans rP
      have eR := (e4 gr (by omega) (by omega)).trans rR
      clear hFt hNm hget hget1 hget2 R1 RA hBd
      generalize hgB : C.heap.size = gB at *
      gi_wp2_with (fail)
      have dW : IntKind.wrap .i64 ((K : Int) + 1) = (K : Int) + 1 := by rw [IntKind.wrap_i64]; omega
      have hix : decide ((K : Int) < (WL.length : Int)) = true := by simp; omega
      have hbd : Below C2.heap.size C2 C2.drew := below_drN (Below.refl _ _) 1
      have HS : (fun V : World => V.heap[gn]? = some (.cells #[.int .i64 (K : Int)] 3 (0, 0)) ∧ V.heap[B0]? = some (.cells #[.slice (some ⟨gu, 0, none⟩) WL.length uc] 25 (0, 0)) ∧ V.heap[gP]? = some (.cells #[.slice (some ⟨gp, 0, none⟩) WL.length pc] 26 (0, 0)) ∧ V.cell? ⟨gp, K, none⟩ = some (.int .i64 (y.1 : Int)) ∧ V.heap[gB]? = some (.cells #[.int .i64 y.2.no, .int .i64 y.2.ty, .int .u64 (y.2.num : Int), .slice xo y.2.dat.length xc] 35 (0, 0))) C2.drew := ⟨keep hbd e3, keep hbd eL, keep hbd eP, (hbd.cell (p := ⟨gp, K, none⟩) (show gp < _ by omega)).trans cP, keep hbd rB2⟩
      replace hU2 := hU2.keep hbd
      replace hyb := hyb.keep hbd
      have szd := hbd.size
      refine wpIn_region_held_round (S := fun V : World => V.heap[gn]? = some (.cells #[.int .i64 (K : Int)] 3 (0, 0)) ∧ V.heap[B0]? = some (.cells #[.slice (some ⟨gu, 0, none⟩) WL.length uc] 25 (0, 0)) ∧ V.heap[gP]? = some (.cells #[.slice (some ⟨gp, 0, none⟩) WL.length pc] 26 (0, 0)) ∧ V.cell? ⟨gp, K, none⟩ = some (.int .i64 (y.1 : Int)) ∧ V.heap[gB]? = some (.cells #[.int .i64 y.2.no, .int .i64 y.2.ty, .int .u64 (y.2.num : Int), .slice xo y.2.dat.length xc] 35 (0, 0))) _ (by kernel_rfl) (by kernel_rfl) (fun h => by obtain ⟨_, _, h⟩ := h; exact h) ?_
      change wpAnyH _ _ _ _ _ _ _ _ (World.drew _)
      generalize C2.drew = y1 at *
      refine wpAnyH_take (i := 0) (v := .int .i64 (K : Int)) rfl (by kernel_rfl) (by kernel_rfl) (by kernel_rfl) (fun _ _ _ h => h) (Or.inl ⟨by rfl, ?y1⟩) HS ?r1
      case y1 =>
        intro w_ hS_
        have c_ := cell_of_row _ _ 0 _ _ _ hS_.1
        go_simp
        try with_reducible rfl
      simp only [Act.put, List.getElem_toArray, List.getElem_cons_zero, List.setIfInBounds_toArray, List.set_cons_succ, List.set_cons_zero]
      refine wpAnyH_take (i := 1) (v := .slice (some ⟨gu, 0, none⟩) WL.length uc) rfl (by kernel_rfl) (by kernel_rfl) (by kernel_rfl) (fun _ _ _ h => h) (Or.inl ⟨by rfl, ?y2⟩) HS ?r2
      case y2 =>
        intro w_ hS_
        have c_ := cell_of_row _ _ 0 _ _ _ hS_.2.1
        go_simp
        try with_reducible rfl
      simp only [Act.put, List.getElem_toArray, List.getElem_cons_succ, List.getElem_cons_zero, List.setIfInBounds_toArray, List.set_cons_succ, List.set_cons_zero]
      refine wpAnyH_take (i := 2) (v := .int .i64 (WL.length : Int)) rfl (by kernel_rfl) (by kernel_rfl) (by kernel_rfl) (fun _ _ _ h => h) (Or.inl ⟨by rfl, ?y3⟩) HS ?r3
      case y3 =>
        intro w_ hS_
        go_simp
        try with_reducible rfl
      simp only [Act.put, List.getElem_toArray, List.getElem_cons_succ, List.getElem_cons_zero, List.setIfInBounds_toArray, List.set_cons_succ, List.set_cons_zero]
      refine wpAnyH_take (i := 3) (v := .bool false) rfl (by kernel_rfl) (by kernel_rfl) (by kernel_rfl) (fun _ _ _ h => h) (Or.inl ⟨by rfl, ?y4⟩) HS ?r4
      case y4 =>
        intro w_ hS_
        have h_ := hge
        go_simp
        try with_reducible rfl
      simp only [Act.put, List.getElem_toArray, List.getElem_cons_succ, List.getElem_cons_zero, List.setIfInBounds_toArray, List.set_cons_succ, List.set_cons_zero]
      refine wpAnyH_take (i := 4) (v := ?v5) rfl (by kernel_rfl) (by kernel_rfl) (by kernel_rfl) (fun _ _ _ h => h) (Or.inl ⟨by rfl, ?y5⟩) HS ?r5
      case y5 =>
        intro w_ hS_
        go_simp
        try with_reducible rfl
      simp only [Act.put, List.getElem_toArray, List.getElem_cons_succ, List.getElem_cons_zero, List.setIfInBounds_toArray, List.set_cons_succ, List.set_cons_zero]
      refine wpAnyH_take (i := 5) (v := ?v6) rfl (by kernel_rfl) (by kernel_rfl) (by kernel_rfl) (fun _ _ _ h => h) (Or.inl ⟨by rfl, ?y6⟩) HS ?r6
      case y6 =>
        intro w_ hS_
        go_simp
        try with_reducible rfl
      simp only [Act.put, List.getElem_toArray, List.getElem_cons_succ, List.getElem_cons_zero, List.setIfInBounds_toArray, List.set_cons_succ, List.set_cons_zero]
      refine wpAnyH_take (i := 6) (v := .slice (some ⟨gp, 0, none⟩) WL.length pc) rfl (by kernel_rfl) (by kernel_rfl) (by kernel_rfl) (fun _ _ _ h => h) (Or.inl ⟨by rfl, ?y7⟩) HS ?r7
      case y7 =>
        intro w_ hS_
        have c_ := cell_of_row _ _ 0 _ _ _ hS_.2.2.1
        go_simp
        try with_reducible rfl
      simp only [Act.put, List.getElem_toArray, List.getElem_cons_succ, List.getElem_cons_zero, List.setIfInBounds_toArray, List.set_cons_succ, List.set_cons_zero]
      refine wpAnyH_take (i := 7) (v := .int .i64 (K : Int)) rfl (by kernel_rfl) (by kernel_rfl) (by kernel_rfl) (fun _ _ _ h => h) (Or.inl ⟨by rfl, ?y8⟩) HS ?r8
      case y8 =>
        intro w_ hS_
        have c_ := cell_of_row _ _ 0 _ _ _ hS_.1
        go_simp
        try with_reducible rfl
      simp only [Act.put, List.getElem_toArray, List.getElem_cons_succ, List.getElem_cons_zero, List.setIfInBounds_toArray, List.set_cons_succ, List.set_cons_zero]
      refine wpAnyH_take (i := 8) (v := .pointer (some ⟨gp, K, none⟩)) rfl (by kernel_rfl) (by kernel_rfl) (by kernel_rfl) (fun _ _ _ h => h) (Or.inl ⟨by rfl, ?y9⟩) HS ?r9
      case y9 =>
        intro w_ hS_
        have h_ := hix
        go_simp
        try with_reducible rfl
      simp only [Act.put, List.getElem_toArray, List.getElem_cons_succ, List.getElem_cons_zero, List.setIfInBounds_toArray, List.set_cons_succ, List.set_cons_zero]
      refine wpAnyH_take (i := 9) (v := .int .i64 (y.1 : Int)) rfl (by kernel_rfl) (by kernel_rfl) (by kernel_rfl) (fun _ _ _ h => h) (Or.inl ⟨by rfl, ?y10⟩) HS ?r10
      case y10 =>
        intro w_ hS_
        have c_ := hS_.2.2.2.1
        go_simp
        try with_reducible rfl
      simp only [Act.put, List.getElem_toArray, List.getElem_cons_succ, List.getElem_cons_zero, List.setIfInBounds_toArray, List.set_cons_succ, List.set_cons_zero]
      refine wpAnyH_take (i := 10) (v := .bool false) rfl (by kernel_rfl) (by kernel_rfl) (by kernel_rfl) (fun _ _ _ h => h) (Or.inl ⟨by rfl, ?y11⟩) HS ?r11
      case y11 =>
        intro w_ hS_
        go_simp
        try with_reducible rfl
      simp only [Act.put, List.getElem_toArray, List.getElem_cons_succ, List.getElem_cons_zero, List.setIfInBounds_toArray, List.set_cons_succ, List.set_cons_zero]
      refine wpAnyH_take (i := 11) (v := ?v12) rfl (by kernel_rfl) (by kernel_rfl) (by kernel_rfl) (fun _ _ _ h => h) (Or.inl ⟨by rfl, ?y12⟩) HS ?r12
      case y12 =>
        intro w_ hS_
        go_simp
        try with_reducible rfl
      simp only [Act.put, List.getElem_toArray, List.getElem_cons_succ, List.getElem_cons_zero, List.setIfInBounds_toArray, List.set_cons_succ, List.set_cons_zero]
      refine wpAnyH_take (i := 12) (v := ?v13) rfl (by kernel_rfl) (by kernel_rfl) (by kernel_rfl) (fun _ _ _ h => h) (Or.inl ⟨by rfl, ?y13⟩) HS ?r13
      case y13 =>
        intro w_ hS_
        go_simp
        try with_reducible rfl
      simp only [Act.put, List.getElem_toArray, List.getElem_cons_succ, List.getElem_cons_zero, List.setIfInBounds_toArray, List.set_cons_succ, List.set_cons_zero]
      refine wpAnyH_take (i := 13) (v := .agg #[.int .i64 y.2.no, .int .i64 y.2.ty, .int .u64 (y.2.num : Int), .slice xo y.2.dat.length xc]) rfl (by kernel_rfl) (by kernel_rfl) (by kernel_rfl) (fun _ _ _ h => h) (Or.inl ⟨by rfl, ?y14⟩) HS ?r14
      case y14 =>
        intro w_ hS_
        simp only [List.getElem_toArray, List.getElem_cons_succ, List.getElem_cons_zero]
        exact run_load_rowT 35 _ rfl gB rfl 35 #[.int .i64 y.2.no, .int .i64 y.2.ty, .int .u64 (y.2.num : Int), .slice xo y.2.dat.length xc] (0, 0) _ hS_.2.2.2.2 Try.underlying35 rfl infoF
      simp only [Act.put, List.getElem_toArray, List.getElem_cons_succ, List.getElem_cons_zero, List.setIfInBounds_toArray, List.set_cons_succ, List.set_cons_zero]
      refine wpAnyH_take (i := 15) (v := .slice (some ⟨gu, 0, none⟩) WL.length uc) rfl (by kernel_rfl) (by kernel_rfl) (by kernel_rfl) (fun _ _ _ h => h) (Or.inl ⟨by rfl, ?y15⟩) HS ?r15
      case y15 =>
        intro w_ hS_
        have c_ := cell_of_row _ _ 0 _ _ _ hS_.2.1
        go_simp
        try with_reducible rfl
      simp only [Act.put, List.getElem_toArray, List.getElem_cons_succ, List.getElem_cons_zero, List.setIfInBounds_toArray, List.set_cons_succ, List.set_cons_zero]
      refine wpAnyH_take (i := 16) (v := .int .i64 (K : Int)) rfl (by kernel_rfl) (by kernel_rfl) (by kernel_rfl) (fun _ _ _ h => h) (Or.inl ⟨by rfl, ?y16⟩) HS ?r16
      case y16 =>
        intro w_ hS_
        have c_ := cell_of_row _ _ 0 _ _ _ hS_.1
        go_simp
        try with_reducible rfl
      simp only [Act.put, List.getElem_toArray, List.getElem_cons_succ, List.getElem_cons_zero, List.setIfInBounds_toArray, List.set_cons_succ, List.set_cons_zero]
      refine wpAnyH_take (i := 17) (v := .int .i64 (K : Int)) rfl (by kernel_rfl) (by kernel_rfl) (by kernel_rfl) (fun _ _ _ h => h) (Or.inl ⟨by rfl, ?y17⟩) HS ?r17
      case y17 =>
        intro w_ hS_
        have c_ := cell_of_row _ _ 0 _ _ _ hS_.1
        go_simp
        try with_reducible rfl
      simp only [Act.put, List.getElem_toArray, List.getElem_cons_succ, List.getElem_cons_zero, List.setIfInBounds_toArray, List.set_cons_succ, List.set_cons_zero]
      refine wpAnyH_take (i := 18) (v := .int .i64 ((K : Int) + 1)) rfl (by kernel_rfl) (by kernel_rfl) (by kernel_rfl) (fun _ _ _ h => h) (Or.inl ⟨by rfl, ?y18⟩) HS ?r18
      case y18 =>
        intro w_ hS_
        go_simp
        try rw [dW]
        try with_reducible rfl
      simp only [Act.put, List.getElem_toArray, List.getElem_cons_succ, List.getElem_cons_zero, List.setIfInBounds_toArray, List.set_cons_succ, List.set_cons_zero]
      refine wpAnyH_take (i := 19) (v := .slice (some ⟨gu, K * 4, none⟩) 1 (uc - K)) rfl (by kernel_rfl) (by kernel_rfl) (by kernel_rfl) (fun _ _ _ h => h) (Or.inl ⟨by rfl, ?y19⟩) HS ?r19
      case y19 =>
        intro w_ hS_
        have h_ := hsl
        go_simp
        try with_reducible rfl
      simp only [Act.put, List.getElem_toArray, List.getElem_cons_succ, List.getElem_cons_zero, List.setIfInBounds_toArray, List.set_cons_succ, List.set_cons_zero]
      refine wpAnyH_one (k := 14) (fuel := 3) (by kernel_rfl) rfl (by rfl) (fun K_ hK => ?_)
      refine wp_world_op (.slice (some ⟨y1.heap.size, 0, none⟩) 1 1) (y1.alloc (.cells #[.int .i64 y.2.no, .int .i64 y.2.ty, .int .u64 (y.2.num : Int), .slice xo y.2.dat.length xc] 35)) (op_bF1 _ rfl _ _ _ _ rfl) ?_
      have hba : Below y1.heap.size y1 (y1.alloc (.cells #[.int .i64 y.2.no, .int .i64 y.2.ty, .int .u64 (y.2.num : Int), .slice xo y.2.dat.length xc] 35)) := (Below.refl _ _).alloc (Nat.le_refl _) _
      have hU1 : Fds (y1.alloc (.cells #[.int .i64 y.2.no, .int .i64 y.2.ty, .int .u64 (y.2.num : Int), .slice xo y.2.dat.length xc] 35)) (.slice (some ⟨y1.heap.size, 0, none⟩) 1 1) [y.2] := fds_one y1 y.2 _ hyb hf
      have HS' : (fun V : World => V.heap[gn]? = some (.cells #[.int .i64 (K : Int)] 3 (0, 0)) ∧ V.heap[B0]? = some (.cells #[.slice (some ⟨gu, 0, none⟩) WL.length uc] 25 (0, 0)) ∧ V.heap[gP]? = some (.cells #[.slice (some ⟨gp, 0, none⟩) WL.length pc] 26 (0, 0)) ∧ V.cell? ⟨gp, K, none⟩ = some (.int .i64 (y.1 : Int)) ∧ V.heap[gB]? = some (.cells #[.int .i64 y.2.no, .int .i64 y.2.ty, .int .u64 (y.2.num : Int), .slice xo y.2.dat.length xc] 35 (0, 0))) _ := ⟨keep hba HS.1, keep hba HS.2.1, keep hba HS.2.2.1, (hba.cell (p := ⟨gp, K, none⟩) (show gp < _ by omega)).trans HS.2.2.2.1, keep hba HS.2.2.2.2⟩
      replace HS := HS'
      clear HS'
      replace hU2 := hU2.keep hba
      have hbY := hide hba
      clear hba
      refine hK _ _ HS ?_
      simp only [Act.put, List.getElem_toArray, List.getElem_cons_succ, List.getElem_cons_zero, List.setIfInBounds_toArray, List.set_cons_succ, List.set_cons_zero]
      clear hK hyb
      generalize y1.alloc (.cells #[.int .i64 y.2.no, .int .i64 y.2.ty, .int .u64 (y.2.num : Int), .slice xo y.2.dat.length xc] 35) = y2 at *
      refine wpAnyH_one (k := 20) (fuel := 2) (by kernel_rfl) rfl (by rfl) (fun K_ hK => ?_)
      have szy := hbY.out.size
      refine wp_call_ex (f := 7) (R := fun v w' => v = .bool true ∧ Below y2.heap.size y2 w') (by kernel_rfl) ((l_alike [y.2] y2 _ _ hU1 hU2).mono (fun e w' h => (by obtain ⟨h1, h2⟩ := h; exact ⟨_, h1, rfl, h2⟩))) (fun v_ y3 hX_ => ?_)
      obtain ⟨rfl, hb_⟩ := hX_
      have HS' : (fun V : World => V.heap[gn]? = some (.cells #[.int .i64 (K : Int)] 3 (0, 0)) ∧ V.heap[B0]? = some (.cells #[.slice (some ⟨gu, 0, none⟩) WL.length uc] 25 (0, 0)) ∧ V.heap[gP]? = some (.cells #[.slice (some ⟨gp, 0, none⟩) WL.length pc] 26 (0, 0)) ∧ V.cell? ⟨gp, K, none⟩ = some (.int .i64 (y.1 : Int)) ∧ V.heap[gB]? = some (.cells #[.int .i64 y.2.no, .int .i64 y.2.ty, .int .u64 (y.2.num : Int), .slice xo y.2.dat.length xc] 35 (0, 0))) _ := ⟨keep hb_ HS.1, keep hb_ HS.2.1, keep hb_ HS.2.2.1, (hb_.cell (p := ⟨gp, K, none⟩) (show gp < _ by omega)).trans HS.2.2.2.1, keep hb_ HS.2.2.2.2⟩
      replace HS := HS'
      clear HS'
      have hbZ := hide (Below.after hbY.out hb_)
      clear hb_ hU1 hU2 hbY szy
      refine hK _ _ HS ?_
      simp only [Act.put, List.getElem_toArray, List.getElem_cons_succ, List.getElem_cons_zero, List.setIfInBounds_toArray, List.set_cons_succ, List.set_cons_zero]
      clear hK
      refine wpAnyH_take (i := 21) (v := ?v20) rfl (by kernel_rfl) (by kernel_rfl) (by kernel_rfl) (fun _ _ _ h => h) (Or.inl ⟨by rfl, ?y20⟩) HS ?r20
      case y20 =>
        intro w_ hS_
        go_simp
        try with_reducible rfl
      simp only [Act.put, List.getElem_toArray, List.getElem_cons_succ, List.getElem_cons_zero, List.setIfInBounds_toArray, List.set_cons_succ, List.set_cons_zero]
      refine wpAnyH_take (i := 22) (v := ?v21) rfl (by kernel_rfl) (by kernel_rfl) (by kernel_rfl) (fun _ _ _ h => h) (Or.inl ⟨by rfl, ?y21⟩) HS ?r21
      case y21 =>
        intro w_ hS_
        go_simp
        try with_reducible rfl
      simp only [Act.put, List.getElem_toArray, List.getElem_cons_succ, List.getElem_cons_zero, List.setIfInBounds_toArray, List.set_cons_succ, List.set_cons_zero]
      refine wpAnyH_done (by kernel_rfl) ?_ _
      have hbT := Below.after hbd hbZ.out
      clear hbZ hbd HS
      have q1 := keep hbT e1'
      have q2 := keep hbT e2
      have q3 := keep hbT e3
      have q4 : ∀ g, g < e → g ≠ gn → y3.heap[g]? = v0.heap[g]? := fun g hg hne => (hbT.block g (by omega)).trans (e4 g hg hne)
      have q5 := e5.trans (hbT.mono (by omega))
      have q8 : Hid (∀ g, e + 2 ≤ g → g < gB → y3.heap[g]? = C.heap[g]?) := hide (fun g hg hl => (hbT.block g (by omega)).trans (e8.out g hg hl))
      have qR := keep hbT eR
      have q0 := keep hbT R0
      have qs := hbT.size
      clear e1' e2 e3 e4 e5 e8 eR R0 eL eP cP rB2 hbT
      have c3 : y3.cell? ⟨gn, 0, none⟩ = some (.int .i64 (K : Int)) := by rw [cell_of_row _ _ 0 _ _ _ q3]; rfl
      have f3 : y3.frozen? ⟨gn, 0, none⟩ = false := by simp [World.frozen?, q3]
      have cR : y3.cell? ⟨gr, 0, none⟩ = some (.int .i64 0) := by rw [cell_of_row _ _ 0 _ _ _ qR]; rfl
      have cS : y3.cell? ⟨w.heap.size, 0, none⟩ = some (.int .i64 stop) := by rw [cell_of_row _ _ 0 _ _ _ q0]; rfl
      have n1 : gr ≠ gn := by omega
      have n2 : w.heap.size ≠ gn := by omega
      have p1 := heap_other (g := gn) (j := 0) (v := .int .i64 ((K : Int) + 1)) q1 (show e + 1 ≠ gn by omega)
      have p2 := heap_other (g := gn) (j := 0) (v := .int .i64 ((K : Int) + 1)) q2 (show e ≠ gn by omega)
      have p3 : (y3.setCell ⟨gn, 0, none⟩ (.int .i64 ((K : Int) + 1))).heap[gn]? = some (.cells #[.int .i64 ((K : Int) + 1)] 3 (0, 0)) := row_set q3 0 (.int .i64 ((K : Int) + 1))
      have p4 : ∀ g, g < e → g ≠ gn → (y3.setCell ⟨gn, 0, none⟩ (.int .i64 ((K : Int) + 1))).heap[g]? = v0.heap[g]? := fun g hg hne => (Below.heap_setCell _ _ _ _ (by show g ≠ gn; exact hne)).trans (q4 g hg hne)
      have p5 := q5.setCell (p := ⟨gn, 0, none⟩) (show B0 ≤ gn by omega) (.int .i64 ((K : Int) + 1))
      have p8 : Hid (∀ g, e + 2 ≤ g → g < gB → (y3.setCell ⟨gn, 0, none⟩ (.int .i64 ((K : Int) + 1))).heap[g]? = C.heap[g]?) := hide (fun g hg hl => (Below.heap_setCell _ _ _ _ (by show g ≠ gn; omega)).trans (q8.out g hg hl))
      have p9 : e + 2 ≤ (y3.setCell ⟨gn, 0, none⟩ (.int .i64 ((K : Int) + 1))).heap.size := by
        have : (y3.setCell ⟨gn, 0, none⟩ (.int .i64 ((K : Int) + 1))).heap.size = y3.heap.size := by simp [World.setCell]
        omega
      have cN4 : (y3.setCell ⟨gn, 0, none⟩ (.int .i64 ((K : Int) + 1))).cell? ⟨gn, 0, none⟩ = some (.int .i64 ((K : Int) + 1)) := by rw [cell_of_row _ _ 0 _ _ _ p3]; rfl
      have cR4 : (y3.setCell ⟨gn, 0, none⟩ (.int .i64 ((K : Int) + 1))).cell? ⟨gr, 0, none⟩ = some (.int .i64 0) := by rw [cell_of_row _ _ 0 _ _ _ (heap_other (g := gn) (j := 0) (v := .int .i64 ((K : Int) + 1)) qR n1)]; rfl
      have cS4 : (y3.setCell ⟨gn, 0, none⟩ (.int .i64 ((K : Int) + 1))).cell? ⟨w.heap.size, 0, none⟩ = some (.int .i64 stop) := by rw [cell_of_row _ _ 0 _ _ _ (heap_other (g := gn) (j := 0) (v := .int .i64 ((K : Int) + 1)) q0 n2)]; rfl
      have hlp : (pre ++ [y]).length = K + 1 := by rw [List.length_append, List.length_singleton, hK]
      by_cases hsp : stop ≤ (K : Int) + 1
      · have hdS : decide ((K : Int) + 1 ≥ stop) = true := decide_eq_true hsp
        gi_wp2_with (fail)
        refine ⟨_, _, run_endRound (some (.exit 2)) p1, .inr ⟨rfl, ⟨by rw [World.putObj_heap_same (lt_of_row p1)]; simp [hrec], (World.putObj_heap_other (by omega)).trans p2, by rw [hlp]; exact (World.putObj_heap_other (by omega)).trans p3, fun g hg hne => (World.putObj_heap_other (by omega)).trans (p4 g hg hne), p5.grown (grownBy_putObj' _ _ _) (by omega) (fun k h => by cases h; omega), by rw [World.putObj_size]; exact p9, by show stop ≤ ((pre ++ [y]).length : Int) ∧ ((pre ++ [y]).length = 1 ∨ ((pre ++ [y]).length : Int) ≤ stop); rw [hlp]; exact jx_fact hK g7 hsp⟩⟩⟩
      · have hdS : decide ((K : Int) + 1 ≥ stop) = false := decide_eq_false hsp
        gi_wp2_with (fail)
        refine ⟨_, _, run_endRound none p1, .inl ⟨rfl, ⟨by rw [World.putObj_heap_same (lt_of_row p1)]; simp [hrec], (World.putObj_heap_other (by omega)).trans p2, by rw [hlp]; exact (World.putObj_heap_other (by omega)).trans p3, fun g hg hne => (World.putObj_heap_other (by omega)).trans (p4 g hg hne), p5.grown (grownBy_putObj' _ _ _) (by omega) (fun k h => by cases h; omega), by rw [World.putObj_size]; exact p9, .inr (by show ((pre ++ [y]).length : Int) < stop; rw [hlp]; omega)⟩, fun g hg hl => (World.putObj_heap_other (by omega)).trans (p8.out g hg (by omega))⟩⟩
    generalize hW1 : (v0.alloc (.deferred (some []))).alloc (.loop (rec .ready none)) = W1 at *
    have hwW1 := hw.trans (hb0.mono (by omega : B0 ≤ v0.heap.size))
    have hRA := (hs1.out _ hwW1).2.2.1
    have hCv : W1.cell? ⟨gF, 0, none⟩ = some (.slice (some ⟨gA, 0, none⟩) d.length (d.length + 80)) := by rw [cell_of_row _ _ 0 _ _ _ (keep hb0 rF)]; rfl
    refine (a_Fields1 d (.slice (some ⟨gA, 0, none⟩) d.length (d.length + 80)) gF (e + 1) (ThJ Wb v0 B0 e gn (rec .ready none) (fun pre => pre = [] ∨ (pre.length : Int) < stop)) (fun pre C' => ThJ Wb v0 B0 e gn (rec .done (some (.exit 2))) (fun pre => stop ≤ (pre.length : Int) ∧ (pre.length = 1 ∨ (pre.length : Int) ≤ stop)) pre C') W1 hCv (bysB_row hRA hBl _) (fun pre A C h hb => h.below k5.2.2.1 hb) (fun pre A g j u hg h => h.set k5.2.2.1 k5.1 g j u (by omega) ) (by rw [hs6]; exact hy_) J0).mono ?_
    clear hy_ J0 y0 y1 hb0 hwW1 hRA hCv
    rintro e_ w5 ⟨⟨rv_, rfl⟩, (hJ | ⟨pre, hp, hJ⟩)⟩
    · obtain ⟨j1, j2, j3, j4, j5, j6, j7⟩ := hJ
      refine ⟨⟨_, rfl⟩, .inl ⟨j1, ?_⟩⟩
      rw [hWL] at j3
      have z3 : (w5.putObj (e + 1) (.loop (rec .exhausted none))).heap[gn]? = _ := (World.putObj_heap_other (by omega)).trans j3
      have z2 : (w5.putObj (e + 1) (.loop (rec .exhausted none))).heap[e]? = _ := (World.putObj_heap_other (by omega)).trans j2
      have z4 : ∀ g, g < e → g ≠ gn → (w5.putObj (e + 1) (.loop (rec .exhausted none))).heap[g]? = v0.heap[g]? := fun g hg hne => (World.putObj_heap_other (by omega)).trans (j4 g hg hne)
      have z5 : Below B0 Wb (w5.putObj (e + 1) (.loop (rec .exhausted none))) := j5.grown (grownBy_putObj' _ _ _) (by omega) (fun k h => by cases h; omega)
      have z6 : e + 2 ≤ (w5.putObj (e + 1) (.loop (rec .exhausted none))).heap.size := by rw [World.putObj_size]; exact j6
      clear j1 j2 j3 j4 j5 j6
      generalize w5.putObj (e + 1) (.loop (rec .exhausted none)) = wq at *
      exact key_ wq ⟨WL.length, z3, z2, z4, z5, z6, .inl rfl⟩
    · obtain ⟨j1, j2, j3, j4, j5, j6, j7, j8⟩ := hJ
      refine ⟨⟨_, rfl⟩, .inr ⟨_, j1, ?_⟩⟩
      refine wp_exit_in ?_
      have z3 : (w5.putObj (e + 1) (.loop (rec .exhausted (some (.exit 2))))).heap[gn]? = _ := (World.putObj_heap_other (by omega)).trans j3
      have z2 : (w5.putObj (e + 1) (.loop (rec .exhausted (some (.exit 2))))).heap[e]? = _ := (World.putObj_heap_other (by omega)).trans j2
      have z4 : ∀ g, g < e → g ≠ gn → (w5.putObj (e + 1) (.loop (rec .exhausted (some (.exit 2))))).heap[g]? = v0.heap[g]? := fun g hg hne => (World.putObj_heap_other (by omega)).trans (j4 g hg hne)
      have z5 : Below B0 Wb (w5.putObj (e + 1) (.loop (rec .exhausted (some (.exit 2))))) := j5.grown (grownBy_putObj' _ _ _) (by omega) (fun k h => by cases h; omega)
      have z6 : e + 2 ≤ (w5.putObj (e + 1) (.loop (rec .exhausted (some (.exit 2))))).heap.size := by rw [World.putObj_size]; exact j6
      clear j1 j2 j3 j4 j5 j6
      generalize w5.putObj (e + 1) (.loop (rec .exhausted (some (.exit 2)))) = wq at *
      exact key_ wq ⟨pre.length, z3, z2, z4, z5, z6, by omega⟩
  rintro w6 ⟨m, rN', kD0, q4, hw', hz, hm⟩
  replace rL := (q4 B0 (by omega) (by omega)).trans rL
  replace rP := (q4 gP (by omega) (by omega)).trans rP
  replace rF := (q4 gF (by omega) (by omega)).trans rF
  replace rR := (q4 gr (by omega) (by omega)).trans rR
  clear rN hw
  have rN := rN'
  have hw := hw'
  clear rN' hw' hst
  have R0 := (hs1.out _ hw).1
  have cN : w6.cell? ⟨gn, 0, none⟩ = some (.int .i64 (m : Int)) := by rw [cell_of_row _ _ 0 _ _ _ rN]; rfl
  have cR : w6.cell? ⟨gr, 0, none⟩ = some (.int .i64 0) := by rw [cell_of_row _ _ 0 _ _ _ rR]; rfl
  have cL : w6.cell? ⟨B0, 0, none⟩ = some (.slice uo WL.length uc) := by rw [cell_of_row _ _ 0 _ _ _ rL]; rfl
  have cS : w6.cell? ⟨w.heap.size, 0, none⟩ = some (.int .i64 stop) := by rw [cell_of_row _ _ 0 _ _ _ R0]; rfl
  go_upto_region 18 with (fail)
  go_cut [102] from 26 to 169 (fun c wx => c = .bool false ∧ wx = w6)
  case first =>
    by_cases hA : m = WL.length
    · have h1 : ((m : Int) != (WL.length : Int)) = false := by rw [hA]; simp
      clear hA hm
      go_wp2_with (fail)
      go_meet
      case rel => exact ⟨rfl, rfl⟩
    · have h1 : ((m : Int) != (WL.length : Int)) = true := by
        have : (m : Int) ≠ (WL.length : Int) := by omega
        simpa using this
      by_cases hB : (m : Int) = stop
      · have h2 : ((m : Int) != stop) = false := by rw [hB]; simp
        clear hA hm hB
        go_wp2_with (fail)
        go_meet
        case rel => exact ⟨rfl, rfl⟩
      · have h2 : ((m : Int) != stop) = true := by simpa using hB
        have h3 : decide (stop < 1) = true := by simp; omega
        have h4 : ((m : Int) == 1) = true := by
          have : (m : Int) = 1 := by omega
          simpa using this
        clear hA hm hB
        go_wp2_with (fail)
        go_meet
        case rel => exact ⟨rfl, rfl⟩
  case rest =>
    obtain ⟨rfl, rfl⟩ := hcut
    obtain ⟨e0, he0⟩ : ∃ x, x = e := ⟨_, rfl⟩
    subst he0
    have fN : wc.frozen? ⟨gn, 0, none⟩ = false := by simp [World.frozen?, rN]
    clear cS cN
    go_wp2_with (fail)
    clear cR cL fN
    have hba : Below wc.heap.size wc (wc.alloc (.cells #[.int .i64 1] 3)) := (Below.refl _ _).alloc (Nat.le_refl _) _
    have rR2 := hp1_0 wc (.cells #[.int .i64 1] 3)
    have lrq := lt_of_row rR
    replace rL := keep hba rL
    replace rP := keep hba rP
    replace rF := keep hba rF
    replace rN := keep hba rN
    replace kD0 := keep hba kD0
    replace hw := hw.trans (hba.mono (by omega))
    clear hba rR
    have rR := rR2
    clear rR2
    generalize wc.alloc (.cells #[.int .i64 1] 3) = w44 at *
    generalize wc.heap.size = gs at *
    have k6 : gr < gs ∧ e0 + 2 ≤ gs ∧ gn < e0 := by omega
    clear he q4 hm hz R0 lr
    rw [rounds_succ]
    have cR : w44.cell? ⟨gs, 0, none⟩ = some (.int .i64 1) := by rw [cell_of_row _ _ 0 _ _ _ rR]; rfl
    have cN : w44.cell? ⟨gn, 0, none⟩ = some (.int .i64 (m : Int)) := by rw [cell_of_row _ _ 0 _ _ _ rN]; rfl
    have fN : w44.frozen? ⟨gn, 0, none⟩ = false := by simp [World.frozen?, rN]
    go_wp2_with (fail)
    clear cR cN fN
    replace rL := heap_other (v := .int .i64 0) (j := 0) rL (show B0 ≠ gn by omega)
    replace rP := heap_other (v := .int .i64 0) (j := 0) rP (show gP ≠ gn by omega)
    replace rF := heap_other (v := .int .i64 0) (j := 0) rF (show gF ≠ gn by omega)
    replace rR := heap_other (v := .int .i64 0) (j := 0) rR (show gs ≠ gn by omega)
    replace kD0 := heap_other (v := .int .i64 0) (j := 0) kD0 (show e0 ≠ gn by omega)
    replace hw := hw.setCell (p := ⟨gn, 0, none⟩) (show B0 ≤ gn by omega) (.int .i64 0)
    have rN' : (w44.setCell ⟨gn, 0, none⟩ (.int .i64 0)).heap[gn]? = some (.cells #[.int .i64 0] 3 (0, 0)) := row_set rN 0 (.int .i64 0)
    clear rN
    have rN := rN'
    clear rN'
    generalize w44.setCell ⟨gn, 0, none⟩ (.int .i64 0) = v1 at *
    have lr := lt_of_row rR
    have hst := hs1.out _ hw
    obtain ⟨e, he⟩ : ∃ e, v1.heap.size = e := ⟨_, rfl⟩
    apply ecutW (fun W : World => ∃ m : Nat, W.heap[gn]? = some (.cells #[.int .i64 (m : Int)] 3 (0, 0)) ∧ W.heap[e]? = some (.deferred (some [])) ∧ (∀ g, g < e → g ≠ gn → W.heap[g]? = v1.heap[g]?) ∧ Below B0 Wb W ∧ e + 2 ≤ W.heap.size ∧ m = WL.length)
    · intro key_
      refine wp_range_clo (gf := 10) (lb := #[.pointer (some ⟨gF, 0, none⟩)]) rfl (enters_of Try.func10 (by kernel_rfl) rfl) ?_
      intro fn rec hrec
      rw [he] at hrec ⊢
      have y0 := hp2_0 v1 (.deferred (some [])) (.loop (rec .ready none))
      have y1 := hp2_1 v1 (.deferred (some [])) (.loop (rec .ready none))
      have hb0 : Below v1.heap.size v1 ((v1.alloc (.deferred (some []))).alloc (.loop (rec .ready none))) := ((Below.refl _ _).alloc (Nat.le_refl _) _).alloc (by simp) _
      have hs6 : ((v1.alloc (.deferred (some []))).alloc (.loop (rec .ready none))).heap.size = e + 2 := by simp [he]
      rw [he] at y0 y1 lr
      have k5 : gn < e ∧ gs < e ∧ B0 ≤ e ∧ gF < e ∧ gP < e := by omega
      have J0 : ThJ Wb v1 B0 e gn (rec .ready none) (fun _ => True) [] ((v1.alloc (.deferred (some []))).alloc (.loop (rec .ready none))) := ⟨y1, y0, keep hb0 rN, fun g hg _ => hb0.block g (by omega), hw.trans (hb0.mono (by omega)), by omega, trivial⟩
      have hy_ : ∀ pre (y : Nat × Fd) u A C, ThJ Wb v1 B0 e gn (rec .ready none) (fun _ => True) pre A → Below A.heap.size A C → Own C A.heap.size u y.2.dat → (pre ++ [y]) <+: (dwh d).1 → Fok y.2 → pre.length < 64 → (e + 2) ≤ A.heap.size → YieldAt Fence.wide 2 Try.prog (e + 1) #[.int .i64 (y.1 : Int), .agg #[.int .i64 y.2.no, .int .i64 y.2.ty, .int .u64 (y.2.num : Int), u]] C fun e_ C' => (e_ = .returned (.bool true) ∧ ThJ Wb v1 B0 e gn (rec .ready none) (fun _ => True) (pre ++ [y]) C' ∧ ∀ g, e + 2 ≤ g → g < C.heap.size → C'.heap[g]? = C.heap[g]?) ∨ (e_ = .returned (.bool false) ∧ False) := by
        intro pre y u A C hJ hbC ho hpre hf hl64 hA2
        obtain ⟨g1, g2, g3, g4, g5, g6, g7⟩ := hJ.below k5.2.2.1 hbC
        clear hJ
        have hyy := run_yield (P := Try.prog) (args := #[.int .i64 (y.1 : Int), .agg #[.int .i64 y.2.no, .int .i64 y.2.ty, .int .u64 (y.2.num : Int), u]]) g1 (by rw [hrec]; rfl)
        rw [hrec] at hyy
        refine ⟨fn, _, _, _, hyy, roundIn_of_wpIn trivial ?_⟩
        clear hyy
        obtain ⟨K, hK⟩ : ∃ K, pre.length = K := ⟨_, rfl⟩
        have hget : WL[K]? = some y := by
          obtain ⟨t_, ht⟩ := hpre
          rw [← hWL, ← ht, ← hK]
          simp
        have hKl : K < WL.length := (List.getElem?_eq_some_iff.1 hget).1
        have hge : decide ((K : Int) ≥ (WL.length : Int)) = false := by simp; omega
        rw [hK] at g3 hl64
        obtain ⟨xo, xc, hu⟩ := slen_own ho
        subst hu
        have hoL := own_low ho
        have hoH := own_high ho
        have hCs : e + 2 ≤ C.heap.size := Nat.le_trans hA2 hbC.size
        have r0 := hp1_0 C (.cells #[.int .i64 0, .int .i64 0, .int .u64 0, .slice none 0 0] 35)
        have hbx : Below C.heap.size C ((C.alloc (.cells #[.int .i64 0, .int .i64 0, .int .u64 0, .slice none 0 0] 35)).setRow C.heap.size #[.int .i64 y.2.no, .int .i64 y.2.ty, .int .u64 (y.2.num : Int), .slice xo y.2.dat.length xc]) := below_setRow ((Below.refl _ _).alloc (Nat.le_refl _) _) (Nat.le_refl _) _
        have rB := setRow_heap _ C.heap.size _ #[.int .i64 y.2.no, .int .i64 y.2.ty, .int .u64 (y.2.num : Int), .slice xo y.2.dat.length xc] _ _ r0
        have hone : (#[Value.int .i64 y.2.no, .int .i64 y.2.ty, .int .u64 (y.2.num : Int), .slice xo y.2.dat.length xc] : Array Value).all (·.oneCell') = true := by simp [Value.oneCell']
        gi_wp2_with (first | (refine wpListIn_alloc rfl 35 rfl #[.int .i64 0, .int .i64 0, .int .u64 0, .slice none 0 0] zFd ?_) | (refine wpListIn_store_row rfl 35 _ _ rfl C.heap.size #[.int .i64 y.2.no, .int .i64 y.2.ty, .int .u64 (y.2.num : Int), .slice xo y.2.dat.length xc] rfl rfl 35 _ r0 infoF rfl hone ?_) | fail)
        clear r0
        generalize (C.alloc (.cells #[.int .i64 0, .int .i64 0, .int .u64 0, .slice none 0 0] 35)).setRow C.heap.size #[.int .i64 y.2.no, .int .i64 y.2.ty, .int .u64 (y.2.num : Int), .slice xo y.2.dat.length xc] = C1 at *
        have e1 := keep hbx g1
        refine ⟨_, run_beginRound e1 (by rw [hrec]), ?_⟩
        have hoth : ∀ g, g ≠ e + 1 → (C1.putObj (e + 1) (.loop { rec .ready none with state := .busy })).heap[g]? = C1.heap[g]? := fun g hg => World.putObj_heap_other hg
        have e1' : (C1.putObj (e + 1) (.loop { rec .ready none with state := .busy })).heap[e + 1]? = some (.loop { rec .ready none with state := .busy }) := World.putObj_heap_same (lt_of_row e1)
        have e2 := (hoth e (by omega)).trans (keep hbx g2)
        have e3 := (hoth gn (by omega)).trans (keep hbx g3)
        have e4 : ∀ g, g < e → g ≠ gn → (C1.putObj (e + 1) (.loop { rec .ready none with state := .busy })).heap[g]? = v1.heap[g]? := fun g hg hne => (hoth g (by omega)).trans ((hbx.block g (by omega)).trans (g4 g hg hne))
        have e5 : Below B0 Wb (C1.putObj (e + 1) (.loop { rec .ready none with state := .busy })) := (g5.trans (hbx.mono (by omega))).grown (grownBy_putObj' _ _ _) (by have := hbx.size; omega) (fun k h => by cases h; omega)
        have e8 : Hid (∀ g, e + 2 ≤ g → g < C.heap.size → (C1.putObj (e + 1) (.loop { rec .ready none with state := .busy })).heap[g]? = C.heap[g]?) := hide (fun g hg hl => (hoth g (by omega)).trans (hbx.block g hl))
        have rB2 := (hoth C.heap.size (by omega)).trans rB
        have ho2 : Own (C1.putObj (e + 1) (.loop { rec .ready none with state := .busy })) A.heap.size (.slice xo y.2.dat.length xc) y.2.dat := own_but (ho.keep hbx) (fun q hq => hoth q (by have := hoL q hq; omega))
        have hszC : (C1.putObj (e + 1) (.loop { rec .ready none with state := .busy })).heap.size = C1.heap.size := World.putObj_size
        have hsC := lt_of_row rB
        generalize (C1.putObj (e + 1) (.loop { rec .ready none with state := .busy })) = C2 at *
        rw [← hszC] at hsC
        clear hoth rB hbx e1 g1 g2 g3 g4 g5 hszC hone ho
        obtain ⟨R0, R1, RA, hFt, hNm, hBd, hwW⟩ := hs1.out _ e5
        have hget2 : (WL.map (·.2))[K]? = some y.2 := by rw [List.getElem?_map, hget]; rfl
        have hget1 : (WL.map (·.1))[K]? = some y.1 := by rw [List.getElem?_map, hget]; rfl
        obtain ⟨gu, ucap, eU, _, hgu, _⟩ := hFt.at (i := K) (by rw [List.length_map]; exact hKl)
        rw [List.length_map] at eU
        cases eU
        obtain ⟨gp, pcap, eP, hgp, cP⟩ := nms_at hNm hget1
        rw [List.length_map] at eP
        cases eP
        obtain ⟨hKc, hU2⟩ := fds_mid hFt hget2 hf
        have hsl := slf_mid gu WL.length uc K hKc
        have hyb := ho2.bysB (by have := hf.2.1; omega)
        have eL := (e4 B0 (by omega) (by omega)).trans rL
        have eP := (e4 gP (by omega) (by omega)).trans rP
        have eR := (e4 gs (by omega) (by omega)).trans rR
        clear hFt hNm hget hget1 hget2 R1 RA hBd
        generalize hgB : C.heap.size = gB at *
        gi_wp2_with (fail)
        have dW : IntKind.wrap .i64 ((K : Int) + 1) = (K : Int) + 1 := by rw [IntKind.wrap_i64]; omega
        have hix : decide ((K : Int) < (WL.length : Int)) = true := by simp; omega
        have hbd : Below C2.heap.size C2 C2.drew := below_drN (Below.refl _ _) 1
        have HS : (fun V : World => V.heap[gn]? = some (.cells #[.int .i64 (K : Int)] 3 (0, 0)) ∧ V.heap[B0]? = some (.cells #[.slice (some ⟨gu, 0, none⟩) WL.length uc] 25 (0, 0)) ∧ V.heap[gP]? = some (.cells #[.slice (some ⟨gp, 0, none⟩) WL.length pc] 26 (0, 0)) ∧ V.cell? ⟨gp, K, none⟩ = some (.int .i64 (y.1 : Int)) ∧ V.heap[gB]? = some (.cells #[.int .i64 y.2.no, .int .i64 y.2.ty, .int .u64 (y.2.num : Int), .slice xo y.2.dat.length xc] 35 (0, 0))) C2.drew := ⟨keep hbd e3, keep hbd eL, keep hbd eP, (hbd.cell (p := ⟨gp, K, none⟩) (show gp < _ by omega)).trans cP, keep hbd rB2⟩
        replace hU2 := hU2.keep hbd
        replace hyb := hyb.keep hbd
        have szd := hbd.size
        refine wpIn_region_held_round (S := fun V : World => V.heap[gn]? = some (.cells #[.int .i64 (K : Int)] 3 (0, 0)) ∧ V.heap[B0]? = some (.cells #[.slice (some ⟨gu, 0, none⟩) WL.length uc] 25 (0, 0)) ∧ V.heap[gP]? = some (.cells #[.slice (some ⟨gp, 0, none⟩) WL.length pc] 26 (0, 0)) ∧ V.cell? ⟨gp, K, none⟩ = some (.int .i64 (y.1 : Int)) ∧ V.heap[gB]? = some (.cells #[.int .i64 y.2.no, .int .i64 y.2.ty, .int .u64 (y.2.num : Int), .slice xo y.2.dat.length xc] 35 (0, 0))) _ (by kernel_rfl) (by kernel_rfl) (fun h => by obtain ⟨_, _, h⟩ := h; exact h) ?_
        change wpAnyH _ _ _ _ _ _ _ _ (World.drew _)
        generalize C2.drew = y1 at *
        refine wpAnyH_take (i := 0) (v := .int .i64 (K : Int)) rfl (by kernel_rfl) (by kernel_rfl) (by kernel_rfl) (fun _ _ _ h => h) (Or.inl ⟨by rfl, ?yb11⟩) HS ?rb11
        case yb11 =>
          intro w_ hS_
          have c_ := cell_of_row _ _ 0 _ _ _ hS_.1
          go_simp
          try with_reducible rfl
        simp only [Act.put, List.getElem_toArray, List.getElem_cons_zero, List.setIfInBounds_toArray, List.set_cons_succ, List.set_cons_zero]
        refine wpAnyH_take (i := 1) (v := .slice (some ⟨gu, 0, none⟩) WL.length uc) rfl (by kernel_rfl) (by kernel_rfl) (by kernel_rfl) (fun _ _ _ h => h) (Or.inl ⟨by rfl, ?yb12⟩) HS ?rb12
        case yb12 =>
          intro w_ hS_
          have c_ := cell_of_row _ _ 0 _ _ _ hS_.2.1
          go_simp
          try with_reducible rfl
        simp only [Act.put, List.getElem_toArray, List.getElem_cons_succ, List.getElem_cons_zero, List.setIfInBounds_toArray, List.set_cons_succ, List.set_cons_zero]
        refine wpAnyH_take (i := 2) (v := .int .i64 (WL.length : Int)) rfl (by kernel_rfl) (by kernel_rfl) (by kernel_rfl) (fun _ _ _ h => h) (Or.inl ⟨by rfl, ?yb13⟩) HS ?rb13
        case yb13 =>
          intro w_ hS_
          go_simp
          try with_reducible rfl
        simp only [Act.put, List.getElem_toArray, List.getElem_cons_succ, List.getElem_cons_zero, List.setIfInBounds_toArray, List.set_cons_succ, List.set_cons_zero]
        refine wpAnyH_take (i := 3) (v := .bool false) rfl (by kernel_rfl) (by kernel_rfl) (by kernel_rfl) (fun _ _ _ h => h) (Or.inl ⟨by rfl, ?yb14⟩) HS ?rb14
        case yb14 =>
          intro w_ hS_
          have h_ := hge
          go_simp
          try with_reducible rfl
        simp only [Act.put, List.getElem_toArray, List.getElem_cons_succ, List.getElem_cons_zero, List.setIfInBounds_toArray, List.set_cons_succ, List.set_cons_zero]
        refine wpAnyH_take (i := 4) (v := ?vb15) rfl (by kernel_rfl) (by kernel_rfl) (by kernel_rfl) (fun _ _ _ h => h) (Or.inl ⟨by rfl, ?yb15⟩) HS ?rb15
        case yb15 =>
          intro w_ hS_
          go_simp
          try with_reducible rfl
        simp only [Act.put, List.getElem_toArray, List.getElem_cons_succ, List.getElem_cons_zero, List.setIfInBounds_toArray, List.set_cons_succ, List.set_cons_zero]
        refine wpAnyH_take (i := 5) (v := ?vb16) rfl (by kernel_rfl) (by kernel_rfl) (by kernel_rfl) (fun _ _ _ h => h) (Or.inl ⟨by rfl, ?yb16⟩) HS ?rb16
        case yb16 =>
          intro w_ hS_
          go_simp
          try with_reducible rfl
        simp only [Act.put, List.getElem_toArray, List.getElem_cons_succ, List.getElem_cons_zero, List.setIfInBounds_toArray, List.set_cons_succ, List.set_cons_zero]
        refine wpAnyH_take (i := 6) (v := .slice (some ⟨gp, 0, none⟩) WL.length pc) rfl (by kernel_rfl) (by kernel_rfl) (by kernel_rfl) (fun _ _ _ h => h) (Or.inl ⟨by rfl, ?yb17⟩) HS ?rb17
        case yb17 =>
          intro w_ hS_
          have c_ := cell_of_row _ _ 0 _ _ _ hS_.2.2.1
          go_simp
          try with_reducible rfl
        simp only [Act.put, List.getElem_toArray, List.getElem_cons_succ, List.getElem_cons_zero, List.setIfInBounds_toArray, List.set_cons_succ, List.set_cons_zero]
        refine wpAnyH_take (i := 7) (v := .int .i64 (K : Int)) rfl (by kernel_rfl) (by kernel_rfl) (by kernel_rfl) (fun _ _ _ h => h) (Or.inl ⟨by rfl, ?yb18⟩) HS ?rb18
        case yb18 =>
          intro w_ hS_
          have c_ := cell_of_row _ _ 0 _ _ _ hS_.1
          go_simp
          try with_reducible rfl
        simp only [Act.put, List.getElem_toArray, List.getElem_cons_succ, List.getElem_cons_zero, List.setIfInBounds_toArray, List.set_cons_succ, List.set_cons_zero]
        refine wpAnyH_take (i := 8) (v := .pointer (some ⟨gp, K, none⟩)) rfl (by kernel_rfl) (by kernel_rfl) (by kernel_rfl) (fun _ _ _ h => h) (Or.inl ⟨by rfl, ?yb19⟩) HS ?rb19
        case yb19 =>
          intro w_ hS_
          have h_ := hix
          go_simp
          try with_reducible rfl
        simp only [Act.put, List.getElem_toArray, List.getElem_cons_succ, List.getElem_cons_zero, List.setIfInBounds_toArray, List.set_cons_succ, List.set_cons_zero]
        refine wpAnyH_take (i := 9) (v := .int .i64 (y.1 : Int)) rfl (by kernel_rfl) (by kernel_rfl) (by kernel_rfl) (fun _ _ _ h => h) (Or.inl ⟨by rfl, ?yb110⟩) HS ?rb110
        case yb110 =>
          intro w_ hS_
          have c_ := hS_.2.2.2.1
          go_simp
          try with_reducible rfl
        simp only [Act.put, List.getElem_toArray, List.getElem_cons_succ, List.getElem_cons_zero, List.setIfInBounds_toArray, List.set_cons_succ, List.set_cons_zero]
        refine wpAnyH_take (i := 10) (v := .bool false) rfl (by kernel_rfl) (by kernel_rfl) (by kernel_rfl) (fun _ _ _ h => h) (Or.inl ⟨by rfl, ?yb111⟩) HS ?rb111
        case yb111 =>
          intro w_ hS_
          go_simp
          try with_reducible rfl
        simp only [Act.put, List.getElem_toArray, List.getElem_cons_succ, List.getElem_cons_zero, List.setIfInBounds_toArray, List.set_cons_succ, List.set_cons_zero]
        refine wpAnyH_take (i := 11) (v := ?vb112) rfl (by kernel_rfl) (by kernel_rfl) (by kernel_rfl) (fun _ _ _ h => h) (Or.inl ⟨by rfl, ?yb112⟩) HS ?rb112
        case yb112 =>
          intro w_ hS_
          go_simp
          try with_reducible rfl
        simp only [Act.put, List.getElem_toArray, List.getElem_cons_succ, List.getElem_cons_zero, List.setIfInBounds_toArray, List.set_cons_succ, List.set_cons_zero]
        refine wpAnyH_take (i := 12) (v := ?vb113) rfl (by kernel_rfl) (by kernel_rfl) (by kernel_rfl) (fun _ _ _ h => h) (Or.inl ⟨by rfl, ?yb113⟩) HS ?rb113
        case yb113 =>
          intro w_ hS_
          go_simp
          try with_reducible rfl
        simp only [Act.put, List.getElem_toArray, List.getElem_cons_succ, List.getElem_cons_zero, List.setIfInBounds_toArray, List.set_cons_succ, List.set_cons_zero]
        refine wpAnyH_take (i := 13) (v := .agg #[.int .i64 y.2.no, .int .i64 y.2.ty, .int .u64 (y.2.num : Int), .slice xo y.2.dat.length xc]) rfl (by kernel_rfl) (by kernel_rfl) (by kernel_rfl) (fun _ _ _ h => h) (Or.inl ⟨by rfl, ?yb114⟩) HS ?rb114
        case yb114 =>
          intro w_ hS_
          simp only [List.getElem_toArray, List.getElem_cons_succ, List.getElem_cons_zero]
          exact run_load_rowT 35 _ rfl gB rfl 35 #[.int .i64 y.2.no, .int .i64 y.2.ty, .int .u64 (y.2.num : Int), .slice xo y.2.dat.length xc] (0, 0) _ hS_.2.2.2.2 Try.underlying35 rfl infoF
        simp only [Act.put, List.getElem_toArray, List.getElem_cons_succ, List.getElem_cons_zero, List.setIfInBounds_toArray, List.set_cons_succ, List.set_cons_zero]
        refine wpAnyH_take (i := 15) (v := .slice (some ⟨gu, 0, none⟩) WL.length uc) rfl (by kernel_rfl) (by kernel_rfl) (by kernel_rfl) (fun _ _ _ h => h) (Or.inl ⟨by rfl, ?yb115⟩) HS ?rb115
        case yb115 =>
          intro w_ hS_
          have c_ := cell_of_row _ _ 0 _ _ _ hS_.2.1
          go_simp
          try with_reducible rfl
        simp only [Act.put, List.getElem_toArray, List.getElem_cons_succ, List.getElem_cons_zero, List.setIfInBounds_toArray, List.set_cons_succ, List.set_cons_zero]
        refine wpAnyH_take (i := 16) (v := .int .i64 (K : Int)) rfl (by kernel_rfl) (by kernel_rfl) (by kernel_rfl) (fun _ _ _ h => h) (Or.inl ⟨by rfl, ?yb116⟩) HS ?rb116
        case yb116 =>
          intro w_ hS_
          have c_ := cell_of_row _ _ 0 _ _ _ hS_.1
          go_simp
          try with_reducible rfl
        simp only [Act.put, List.getElem_toArray, List.getElem_cons_succ, List.getElem_cons_zero, List.setIfInBounds_toArray, List.set_cons_succ, List.set_cons_zero]
        refine wpAnyH_take (i := 17) (v := .int .i64 (K : Int)) rfl (by kernel_rfl) (by kernel_rfl) (by kernel_rfl) (fun _ _ _ h => h) (Or.inl ⟨by rfl, ?yb117⟩) HS ?rb117
        case yb117 =>
          intro w_ hS_
          have c_ := cell_of_row _ _ 0 _ _ _ hS_.1
          go_simp
          try with_reducible rfl
        simp only [Act.put, List.getElem_toArray, List.getElem_cons_succ, List.getElem_cons_zero, List.setIfInBounds_toArray, List.set_cons_succ, List.set_cons_zero]
        refine wpAnyH_take (i := 18) (v := .int .i64 ((K : Int) + 1)) rfl (by kernel_rfl) (by kernel_rfl) (by kernel_rfl) (fun _ _ _ h => h) (Or.inl ⟨by rfl, ?yb118⟩) HS ?rb118
        case yb118 =>
          intro w_ hS_
          go_simp
          try rw [dW]
          try with_reducible rfl
        simp only [Act.put, List.getElem_toArray, List.getElem_cons_succ, List.getElem_cons_zero, List.setIfInBounds_toArray, List.set_cons_succ, List.set_cons_zero]
        refine wpAnyH_take (i := 19) (v := .slice (some ⟨gu, K * 4, none⟩) 1 (uc - K)) rfl (by kernel_rfl) (by kernel_rfl) (by kernel_rfl) (fun _ _ _ h => h) (Or.inl ⟨by rfl, ?yb119⟩) HS ?rb119
        case yb119 =>
          intro w_ hS_
          have h_ := hsl
          go_simp
          try with_reducible rfl
        simp only [Act.put, List.getElem_toArray, List.getElem_cons_succ, List.getElem_cons_zero, List.setIfInBounds_toArray, List.set_cons_succ, List.set_cons_zero]
        refine wpAnyH_one (k := 14) (fuel := 3) (by kernel_rfl) rfl (by rfl) (fun K_ hK => ?_)
        refine wp_world_op (.slice (some ⟨y1.heap.size, 0, none⟩) 1 1) (y1.alloc (.cells #[.int .i64 y.2.no, .int .i64 y.2.ty, .int .u64 (y.2.num : Int), .slice xo y.2.dat.length xc] 35)) (op_bF1 _ rfl _ _ _ _ rfl) ?_
        have hba : Below y1.heap.size y1 (y1.alloc (.cells #[.int .i64 y.2.no, .int .i64 y.2.ty, .int .u64 (y.2.num : Int), .slice xo y.2.dat.length xc] 35)) := (Below.refl _ _).alloc (Nat.le_refl _) _
        have hU1 : Fds (y1.alloc (.cells #[.int .i64 y.2.no, .int .i64 y.2.ty, .int .u64 (y.2.num : Int), .slice xo y.2.dat.length xc] 35)) (.slice (some ⟨y1.heap.size, 0, none⟩) 1 1) [y.2] := fds_one y1 y.2 _ hyb hf
        have HS' : (fun V : World => V.heap[gn]? = some (.cells #[.int .i64 (K : Int)] 3 (0, 0)) ∧ V.heap[B0]? = some (.cells #[.slice (some ⟨gu, 0, none⟩) WL.length uc] 25 (0, 0)) ∧ V.heap[gP]? = some (.cells #[.slice (some ⟨gp, 0, none⟩) WL.length pc] 26 (0, 0)) ∧ V.cell? ⟨gp, K, none⟩ = some (.int .i64 (y.1 : Int)) ∧ V.heap[gB]? = some (.cells #[.int .i64 y.2.no, .int .i64 y.2.ty, .int .u64 (y.2.num : Int), .slice xo y.2.dat.length xc] 35 (0, 0))) _ := ⟨keep hba HS.1, keep hba HS.2.1, keep hba HS.2.2.1, (hba.cell (p := ⟨gp, K, none⟩) (show gp < _ by omega)).trans HS.2.2.2.1, keep hba HS.2.2.2.2⟩
        replace HS := HS'
        clear HS'
        replace hU2 := hU2.keep hba
        have hbY := hide hba
        clear hba
        refine hK _ _ HS ?_
        simp only [Act.put, List.getElem_toArray, List.getElem_cons_succ, List.getElem_cons_zero, List.setIfInBounds_toArray, List.set_cons_succ, List.set_cons_zero]
        clear hK hyb
        generalize y1.alloc (.cells #[.int .i64 y.2.no, .int .i64 y.2.ty, .int .u64 (y.2.num : Int), .slice xo y.2.dat.length xc] 35) = y2 at *
        refine wpAnyH_one (k := 20) (fuel := 2) (by kernel_rfl) rfl (by rfl) (fun K_ hK => ?_)
        have szy := hbY.out.size
        refine wp_call_ex (f := 7) (R := fun v w' => v = .bool true ∧ Below y2.heap.size y2 w') (by kernel_rfl) ((l_alike [y.2] y2 _ _ hU1 hU2).mono (fun e w' h => (by obtain ⟨h1, h2⟩ := h; exact ⟨_, h1, rfl, h2⟩))) (fun v_ y3 hX_ => ?_)
        obtain ⟨rfl, hb_⟩ := hX_
        have HS' : (fun V : World => V.heap[gn]? = some (.cells #[.int .i64 (K : Int)] 3 (0, 0)) ∧ V.heap[B0]? = some (.cells #[.slice (some ⟨gu, 0, none⟩) WL.length uc] 25 (0, 0)) ∧ V.heap[gP]? = some (.cells #[.slice (some ⟨gp, 0, none⟩) WL.length pc] 26 (0, 0)) ∧ V.cell? ⟨gp, K, none⟩ = some (.int .i64 (y.1 : Int)) ∧ V.heap[gB]? = some (.cells #[.int .i64 y.2.no, .int .i64 y.2.ty, .int .u64 (y.2.num : Int), .slice xo y.2.dat.length xc] 35 (0, 0))) _ := ⟨keep hb_ HS.1, keep hb_ HS.2.1, keep hb_ HS.2.2.1, (hb_.cell (p := ⟨gp, K, none⟩) (show gp < _ by omega)).trans HS.2.2.2.1, keep hb_ HS.2.2.2.2⟩
        replace HS := HS'
        clear HS'
        have hbZ := hide (Below.after hbY.out hb_)
        clear hb_ hU1 hU2 hbY szy
        refine hK _ _ HS ?_
        simp only [Act.put, List.getElem_toArray, List.getElem_cons_succ, List.getElem_cons_zero, List.setIfInBounds_toArray, List.set_cons_succ, List.set_cons_zero]
        clear hK
        refine wpAnyH_take (i := 21) (v := ?vb120) rfl (by kernel_rfl) (by kernel_rfl) (by kernel_rfl) (fun _ _ _ h => h) (Or.inl ⟨by rfl, ?yb120⟩) HS ?rb120
        case yb120 =>
          intro w_ hS_
          go_simp
          try with_reducible rfl
        simp only [Act.put, List.getElem_toArray, List.getElem_cons_succ, List.getElem_cons_zero, List.setIfInBounds_toArray, List.set_cons_succ, List.set_cons_zero]
        refine wpAnyH_take (i := 22) (v := ?vb121) rfl (by kernel_rfl) (by kernel_rfl) (by kernel_rfl) (fun _ _ _ h => h) (Or.inl ⟨by rfl, ?yb121⟩) HS ?rb121
        case yb121 =>
          intro w_ hS_
          go_simp
          try with_reducible rfl
        simp only [Act.put, List.getElem_toArray, List.getElem_cons_succ, List.getElem_cons_zero, List.setIfInBounds_toArray, List.set_cons_succ, List.set_cons_zero]
        refine wpAnyH_done (by kernel_rfl) ?_ _
        have hbT := Below.after hbd hbZ.out
        clear hbZ hbd HS
        have q1 := keep hbT e1'
        have q2 := keep hbT e2
        have q3 := keep hbT e3
        have q4 : ∀ g, g < e → g ≠ gn → y3.heap[g]? = v1.heap[g]? := fun g hg hne => (hbT.block g (by omega)).trans (e4 g hg hne)
        have q5 := e5.trans (hbT.mono (by omega))
        have q8 : Hid (∀ g, e + 2 ≤ g → g < gB → y3.heap[g]? = C.heap[g]?) := hide (fun g hg hl => (hbT.block g (by omega)).trans (e8.out g hg hl))
        have qR := keep hbT eR
        have q0 := keep hbT R0
        have qs := hbT.size
        clear e1' e2 e3 e4 e5 e8 eR R0 eL eP cP rB2 hbT
        have c3 : y3.cell? ⟨gn, 0, none⟩ = some (.int .i64 (K : Int)) := by rw [cell_of_row _ _ 0 _ _ _ q3]; rfl
        have f3 : y3.frozen? ⟨gn, 0, none⟩ = false := by simp [World.frozen?, q3]
        have cR : y3.cell? ⟨gs, 0, none⟩ = some (.int .i64 1) := by rw [cell_of_row _ _ 0 _ _ _ qR]; rfl
        have cS : y3.cell? ⟨w.heap.size, 0, none⟩ = some (.int .i64 stop) := by rw [cell_of_row _ _ 0 _ _ _ q0]; rfl
        have n1 : gs ≠ gn := by omega
        have n2 : w.heap.size ≠ gn := by omega
        have p1 := heap_other (g := gn) (j := 0) (v := .int .i64 ((K : Int) + 1)) q1 (show e + 1 ≠ gn by omega)
        have p2 := heap_other (g := gn) (j := 0) (v := .int .i64 ((K : Int) + 1)) q2 (show e ≠ gn by omega)
        have p3 : (y3.setCell ⟨gn, 0, none⟩ (.int .i64 ((K : Int) + 1))).heap[gn]? = some (.cells #[.int .i64 ((K : Int) + 1)] 3 (0, 0)) := row_set q3 0 (.int .i64 ((K : Int) + 1))
        have p4 : ∀ g, g < e → g ≠ gn → (y3.setCell ⟨gn, 0, none⟩ (.int .i64 ((K : Int) + 1))).heap[g]? = v1.heap[g]? := fun g hg hne => (Below.heap_setCell _ _ _ _ (by show g ≠ gn; exact hne)).trans (q4 g hg hne)
        have p5 := q5.setCell (p := ⟨gn, 0, none⟩) (show B0 ≤ gn by omega) (.int .i64 ((K : Int) + 1))
        have p8 : Hid (∀ g, e + 2 ≤ g → g < gB → (y3.setCell ⟨gn, 0, none⟩ (.int .i64 ((K : Int) + 1))).heap[g]? = C.heap[g]?) := hide (fun g hg hl => (Below.heap_setCell _ _ _ _ (by show g ≠ gn; omega)).trans (q8.out g hg hl))
        have p9 : e + 2 ≤ (y3.setCell ⟨gn, 0, none⟩ (.int .i64 ((K : Int) + 1))).heap.size := by
          have : (y3.setCell ⟨gn, 0, none⟩ (.int .i64 ((K : Int) + 1))).heap.size = y3.heap.size := by simp [World.setCell]
          omega
        have cN4 : (y3.setCell ⟨gn, 0, none⟩ (.int .i64 ((K : Int) + 1))).cell? ⟨gn, 0, none⟩ = some (.int .i64 ((K : Int) + 1)) := by rw [cell_of_row _ _ 0 _ _ _ p3]; rfl
        have cR4 : (y3.setCell ⟨gn, 0, none⟩ (.int .i64 ((K : Int) + 1))).cell? ⟨gs, 0, none⟩ = some (.int .i64 1) := by rw [cell_of_row _ _ 0 _ _ _ (heap_other (g := gn) (j := 0) (v := .int .i64 ((K : Int) + 1)) qR n1)]; rfl
        have cS4 : (y3.setCell ⟨gn, 0, none⟩ (.int .i64 ((K : Int) + 1))).cell? ⟨w.heap.size, 0, none⟩ = some (.int .i64 stop) := by rw [cell_of_row _ _ 0 _ _ _ (heap_other (g := gn) (j := 0) (v := .int .i64 ((K : Int) + 1)) q0 n2)]; rfl
        have hlp : (pre ++ [y]).length = K + 1 := by rw [List.length_append, List.length_singleton, hK]
        gi_wp2_with (fail)
        refine ⟨_, _, run_endRound none p1, .inl ⟨rfl, ⟨by rw [World.putObj_heap_same (lt_of_row p1)]; simp [hrec], (World.putObj_heap_other (by omega)).trans p2, by rw [hlp]; exact (World.putObj_heap_other (by omega)).trans p3, fun g hg hne => (World.putObj_heap_other (by omega)).trans (p4 g hg hne), p5.grown (grownBy_putObj' _ _ _) (by omega) (fun k h => by cases h; omega), by rw [World.putObj_size]; exact p9, trivial⟩, fun g hg hl => (World.putObj_heap_other (by omega)).trans (p8.out g hg (by omega))⟩⟩
      generalize hW1 : (v1.alloc (.deferred (some []))).alloc (.loop (rec .ready none)) = W1 at *
      have hwW1 := hw.trans (hb0.mono (by omega : B0 ≤ v1.heap.size))
      have hRA := (hs1.out _ hwW1).2.2.1
      have hCv : W1.cell? ⟨gF, 0, none⟩ = some (.slice (some ⟨gA, 0, none⟩) d.length (d.length + 80)) := by rw [cell_of_row _ _ 0 _ _ _ (keep hb0 rF)]; rfl
      refine (a_Fields1 d (.slice (some ⟨gA, 0, none⟩) d.length (d.length + 80)) gF (e + 1) (ThJ Wb v1 B0 e gn (rec .ready none) (fun _ => True)) (fun _ _ => False) W1 hCv (bysB_row hRA hBl _) (fun pre A C h hb => h.below k5.2.2.1 hb) (fun pre A g j u hg h => h.set k5.2.2.1 k5.1 g j u (by omega) ) (by rw [hs6]; exact hy_) J0).mono ?_
      clear hy_ J0 y0 y1 hb0 hwW1 hRA hCv
      rintro e_ w5 ⟨⟨rv_, rfl⟩, (hJ | ⟨pre, hp, hJ⟩)⟩
      · obtain ⟨j1, j2, j3, j4, j5, j6, j7⟩ := hJ
        refine ⟨⟨_, rfl⟩, .inl ⟨j1, ?_⟩⟩
        rw [hWL] at j3
        have z3 : (w5.putObj (e + 1) (.loop (rec .exhausted none))).heap[gn]? = _ := (World.putObj_heap_other (by omega)).trans j3
        have z2 : (w5.putObj (e + 1) (.loop (rec .exhausted none))).heap[e]? = _ := (World.putObj_heap_other (by omega)).trans j2
        have z4 : ∀ g, g < e → g ≠ gn → (w5.putObj (e + 1) (.loop (rec .exhausted none))).heap[g]? = v1.heap[g]? := fun g hg hne => (World.putObj_heap_other (by omega)).trans (j4 g hg hne)
        have z5 : Below B0 Wb (w5.putObj (e + 1) (.loop (rec .exhausted none))) := j5.grown (grownBy_putObj' _ _ _) (by omega) (fun k h => by cases h; omega)
        have z6 : e + 2 ≤ (w5.putObj (e + 1) (.loop (rec .exhausted none))).heap.size := by rw [World.putObj_size]; exact j6
        clear j1 j2 j3 j4 j5 j6
        generalize w5.putObj (e + 1) (.loop (rec .exhausted none)) = wq at *
        exact key_ wq ⟨WL.length, z3, z2, z4, z5, z6, rfl⟩
      · exact hJ.elim
    rintro w7 ⟨m, rN', kD1, q4, hw', hz, hm⟩
    replace rL := (q4 B0 (by omega) (by omega)).trans rL
    replace rP := (q4 gP (by omega) (by omega)).trans rP
    replace rF := (q4 gF (by omega) (by omega)).trans rF
    replace rR := (q4 gs (by omega) (by omega)).trans rR
    replace kD0 := (q4 e0 (by omega) (by omega)).trans kD0
    clear rN hw
    have rN := rN'
    have hw := hw'
    clear rN' hw' hst
    have R0 := (hs1.out _ hw).1
    have cN : w7.cell? ⟨gn, 0, none⟩ = some (.int .i64 (m : Int)) := by rw [cell_of_row _ _ 0 _ _ _ rN]; rfl
    have cR : w7.cell? ⟨gs, 0, none⟩ = some (.int .i64 1) := by rw [cell_of_row _ _ 0 _ _ _ rR]; rfl
    have cL : w7.cell? ⟨B0, 0, none⟩ = some (.slice uo WL.length uc) := by rw [cell_of_row _ _ 0 _ _ _ rL]; rfl
    have cS : w7.cell? ⟨w.heap.size, 0, none⟩ = some (.int .i64 stop) := by rw [cell_of_row _ _ 0 _ _ _ R0]; rfl
    obtain ⟨e1, he1⟩ : ∃ x, x = e := ⟨_, rfl⟩
    subst he1
    have lz : e1 + 2 ≤ w7.heap.size := hz
    subst hm
    go_wp2_with (fail)
    clear cR cL cN cS
    have hba : Below w7.heap.size w7 (w7.alloc (.cells #[.int .i64 2] 3)) := (Below.refl _ _).alloc (Nat.le_refl _) _
    have rR2 := hp1_0 w7 (.cells #[.int .i64 2] 3)
    have lrq := lt_of_row rR
    replace rL := keep hba rL
    replace rP := keep hba rP
    replace rF := keep hba rF
    replace rN := keep hba rN
    replace kD0 := keep hba kD0
    replace kD1 := keep hba kD1
    replace hw := hw.trans (hba.mono (by omega))
    clear hba rR
    have rR := rR2
    clear rR2
    generalize w7.alloc (.cells #[.int .i64 2] 3) = w55 at *
    generalize w7.heap.size = gt at *
    rw [rounds_succ]
    have cR : w55.cell? ⟨gt, 0, none⟩ = some (.int .i64 2) := by rw [cell_of_row _ _ 0 _ _ _ rR]; rfl
    have cN : w55.cell? ⟨gn, 0, none⟩ = some (.int .i64 (WL.length : Int)) := by rw [cell_of_row _ _ 0 _ _ _ rN]; rfl
    have cL : w55.cell? ⟨B0, 0, none⟩ = some (.slice uo WL.length uc) := by rw [cell_of_row _ _ 0 _ _ _ rL]; rfl
    obtain ⟨_, R1, RA, _, _, hBd, hwW⟩ := hs1.out _ hw
    have cK := hide (l_kept d gA w55 _ hBd RA)
    have m1 : w.heap.size + 1 ≠ gn := by omega
    have m2 : w.heap.size + 1 < gA ∧ gA < gF ∧ gF < gn ∧ gn < e0 ∧ e0 < e1 ∧ e1 < gt := by omega
    clear hs1 hw
    go_wp2_with (fail)
    refine cK.out.mono ?_
    rintro e_ w8 ⟨rfl, hb⟩
    have lrt := lt_of_row rR
    replace R1 := keep hb R1
    replace RA := keep hb RA
    replace rF := keep hb rF
    replace rN := keep hb rN
    replace kD0 := keep hb kD0
    replace kD1 := keep hb kD1
    replace hBd := hBd.keep hb
    replace hwW := Below.after hwW hb
    have sz8 := hb.size
    clear cK hb cR cN cL rR rL rP R0 q4 he hz
    have hbz : Below w8.heap.size w8 (w8.alloc (.cells #[] 5)) := (Below.refl _ _).alloc (Nat.le_refl _) _
    have hO0 := own_nil w8
    have hBz := hBd.keep hbz
    go_wp2_with (at_builtin; refine wpList_append_B rfl (.tmp 114) (.tmp 115) rfl w8.heap.size _ [] rfl hO0 _ d rfl hBz (by simp only [List.length_nil]; omega) hbz.size ?_)
    intro v1_ w9 hO1 hgr
    have hb9 : Below w8.heap.size w8 w9 := hbz.grown hgr hbz.size (fun k h => own_low hO0 k h)
    replace hO1 : Own w9 w8.heap.size v1_ d := hO1
    replace R1 := keep hb9 R1
    replace RA := keep hb9 RA
    replace rF := keep hb9 rF
    replace rN := keep hb9 rN
    replace kD0 := keep hb9 kD0
    replace kD1 := keep hb9 kD1
    replace hwW := Below.after hwW hb9
    clear hgr hO0 hbz hBz hBd hb9
    obtain ⟨ao, ac, rfl⟩ := slen_own hO1
    go_wp2_with (fail)
    generalize hw8 : w8.heap.size = b8 at *
    go_loopw [19] (fun i wr => ∃ k : Nat, k ≤ d.length ∧ i = .int .i64 k ∧ Own wr b8 (.slice ao d.length ac) (mxB xb d k) ∧ wr.heap[gA]? = some (.cells (irow .u8 (bl (mxB xb d k) ++ marks 80)) 5 (0, 0)) ∧ wr.heap[w.heap.size + 1]? = some (.cells #[.bool false] 4 (0, 0)) ∧ wr.heap[gF]? = some (.cells #[(.slice (some ⟨gA, 0, none⟩) d.length (d.length + 80))] 22 (0, 0)) ∧ wr.heap[gn]? = some (.cells #[.int .i64 (WL.length : Int)] 3 (0, 0)) ∧ wr.heap[e0]? = some (.deferred (some [])) ∧ wr.heap[e1]? = some (.deferred (some [])) ∧ Below w.heap.size w wr) (fun i _ => d.length - (intOf i).toNat)
    case atStart => exact ⟨0, by omega, rfl, by rw [mxB_zero]; exact hO1, by rw [mxB_zero]; exact RA, R1, rF, rN, kD0, kD1, hwW⟩
    case round =>
      clear hO1 RA R1 rF rN kD0 kD1 hwW
      obtain ⟨k, hk, rfl, hO1, RA, R1, rF, rN, kD0, kD1, hwW⟩ := hrel
      by_cases hlt : k < d.length
      · have hd : decide ((k : Int) < (d.length : Int)) = true := by simp; omega
        obtain ⟨yk, hyk⟩ : ∃ y, d[k]? = some y := ⟨_, List.getElem?_eq_getElem hlt⟩
        have hmk := mxB_get xb d k yk hyk
        have hms := mxB_set xb d k yk hyk
        have hml := mxB_len xb d k hk
        obtain ⟨gd, rfl⟩ : ∃ gd, ao = some ⟨gd, 0, none⟩ := by
          obtain ⟨_, ⟨h1, h2⟩ | ⟨g1, _, _, h1, _⟩⟩ := hO1
          · rw [hml] at h2; omega
          · injection h1 with h1 _ _; exact ⟨_, h1⟩
        have lgd := own_low hO1 gd rfl
        obtain ⟨cd, fd⟩ := own_cellT hO1 hmk
        have cA := irow_cell RA (j := k) (by rw [List.length_append, bl_len]; omega)
        have fA := row_frozen RA k
        have hx8 := xor8T yk xb
        have nAd : gA ≠ gd := by omega
        have nAd' : gd ≠ gA := by omega
        have o1 := own_setT hO1 (t := k) (yk ^^^ xb)
        rw [hms] at o1
        have A1 := heap_other (g := gd) (j := k) (v := .int .u8 (bv (yk ^^^ xb))) RA nAd
        have A2 := irow_set A1 k (bv (yk ^^^ xb))
        rw [List.set_append_left _ _ (by rw [bl_len]; omega), show (bl (mxB xb d k)).set k (bv (yk ^^^ xb)) = bl (mxB xb d (k + 1)) by rw [← hms, bl, bl, List.map_set]] at A2
        have o2 : Own ((wr.setCell ⟨gd, k, none⟩ (.int .u8 (bv (yk ^^^ xb)))).setCell ⟨gA, k, none⟩ (.int .u8 (bv (yk ^^^ xb)))) b8 (.slice (some ⟨gd, 0, none⟩) d.length ac) (mxB xb d (k + 1)) := own_but o1 (fun q hq => by
          have hq2 : gd = q := Option.some.inj hq
          subst hq2
          exact Below.heap_setCell _ _ _ _ (by show gd ≠ gA; omega))
        have R1' := hide (heap_other (g := gA) (j := k) (v := .int .u8 (bv (yk ^^^ xb))) (heap_other (g := gd) (j := k) (v := .int .u8 (bv (yk ^^^ xb))) R1 (show w.heap.size + 1 ≠ gd by omega)) (show w.heap.size + 1 ≠ gA by omega))
        have rF' := hide (heap_other (g := gA) (j := k) (v := .int .u8 (bv (yk ^^^ xb))) (heap_other (g := gd) (j := k) (v := .int .u8 (bv (yk ^^^ xb))) rF (show gF ≠ gd by omega)) (show gF ≠ gA by omega))
        have rN' := hide (heap_other (g := gA) (j := k) (v := .int .u8 (bv (yk ^^^ xb))) (heap_other (g := gd) (j := k) (v := .int .u8 (bv (yk ^^^ xb))) rN (show gn ≠ gd by omega)) (show gn ≠ gA by omega))
        have kD0' := hide (heap_other (g := gA) (j := k) (v := .int .u8 (bv (yk ^^^ xb))) (heap_other (g := gd) (j := k) (v := .int .u8 (bv (yk ^^^ xb))) kD0 (show e0 ≠ gd by omega)) (show e0 ≠ gA by omega))
        have kD1' := hide (heap_other (g := gA) (j := k) (v := .int .u8 (bv (yk ^^^ xb))) (heap_other (g := gd) (j := k) (v := .int .u8 (bv (yk ^^^ xb))) kD1 (show e1 ≠ gd by omega)) (show e1 ≠ gA by omega))
        have hw2 := hide ((hwW.setCell (p := ⟨gd, k, none⟩) (show w.heap.size ≤ gd by omega) (.int .u8 (bv (yk ^^^ xb)))).setCell (p := ⟨gA, k, none⟩) (show w.heap.size ≤ gA by omega) (.int .u8 (bv (yk ^^^ xb))))
        replace o2 := hide o2
        replace A2 := hide A2
        clear hO1 RA R1 rF rN kD0 kD1 hwW o1 A1 hms hmk hml
        generalize (bl (mxB xb d k) ++ marks 80).getD k 0 = zz at *
        generalize bv (yk ^^^ xb) = z at *
        go_wp2_with (fail)
        refine ⟨⟨k + 1, by omega, by go_num, o2.out, A2.out, R1'.out, rF'.out, rN'.out, kD0'.out, kD1'.out, hw2.out⟩, ?_⟩
        simp [intOf]; omega
      · obtain rfl : k = d.length := by omega
        have hd : decide ((d.length : Int) < (d.length : Int)) = false := by simp
        rw [mxB_all] at hO1 RA
        have hDl : (d.map (· ^^^ xb)).length = d.length := by simp
        generalize d.map (· ^^^ xb) = D at *
        have cX := hide (r_whole D wr (.slice ao d.length ac) (hO1.bysB (by omega)) (own_capB hO1))
        go_wp2_with (fail)
        refine cX.out.mono ?_
        rintro e_ Wc ⟨u2, us2, pu2, rfl, hFt2, hNm2, hb⟩
        clear cX hO1 hd
        have lrw : e1 < wr.heap.size := lt_of_row kD1
        replace R1 := keep hb R1
        replace RA := keep hb RA
        replace rF := keep hb rF
        replace rN := keep hb rN
        replace kD0 := keep hb kD0
        replace kD1 := keep hb kD1
        replace hwW := Below.after hwW hb
        have szw := hb.size
        clear hb
        obtain ⟨WM, hWM⟩ : ∃ l, (dwh D).1 = l := ⟨_, rfl⟩
        rw [hWM] at hFt2 hNm2
        obtain ⟨uo2, uc2, rfl⟩ := own_form_rowT hFt2.1
        obtain ⟨po2, pc2, rfl⟩ := own_form_rowT hNm2
        simp only [List.length_map] at hFt2 hNm2
        rw [List.length_map, List.length_map]
        generalize der (dwh D) = E1 at *
        generalize dpl (dwh D) = P1 at *
        clear hNm2
        have cN : Wc.cell? ⟨gn, 0, none⟩ = some (.int .i64 (WL.length : Int)) := by rw [cell_of_row _ _ 0 _ _ _ rN]; rfl
        have fN : Wc.frozen? ⟨gn, 0, none⟩ = false := by simp [World.frozen?, rN]
        have lnc : gn < Wc.heap.size := lt_of_row rN
        go_wp2_with (fail)
        have hszS : (Wc.setCell ⟨gn, 0, none⟩ (.int .i64 0)).heap.size = Wc.heap.size := by simp [World.setCell]
        have hbM : Below (Wc.setCell ⟨gn, 0, none⟩ (.int .i64 0)).heap.size (Wc.setCell ⟨gn, 0, none⟩ (.int .i64 0)) ((Wc.setCell ⟨gn, 0, none⟩ (.int .i64 0)).alloc (.cells #[(.slice uo2 WM.length uc2)] 25)) := (Below.refl _ _).alloc (Nat.le_refl _) _
        have rM := hp1_0 (Wc.setCell ⟨gn, 0, none⟩ (.int .i64 0)) (.cells #[(.slice uo2 WM.length uc2)] 25)
        rw [hszS] at rM
        replace R1 := keep hbM (heap_other (g := gn) (j := 0) (v := .int .i64 0) R1 (show w.heap.size + 1 ≠ gn by omega))
        replace RA := keep hbM (heap_other (g := gn) (j := 0) (v := .int .i64 0) RA (show gA ≠ gn by omega))
        replace rF := keep hbM (heap_other (g := gn) (j := 0) (v := .int .i64 0) rF (show gF ≠ gn by omega))
        replace kD0 := keep hbM (heap_other (g := gn) (j := 0) (v := .int .i64 0) kD0 (show e0 ≠ gn by omega))
        replace kD1 := keep hbM (heap_other (g := gn) (j := 0) (v := .int .i64 0) kD1 (show e1 ≠ gn by omega))
        have rN2 : ((Wc.setCell ⟨gn, 0, none⟩ (.int .i64 0)).alloc (.cells #[(.slice uo2 WM.length uc2)] 25)).heap[gn]? = some (.cells #[.int .i64 0] 3 (0, 0)) := keep hbM (row_set rN 0 (.int .i64 0))
        replace hwW := Below.after (hwW.setCell (p := ⟨gn, 0, none⟩) (show w.heap.size ≤ gn by omega) (.int .i64 0)) hbM
        have hFq : Fts ((Wc.setCell ⟨gn, 0, none⟩ (.int .i64 0)).alloc (.cells #[(.slice uo2 WM.length uc2)] 25)) wr.heap.size (.slice uo2 WM.length uc2) us2 (WM.map (·.2)) := (hFt2.move (V := (Wc.setCell ⟨gn, 0, none⟩ (.int .i64 0))) (fun g o hg h => heap_other h (by omega))).keep hbM
        clear hszS
        clear hFt2 rN hbM cN fN
        have hFt2 := hFq
        have rN := rN2
        clear hFq rN2
        generalize ((Wc.setCell ⟨gn, 0, none⟩ (.int .i64 0)).alloc (.cells #[(.slice uo2 WM.length uc2)] 25)) = v2 at *
        generalize wr.heap.size = bF at *
        generalize Wc.heap.size = gM at *
        have lrM := lt_of_row rM
        obtain ⟨e, he⟩ : ∃ e, v2.heap.size = e := ⟨_, rfl⟩
        apply ecutW (fun W : World => W.heap[gn]? = some (.cells #[.int .i64 (WM.length : Int)] 3 (0, 0)) ∧ W.heap[e]? = some (.deferred (some [])) ∧ (∀ g, g < e → g ≠ gn → W.heap[g]? = v2.heap[g]?) ∧ Below w.heap.size w W ∧ e + 2 ≤ W.heap.size)
        · intro key_
          refine wp_range_clo (gf := 10) (lb := #[.pointer (some ⟨gF, 0, none⟩)]) rfl (enters_of Try.func10 (by kernel_rfl) rfl) ?_
          intro fn rec hrec
          rw [he] at hrec ⊢
          have y0 := hp2_0 v2 (.deferred (some [])) (.loop (rec .ready none))
          have y1 := hp2_1 v2 (.deferred (some [])) (.loop (rec .ready none))
          have hb0 : Below v2.heap.size v2 ((v2.alloc (.deferred (some []))).alloc (.loop (rec .ready none))) := ((Below.refl _ _).alloc (Nat.le_refl _) _).alloc (by simp) _
          have hs6 : ((v2.alloc (.deferred (some []))).alloc (.loop (rec .ready none))).heap.size = e + 2 := by simp [he]
          rw [he] at y0 y1 lrM
          have k5 : gn < e ∧ gM < e ∧ w.heap.size ≤ e ∧ gF < e := by omega
          have J0 : ThJ w v2 w.heap.size e gn (rec .ready none) (fun _ => True) [] ((v2.alloc (.deferred (some []))).alloc (.loop (rec .ready none))) := ⟨y1, y0, keep hb0 rN, fun g hg _ => hb0.block g (by omega), hwW.trans (hb0.mono (by omega)), by omega, trivial⟩
          have hy_ : ∀ pre (y : Nat × Fd) u A C, ThJ w v2 w.heap.size e gn (rec .ready none) (fun _ => True) pre A → Below A.heap.size A C → Own C A.heap.size u y.2.dat → (pre ++ [y]) <+: (dwh D).1 → Fok y.2 → pre.length < 64 → (e + 2) ≤ A.heap.size → YieldAt Fence.wide 2 Try.prog (e + 1) #[.int .i64 (y.1 : Int), .agg #[.int .i64 y.2.no, .int .i64 y.2.ty, .int .u64 (y.2.num : Int), u]] C fun e_ C' => (e_ = .returned (.bool true) ∧ ThJ w v2 w.heap.size e gn (rec .ready none) (fun _ => True) (pre ++ [y]) C' ∧ ∀ g, e + 2 ≤ g → g < C.heap.size → C'.heap[g]? = C.heap[g]?) ∨ (e_ = .returned (.bool false) ∧ False) := by
            intro pre y u A C hJ hbC ho hpre hf hl64 hA2
            obtain ⟨g1, g2, g3, g4, g5, g6, g7⟩ := hJ.below k5.2.2.1 hbC
            clear hJ
            have hyy := run_yield (P := Try.prog) (args := #[.int .i64 (y.1 : Int), .agg #[.int .i64 y.2.no, .int .i64 y.2.ty, .int .u64 (y.2.num : Int), u]]) g1 (by rw [hrec]; rfl)
            rw [hrec] at hyy
            refine ⟨fn, _, _, _, hyy, roundIn_of_wpIn trivial ?_⟩
            clear hyy
            obtain ⟨K, hK⟩ : ∃ K, pre.length = K := ⟨_, rfl⟩
            have hget : WM[K]? = some y := by
              obtain ⟨t_, ht⟩ := hpre
              rw [← hWM, ← ht, ← hK]
              simp
            have hKl : K < WM.length := (List.getElem?_eq_some_iff.1 hget).1
            have hge : decide ((K : Int) ≥ (WM.length : Int)) = false := by simp; omega
            rw [hK] at g3 hl64
            obtain ⟨xo, xc, hu⟩ := slen_own ho
            subst hu
            have hoL := own_low ho
            have hCs : e + 2 ≤ C.heap.size := Nat.le_trans hA2 hbC.size
            have r0 := hp1_0 C (.cells #[.int .i64 0, .int .i64 0, .int .u64 0, .slice none 0 0] 35)
            have hbx : Below C.heap.size C ((C.alloc (.cells #[.int .i64 0, .int .i64 0, .int .u64 0, .slice none 0 0] 35)).setRow C.heap.size #[.int .i64 y.2.no, .int .i64 y.2.ty, .int .u64 (y.2.num : Int), .slice xo y.2.dat.length xc]) := below_setRow ((Below.refl _ _).alloc (Nat.le_refl _) _) (Nat.le_refl _) _
            have rB := setRow_heap _ C.heap.size _ #[.int .i64 y.2.no, .int .i64 y.2.ty, .int .u64 (y.2.num : Int), .slice xo y.2.dat.length xc] _ _ r0
            have hone : (#[Value.int .i64 y.2.no, .int .i64 y.2.ty, .int .u64 (y.2.num : Int), .slice xo y.2.dat.length xc] : Array Value).all (·.oneCell') = true := by simp [Value.oneCell']
            gi_wp2_with (first | (refine wpListIn_alloc rfl 35 rfl #[.int .i64 0, .int .i64 0, .int .u64 0, .slice none 0 0] zFd ?_) | (refine wpListIn_store_row rfl 35 _ _ rfl C.heap.size #[.int .i64 y.2.no, .int .i64 y.2.ty, .int .u64 (y.2.num : Int), .slice xo y.2.dat.length xc] rfl rfl 35 _ r0 infoF rfl hone ?_) | fail)
            clear r0
            generalize (C.alloc (.cells #[.int .i64 0, .int .i64 0, .int .u64 0, .slice none 0 0] 35)).setRow C.heap.size #[.int .i64 y.2.no, .int .i64 y.2.ty, .int .u64 (y.2.num : Int), .slice xo y.2.dat.length xc] = C1 at *
            have q1 := keep hbx g1
            refine ⟨_, run_beginRound q1 (by rw [hrec]), ?_⟩
            have hoth : ∀ g, g ≠ e + 1 → (C1.putObj (e + 1) (.loop { rec .ready none with state := .busy })).heap[g]? = C1.heap[g]? := fun g hg => World.putObj_heap_other hg
            have q1' : (C1.putObj (e + 1) (.loop { rec .ready none with state := .busy })).heap[e + 1]? = some (.loop { rec .ready none with state := .busy }) := World.putObj_heap_same (lt_of_row q1)
            have q2 := (hoth e (by omega)).trans (keep hbx g2)
            have q3 := (hoth gn (by omega)).trans (keep hbx g3)
            have q4 : ∀ g, g < e → g ≠ gn → (C1.putObj (e + 1) (.loop { rec .ready none with state := .busy })).heap[g]? = v2.heap[g]? := fun g hg hne => (hoth g (by omega)).trans ((hbx.block g (by omega)).trans (g4 g hg hne))
            have q5 : Below w.heap.size w (C1.putObj (e + 1) (.loop { rec .ready none with state := .busy })) := (g5.trans (hbx.mono (by omega))).grown (grownBy_putObj' _ _ _) (by have := hbx.size; omega) (fun k h => by cases h; omega)
            have q8 : Hid (∀ g, e + 2 ≤ g → g < C.heap.size → (C1.putObj (e + 1) (.loop { rec .ready none with state := .busy })).heap[g]? = C.heap[g]?) := hide (fun g hg hl => (hoth g (by omega)).trans (hbx.block g hl))
            have rB2 := (hoth C.heap.size (by omega)).trans rB
            have ho2 : Own (C1.putObj (e + 1) (.loop { rec .ready none with state := .busy })) A.heap.size (.slice xo y.2.dat.length xc) y.2.dat := own_but (ho.keep hbx) (fun q hq => hoth q (by have := hoL q hq; omega))
            have hszC : (C1.putObj (e + 1) (.loop { rec .ready none with state := .busy })).heap.size = C1.heap.size := World.putObj_size
            have hsC := lt_of_row rB
            generalize (C1.putObj (e + 1) (.loop { rec .ready none with state := .busy })) = C2 at *
            rw [← hszC] at hsC
            clear hoth rB hbx q1 g1 g2 g3 g4 g5 hszC hone ho
            have hFt : Fts C2 bF (.slice uo2 WM.length uc2) us2 (WM.map (·.2)) := hFt2.move (fun g o hg h => (q4 g (by have := lt_of_heapT h; omega) (by omega)).trans h)
            have hget2 : (WM.map (·.2))[K]? = some y.2 := by rw [List.getElem?_map, hget]; rfl
            obtain ⟨gu, ucap, eU, _, hgu, _⟩ := hFt.at (i := K) (by rw [List.length_map]; exact hKl)
            rw [List.length_map] at eU
            cases eU
            obtain ⟨hKc, hU2⟩ := fds_mid hFt hget2 hf
            have hsl := slf_mid gu WM.length uc2 K hKc
            have hyb := ho2.bysB (by have := hf.2.1; omega)
            have eL := (q4 gM (by omega) (by omega)).trans rM
            clear hFt hget hget2
            generalize hgB : C.heap.size = gB at *
            gi_wp2_with (fail)
            have dW : IntKind.wrap .i64 ((K : Int) + 1) = (K : Int) + 1 := by rw [IntKind.wrap_i64]; omega
            have hbd : Below C2.heap.size C2 C2.drew := below_drN (Below.refl _ _) 1
            have HS : (fun V : World => V.heap[gn]? = some (.cells #[.int .i64 (K : Int)] 3 (0, 0)) ∧ V.heap[gM]? = some (.cells #[.slice (some ⟨gu, 0, none⟩) WM.length uc2] 25 (0, 0)) ∧ V.heap[gB]? = some (.cells #[.int .i64 y.2.no, .int .i64 y.2.ty, .int .u64 (y.2.num : Int), .slice xo y.2.dat.length xc] 35 (0, 0))) C2.drew := ⟨keep hbd q3, keep hbd eL, keep hbd rB2⟩
            replace hU2 := hU2.keep hbd
            replace hyb := hyb.keep hbd
            have szd := hbd.size
            refine wpIn_region_held_round (S := fun V : World => V.heap[gn]? = some (.cells #[.int .i64 (K : Int)] 3 (0, 0)) ∧ V.heap[gM]? = some (.cells #[.slice (some ⟨gu, 0, none⟩) WM.length uc2] 25 (0, 0)) ∧ V.heap[gB]? = some (.cells #[.int .i64 y.2.no, .int .i64 y.2.ty, .int .u64 (y.2.num : Int), .slice xo y.2.dat.length xc] 35 (0, 0))) _ (by kernel_rfl) (by kernel_rfl) (fun h => by obtain ⟨_, _, h⟩ := h; exact h) ?_
            change wpAnyH _ _ _ _ _ _ _ _ (World.drew _)
            generalize C2.drew = y1 at *
            refine wpAnyH_take (i := 0) (v := .int .i64 (K : Int)) rfl (by kernel_rfl) (by kernel_rfl) (by kernel_rfl) (fun _ _ _ h => h) (Or.inl ⟨by rfl, ?yb222⟩) HS ?rb222
            case yb222 =>
              intro w_ hS_
              have c_ := cell_of_row _ _ 0 _ _ _ hS_.1
              go_simp
              try with_reducible rfl
            simp only [Act.put, List.getElem_toArray, List.getElem_cons_zero, List.setIfInBounds_toArray, List.set_cons_succ, List.set_cons_zero]
            refine wpAnyH_take (i := 1) (v := .slice (some ⟨gu, 0, none⟩) WM.length uc2) rfl (by kernel_rfl) (by kernel_rfl) (by kernel_rfl) (fun _ _ _ h => h) (Or.inl ⟨by rfl, ?yb223⟩) HS ?rb223
            case yb223 =>
              intro w_ hS_
              have c_ := cell_of_row _ _ 0 _ _ _ hS_.2.1
              go_simp
              try with_reducible rfl
            simp only [Act.put, List.getElem_toArray, List.getElem_cons_succ, List.getElem_cons_zero, List.setIfInBounds_toArray, List.set_cons_succ, List.set_cons_zero]
            refine wpAnyH_take (i := 2) (v := .int .i64 (WM.length : Int)) rfl (by kernel_rfl) (by kernel_rfl) (by kernel_rfl) (fun _ _ _ h => h) (Or.inl ⟨by rfl, ?yb224⟩) HS ?rb224
            case yb224 =>
              intro w_ hS_
              go_simp
              try with_reducible rfl
            simp only [Act.put, List.getElem_toArray, List.getElem_cons_succ, List.getElem_cons_zero, List.setIfInBounds_toArray, List.set_cons_succ, List.set_cons_zero]
            refine wpAnyH_take (i := 3) (v := .bool false) rfl (by kernel_rfl) (by kernel_rfl) (by kernel_rfl) (fun _ _ _ h => h) (Or.inl ⟨by rfl, ?yb225⟩) HS ?rb225
            case yb225 =>
              intro w_ hS_
              have h_ := hge
              go_simp
              try with_reducible rfl
            simp only [Act.put, List.getElem_toArray, List.getElem_cons_succ, List.getElem_cons_zero, List.setIfInBounds_toArray, List.set_cons_succ, List.set_cons_zero]
            refine wpAnyH_take (i := 4) (v := ?vb226) rfl (by kernel_rfl) (by kernel_rfl) (by kernel_rfl) (fun _ _ _ h => h) (Or.inl ⟨by rfl, ?yb226⟩) HS ?rb226
            case yb226 =>
              intro w_ hS_
              go_simp
              try with_reducible rfl
            simp only [Act.put, List.getElem_toArray, List.getElem_cons_succ, List.getElem_cons_zero, List.setIfInBounds_toArray, List.set_cons_succ, List.set_cons_zero]
            refine wpAnyH_take (i := 5) (v := .agg #[.int .i64 y.2.no, .int .i64 y.2.ty, .int .u64 (y.2.num : Int), .slice xo y.2.dat.length xc]) rfl (by kernel_rfl) (by kernel_rfl) (by kernel_rfl) (fun _ _ _ h => h) (Or.inl ⟨by rfl, ?yb227⟩) HS ?rb227
            case yb227 =>
              intro w_ hS_
              simp only [List.getElem_toArray, List.getElem_cons_succ, List.getElem_cons_zero]
              exact run_load_rowT 35 _ rfl gB rfl 35 #[.int .i64 y.2.no, .int .i64 y.2.ty, .int .u64 (y.2.num : Int), .slice xo y.2.dat.length xc] (0, 0) _ hS_.2.2 Try.underlying35 rfl infoF
            simp only [Act.put, List.getElem_toArray, List.getElem_cons_succ, List.getElem_cons_zero, List.setIfInBounds_toArray, List.set_cons_succ, List.set_cons_zero]
            refine wpAnyH_take (i := 7) (v := .slice (some ⟨gu, 0, none⟩) WM.length uc2) rfl (by kernel_rfl) (by kernel_rfl) (by kernel_rfl) (fun _ _ _ h => h) (Or.inl ⟨by rfl, ?yb228⟩) HS ?rb228
            case yb228 =>
              intro w_ hS_
              have c_ := cell_of_row _ _ 0 _ _ _ hS_.2.1
              go_simp
              try with_reducible rfl
            simp only [Act.put, List.getElem_toArray, List.getElem_cons_succ, List.getElem_cons_zero, List.setIfInBounds_toArray, List.set_cons_succ, List.set_cons_zero]
            refine wpAnyH_take (i := 8) (v := .int .i64 (K : Int)) rfl (by kernel_rfl) (by kernel_rfl) (by kernel_rfl) (fun _ _ _ h => h) (Or.inl ⟨by rfl, ?yb229⟩) HS ?rb229
            case yb229 =>
              intro w_ hS_
              have c_ := cell_of_row _ _ 0 _ _ _ hS_.1
              go_simp
              try with_reducible rfl
            simp only [Act.put, List.getElem_toArray, List.getElem_cons_succ, List.getElem_cons_zero, List.setIfInBounds_toArray, List.set_cons_succ, List.set_cons_zero]
            refine wpAnyH_take (i := 9) (v := .int .i64 (K : Int)) rfl (by kernel_rfl) (by kernel_rfl) (by kernel_rfl) (fun _ _ _ h => h) (Or.inl ⟨by rfl, ?yb230⟩) HS ?rb230
            case yb230 =>
              intro w_ hS_
              have c_ := cell_of_row _ _ 0 _ _ _ hS_.1
              go_simp
              try with_reducible rfl
            simp only [Act.put, List.getElem_toArray, List.getElem_cons_succ, List.getElem_cons_zero, List.setIfInBounds_toArray, List.set_cons_succ, List.set_cons_zero]
            refine wpAnyH_take (i := 10) (v := .int .i64 ((K : Int) + 1)) rfl (by kernel_rfl) (by kernel_rfl) (by kernel_rfl) (fun _ _ _ h => h) (Or.inl ⟨by rfl, ?yb231⟩) HS ?rb231
            case yb231 =>
              intro w_ hS_
              go_simp
              try rw [dW]
              try with_reducible rfl
            simp only [Act.put, List.getElem_toArray, List.getElem_cons_succ, List.getElem_cons_zero, List.setIfInBounds_toArray, List.set_cons_succ, List.set_cons_zero]
            refine wpAnyH_take (i := 11) (v := .slice (some ⟨gu, K * 4, none⟩) 1 (uc2 - K)) rfl (by kernel_rfl) (by kernel_rfl) (by kernel_rfl) (fun _ _ _ h => h) (Or.inl ⟨by rfl, ?yb232⟩) HS ?rb232
            case yb232 =>
              intro w_ hS_
              have h_ := hsl
              go_simp
              try with_reducible rfl
            simp only [Act.put, List.getElem_toArray, List.getElem_cons_succ, List.getElem_cons_zero, List.setIfInBounds_toArray, List.set_cons_succ, List.set_cons_zero]
            refine wpAnyH_one (k := 6) (fuel := 3) (by kernel_rfl) rfl (by rfl) (fun K_ hK => ?_)
            refine wp_world_op (.slice (some ⟨y1.heap.size, 0, none⟩) 1 1) (y1.alloc (.cells #[.int .i64 y.2.no, .int .i64 y.2.ty, .int .u64 (y.2.num : Int), .slice xo y.2.dat.length xc] 35)) (op_bF1 _ rfl _ _ _ _ rfl) ?_
            have hba : Below y1.heap.size y1 (y1.alloc (.cells #[.int .i64 y.2.no, .int .i64 y.2.ty, .int .u64 (y.2.num : Int), .slice xo y.2.dat.length xc] 35)) := (Below.refl _ _).alloc (Nat.le_refl _) _
            have hU1 : Fds (y1.alloc (.cells #[.int .i64 y.2.no, .int .i64 y.2.ty, .int .u64 (y.2.num : Int), .slice xo y.2.dat.length xc] 35)) (.slice (some ⟨y1.heap.size, 0, none⟩) 1 1) [y.2] := fds_one y1 y.2 _ hyb hf
            have HS' : (fun V : World => V.heap[gn]? = some (.cells #[.int .i64 (K : Int)] 3 (0, 0)) ∧ V.heap[gM]? = some (.cells #[.slice (some ⟨gu, 0, none⟩) WM.length uc2] 25 (0, 0)) ∧ V.heap[gB]? = some (.cells #[.int .i64 y.2.no, .int .i64 y.2.ty, .int .u64 (y.2.num : Int), .slice xo y.2.dat.length xc] 35 (0, 0))) _ := ⟨keep hba HS.1, keep hba HS.2.1, keep hba HS.2.2⟩
            replace HS := HS'
            clear HS'
            replace hU2 := hU2.keep hba
            have hbY := hide hba
            clear hba
            refine hK _ _ HS ?_
            simp only [Act.put, List.getElem_toArray, List.getElem_cons_succ, List.getElem_cons_zero, List.setIfInBounds_toArray, List.set_cons_succ, List.set_cons_zero]
            clear hK hyb
            generalize y1.alloc (.cells #[.int .i64 y.2.no, .int .i64 y.2.ty, .int .u64 (y.2.num : Int), .slice xo y.2.dat.length xc] 35) = y2 at *
            refine wpAnyH_one (k := 12) (fuel := 2) (by kernel_rfl) rfl (by rfl) (fun K_ hK => ?_)
            have szy := hbY.out.size
            refine wp_call_ex (f := 7) (R := fun v w' => v = .bool true ∧ Below y2.heap.size y2 w') (by kernel_rfl) ((l_alike [y.2] y2 _ _ hU1 hU2).mono (fun e w' h => (by obtain ⟨h1, h2⟩ := h; exact ⟨_, h1, rfl, h2⟩))) (fun v_ y3 hX_ => ?_)
            obtain ⟨rfl, hb_⟩ := hX_
            have HS' : (fun V : World => V.heap[gn]? = some (.cells #[.int .i64 (K : Int)] 3 (0, 0)) ∧ V.heap[gM]? = some (.cells #[.slice (some ⟨gu, 0, none⟩) WM.length uc2] 25 (0, 0)) ∧ V.heap[gB]? = some (.cells #[.int .i64 y.2.no, .int .i64 y.2.ty, .int .u64 (y.2.num : Int), .slice xo y.2.dat.length xc] 35 (0, 0))) _ := ⟨keep hb_ HS.1, keep hb_ HS.2.1, keep hb_ HS.2.2⟩
            replace HS := HS'
            clear HS'
            have hbZ := hide (Below.after hbY.out hb_)
            clear hb_ hU1 hU2 hbY szy
            refine hK _ _ HS ?_
            simp only [Act.put, List.getElem_toArray, List.getElem_cons_succ, List.getElem_cons_zero, List.setIfInBounds_toArray, List.set_cons_succ, List.set_cons_zero]
            clear hK
            refine wpAnyH_take (i := 13) (v := ?vb233) rfl (by kernel_rfl) (by kernel_rfl) (by kernel_rfl) (fun _ _ _ h => h) (Or.inl ⟨by rfl, ?yb233⟩) HS ?rb233
            case yb233 =>
              intro w_ hS_
              go_simp
              try with_reducible rfl
            simp only [Act.put, List.getElem_toArray, List.getElem_cons_succ, List.getElem_cons_zero, List.setIfInBounds_toArray, List.set_cons_succ, List.set_cons_zero]
            refine wpAnyH_take (i := 14) (v := ?vb234) rfl (by kernel_rfl) (by kernel_rfl) (by kernel_rfl) (fun _ _ _ h => h) (Or.inl ⟨by rfl, ?yb234⟩) HS ?rb234
            case yb234 =>
              intro w_ hS_
              go_simp
              try with_reducible rfl
            simp only [Act.put, List.getElem_toArray, List.getElem_cons_succ, List.getElem_cons_zero, List.setIfInBounds_toArray, List.set_cons_succ, List.set_cons_zero]
            refine wpAnyH_done (by kernel_rfl) ?_ _
            have hbT := Below.after hbd hbZ.out
            clear hbZ hbd HS
            replace q1' := keep hbT q1'
            replace q2 := keep hbT q2
            replace q3 := keep hbT q3
            have t4 : ∀ g, g < e → g ≠ gn → y3.heap[g]? = v2.heap[g]? := fun g hg hne => (hbT.block g (by omega)).trans (q4 g hg hne)
            have t5 := q5.trans (hbT.mono (by omega))
            have t8 : Hid (∀ g, e + 2 ≤ g → g < gB → y3.heap[g]? = C.heap[g]?) := hide (fun g hg hl => (hbT.block g (by omega)).trans (q8.out g hg hl))
            have qs := hbT.size
            clear q4 q5 q8 eL rB2 hbT
            have c3 : y3.cell? ⟨gn, 0, none⟩ = some (.int .i64 (K : Int)) := by rw [cell_of_row _ _ 0 _ _ _ q3]; rfl
            have f3 : y3.frozen? ⟨gn, 0, none⟩ = false := by simp [World.frozen?, q3]
            have p1 := heap_other (g := gn) (j := 0) (v := .int .i64 ((K : Int) + 1)) q1' (show e + 1 ≠ gn by omega)
            have p2 := heap_other (g := gn) (j := 0) (v := .int .i64 ((K : Int) + 1)) q2 (show e ≠ gn by omega)
            have p3 : (y3.setCell ⟨gn, 0, none⟩ (.int .i64 ((K : Int) + 1))).heap[gn]? = some (.cells #[.int .i64 ((K : Int) + 1)] 3 (0, 0)) := row_set q3 0 (.int .i64 ((K : Int) + 1))
            have p4 : ∀ g, g < e → g ≠ gn → (y3.setCell ⟨gn, 0, none⟩ (.int .i64 ((K : Int) + 1))).heap[g]? = v2.heap[g]? := fun g hg hne => (Below.heap_setCell _ _ _ _ (by show g ≠ gn; exact hne)).trans (t4 g hg hne)
            have p5 := t5.setCell (p := ⟨gn, 0, none⟩) (show w.heap.size ≤ gn by omega) (.int .i64 ((K : Int) + 1))
            have p8 : Hid (∀ g, e + 2 ≤ g → g < gB → (y3.setCell ⟨gn, 0, none⟩ (.int .i64 ((K : Int) + 1))).heap[g]? = C.heap[g]?) := hide (fun g hg hl => (Below.heap_setCell _ _ _ _ (by show g ≠ gn; omega)).trans (t8.out g hg hl))
            have p9 : e + 2 ≤ (y3.setCell ⟨gn, 0, none⟩ (.int .i64 ((K : Int) + 1))).heap.size := by
              have : (y3.setCell ⟨gn, 0, none⟩ (.int .i64 ((K : Int) + 1))).heap.size = y3.heap.size := by simp [World.setCell]
              omega
            have hlp : (pre ++ [y]).length = K + 1 := by rw [List.length_append, List.length_singleton, hK]
            gi_wp2_with (fail)
            refine ⟨_, _, run_endRound none p1, .inl ⟨rfl, ⟨by rw [World.putObj_heap_same (lt_of_row p1)]; simp [hrec], (World.putObj_heap_other (by omega)).trans p2, by rw [hlp]; exact (World.putObj_heap_other (by omega)).trans p3, fun g hg hne => (World.putObj_heap_other (by omega)).trans (p4 g hg hne), p5.grown (grownBy_putObj' _ _ _) (by omega) (fun k h => by cases h; omega), by rw [World.putObj_size]; exact p9, trivial⟩, fun g hg hl => (World.putObj_heap_other (by omega)).trans (p8.out g hg (by omega))⟩⟩
          generalize hW1 : (v2.alloc (.deferred (some []))).alloc (.loop (rec .ready none)) = W1 at *
          have hCv : W1.cell? ⟨gF, 0, none⟩ = some (.slice (some ⟨gA, 0, none⟩) d.length (d.length + 80)) := by rw [cell_of_row _ _ 0 _ _ _ (keep hb0 rF)]; rfl
          have hBD := bysB_row (keep hb0 RA) (by omega) (d.length + 80)
          rw [hDl] at hBD
          refine (a_Fields1 D (.slice (some ⟨gA, 0, none⟩) d.length (d.length + 80)) gF (e + 1) (ThJ w v2 w.heap.size e gn (rec .ready none) (fun _ => True)) (fun _ _ => False) W1 hCv hBD (fun pre A C h hb => h.below k5.2.2.1 hb) (fun pre A g j u hg h => h.set k5.2.2.1 k5.1 g j u (by omega)) (by rw [hs6]; exact hy_) J0).mono ?_
          clear hy_ J0 y0 y1 hb0 hCv hBD
          rintro e_ w5 ⟨⟨rv_, rfl⟩, (hJ | ⟨pre, hp, hJ⟩)⟩
          · obtain ⟨j1, j2, j3, j4, j5, j6, j7⟩ := hJ
            refine ⟨⟨_, rfl⟩, .inl ⟨j1, ?_⟩⟩
            rw [hWM] at j3
            have z3 : (w5.putObj (e + 1) (.loop (rec .exhausted none))).heap[gn]? = _ := (World.putObj_heap_other (by omega)).trans j3
            have z2 : (w5.putObj (e + 1) (.loop (rec .exhausted none))).heap[e]? = _ := (World.putObj_heap_other (by omega)).trans j2
            have z4 : ∀ g, g < e → g ≠ gn → (w5.putObj (e + 1) (.loop (rec .exhausted none))).heap[g]? = v2.heap[g]? := fun g hg hne => (World.putObj_heap_other (by omega)).trans (j4 g hg hne)
            have z5 : Below w.heap.size w (w5.putObj (e + 1) (.loop (rec .exhausted none))) := j5.grown (grownBy_putObj' _ _ _) (by omega) (fun k h => by cases h; omega)
            have z6 : e + 2 ≤ (w5.putObj (e + 1) (.loop (rec .exhausted none))).heap.size := by rw [World.putObj_size]; exact j6
            clear j1 j2 j3 j4 j5 j6
            generalize w5.putObj (e + 1) (.loop (rec .exhausted none)) = wq at *
            exact key_ wq ⟨z3, z2, z4, z5, z6⟩
          · exact hJ.elim
        rintro x13 ⟨rN', kD2, q4, hw', hz⟩
        replace R1 := (q4 (w.heap.size + 1) (by omega) (by omega)).trans R1
        replace rM := (q4 gM (by omega) (by omega)).trans rM
        replace kD0 := (q4 e0 (by omega) (by omega)).trans kD0
        replace kD1 := (q4 e1 (by omega) (by omega)).trans kD1
        have cN : x13.cell? ⟨gn, 0, none⟩ = some (.int .i64 (WM.length : Int)) := by rw [cell_of_row _ _ 0 _ _ _ rN']; rfl
        have cM : x13.cell? ⟨gM, 0, none⟩ = some (.slice uo2 WM.length uc2) := by rw [cell_of_row _ _ 0 _ _ _ rM]; rfl
        have c1 : x13.cell? ⟨w.heap.size + 1, 0, none⟩ = some (.bool false) := by rw [cell_of_row _ _ 0 _ _ _ R1]; rfl
        have f1 : x13.frozen? ⟨w.heap.size + 1, 0, none⟩ = false := by simp [World.frozen?, R1]
        go_wp2_with (fail)
        have D2 := heap_other (g := w.heap.size + 1) (j := 0) (v := .bool true) kD2 (by omega)
        have D1 := heap_other (g := w.heap.size + 1) (j := 0) (v := .bool true) kD1 (by omega)
        have D0 := heap_other (g := w.heap.size + 1) (j := 0) (v := .bool true) kD0 (by omega)
        have X1 : (x13.setCell ⟨w.heap.size + 1, 0, none⟩ (.bool true)).heap[w.heap.size + 1]? = some (.cells #[.bool true] 4 (0, 0)) := row_set R1 0 (.bool true)
        have hw2 := hw'.setCell (p := ⟨w.heap.size + 1, 0, none⟩) (show w.heap.size ≤ w.heap.size + 1 by omega) (.bool true)
        generalize x13.setCell ⟨w.heap.size + 1, 0, none⟩ (.bool true) = x14 at *
        refine ⟨by simp, .inl ⟨_, _, rfl, run_takeDeferred D2, ?_⟩⟩
        replace D1 : (x14.putObj e (.deferred none)).heap[e1]? = _ := (World.putObj_heap_other (by omega)).trans D1
        replace D0 : (x14.putObj e (.deferred none)).heap[e0]? = _ := (World.putObj_heap_other (by omega)).trans D0
        replace X1 : (x14.putObj e (.deferred none)).heap[w.heap.size + 1]? = _ := (World.putObj_heap_other (by omega)).trans X1
        replace hw2 := hw2.grown (grownBy_putObj' x14 e (.deferred none)) hw2.size (fun k h => by cases h; omega)
        generalize x14.putObj e (.deferred none) = x15 at *
        refine ⟨by simp, .inl ⟨_, _, rfl, run_takeDeferred D1, ?_⟩⟩
        replace D0 : (x15.putObj e1 (.deferred none)).heap[e0]? = _ := (World.putObj_heap_other (by omega)).trans D0
        replace X1 : (x15.putObj e1 (.deferred none)).heap[w.heap.size + 1]? = _ := (World.putObj_heap_other (by omega)).trans X1
        replace hw2 := hw2.grown (grownBy_putObj' x15 e1 (.deferred none)) hw2.size (fun k h => by cases h; omega)
        generalize x15.putObj e1 (.deferred none) = x16 at *
        refine ⟨by simp, .inl ⟨_, _, rfl, run_takeDeferred D0, ?_⟩⟩
        exact ⟨_, results_cell_bool Try.results3 _ _ (w.heap.size + 1) _ rfl (row_load ((World.putObj_heap_other (by omega)).trans X1)), rfl, hw2.grown (grownBy_putObj' _ _ _) hw2.size (fun k h => by cases h; omega)⟩
end Go.Proofs.Ytnbkdlfkacbfjaa
