import Derived.Test.YtnohfbpmckhbbaaDoorProg
import Derived.WalkKit
import Derived.WalkSpells
import Derived.WalkLawsBesides
import Derived.Lib.QuietBelow
import Derived.BigQuiet
import Derived.OrdersHeld
import Derived.Deep.RegionHeld3
import Derived.Deep.Cut
import Derived.Deep.CutRange
import Derived.Test.YtnohfbpmckhbbaaDoorS0
import Derived.Test.YtnohfbpmckhbbaaDoorS11
import Derived.Test.YtnohfbpmckhbbaaDoorS7
namespace Go.Proofs.YtnohfbpmckhbbaaDoor
set_option maxRecDepth 100000
open Go Go.RowKit Go.Sort
attribute [local go_sem] setCell_drewN alloc_drewN

def EStay (p : Prop) : Prop := p
theorem wpList_estay {P : Program} {ops : Array Oper} {rest : List Oper} {a : Act} {w : World} {Q : Exit → Act → World → Prop} (h : EStay (wpList P ops Q rest a w)) : wpList P ops Q rest a w := h
theorem ecut {G : Prop} {A : Nat → World → Prop} (T : Nat → World → Prop) (h1 : (∀ g W, T g W → A g W) → G) (h2 : ∀ g W, T g W → A g W) : G := h1 h2
theorem ex1e {f : FuncId} {args : Array Value} {w : World} {v : Value} {Bp : World → Prop} (h : Calls Tryd.prog f args w fun e w' => e = .returned v ∧ Bp w') : Calls Tryd.prog f args w fun e w' => ∃ v', e = .returned v' ∧ v' = v ∧ Bp w' := h.mono fun _ _ ⟨a, b⟩ => ⟨v, a, rfl, b⟩
theorem all_rowe (cs : Array Value) : cs.extract 0 (0 + cs.size) = cs := by simp
theorem wpList_load_rng {P : Program} {ops : Array Oper} {rest : List Oper} {o : Oper} {a : Act} {w : World} {Q : Exit → Act → World → Prop} (hw : Region.wanted o (yielded ops a.tmps) = true) (ty : TypeId) (x : Operand) (ho : o.op = .load ty x)
    (g off : Nat) (hx : a.eval x = .pointer (some ⟨g, off, none⟩)) (cs : List Value) (d : TypeDesc) (hr : w.rangeAt g off cs) (hu : P.underlying ty = some d) (hd : d.isRow = true) (hi : (P.info? ty).map (·.size) = some cs.length)
    (h : wpList P ops Q rest (a.put o.dst (.agg cs.toArray)) w) : wpList P ops Q (o :: rest) a w :=
  BigFrame.wpList_want hw fun _ hK => wp_load_mid ty x ho g off hx cs d hr hu hd hi (hK _ _ h)
section
variable {P : Program} {ops : Array Oper} {Q : Exit → Act → World → Prop} {md : Region.Mode} {S : World → Prop}
theorem eH_one {k : Nat} {o : Oper} {fuel : Nat} {listed : Array Bool} {a : Act} {w : World} (hr : Region.ready md ops listed = [k]) (hi : ops[k]? = some o) (hw : Region.wanted o (yielded ops a.tmps) = true)
    (h : ∀ K : Act → World → Prop, (∀ a' w', S w' → wpAnyH P md ops Q S fuel (listed.setIfInBounds k true) a' w' → K a' w') → o.wp P a w K Q) : wpAnyH P md ops Q S (fuel + 1) listed a w := by
  refine wpAnyH_all hr (by simp) (fun i hi' => ?_)
  obtain rfl : i = k := by simpa using hi'
  unfold wpOp
  simp only [hi, hw, if_true]
  exact .inl (h _ (fun a' w' hS hn => ⟨hS, hn⟩))
theorem eH_two {j k : Nat} {oj ok : Oper} {fuel : Nat} {listed : Array Bool} {a : Act} {w : World} (hr : Region.ready md ops listed = [j, k]) (hj : ops[j]? = some oj) (hk : ops[k]? = some ok) (wj : Region.wanted oj (yielded ops a.tmps) = true) (wk : Region.wanted ok (yielded ops a.tmps) = true)
    (h1 : ∀ K : Act → World → Prop, (∀ a' w', S w' → wpAnyH P md ops Q S fuel (listed.setIfInBounds j true) a' w' → K a' w') → oj.wp P a w K Q)
    (h2 : ∀ K : Act → World → Prop, (∀ a' w', S w' → wpAnyH P md ops Q S fuel (listed.setIfInBounds k true) a' w' → K a' w') → ok.wp P a w K Q) : wpAnyH P md ops Q S (fuel + 1) listed a w := by
  refine wpAnyH_all hr (by simp) (fun i hi' => ?_)
  obtain rfl | rfl : i = j ∨ i = k := by simpa using hi'
  · unfold wpOp
    simp only [hj, wj, if_true]
    exact .inl (h1 _ (fun a' w' hS hn => ⟨hS, hn⟩))
  · unfold wpOp
    simp only [hk, wk, if_true]
    exact .inl (h2 _ (fun a' w' hS hn => ⟨hS, hn⟩))
theorem e_load_part {o : Oper} {a : Act} {w : World} (ty : TypeId) (x : Operand) (ho : o.op = .load ty x) (g off : Nat) (hx : a.eval x = .pointer (some ⟨g, off, none⟩)) (t : TypeId) (cs : Array Value) (fr : Nat × Nat) (part : Array Value) (d : TypeDesc) (hg : w.heap[g]? = some (.cells cs t fr)) (hp : cs.extract off (off + part.size) = part)
    (hu : P.underlying ty = some d) (hd : d.isRow = true) (hi : (P.info? ty).map (·.size) = some part.size) : (execOp a.eval o).run P w = .ok (.value (.agg part)) w := by
  have hr := World.rangeAt_of_block hg off part.size
  rw [hp] at hr
  have hl := run_loadVar_mid (P := P) w g off ty part.toList d hr hu hd (by simpa using hi)
  unfold execOp
  simp only [ho, hx, Instr.loadAt, Instr.sureAddr, Sem.run_bind, Sem.run_pure, Result.andThen_ok, hl]
end
theorem e_world_op {P : Program} {o : Oper} {a : Act} {w : World} {K : Act → World → Prop} {Q : Exit → Act → World → Prop} (v : Value) (w' : World) (hx : (execOp a.eval o).run P w = .ok (.value v) w') (h : K (a.put o.dst v) w') : o.wp P a w K Q := by
  unfold Oper.wp
  rw [hx, Oper.upon_value]
  exact h
theorem regs_zero {W : World} {g : Nat} (h1 : W.heap[g]? = some (.cells #[.int .u64 0, .int .u64 0, .int .u64 0, .int .u64 0, .int .u64 0, .int .u64 0, .int .u64 0, .int .u64 0, .int .u64 0, .int .u64 0, .int .u64 0, .int .u64 0, .int .u64 0, .int .u64 0, .int .u64 0, .int .u64 0, .int .u64 0, .int .u64 0, .int .u64 0, .int .u64 0] 27 (0, 0))) (h2 : W.heap[g + 1]? = some (.cells #[.int .u64 0, .int .u64 0, .int .u64 0, .int .u64 0, .int .u64 0, .int .u64 0, .int .u64 0, .int .u64 0, .int .u64 0, .int .u64 0, .int .u64 0, .int .u64 0, .int .u64 0, .int .u64 0, .int .u64 0, .int .u64 0, .int .u64 0, .int .u64 0, .int .u64 0, .int .u64 0, .int .u64 0, .int .u64 0, .int .u64 0, .int .u64 0, .int .u64 0, .int .u64 0, .int .u64 0, .int .u64 0, .int .u64 0, .int .u64 0, .int .u64 0, .int .u64 0, .int .u64 0, .int .u64 0, .int .u64 0, .int .u64 0, .int .u64 0, .int .u64 0, .int .u64 0, .int .u64 0, .int .u64 0, .int .u64 0, .int .u64 0, .int .u64 0, .int .u64 0, .int .u64 0, .int .u64 0, .int .u64 0, .int .u64 0, .int .u64 0, .int .u64 0, .int .u64 0, .int .u64 0, .int .u64 0, .int .u64 0, .int .u64 0, .int .u64 0, .int .u64 0, .int .u64 0, .int .u64 0, .int .u64 0, .int .u64 0, .int .u64 0, .int .u64 0] 31 (0, 0))) : Regs W g (g + 1) [#[.int .u64 0, .int .u64 0, .int .u64 0, .int .u64 0, .int .u64 0], #[.int .u64 0, .int .u64 0, .int .u64 0, .int .u64 0, .int .u64 0], #[.int .u64 0, .int .u64 0, .int .u64 0, .int .u64 0, .int .u64 0], #[.int .u64 0, .int .u64 0, .int .u64 0, .int .u64 0, .int .u64 0]] [0, 0, 0, 0] := by
  refine ⟨h1, ?_, rfl, rfl, fun i hi => ⟨#[.int .u64 0, .int .u64 0, .int .u64 0, .int .u64 0, .int .u64 0], 0, ?_, ?_, num_zero⟩, ?_⟩
  · rw [h2]; exact congrArg (fun c => some (Obj.cells c 31 (0, 0))) (by kernel_rfl)
  · rcases (by omega : i = 0 ∨ i = 1 ∨ i = 2 ∨ i = 3) with rfl | rfl | rfl | rfl <;> rfl
  · rcases (by omega : i = 0 ∨ i = 1 ∨ i = 2 ∨ i = 3) with rfl | rfl | rfl | rfl <;> rfl
  · intro y hy
    simp only [List.mem_cons, List.not_mem_nil, or_false, or_self] at hy
    subst hy
    rfl
theorem Regs.other {W : World} {gr gd : Nat} {rs : List (Array Value)} {xs : List Int} (h : Regs W gr gd rs xs) {g : Nat} (h1 : gr ≠ g) (h2 : gd ≠ g) (cs : Array Value) : Regs (W.setRow g cs) gr gd rs xs :=
  ⟨(setRow_other W g gr cs (by omega)).trans h.hr, (setRow_other W g gd cs (by omega)).trans h.hd, h.lr, h.lx, h.hn, h.sr⟩
theorem Regs.get2 {W : World} {gr gd : Nat} {rs : List (Array Value)} {xs : List Int} (h : Regs W gr gd rs xs) {i : Nat} (hi : i < 4) : ∃ r x, NumOf r x ∧ (flat rs).extract (i * 5) (i * 5 + r.size) = r ∧ (flat (dcs xs)).extract (i * 16) (i * 16 + (rd (x % prm)).size) = rd (x % prm) ∧ rs[i]? = some r ∧ xs[i]? = some x := by
  rw [Nat.mul_comm i 5, Nat.mul_comm i 16]; exact h.get hi
section
variable {P : Program} {ops : Array Oper} {Q : Exit → Act → World → Prop} {md : Region.Mode} {S : World → Prop}
theorem eH_three {j k l : Nat} {oj ok ol : Oper} {fuel : Nat} {listed : Array Bool} {a : Act} {w : World} (hr : Region.ready md ops listed = [j, k, l]) (hj : ops[j]? = some oj) (hk : ops[k]? = some ok) (hl : ops[l]? = some ol) (wj : Region.wanted oj (yielded ops a.tmps) = true) (wk : Region.wanted ok (yielded ops a.tmps) = true) (wl : Region.wanted ol (yielded ops a.tmps) = true)
    (h1 : ∀ K : Act → World → Prop, (∀ a' w', S w' → wpAnyH P md ops Q S fuel (listed.setIfInBounds j true) a' w' → K a' w') → oj.wp P a w K Q)
    (h2 : ∀ K : Act → World → Prop, (∀ a' w', S w' → wpAnyH P md ops Q S fuel (listed.setIfInBounds k true) a' w' → K a' w') → ok.wp P a w K Q)
    (h3 : ∀ K : Act → World → Prop, (∀ a' w', S w' → wpAnyH P md ops Q S fuel (listed.setIfInBounds l true) a' w' → K a' w') → ol.wp P a w K Q) : wpAnyH P md ops Q S (fuel + 1) listed a w := by
  refine wpAnyH_all hr (by simp) (fun i hi' => ?_)
  obtain rfl | rfl | rfl : i = j ∨ i = k ∨ i = l := by simpa using hi'
  · unfold wpOp
    simp only [hj, wj, if_true]
    exact .inl (h1 _ (fun a' w' hS hn => ⟨hS, hn⟩))
  · unfold wpOp
    simp only [hk, wk, if_true]
    exact .inl (h2 _ (fun a' w' hS hn => ⟨hS, hn⟩))
  · unfold wpOp
    simp only [hl, wl, if_true]
    exact .inl (h3 _ (fun a' w' hS hn => ⟨hS, hn⟩))
end
theorem ecut2 {G : Prop} {A : Nat → Nat → World → Prop} (T : Nat → Nat → World → Prop) (h1 : (∀ g h W, T g h W → A g h W) → G) (h2 : ∀ g h W, T g h W → A g h W) : G := h1 h2
set_option maxRecDepth 100000 in
set_option maxHeartbeats 16000000 in
theorem all_regs (np : Nat) (w : World) (v : Value) (hF : Both w) (hP : Stp w v np) : Calls Tryd.prog 3 #[v] w fun e w' => e = .returned (.bool true) ∧ Below w.heap.size w w' := by
  obtain ⟨pao, pcap, rfl, hpl, hpc⟩ := hP
  have hz0 := hF.sz
  go_enter Tryd.func3, Tryd.ntmps3
  go_wp2
  have hR := regs_zero (hp2_0 w (.cells #[.int .u64 0, .int .u64 0, .int .u64 0, .int .u64 0, .int .u64 0, .int .u64 0, .int .u64 0, .int .u64 0, .int .u64 0, .int .u64 0, .int .u64 0, .int .u64 0, .int .u64 0, .int .u64 0, .int .u64 0, .int .u64 0, .int .u64 0, .int .u64 0, .int .u64 0, .int .u64 0] 27) (.cells #[.int .u64 0, .int .u64 0, .int .u64 0, .int .u64 0, .int .u64 0, .int .u64 0, .int .u64 0, .int .u64 0, .int .u64 0, .int .u64 0, .int .u64 0, .int .u64 0, .int .u64 0, .int .u64 0, .int .u64 0, .int .u64 0, .int .u64 0, .int .u64 0, .int .u64 0, .int .u64 0, .int .u64 0, .int .u64 0, .int .u64 0, .int .u64 0, .int .u64 0, .int .u64 0, .int .u64 0, .int .u64 0, .int .u64 0, .int .u64 0, .int .u64 0, .int .u64 0, .int .u64 0, .int .u64 0, .int .u64 0, .int .u64 0, .int .u64 0, .int .u64 0, .int .u64 0, .int .u64 0, .int .u64 0, .int .u64 0, .int .u64 0, .int .u64 0, .int .u64 0, .int .u64 0, .int .u64 0, .int .u64 0, .int .u64 0, .int .u64 0, .int .u64 0, .int .u64 0, .int .u64 0, .int .u64 0, .int .u64 0, .int .u64 0, .int .u64 0, .int .u64 0, .int .u64 0, .int .u64 0, .int .u64 0, .int .u64 0, .int .u64 0, .int .u64 0] 31)) (hp2_1 w (.cells #[.int .u64 0, .int .u64 0, .int .u64 0, .int .u64 0, .int .u64 0, .int .u64 0, .int .u64 0, .int .u64 0, .int .u64 0, .int .u64 0, .int .u64 0, .int .u64 0, .int .u64 0, .int .u64 0, .int .u64 0, .int .u64 0, .int .u64 0, .int .u64 0, .int .u64 0, .int .u64 0] 27) (.cells #[.int .u64 0, .int .u64 0, .int .u64 0, .int .u64 0, .int .u64 0, .int .u64 0, .int .u64 0, .int .u64 0, .int .u64 0, .int .u64 0, .int .u64 0, .int .u64 0, .int .u64 0, .int .u64 0, .int .u64 0, .int .u64 0, .int .u64 0, .int .u64 0, .int .u64 0, .int .u64 0, .int .u64 0, .int .u64 0, .int .u64 0, .int .u64 0, .int .u64 0, .int .u64 0, .int .u64 0, .int .u64 0, .int .u64 0, .int .u64 0, .int .u64 0, .int .u64 0, .int .u64 0, .int .u64 0, .int .u64 0, .int .u64 0, .int .u64 0, .int .u64 0, .int .u64 0, .int .u64 0, .int .u64 0, .int .u64 0, .int .u64 0, .int .u64 0, .int .u64 0, .int .u64 0, .int .u64 0, .int .u64 0, .int .u64 0, .int .u64 0, .int .u64 0, .int .u64 0, .int .u64 0, .int .u64 0, .int .u64 0, .int .u64 0, .int .u64 0, .int .u64 0, .int .u64 0, .int .u64 0, .int .u64 0, .int .u64 0, .int .u64 0, .int .u64 0] 31))
  have hw : Below w.heap.size w ((w.alloc (.cells #[.int .u64 0, .int .u64 0, .int .u64 0, .int .u64 0, .int .u64 0, .int .u64 0, .int .u64 0, .int .u64 0, .int .u64 0, .int .u64 0, .int .u64 0, .int .u64 0, .int .u64 0, .int .u64 0, .int .u64 0, .int .u64 0, .int .u64 0, .int .u64 0, .int .u64 0, .int .u64 0] 27)).alloc (.cells #[.int .u64 0, .int .u64 0, .int .u64 0, .int .u64 0, .int .u64 0, .int .u64 0, .int .u64 0, .int .u64 0, .int .u64 0, .int .u64 0, .int .u64 0, .int .u64 0, .int .u64 0, .int .u64 0, .int .u64 0, .int .u64 0, .int .u64 0, .int .u64 0, .int .u64 0, .int .u64 0, .int .u64 0, .int .u64 0, .int .u64 0, .int .u64 0, .int .u64 0, .int .u64 0, .int .u64 0, .int .u64 0, .int .u64 0, .int .u64 0, .int .u64 0, .int .u64 0, .int .u64 0, .int .u64 0, .int .u64 0, .int .u64 0, .int .u64 0, .int .u64 0, .int .u64 0, .int .u64 0, .int .u64 0, .int .u64 0, .int .u64 0, .int .u64 0, .int .u64 0, .int .u64 0, .int .u64 0, .int .u64 0, .int .u64 0, .int .u64 0, .int .u64 0, .int .u64 0, .int .u64 0, .int .u64 0, .int .u64 0, .int .u64 0, .int .u64 0, .int .u64 0, .int .u64 0, .int .u64 0, .int .u64 0, .int .u64 0, .int .u64 0, .int .u64 0] 31)) := ((Below.refl _ _).alloc (Nat.le_refl _) _).alloc (by simp) _
  have f4 : Both ((w.alloc (.cells #[.int .u64 0, .int .u64 0, .int .u64 0, .int .u64 0, .int .u64 0, .int .u64 0, .int .u64 0, .int .u64 0, .int .u64 0, .int .u64 0, .int .u64 0, .int .u64 0, .int .u64 0, .int .u64 0, .int .u64 0, .int .u64 0, .int .u64 0, .int .u64 0, .int .u64 0, .int .u64 0] 27)).alloc (.cells #[.int .u64 0, .int .u64 0, .int .u64 0, .int .u64 0, .int .u64 0, .int .u64 0, .int .u64 0, .int .u64 0, .int .u64 0, .int .u64 0, .int .u64 0, .int .u64 0, .int .u64 0, .int .u64 0, .int .u64 0, .int .u64 0, .int .u64 0, .int .u64 0, .int .u64 0, .int .u64 0, .int .u64 0, .int .u64 0, .int .u64 0, .int .u64 0, .int .u64 0, .int .u64 0, .int .u64 0, .int .u64 0, .int .u64 0, .int .u64 0, .int .u64 0, .int .u64 0, .int .u64 0, .int .u64 0, .int .u64 0, .int .u64 0, .int .u64 0, .int .u64 0, .int .u64 0, .int .u64 0, .int .u64 0, .int .u64 0, .int .u64 0, .int .u64 0, .int .u64 0, .int .u64 0, .int .u64 0, .int .u64 0, .int .u64 0, .int .u64 0, .int .u64 0, .int .u64 0, .int .u64 0, .int .u64 0, .int .u64 0, .int .u64 0, .int .u64 0, .int .u64 0, .int .u64 0, .int .u64 0, .int .u64 0, .int .u64 0, .int .u64 0, .int .u64 0] 31)) := (hF.alloc _).alloc _
  generalize ((w.alloc (.cells #[.int .u64 0, .int .u64 0, .int .u64 0, .int .u64 0, .int .u64 0, .int .u64 0, .int .u64 0, .int .u64 0, .int .u64 0, .int .u64 0, .int .u64 0, .int .u64 0, .int .u64 0, .int .u64 0, .int .u64 0, .int .u64 0, .int .u64 0, .int .u64 0, .int .u64 0, .int .u64 0] 27)).alloc (.cells #[.int .u64 0, .int .u64 0, .int .u64 0, .int .u64 0, .int .u64 0, .int .u64 0, .int .u64 0, .int .u64 0, .int .u64 0, .int .u64 0, .int .u64 0, .int .u64 0, .int .u64 0, .int .u64 0, .int .u64 0, .int .u64 0, .int .u64 0, .int .u64 0, .int .u64 0, .int .u64 0, .int .u64 0, .int .u64 0, .int .u64 0, .int .u64 0, .int .u64 0, .int .u64 0, .int .u64 0, .int .u64 0, .int .u64 0, .int .u64 0, .int .u64 0, .int .u64 0, .int .u64 0, .int .u64 0, .int .u64 0, .int .u64 0, .int .u64 0, .int .u64 0, .int .u64 0, .int .u64 0, .int .u64 0, .int .u64 0, .int .u64 0, .int .u64 0, .int .u64 0, .int .u64 0, .int .u64 0, .int .u64 0, .int .u64 0, .int .u64 0, .int .u64 0, .int .u64 0, .int .u64 0, .int .u64 0, .int .u64 0, .int .u64 0, .int .u64 0, .int .u64 0, .int .u64 0, .int .u64 0, .int .u64 0, .int .u64 0, .int .u64 0, .int .u64 0] 31)) = w0 at *
  go_loopw [5] (fun i wr => ∃ (k : Nat) (rs : List (Array Value)) (xs : List Int), k ≤ np ∧ i = .int .i64 k ∧ Regs wr w.heap.size (w.heap.size + 1) rs xs ∧ Below w.heap.size w wr ∧ Both wr) (fun i _ => np - (intOf i).toNat)
  case atStart => exact ⟨0, _, _, by omega, rfl, hR, hw, f4⟩
  case round =>
    clear hR hw f4
    obtain ⟨k, rs, xs, hk, rfl, hR, hw, f4⟩ := hrel
    by_cases hlt : k < np
    · have hd : decide ((k : Int) < (np : Int)) = true := by simp; omega
      obtain ⟨ab, aoff, cs, rfl, hab, hrng, hst⟩ := hpc k hlt
      have hrng' : wr.rangeAt ab (aoff + k * 40) cs := fun j v hv => (hw.cell (p := ⟨ab, aoff + k * 40 + j, none⟩) hab).trans (hrng j v hv)
      clear hrng hpc
      obtain ⟨K, T, A, B, N, dv, kp, Fl, U, Nk, bs, ho, hkey, hN, hz, hbl, hBy, hnil⟩ := hst
      have hinf : (Tryd.prog.info? 36).map (·.size) = some cs.length := by
        have := ho.size
        rw [List.size_toArray] at this
        exact (show (Tryd.prog.info? 36).map (·.size) = some 40 by kernel_rfl).trans (by rw [this])
      have hBw : Hid (∀ W, Below w.heap.size w W → Bys W dv bs) := hide (fun W h => hBy.keep h)
      clear hBy
      have hinf2 : (Tryd.prog.info? 36).map (·.size) = some cs.toArray.size := by rw [List.size_toArray]; exact hinf
      go_wp2_with (first | (refine wpList_load_rng rfl 36 _ rfl ab (aoff + k * 40) rfl cs _ hrng' Tryd.underlying36 rfl hinf ?_) | (refine wpList_store_row rfl 36 _ _ rfl (wr.heap.size) cs.toArray rfl rfl 36 #[.int .i64 0, .int .i64 0, .int .i64 0, .int .i64 0, .int .u64 0, .slice none 0 0, .int .u8 0, .int .u8 0, .int .u8 0, .int .u8 0, .int .u8 0, .int .u8 0, .int .u8 0, .int .u8 0, .int .u8 0, .int .u8 0, .int .u8 0, .int .u8 0, .int .u8 0, .int .u8 0, .int .u8 0, .int .u8 0, .int .u8 0, .int .u8 0, .int .u8 0, .int .u8 0, .int .u8 0, .int .u8 0, .int .u8 0, .int .u8 0, .int .u8 0, .int .u8 0, .int .u8 0, .int .u8 0, .int .u8 0, .int .u8 0, .int .u8 0, .int .u8 0, .bool false, .int .i64 0] (hp1_0 wr _) hinf2 (Eq.trans rfl ho.size.symm) ho.one ?_; rw [setRow_alloc_new _ _ _ _ _ _ (by simp)]) | fail | fail)
      have ro : (wr.alloc (.cells cs.toArray 36)).heap[wr.heap.size]? = some (.cells cs.toArray 36 (0, 0)) := hp1_0 wr _
      have hb : Below wr.heap.size wr (wr.alloc (.cells cs.toArray 36)) := (Below.refl _ _).alloc (Nat.le_refl _) _
      have lR := lt_of_row hR.hr
      have lD := lt_of_row hR.hd
      generalize wr.alloc (.cells cs.toArray 36) = v1 at *
      replace hR := hR.keep hb
      replace hw := Below.after hw hb
      replace f4 := f4.below hb
      clear hb hrng'
      generalize wr.heap.size = gO at *
      generalize cs.toArray = oc at *
      try simp only [Act.put]
      have hbd : Below v1.heap.size v1 v1.drew := below_drN (Below.refl _ _) 1
      replace ro := keep hbd ro
      replace hR := hR.keep hbd
      replace f4 := f4.below hbd
      replace hw := Below.after hw hbd
      clear hbd
      refine wp_region_noPanic ?_
      refine wp_region_held (S := fun W => W.heap[gO]? = some (.cells oc 36 (0, 0))) (by kernel_rfl) ?_
      change wpAnyH _ _ _ _ _ _ _ _ (World.drew _)
      generalize v1.drew = v1d at *
      refine wpAnyH_take (i := 0) (v := ?v1) rfl (by kernel_rfl) (by kernel_rfl) (by kernel_rfl) (fun _ _ _ h => h) (Or.inl ⟨by rfl, ?y1⟩) (ro) ?r1
      case y1 =>
        intro w_ hS_
        go_simp
        try with_reducible rfl
      simp only [Act.put, List.getElem_toArray, List.getElem_cons_zero, List.setIfInBounds_toArray, List.set_cons_succ, List.set_cons_zero]
      refine wpAnyH_take (i := 1) (v := .int .i64 T) rfl (by kernel_rfl) (by kernel_rfl) (by kernel_rfl) (fun _ _ _ h => h) (Or.inl ⟨by rfl, ?y2⟩) (ro) ?r2
      case y2 =>
        intro w_ hS_
        have c_ := (cell_of_row _ _ 1 _ _ _ hS_).trans ho.c1
        go_simp
        try with_reducible rfl
      simp only [Act.put, List.getElem_toArray, List.getElem_cons_succ, List.getElem_cons_zero, List.setIfInBounds_toArray, List.set_cons_succ, List.set_cons_zero]
      refine wpAnyH_take (i := 3) (v := ?v3) rfl (by kernel_rfl) (by kernel_rfl) (by kernel_rfl) (fun _ _ _ h => h) (Or.inl ⟨by rfl, ?y3⟩) (ro) ?r3
      case y3 =>
        intro w_ hS_
        go_simp
        try with_reducible rfl
      simp only [Act.put, List.getElem_toArray, List.getElem_cons_succ, List.getElem_cons_zero, List.setIfInBounds_toArray, List.set_cons_succ, List.set_cons_zero]
      refine wpAnyH_take (i := 4) (v := .int .i64 A) rfl (by kernel_rfl) (by kernel_rfl) (by kernel_rfl) (fun _ _ _ h => h) (Or.inl ⟨by rfl, ?y4⟩) (ro) ?r4
      case y4 =>
        intro w_ hS_
        have c_ := (cell_of_row _ _ 2 _ _ _ hS_).trans ho.c2
        go_simp
        try with_reducible rfl
      simp only [Act.put, List.getElem_toArray, List.getElem_cons_succ, List.getElem_cons_zero, List.setIfInBounds_toArray, List.set_cons_succ, List.set_cons_zero]
      refine wpAnyH_take (i := 6) (v := ?v5) rfl (by kernel_rfl) (by kernel_rfl) (by kernel_rfl) (fun _ _ _ h => h) (Or.inl ⟨by rfl, ?y5⟩) (ro) ?r5
      case y5 =>
        intro w_ hS_
        go_simp
        try with_reducible rfl
      simp only [Act.put, List.getElem_toArray, List.getElem_cons_succ, List.getElem_cons_zero, List.setIfInBounds_toArray, List.set_cons_succ, List.set_cons_zero]
      refine wpAnyH_take (i := 7) (v := .int .i64 B) rfl (by kernel_rfl) (by kernel_rfl) (by kernel_rfl) (fun _ _ _ h => h) (Or.inl ⟨by rfl, ?y6⟩) (ro) ?r6
      case y6 =>
        intro w_ hS_
        have c_ := (cell_of_row _ _ 3 _ _ _ hS_).trans ho.c3
        go_simp
        try with_reducible rfl
      simp only [Act.put, List.getElem_toArray, List.getElem_cons_succ, List.getElem_cons_zero, List.setIfInBounds_toArray, List.set_cons_succ, List.set_cons_zero]
      refine eH_one (k := 2) (fuel := 5) (by kernel_rfl) rfl (by kernel_rfl) (fun K_ hK_ => ?_)
      refine wp_call_ex (f := 4) (by kernel_rfl) (ex1e ((at_walk T).at _)) (fun v_ q1 hX_ => ?_)
      obtain ⟨rfl, hb_⟩ := hX_
      replace ro := keep hb_ ro
      replace hR := hR.keep hb_
      replace f4 := f4.below hb_
      replace hw := Below.after hw hb_
      clear hb_
      refine hK_ _ _ (ro) ?_
      simp only [Act.put, List.getElem_toArray, List.getElem_cons_succ, List.getElem_cons_zero, List.setIfInBounds_toArray, List.set_cons_succ, List.set_cons_zero]
      clear hK_
      refine eH_one (k := 5) (fuel := 4) (by kernel_rfl) rfl (by kernel_rfl) (fun K_ hK_ => ?_)
      refine wp_call_ex (f := 4) (by kernel_rfl) (ex1e ((at_walk A).at _)) (fun v_ q2 hX_ => ?_)
      obtain ⟨rfl, hb_⟩ := hX_
      replace ro := keep hb_ ro
      replace hR := hR.keep hb_
      replace f4 := f4.below hb_
      replace hw := Below.after hw hb_
      clear hb_
      refine hK_ _ _ (ro) ?_
      simp only [Act.put, List.getElem_toArray, List.getElem_cons_succ, List.getElem_cons_zero, List.setIfInBounds_toArray, List.set_cons_succ, List.set_cons_zero]
      clear hK_
      refine eH_one (k := 8) (fuel := 3) (by kernel_rfl) rfl (by kernel_rfl) (fun K_ hK_ => ?_)
      refine wp_call_ex (f := 4) (by kernel_rfl) (ex1e ((at_walk B).at _)) (fun v_ q3 hX_ => ?_)
      obtain ⟨rfl, hb_⟩ := hX_
      replace ro := keep hb_ ro
      replace hR := hR.keep hb_
      replace f4 := f4.below hb_
      replace hw := Below.after hw hb_
      clear hb_
      refine hK_ _ _ (ro) ?_
      simp only [Act.put, List.getElem_toArray, List.getElem_cons_succ, List.getElem_cons_zero, List.setIfInBounds_toArray, List.set_cons_succ, List.set_cons_zero]
      clear hK_
      refine wpAnyH_take (i := 9) (v := ?v7) rfl (by kernel_rfl) (by kernel_rfl) (by kernel_rfl) (fun _ _ _ h => h) (Or.inl ⟨by rfl, ?y7⟩) (ro) ?r7
      case y7 =>
        intro w_ hS_
        go_simp
        try with_reducible rfl
      simp only [Act.put, List.getElem_toArray, List.getElem_cons_succ, List.getElem_cons_zero, List.setIfInBounds_toArray, List.set_cons_succ, List.set_cons_zero]
      refine wpAnyH_take (i := 10) (v := ?v8) rfl (by kernel_rfl) (by kernel_rfl) (by kernel_rfl) (fun _ _ _ h => h) (Or.inl ⟨by rfl, ?y8⟩) (ro) ?r8
      case y8 =>
        intro w_ hS_
        go_simp
        try with_reducible rfl
      simp only [Act.put, List.getElem_toArray, List.getElem_cons_succ, List.getElem_cons_zero, List.setIfInBounds_toArray, List.set_cons_succ, List.set_cons_zero]
      refine wpAnyH_take (i := 11) (v := ?v9) rfl (by kernel_rfl) (by kernel_rfl) (by kernel_rfl) (fun _ _ _ h => h) (Or.inl ⟨by rfl, ?y9⟩) (ro) ?r9
      case y9 =>
        intro w_ hS_
        go_simp
        try with_reducible rfl
      simp only [Act.put, List.getElem_toArray, List.getElem_cons_succ, List.getElem_cons_zero, List.setIfInBounds_toArray, List.set_cons_succ, List.set_cons_zero]
      refine wpAnyH_done (by kernel_rfl) ?_ _
      refine NoPanic.normal ?_
      have lO := lt_of_row ro
      have e0 : q3.cell? ⟨gO, 0, none⟩ = some (.int .i64 K) := (cell_of_row _ _ 0 _ _ _ ro).trans ho.c0
      have hA4 := atv_lt A
      have hB4 := atv_lt B
      have hT4 := atv_lt T
      generalize atv A = ia at *
      generalize atv B = ib at *
      generalize atv T = it at *
      go_upto_if 38 with (fail)
      clear e0
      go_cut [10, 11, 12, 13, 14, 15] from 17 to 118 (fun _ _ _ _ _ _ wx => ∃ (rs' : List (Array Value)) (xs' : List Int), wx.heap[gO]? = some (.cells oc 36 (0, 0)) ∧ Regs wx w.heap.size (w.heap.size + 1) rs' xs' ∧ Below w.heap.size w wx ∧ Both wx)
      case first =>
        obtain ⟨ra, xa, hra, pra, pda, gra, gxa⟩ := hR.get2 hA4
        obtain ⟨rb, xb, hrb, prb, pdb, grb, gxb⟩ := hR.get2 hB4
        have ba1 : ((ia : Int) < 0) = False := by simp
        have bb1 : ((ib : Int) < 0) = False := by simp
        have ba2 : ((ia : Int) < 4) = True := by simp; omega
        have bb2 : ((ib : Int) < 4) = True := by simp; omega
        have bt1 : ((it : Int) < 0) = False := by simp
        have bt2 : ((it : Int) < 4) = True := by simp; omega
        by_cases hK : K = 11
        · have hKb : (K == 11) = true := by simpa using hK
          have cA := a_swap hra hrb Fl
          have cR := r_swap (xa % prm) (xb % prm) Fl
          obtain ⟨XP, XQ, eP, eQ⟩ : ∃ XP XQ, XP = (if Fl then xb else xa) ∧ XQ = (if Fl then xa else xb) := ⟨_, _, rfl, rfl⟩
          have hp_ : NumOf (if Fl then rb else ra) XP := by rw [eP]; cases Fl <;> assumption
          have hq_ : NumOf (if Fl then ra else rb) XQ := by rw [eQ]; cases Fl <;> assumption
          rw [show (if Fl then xb % prm else xa % prm) = XP % prm by rw [eP]; cases Fl <;> rfl, show (if Fl then xa % prm else xb % prm) = XQ % prm by rw [eQ]; cases Fl <;> rfl] at cR
          generalize (if Fl then rb else ra) = PP at *
          generalize (if Fl then ra else rb) = QQ at *
          clear eP eQ
          go_upto_region 9 with (fail)
          clear hKb
          apply ecut2 (fun (g h : Nat) (W : World) => W.heap[gO]? = some (.cells oc 36 (0, 0)) ∧ Regs W w.heap.size (w.heap.size + 1) rs xs ∧ Below w.heap.size w W ∧ Both W ∧ gO < g ∧ gO < h ∧ g ≠ h ∧ W.heap[g]? = some (.cells PP 26 (0, 0)) ∧ W.heap[h]? = some (.cells QQ 26 (0, 0)))
          · intro hT_
            have hbd : Below q3.heap.size q3 q3.drew := below_drN (Below.refl _ _) 1
            replace ro := keep hbd ro
            replace hR := hR.keep hbd
            replace f4 := f4.below hbd
            replace hw := Below.after hw hbd
            clear hbd
            refine wp_region_noPanic ?_
            refine wp_region_held (S := fun W => W.heap[gO]? = some (.cells oc 36 (0, 0)) ∧ W.heap[w.heap.size]? = some (.cells (flat rs) 27 (0, 0))) (by kernel_rfl) ?_
            change wpAnyH _ _ _ _ _ _ _ _ (World.drew _)
            generalize q3.drew = y9d at *
            refine wpAnyH_take (i := 0) (v := ?v37) rfl (by kernel_rfl) (by kernel_rfl) (by kernel_rfl) (fun _ _ _ h => h) (Or.inl ⟨by rfl, ?y37⟩) (⟨ro, hR.hr⟩) ?r37
            case y37 =>
              intro w_ hS_
              go_simp
              try with_reducible rfl
            simp only [Act.put, List.getElem_toArray, List.getElem_cons_zero, List.setIfInBounds_toArray, List.set_cons_succ, List.set_cons_zero]
            refine wpAnyH_take (i := 1) (v := ?v38) rfl (by kernel_rfl) (by kernel_rfl) (by kernel_rfl) (fun _ _ _ h => h) (Or.inl ⟨by rfl, ?y38⟩) (⟨ro, hR.hr⟩) ?r38
            case y38 =>
              intro w_ hS_
              go_simp
              try with_reducible rfl
            simp only [Act.put, List.getElem_toArray, List.getElem_cons_succ, List.getElem_cons_zero, List.setIfInBounds_toArray, List.set_cons_succ, List.set_cons_zero]
            refine wpAnyH_take (i := 2) (v := .agg ra) rfl (by kernel_rfl) (by kernel_rfl) (by kernel_rfl) (fun _ _ _ h => h) (Or.inl ⟨by rfl, ?y39⟩) (⟨ro, hR.hr⟩) ?r39
            case y39 =>
              intro w_ hS_
              simp only [List.getElem_toArray, List.getElem_cons_succ, List.getElem_cons_zero]
              exact e_load_part 26 _ (by rfl) (w.heap.size) (ia * 5) (by rfl) 27 (flat rs) (0, 0) ra _ (hS_.2) pra Tryd.underlying26 rfl hra.info
            simp only [Act.put, List.getElem_toArray, List.getElem_cons_succ, List.getElem_cons_zero, List.setIfInBounds_toArray, List.set_cons_succ, List.set_cons_zero]
            refine wpAnyH_take (i := 3) (v := ?v40) rfl (by kernel_rfl) (by kernel_rfl) (by kernel_rfl) (fun _ _ _ h => h) (Or.inl ⟨by rfl, ?y40⟩) (⟨ro, hR.hr⟩) ?r40
            case y40 =>
              intro w_ hS_
              go_simp
              try with_reducible rfl
            simp only [Act.put, List.getElem_toArray, List.getElem_cons_succ, List.getElem_cons_zero, List.setIfInBounds_toArray, List.set_cons_succ, List.set_cons_zero]
            refine wpAnyH_take (i := 4) (v := ?v41) rfl (by kernel_rfl) (by kernel_rfl) (by kernel_rfl) (fun _ _ _ h => h) (Or.inl ⟨by rfl, ?y41⟩) (⟨ro, hR.hr⟩) ?r41
            case y41 =>
              intro w_ hS_
              go_simp
              try with_reducible rfl
            simp only [Act.put, List.getElem_toArray, List.getElem_cons_succ, List.getElem_cons_zero, List.setIfInBounds_toArray, List.set_cons_succ, List.set_cons_zero]
            refine wpAnyH_take (i := 5) (v := .agg rb) rfl (by kernel_rfl) (by kernel_rfl) (by kernel_rfl) (fun _ _ _ h => h) (Or.inl ⟨by rfl, ?y42⟩) (⟨ro, hR.hr⟩) ?r42
            case y42 =>
              intro w_ hS_
              simp only [List.getElem_toArray, List.getElem_cons_succ, List.getElem_cons_zero]
              exact e_load_part 26 _ (by rfl) (w.heap.size) (ib * 5) (by rfl) 27 (flat rs) (0, 0) rb _ (hS_.2) prb Tryd.underlying26 rfl hrb.info
            simp only [Act.put, List.getElem_toArray, List.getElem_cons_succ, List.getElem_cons_zero, List.setIfInBounds_toArray, List.set_cons_succ, List.set_cons_zero]
            refine wpAnyH_take (i := 6) (v := ?v43) rfl (by kernel_rfl) (by kernel_rfl) (by kernel_rfl) (fun _ _ _ h => h) (Or.inl ⟨by rfl, ?y43⟩) (⟨ro, hR.hr⟩) ?r43
            case y43 =>
              intro w_ hS_
              go_simp
              try with_reducible rfl
            simp only [Act.put, List.getElem_toArray, List.getElem_cons_succ, List.getElem_cons_zero, List.setIfInBounds_toArray, List.set_cons_succ, List.set_cons_zero]
            refine wpAnyH_take (i := 7) (v := .bool Fl) rfl (by kernel_rfl) (by kernel_rfl) (by kernel_rfl) (fun _ _ _ h => h) (Or.inl ⟨by rfl, ?y44⟩) (⟨ro, hR.hr⟩) ?r44
            case y44 =>
              intro w_ hS_
              have c_ := (cell_of_row _ _ 38 _ _ _ hS_.1).trans ho.c38
              go_simp
              try with_reducible rfl
            simp only [Act.put, List.getElem_toArray, List.getElem_cons_succ, List.getElem_cons_zero, List.setIfInBounds_toArray, List.set_cons_succ, List.set_cons_zero]
            refine eH_three (j := 8) (k := 12) (l := 13) (fuel := 7) (by kernel_rfl) rfl rfl rfl (by kernel_rfl) (by kernel_rfl) (by kernel_rfl) (fun K_ hK_ => ?_) (fun K_ hK_ => ?_) (fun K_ hK_ => ?_)
            · refine wp_call_ex (f := 5) (by kernel_rfl) (ex1e (cA.at _)) (fun v_ q13 hX_ => ?_)
              obtain ⟨rfl, hb_⟩ := hX_
              replace ro := keep hb_ ro
              replace hR := hR.keep hb_
              replace f4 := f4.below hb_
              replace hw := Below.after hw hb_
              clear hb_
              refine hK_ _ _ (⟨ro, hR.hr⟩) ?_
              simp only [Act.put, List.getElem_toArray, List.getElem_cons_succ, List.getElem_cons_zero, List.setIfInBounds_toArray, List.set_cons_succ, List.set_cons_zero]
              clear hK_
              refine wpAnyH_take (i := 9) (v := ?v45) rfl (by kernel_rfl) (by kernel_rfl) (by kernel_rfl) (fun _ _ _ h => h) (Or.inl ⟨by rfl, ?y45⟩) (⟨ro, hR.hr⟩) ?r45
              case y45 =>
                intro w_ hS_
                go_simp
                try with_reducible rfl
              simp only [Act.put, List.getElem_toArray, List.getElem_cons_succ, List.getElem_cons_zero, List.setIfInBounds_toArray, List.set_cons_succ, List.set_cons_zero]
              refine wpAnyH_take (i := 10) (v := ?v46) rfl (by kernel_rfl) (by kernel_rfl) (by kernel_rfl) (fun _ _ _ h => h) (Or.inl ⟨by rfl, ?y46⟩) (⟨ro, hR.hr⟩) ?r46
              case y46 =>
                intro w_ hS_
                go_simp
                try with_reducible rfl
              simp only [Act.put, List.getElem_toArray, List.getElem_cons_succ, List.getElem_cons_zero, List.setIfInBounds_toArray, List.set_cons_succ, List.set_cons_zero]
              refine wpAnyH_take (i := 11) (v := ?v47) rfl (by kernel_rfl) (by kernel_rfl) (by kernel_rfl) (fun _ _ _ h => h) (Or.inl ⟨by rfl, ?y47⟩) (⟨ro, hR.hr⟩) ?r47
              case y47 =>
                intro w_ hS_
                go_simp
                try with_reducible rfl
              simp only [Act.put, List.getElem_toArray, List.getElem_cons_succ, List.getElem_cons_zero, List.setIfInBounds_toArray, List.set_cons_succ, List.set_cons_zero]
              refine eH_two (j := 12) (k := 13) (fuel := 3) (by kernel_rfl) rfl rfl (by kernel_rfl) (by kernel_rfl) (fun K_ hK_ => ?_) (fun K_ hK_ => ?_)
              · have lO0_ := lt_of_row ro
                have lR0_ := lt_of_row hR.hr
                have lD0_ := lt_of_row hR.hd
                refine e_world_op (.pointer (some ⟨q13.heap.size, 0, none⟩)) (q13.alloc (.cells #[.int .u64 0, .int .u64 0, .int .u64 0, .int .u64 0, .int .u64 0] 26)) (by kernel_rfl) ?_
                have hb_ : Below q13.heap.size q13 (q13.alloc (.cells #[.int .u64 0, .int .u64 0, .int .u64 0, .int .u64 0, .int .u64 0] 26)) := (Below.refl _ _).alloc (Nat.le_refl _) _
                have sz_g15 : w.heap.size ≤ q13.heap.size := hw.size
                have lt_ro_g15 := lt_of_row ro
                have rP := hp1_0 q13 (.cells #[.int .u64 0, .int .u64 0, .int .u64 0, .int .u64 0, .int .u64 0] 26)
                replace ro := keep hb_ ro
                replace hR := hR.keep hb_
                replace f4 := f4.below hb_
                replace hw := Below.after hw hb_
                clear hb_
                refine hK_ _ _ (⟨ro, hR.hr⟩) ?_
                simp only [Act.put, List.getElem_toArray, List.getElem_cons_succ, List.getElem_cons_zero, List.setIfInBounds_toArray, List.set_cons_succ, List.set_cons_zero]
                clear hK_
                generalize q13.alloc (.cells #[.int .u64 0, .int .u64 0, .int .u64 0, .int .u64 0, .int .u64 0] 26) = q14 at *
                generalize q13.heap.size = g15 at *
                refine eH_one (k := 13) (fuel := 2) (by kernel_rfl) rfl (by kernel_rfl) (fun K_ hK_ => ?_)
                have lO1_ := lt_of_row ro
                have lR1_ := lt_of_row hR.hr
                have lD1_ := lt_of_row hR.hd
                have lz_ := lt_of_row rP
                refine e_world_op (.pointer (some ⟨q14.heap.size, 0, none⟩)) (q14.alloc (.cells #[.int .u64 0, .int .u64 0, .int .u64 0, .int .u64 0, .int .u64 0] 26)) (by kernel_rfl) ?_
                have hb_ : Below q14.heap.size q14 (q14.alloc (.cells #[.int .u64 0, .int .u64 0, .int .u64 0, .int .u64 0, .int .u64 0] 26)) := (Below.refl _ _).alloc (Nat.le_refl _) _
                have sz_g17 : w.heap.size ≤ q14.heap.size := hw.size
                have lt_ro_g17 := lt_of_row ro
                have lt_rP_g17 := lt_of_row rP
                have rQ := hp1_0 q14 (.cells #[.int .u64 0, .int .u64 0, .int .u64 0, .int .u64 0, .int .u64 0] 26)
                replace ro := keep hb_ ro
                replace rP := keep hb_ rP
                replace hR := hR.keep hb_
                replace f4 := f4.below hb_
                replace hw := Below.after hw hb_
                clear hb_
                refine hK_ _ _ (⟨ro, hR.hr⟩) ?_
                simp only [Act.put, List.getElem_toArray, List.getElem_cons_succ, List.getElem_cons_zero, List.setIfInBounds_toArray, List.set_cons_succ, List.set_cons_zero]
                clear hK_
                generalize q14.alloc (.cells #[.int .u64 0, .int .u64 0, .int .u64 0, .int .u64 0, .int .u64 0] 26) = q16 at *
                generalize q14.heap.size = g17 at *
                refine eH_one (k := 14) (fuel := 1) (by kernel_rfl) rfl (by kernel_rfl) (fun K_ hK_ => ?_)
                refine wp_store_row 26 _ _ rfl (g15) PP rfl rfl 26 _ rP hp_.info (hp_.fits rfl) hp_.one ?_
                replace ro := (setRow_other q16 (g15) (gO) PP (by omega)).trans ro
                replace rQ := (setRow_other q16 (g15) (g17) PP (by omega)).trans rQ
                replace rP := setRow_heap q16 (g15) _ PP _ _ rP
                replace hR := hR.other (g := g15) (by omega) (by omega) PP
                replace hw := below_setRow hw (show w.heap.size ≤ g15 by omega) PP
                replace f4 := f4.setRow (show 1 < g15 by omega) PP
                refine hK_ _ _ (⟨ro, hR.hr⟩) ?_
                simp only [Act.put]
                clear hK_
                generalize q16.setRow (g15) PP = q18 at *
                refine eH_one (k := 15) (fuel := 0) (by kernel_rfl) rfl (by kernel_rfl) (fun K_ hK_ => ?_)
                refine wp_store_row 26 _ _ rfl (g17) QQ rfl rfl 26 _ rQ hq_.info (hq_.fits rfl) hq_.one ?_
                replace ro := (setRow_other q18 (g17) (gO) QQ (by omega)).trans ro
                replace rP := (setRow_other q18 (g17) (g15) QQ (by omega)).trans rP
                replace rQ := setRow_heap q18 (g17) _ QQ _ _ rQ
                replace hR := hR.other (g := g17) (by omega) (by omega) QQ
                replace hw := below_setRow hw (show w.heap.size ≤ g17 by omega) QQ
                replace f4 := f4.setRow (show 1 < g17 by omega) QQ
                refine hK_ _ _ (⟨ro, hR.hr⟩) ?_
                simp only [Act.put]
                clear hK_
                generalize q18.setRow (g17) QQ = q19 at *
                refine wpAnyH_done (by kernel_rfl) ?_ _
                refine NoPanic.normal ?_
                exact hT_ g15 g17 q19 ⟨ro, hR, hw, f4, by omega, by omega, by omega, rP, rQ⟩
              · have lO0_ := lt_of_row ro
                have lR0_ := lt_of_row hR.hr
                have lD0_ := lt_of_row hR.hd
                refine e_world_op (.pointer (some ⟨q13.heap.size, 0, none⟩)) (q13.alloc (.cells #[.int .u64 0, .int .u64 0, .int .u64 0, .int .u64 0, .int .u64 0] 26)) (by kernel_rfl) ?_
                have hb_ : Below q13.heap.size q13 (q13.alloc (.cells #[.int .u64 0, .int .u64 0, .int .u64 0, .int .u64 0, .int .u64 0] 26)) := (Below.refl _ _).alloc (Nat.le_refl _) _
                have sz_g21 : w.heap.size ≤ q13.heap.size := hw.size
                have lt_ro_g21 := lt_of_row ro
                have rQ := hp1_0 q13 (.cells #[.int .u64 0, .int .u64 0, .int .u64 0, .int .u64 0, .int .u64 0] 26)
                replace ro := keep hb_ ro
                replace hR := hR.keep hb_
                replace f4 := f4.below hb_
                replace hw := Below.after hw hb_
                clear hb_
                refine hK_ _ _ (⟨ro, hR.hr⟩) ?_
                simp only [Act.put, List.getElem_toArray, List.getElem_cons_succ, List.getElem_cons_zero, List.setIfInBounds_toArray, List.set_cons_succ, List.set_cons_zero]
                clear hK_
                generalize q13.alloc (.cells #[.int .u64 0, .int .u64 0, .int .u64 0, .int .u64 0, .int .u64 0] 26) = q20 at *
                generalize q13.heap.size = g21 at *
                refine eH_one (k := 12) (fuel := 2) (by kernel_rfl) rfl (by kernel_rfl) (fun K_ hK_ => ?_)
                have lO1_ := lt_of_row ro
                have lR1_ := lt_of_row hR.hr
                have lD1_ := lt_of_row hR.hd
                have lz_ := lt_of_row rQ
                refine e_world_op (.pointer (some ⟨q20.heap.size, 0, none⟩)) (q20.alloc (.cells #[.int .u64 0, .int .u64 0, .int .u64 0, .int .u64 0, .int .u64 0] 26)) (by kernel_rfl) ?_
                have hb_ : Below q20.heap.size q20 (q20.alloc (.cells #[.int .u64 0, .int .u64 0, .int .u64 0, .int .u64 0, .int .u64 0] 26)) := (Below.refl _ _).alloc (Nat.le_refl _) _
                have sz_g23 : w.heap.size ≤ q20.heap.size := hw.size
                have lt_ro_g23 := lt_of_row ro
                have lt_rQ_g23 := lt_of_row rQ
                have rP := hp1_0 q20 (.cells #[.int .u64 0, .int .u64 0, .int .u64 0, .int .u64 0, .int .u64 0] 26)
                replace ro := keep hb_ ro
                replace rQ := keep hb_ rQ
                replace hR := hR.keep hb_
                replace f4 := f4.below hb_
                replace hw := Below.after hw hb_
                clear hb_
                refine hK_ _ _ (⟨ro, hR.hr⟩) ?_
                simp only [Act.put, List.getElem_toArray, List.getElem_cons_succ, List.getElem_cons_zero, List.setIfInBounds_toArray, List.set_cons_succ, List.set_cons_zero]
                clear hK_
                generalize q20.alloc (.cells #[.int .u64 0, .int .u64 0, .int .u64 0, .int .u64 0, .int .u64 0] 26) = q22 at *
                generalize q20.heap.size = g23 at *
                refine eH_one (k := 14) (fuel := 1) (by kernel_rfl) rfl (by kernel_rfl) (fun K_ hK_ => ?_)
                refine wp_store_row 26 _ _ rfl (g23) PP rfl rfl 26 _ rP hp_.info (hp_.fits rfl) hp_.one ?_
                replace ro := (setRow_other q22 (g23) (gO) PP (by omega)).trans ro
                replace rQ := (setRow_other q22 (g23) (g21) PP (by omega)).trans rQ
                replace rP := setRow_heap q22 (g23) _ PP _ _ rP
                replace hR := hR.other (g := g23) (by omega) (by omega) PP
                replace hw := below_setRow hw (show w.heap.size ≤ g23 by omega) PP
                replace f4 := f4.setRow (show 1 < g23 by omega) PP
                refine hK_ _ _ (⟨ro, hR.hr⟩) ?_
                simp only [Act.put]
                clear hK_
                generalize q22.setRow (g23) PP = q24 at *
                refine eH_one (k := 15) (fuel := 0) (by kernel_rfl) rfl (by kernel_rfl) (fun K_ hK_ => ?_)
                refine wp_store_row 26 _ _ rfl (g21) QQ rfl rfl 26 _ rQ hq_.info (hq_.fits rfl) hq_.one ?_
                replace ro := (setRow_other q24 (g21) (gO) QQ (by omega)).trans ro
                replace rP := (setRow_other q24 (g21) (g23) QQ (by omega)).trans rP
                replace rQ := setRow_heap q24 (g21) _ QQ _ _ rQ
                replace hR := hR.other (g := g21) (by omega) (by omega) QQ
                replace hw := below_setRow hw (show w.heap.size ≤ g21 by omega) QQ
                replace f4 := f4.setRow (show 1 < g21 by omega) QQ
                refine hK_ _ _ (⟨ro, hR.hr⟩) ?_
                simp only [Act.put]
                clear hK_
                generalize q24.setRow (g21) QQ = q25 at *
                refine wpAnyH_done (by kernel_rfl) ?_ _
                refine NoPanic.normal ?_
                exact hT_ g23 g21 q25 ⟨ro, hR, hw, f4, by omega, by omega, by omega, rP, rQ⟩
            · have lO0_ := lt_of_row ro
              have lR0_ := lt_of_row hR.hr
              have lD0_ := lt_of_row hR.hd
              refine e_world_op (.pointer (some ⟨y9d.heap.size, 0, none⟩)) (y9d.alloc (.cells #[.int .u64 0, .int .u64 0, .int .u64 0, .int .u64 0, .int .u64 0] 26)) (by kernel_rfl) ?_
              have hb_ : Below y9d.heap.size y9d (y9d.alloc (.cells #[.int .u64 0, .int .u64 0, .int .u64 0, .int .u64 0, .int .u64 0] 26)) := (Below.refl _ _).alloc (Nat.le_refl _) _
              have sz_g27 : w.heap.size ≤ y9d.heap.size := hw.size
              have lt_ro_g27 := lt_of_row ro
              have rP := hp1_0 y9d (.cells #[.int .u64 0, .int .u64 0, .int .u64 0, .int .u64 0, .int .u64 0] 26)
              replace ro := keep hb_ ro
              replace hR := hR.keep hb_
              replace f4 := f4.below hb_
              replace hw := Below.after hw hb_
              clear hb_
              refine hK_ _ _ (⟨ro, hR.hr⟩) ?_
              simp only [Act.put, List.getElem_toArray, List.getElem_cons_succ, List.getElem_cons_zero, List.setIfInBounds_toArray, List.set_cons_succ, List.set_cons_zero]
              clear hK_
              generalize y9d.alloc (.cells #[.int .u64 0, .int .u64 0, .int .u64 0, .int .u64 0, .int .u64 0] 26) = q26 at *
              generalize y9d.heap.size = g27 at *
              refine eH_two (j := 8) (k := 13) (fuel := 6) (by kernel_rfl) rfl rfl (by kernel_rfl) (by kernel_rfl) (fun K_ hK_ => ?_) (fun K_ hK_ => ?_)
              · refine wp_call_ex (f := 5) (by kernel_rfl) (ex1e (cA.at _)) (fun v_ q28 hX_ => ?_)
                obtain ⟨rfl, hb_⟩ := hX_
                replace ro := keep hb_ ro
                replace rP := keep hb_ rP
                replace hR := hR.keep hb_
                replace f4 := f4.below hb_
                replace hw := Below.after hw hb_
                clear hb_
                refine hK_ _ _ (⟨ro, hR.hr⟩) ?_
                simp only [Act.put, List.getElem_toArray, List.getElem_cons_succ, List.getElem_cons_zero, List.setIfInBounds_toArray, List.set_cons_succ, List.set_cons_zero]
                clear hK_
                refine wpAnyH_take (i := 9) (v := ?v48) rfl (by kernel_rfl) (by kernel_rfl) (by kernel_rfl) (fun _ _ _ h => h) (Or.inl ⟨by rfl, ?y48⟩) (⟨ro, hR.hr⟩) ?r48
                case y48 =>
                  intro w_ hS_
                  go_simp
                  try with_reducible rfl
                simp only [Act.put, List.getElem_toArray, List.getElem_cons_succ, List.getElem_cons_zero, List.setIfInBounds_toArray, List.set_cons_succ, List.set_cons_zero]
                refine wpAnyH_take (i := 10) (v := ?v49) rfl (by kernel_rfl) (by kernel_rfl) (by kernel_rfl) (fun _ _ _ h => h) (Or.inl ⟨by rfl, ?y49⟩) (⟨ro, hR.hr⟩) ?r49
                case y49 =>
                  intro w_ hS_
                  go_simp
                  try with_reducible rfl
                simp only [Act.put, List.getElem_toArray, List.getElem_cons_succ, List.getElem_cons_zero, List.setIfInBounds_toArray, List.set_cons_succ, List.set_cons_zero]
                refine wpAnyH_take (i := 11) (v := ?v50) rfl (by kernel_rfl) (by kernel_rfl) (by kernel_rfl) (fun _ _ _ h => h) (Or.inl ⟨by rfl, ?y50⟩) (⟨ro, hR.hr⟩) ?r50
                case y50 =>
                  intro w_ hS_
                  go_simp
                  try with_reducible rfl
                simp only [Act.put, List.getElem_toArray, List.getElem_cons_succ, List.getElem_cons_zero, List.setIfInBounds_toArray, List.set_cons_succ, List.set_cons_zero]
                refine eH_one (k := 13) (fuel := 2) (by kernel_rfl) rfl (by kernel_rfl) (fun K_ hK_ => ?_)
                have lO1_ := lt_of_row ro
                have lR1_ := lt_of_row hR.hr
                have lD1_ := lt_of_row hR.hd
                have lz_ := lt_of_row rP
                refine e_world_op (.pointer (some ⟨q28.heap.size, 0, none⟩)) (q28.alloc (.cells #[.int .u64 0, .int .u64 0, .int .u64 0, .int .u64 0, .int .u64 0] 26)) (by kernel_rfl) ?_
                have hb_ : Below q28.heap.size q28 (q28.alloc (.cells #[.int .u64 0, .int .u64 0, .int .u64 0, .int .u64 0, .int .u64 0] 26)) := (Below.refl _ _).alloc (Nat.le_refl _) _
                have sz_g30 : w.heap.size ≤ q28.heap.size := hw.size
                have lt_ro_g30 := lt_of_row ro
                have lt_rP_g30 := lt_of_row rP
                have rQ := hp1_0 q28 (.cells #[.int .u64 0, .int .u64 0, .int .u64 0, .int .u64 0, .int .u64 0] 26)
                replace ro := keep hb_ ro
                replace rP := keep hb_ rP
                replace hR := hR.keep hb_
                replace f4 := f4.below hb_
                replace hw := Below.after hw hb_
                clear hb_
                refine hK_ _ _ (⟨ro, hR.hr⟩) ?_
                simp only [Act.put, List.getElem_toArray, List.getElem_cons_succ, List.getElem_cons_zero, List.setIfInBounds_toArray, List.set_cons_succ, List.set_cons_zero]
                clear hK_
                generalize q28.alloc (.cells #[.int .u64 0, .int .u64 0, .int .u64 0, .int .u64 0, .int .u64 0] 26) = q29 at *
                generalize q28.heap.size = g30 at *
                refine eH_one (k := 14) (fuel := 1) (by kernel_rfl) rfl (by kernel_rfl) (fun K_ hK_ => ?_)
                refine wp_store_row 26 _ _ rfl (g27) PP rfl rfl 26 _ rP hp_.info (hp_.fits rfl) hp_.one ?_
                replace ro := (setRow_other q29 (g27) (gO) PP (by omega)).trans ro
                replace rQ := (setRow_other q29 (g27) (g30) PP (by omega)).trans rQ
                replace rP := setRow_heap q29 (g27) _ PP _ _ rP
                replace hR := hR.other (g := g27) (by omega) (by omega) PP
                replace hw := below_setRow hw (show w.heap.size ≤ g27 by omega) PP
                replace f4 := f4.setRow (show 1 < g27 by omega) PP
                refine hK_ _ _ (⟨ro, hR.hr⟩) ?_
                simp only [Act.put]
                clear hK_
                generalize q29.setRow (g27) PP = q31 at *
                refine eH_one (k := 15) (fuel := 0) (by kernel_rfl) rfl (by kernel_rfl) (fun K_ hK_ => ?_)
                refine wp_store_row 26 _ _ rfl (g30) QQ rfl rfl 26 _ rQ hq_.info (hq_.fits rfl) hq_.one ?_
                replace ro := (setRow_other q31 (g30) (gO) QQ (by omega)).trans ro
                replace rP := (setRow_other q31 (g30) (g27) QQ (by omega)).trans rP
                replace rQ := setRow_heap q31 (g30) _ QQ _ _ rQ
                replace hR := hR.other (g := g30) (by omega) (by omega) QQ
                replace hw := below_setRow hw (show w.heap.size ≤ g30 by omega) QQ
                replace f4 := f4.setRow (show 1 < g30 by omega) QQ
                refine hK_ _ _ (⟨ro, hR.hr⟩) ?_
                simp only [Act.put]
                clear hK_
                generalize q31.setRow (g30) QQ = q32 at *
                refine wpAnyH_done (by kernel_rfl) ?_ _
                refine NoPanic.normal ?_
                exact hT_ g27 g30 q32 ⟨ro, hR, hw, f4, by omega, by omega, by omega, rP, rQ⟩
              · have lO1_ := lt_of_row ro
                have lR1_ := lt_of_row hR.hr
                have lD1_ := lt_of_row hR.hd
                have lz_ := lt_of_row rP
                refine e_world_op (.pointer (some ⟨q26.heap.size, 0, none⟩)) (q26.alloc (.cells #[.int .u64 0, .int .u64 0, .int .u64 0, .int .u64 0, .int .u64 0] 26)) (by kernel_rfl) ?_
                have hb_ : Below q26.heap.size q26 (q26.alloc (.cells #[.int .u64 0, .int .u64 0, .int .u64 0, .int .u64 0, .int .u64 0] 26)) := (Below.refl _ _).alloc (Nat.le_refl _) _
                have sz_g34 : w.heap.size ≤ q26.heap.size := hw.size
                have lt_ro_g34 := lt_of_row ro
                have lt_rP_g34 := lt_of_row rP
                have rQ := hp1_0 q26 (.cells #[.int .u64 0, .int .u64 0, .int .u64 0, .int .u64 0, .int .u64 0] 26)
                replace ro := keep hb_ ro
                replace rP := keep hb_ rP
                replace hR := hR.keep hb_
                replace f4 := f4.below hb_
                replace hw := Below.after hw hb_
                clear hb_
                refine hK_ _ _ (⟨ro, hR.hr⟩) ?_
                simp only [Act.put, List.getElem_toArray, List.getElem_cons_succ, List.getElem_cons_zero, List.setIfInBounds_toArray, List.set_cons_succ, List.set_cons_zero]
                clear hK_
                generalize q26.alloc (.cells #[.int .u64 0, .int .u64 0, .int .u64 0, .int .u64 0, .int .u64 0] 26) = q33 at *
                generalize q26.heap.size = g34 at *
                refine eH_one (k := 8) (fuel := 5) (by kernel_rfl) rfl (by kernel_rfl) (fun K_ hK_ => ?_)
                refine wp_call_ex (f := 5) (by kernel_rfl) (ex1e (cA.at _)) (fun v_ q35 hX_ => ?_)
                obtain ⟨rfl, hb_⟩ := hX_
                replace ro := keep hb_ ro
                replace rP := keep hb_ rP
                replace rQ := keep hb_ rQ
                replace hR := hR.keep hb_
                replace f4 := f4.below hb_
                replace hw := Below.after hw hb_
                clear hb_
                refine hK_ _ _ (⟨ro, hR.hr⟩) ?_
                simp only [Act.put, List.getElem_toArray, List.getElem_cons_succ, List.getElem_cons_zero, List.setIfInBounds_toArray, List.set_cons_succ, List.set_cons_zero]
                clear hK_
                refine wpAnyH_take (i := 9) (v := ?v51) rfl (by kernel_rfl) (by kernel_rfl) (by kernel_rfl) (fun _ _ _ h => h) (Or.inl ⟨by rfl, ?y51⟩) (⟨ro, hR.hr⟩) ?r51
                case y51 =>
                  intro w_ hS_
                  go_simp
                  try with_reducible rfl
                simp only [Act.put, List.getElem_toArray, List.getElem_cons_succ, List.getElem_cons_zero, List.setIfInBounds_toArray, List.set_cons_succ, List.set_cons_zero]
                refine wpAnyH_take (i := 10) (v := ?v52) rfl (by kernel_rfl) (by kernel_rfl) (by kernel_rfl) (fun _ _ _ h => h) (Or.inl ⟨by rfl, ?y52⟩) (⟨ro, hR.hr⟩) ?r52
                case y52 =>
                  intro w_ hS_
                  go_simp
                  try with_reducible rfl
                simp only [Act.put, List.getElem_toArray, List.getElem_cons_succ, List.getElem_cons_zero, List.setIfInBounds_toArray, List.set_cons_succ, List.set_cons_zero]
                refine wpAnyH_take (i := 11) (v := ?v53) rfl (by kernel_rfl) (by kernel_rfl) (by kernel_rfl) (fun _ _ _ h => h) (Or.inl ⟨by rfl, ?y53⟩) (⟨ro, hR.hr⟩) ?r53
                case y53 =>
                  intro w_ hS_
                  go_simp
                  try with_reducible rfl
                simp only [Act.put, List.getElem_toArray, List.getElem_cons_succ, List.getElem_cons_zero, List.setIfInBounds_toArray, List.set_cons_succ, List.set_cons_zero]
                refine eH_one (k := 14) (fuel := 1) (by kernel_rfl) rfl (by kernel_rfl) (fun K_ hK_ => ?_)
                refine wp_store_row 26 _ _ rfl (g27) PP rfl rfl 26 _ rP hp_.info (hp_.fits rfl) hp_.one ?_
                replace ro := (setRow_other q35 (g27) (gO) PP (by omega)).trans ro
                replace rQ := (setRow_other q35 (g27) (g34) PP (by omega)).trans rQ
                replace rP := setRow_heap q35 (g27) _ PP _ _ rP
                replace hR := hR.other (g := g27) (by omega) (by omega) PP
                replace hw := below_setRow hw (show w.heap.size ≤ g27 by omega) PP
                replace f4 := f4.setRow (show 1 < g27 by omega) PP
                refine hK_ _ _ (⟨ro, hR.hr⟩) ?_
                simp only [Act.put]
                clear hK_
                generalize q35.setRow (g27) PP = q36 at *
                refine eH_one (k := 15) (fuel := 0) (by kernel_rfl) rfl (by kernel_rfl) (fun K_ hK_ => ?_)
                refine wp_store_row 26 _ _ rfl (g34) QQ rfl rfl 26 _ rQ hq_.info (hq_.fits rfl) hq_.one ?_
                replace ro := (setRow_other q36 (g34) (gO) QQ (by omega)).trans ro
                replace rP := (setRow_other q36 (g34) (g27) QQ (by omega)).trans rP
                replace rQ := setRow_heap q36 (g34) _ QQ _ _ rQ
                replace hR := hR.other (g := g34) (by omega) (by omega) QQ
                replace hw := below_setRow hw (show w.heap.size ≤ g34 by omega) QQ
                replace f4 := f4.setRow (show 1 < g34 by omega) QQ
                refine hK_ _ _ (⟨ro, hR.hr⟩) ?_
                simp only [Act.put]
                clear hK_
                generalize q36.setRow (g34) QQ = q37 at *
                refine wpAnyH_done (by kernel_rfl) ?_ _
                refine NoPanic.normal ?_
                exact hT_ g27 g34 q37 ⟨ro, hR, hw, f4, by omega, by omega, by omega, rP, rQ⟩
            · have lO0_ := lt_of_row ro
              have lR0_ := lt_of_row hR.hr
              have lD0_ := lt_of_row hR.hd
              refine e_world_op (.pointer (some ⟨y9d.heap.size, 0, none⟩)) (y9d.alloc (.cells #[.int .u64 0, .int .u64 0, .int .u64 0, .int .u64 0, .int .u64 0] 26)) (by kernel_rfl) ?_
              have hb_ : Below y9d.heap.size y9d (y9d.alloc (.cells #[.int .u64 0, .int .u64 0, .int .u64 0, .int .u64 0, .int .u64 0] 26)) := (Below.refl _ _).alloc (Nat.le_refl _) _
              have sz_g39 : w.heap.size ≤ y9d.heap.size := hw.size
              have lt_ro_g39 := lt_of_row ro
              have rQ := hp1_0 y9d (.cells #[.int .u64 0, .int .u64 0, .int .u64 0, .int .u64 0, .int .u64 0] 26)
              replace ro := keep hb_ ro
              replace hR := hR.keep hb_
              replace f4 := f4.below hb_
              replace hw := Below.after hw hb_
              clear hb_
              refine hK_ _ _ (⟨ro, hR.hr⟩) ?_
              simp only [Act.put, List.getElem_toArray, List.getElem_cons_succ, List.getElem_cons_zero, List.setIfInBounds_toArray, List.set_cons_succ, List.set_cons_zero]
              clear hK_
              generalize y9d.alloc (.cells #[.int .u64 0, .int .u64 0, .int .u64 0, .int .u64 0, .int .u64 0] 26) = q38 at *
              generalize y9d.heap.size = g39 at *
              refine eH_two (j := 8) (k := 12) (fuel := 6) (by kernel_rfl) rfl rfl (by kernel_rfl) (by kernel_rfl) (fun K_ hK_ => ?_) (fun K_ hK_ => ?_)
              · refine wp_call_ex (f := 5) (by kernel_rfl) (ex1e (cA.at _)) (fun v_ q40 hX_ => ?_)
                obtain ⟨rfl, hb_⟩ := hX_
                replace ro := keep hb_ ro
                replace rQ := keep hb_ rQ
                replace hR := hR.keep hb_
                replace f4 := f4.below hb_
                replace hw := Below.after hw hb_
                clear hb_
                refine hK_ _ _ (⟨ro, hR.hr⟩) ?_
                simp only [Act.put, List.getElem_toArray, List.getElem_cons_succ, List.getElem_cons_zero, List.setIfInBounds_toArray, List.set_cons_succ, List.set_cons_zero]
                clear hK_
                refine wpAnyH_take (i := 9) (v := ?v54) rfl (by kernel_rfl) (by kernel_rfl) (by kernel_rfl) (fun _ _ _ h => h) (Or.inl ⟨by rfl, ?y54⟩) (⟨ro, hR.hr⟩) ?r54
                case y54 =>
                  intro w_ hS_
                  go_simp
                  try with_reducible rfl
                simp only [Act.put, List.getElem_toArray, List.getElem_cons_succ, List.getElem_cons_zero, List.setIfInBounds_toArray, List.set_cons_succ, List.set_cons_zero]
                refine wpAnyH_take (i := 10) (v := ?v55) rfl (by kernel_rfl) (by kernel_rfl) (by kernel_rfl) (fun _ _ _ h => h) (Or.inl ⟨by rfl, ?y55⟩) (⟨ro, hR.hr⟩) ?r55
                case y55 =>
                  intro w_ hS_
                  go_simp
                  try with_reducible rfl
                simp only [Act.put, List.getElem_toArray, List.getElem_cons_succ, List.getElem_cons_zero, List.setIfInBounds_toArray, List.set_cons_succ, List.set_cons_zero]
                refine wpAnyH_take (i := 11) (v := ?v56) rfl (by kernel_rfl) (by kernel_rfl) (by kernel_rfl) (fun _ _ _ h => h) (Or.inl ⟨by rfl, ?y56⟩) (⟨ro, hR.hr⟩) ?r56
                case y56 =>
                  intro w_ hS_
                  go_simp
                  try with_reducible rfl
                simp only [Act.put, List.getElem_toArray, List.getElem_cons_succ, List.getElem_cons_zero, List.setIfInBounds_toArray, List.set_cons_succ, List.set_cons_zero]
                refine eH_one (k := 12) (fuel := 2) (by kernel_rfl) rfl (by kernel_rfl) (fun K_ hK_ => ?_)
                have lO1_ := lt_of_row ro
                have lR1_ := lt_of_row hR.hr
                have lD1_ := lt_of_row hR.hd
                have lz_ := lt_of_row rQ
                refine e_world_op (.pointer (some ⟨q40.heap.size, 0, none⟩)) (q40.alloc (.cells #[.int .u64 0, .int .u64 0, .int .u64 0, .int .u64 0, .int .u64 0] 26)) (by kernel_rfl) ?_
                have hb_ : Below q40.heap.size q40 (q40.alloc (.cells #[.int .u64 0, .int .u64 0, .int .u64 0, .int .u64 0, .int .u64 0] 26)) := (Below.refl _ _).alloc (Nat.le_refl _) _
                have sz_g42 : w.heap.size ≤ q40.heap.size := hw.size
                have lt_ro_g42 := lt_of_row ro
                have lt_rQ_g42 := lt_of_row rQ
                have rP := hp1_0 q40 (.cells #[.int .u64 0, .int .u64 0, .int .u64 0, .int .u64 0, .int .u64 0] 26)
                replace ro := keep hb_ ro
                replace rQ := keep hb_ rQ
                replace hR := hR.keep hb_
                replace f4 := f4.below hb_
                replace hw := Below.after hw hb_
                clear hb_
                refine hK_ _ _ (⟨ro, hR.hr⟩) ?_
                simp only [Act.put, List.getElem_toArray, List.getElem_cons_succ, List.getElem_cons_zero, List.setIfInBounds_toArray, List.set_cons_succ, List.set_cons_zero]
                clear hK_
                generalize q40.alloc (.cells #[.int .u64 0, .int .u64 0, .int .u64 0, .int .u64 0, .int .u64 0] 26) = q41 at *
                generalize q40.heap.size = g42 at *
                refine eH_one (k := 14) (fuel := 1) (by kernel_rfl) rfl (by kernel_rfl) (fun K_ hK_ => ?_)
                refine wp_store_row 26 _ _ rfl (g42) PP rfl rfl 26 _ rP hp_.info (hp_.fits rfl) hp_.one ?_
                replace ro := (setRow_other q41 (g42) (gO) PP (by omega)).trans ro
                replace rQ := (setRow_other q41 (g42) (g39) PP (by omega)).trans rQ
                replace rP := setRow_heap q41 (g42) _ PP _ _ rP
                replace hR := hR.other (g := g42) (by omega) (by omega) PP
                replace hw := below_setRow hw (show w.heap.size ≤ g42 by omega) PP
                replace f4 := f4.setRow (show 1 < g42 by omega) PP
                refine hK_ _ _ (⟨ro, hR.hr⟩) ?_
                simp only [Act.put]
                clear hK_
                generalize q41.setRow (g42) PP = q43 at *
                refine eH_one (k := 15) (fuel := 0) (by kernel_rfl) rfl (by kernel_rfl) (fun K_ hK_ => ?_)
                refine wp_store_row 26 _ _ rfl (g39) QQ rfl rfl 26 _ rQ hq_.info (hq_.fits rfl) hq_.one ?_
                replace ro := (setRow_other q43 (g39) (gO) QQ (by omega)).trans ro
                replace rP := (setRow_other q43 (g39) (g42) QQ (by omega)).trans rP
                replace rQ := setRow_heap q43 (g39) _ QQ _ _ rQ
                replace hR := hR.other (g := g39) (by omega) (by omega) QQ
                replace hw := below_setRow hw (show w.heap.size ≤ g39 by omega) QQ
                replace f4 := f4.setRow (show 1 < g39 by omega) QQ
                refine hK_ _ _ (⟨ro, hR.hr⟩) ?_
                simp only [Act.put]
                clear hK_
                generalize q43.setRow (g39) QQ = q44 at *
                refine wpAnyH_done (by kernel_rfl) ?_ _
                refine NoPanic.normal ?_
                exact hT_ g42 g39 q44 ⟨ro, hR, hw, f4, by omega, by omega, by omega, rP, rQ⟩
              · have lO1_ := lt_of_row ro
                have lR1_ := lt_of_row hR.hr
                have lD1_ := lt_of_row hR.hd
                have lz_ := lt_of_row rQ
                refine e_world_op (.pointer (some ⟨q38.heap.size, 0, none⟩)) (q38.alloc (.cells #[.int .u64 0, .int .u64 0, .int .u64 0, .int .u64 0, .int .u64 0] 26)) (by kernel_rfl) ?_
                have hb_ : Below q38.heap.size q38 (q38.alloc (.cells #[.int .u64 0, .int .u64 0, .int .u64 0, .int .u64 0, .int .u64 0] 26)) := (Below.refl _ _).alloc (Nat.le_refl _) _
                have sz_g46 : w.heap.size ≤ q38.heap.size := hw.size
                have lt_ro_g46 := lt_of_row ro
                have lt_rQ_g46 := lt_of_row rQ
                have rP := hp1_0 q38 (.cells #[.int .u64 0, .int .u64 0, .int .u64 0, .int .u64 0, .int .u64 0] 26)
                replace ro := keep hb_ ro
                replace rQ := keep hb_ rQ
                replace hR := hR.keep hb_
                replace f4 := f4.below hb_
                replace hw := Below.after hw hb_
                clear hb_
                refine hK_ _ _ (⟨ro, hR.hr⟩) ?_
                simp only [Act.put, List.getElem_toArray, List.getElem_cons_succ, List.getElem_cons_zero, List.setIfInBounds_toArray, List.set_cons_succ, List.set_cons_zero]
                clear hK_
                generalize q38.alloc (.cells #[.int .u64 0, .int .u64 0, .int .u64 0, .int .u64 0, .int .u64 0] 26) = q45 at *
                generalize q38.heap.size = g46 at *
                refine eH_one (k := 8) (fuel := 5) (by kernel_rfl) rfl (by kernel_rfl) (fun K_ hK_ => ?_)
                refine wp_call_ex (f := 5) (by kernel_rfl) (ex1e (cA.at _)) (fun v_ q47 hX_ => ?_)
                obtain ⟨rfl, hb_⟩ := hX_
                replace ro := keep hb_ ro
                replace rQ := keep hb_ rQ
                replace rP := keep hb_ rP
                replace hR := hR.keep hb_
                replace f4 := f4.below hb_
                replace hw := Below.after hw hb_
                clear hb_
                refine hK_ _ _ (⟨ro, hR.hr⟩) ?_
                simp only [Act.put, List.getElem_toArray, List.getElem_cons_succ, List.getElem_cons_zero, List.setIfInBounds_toArray, List.set_cons_succ, List.set_cons_zero]
                clear hK_
                refine wpAnyH_take (i := 9) (v := ?v57) rfl (by kernel_rfl) (by kernel_rfl) (by kernel_rfl) (fun _ _ _ h => h) (Or.inl ⟨by rfl, ?y57⟩) (⟨ro, hR.hr⟩) ?r57
                case y57 =>
                  intro w_ hS_
                  go_simp
                  try with_reducible rfl
                simp only [Act.put, List.getElem_toArray, List.getElem_cons_succ, List.getElem_cons_zero, List.setIfInBounds_toArray, List.set_cons_succ, List.set_cons_zero]
                refine wpAnyH_take (i := 10) (v := ?v58) rfl (by kernel_rfl) (by kernel_rfl) (by kernel_rfl) (fun _ _ _ h => h) (Or.inl ⟨by rfl, ?y58⟩) (⟨ro, hR.hr⟩) ?r58
                case y58 =>
                  intro w_ hS_
                  go_simp
                  try with_reducible rfl
                simp only [Act.put, List.getElem_toArray, List.getElem_cons_succ, List.getElem_cons_zero, List.setIfInBounds_toArray, List.set_cons_succ, List.set_cons_zero]
                refine wpAnyH_take (i := 11) (v := ?v59) rfl (by kernel_rfl) (by kernel_rfl) (by kernel_rfl) (fun _ _ _ h => h) (Or.inl ⟨by rfl, ?y59⟩) (⟨ro, hR.hr⟩) ?r59
                case y59 =>
                  intro w_ hS_
                  go_simp
                  try with_reducible rfl
                simp only [Act.put, List.getElem_toArray, List.getElem_cons_succ, List.getElem_cons_zero, List.setIfInBounds_toArray, List.set_cons_succ, List.set_cons_zero]
                refine eH_one (k := 14) (fuel := 1) (by kernel_rfl) rfl (by kernel_rfl) (fun K_ hK_ => ?_)
                refine wp_store_row 26 _ _ rfl (g46) PP rfl rfl 26 _ rP hp_.info (hp_.fits rfl) hp_.one ?_
                replace ro := (setRow_other q47 (g46) (gO) PP (by omega)).trans ro
                replace rQ := (setRow_other q47 (g46) (g39) PP (by omega)).trans rQ
                replace rP := setRow_heap q47 (g46) _ PP _ _ rP
                replace hR := hR.other (g := g46) (by omega) (by omega) PP
                replace hw := below_setRow hw (show w.heap.size ≤ g46 by omega) PP
                replace f4 := f4.setRow (show 1 < g46 by omega) PP
                refine hK_ _ _ (⟨ro, hR.hr⟩) ?_
                simp only [Act.put]
                clear hK_
                generalize q47.setRow (g46) PP = q48 at *
                refine eH_one (k := 15) (fuel := 0) (by kernel_rfl) rfl (by kernel_rfl) (fun K_ hK_ => ?_)
                refine wp_store_row 26 _ _ rfl (g39) QQ rfl rfl 26 _ rQ hq_.info (hq_.fits rfl) hq_.one ?_
                replace ro := (setRow_other q48 (g39) (gO) QQ (by omega)).trans ro
                replace rP := (setRow_other q48 (g39) (g46) QQ (by omega)).trans rP
                replace rQ := setRow_heap q48 (g39) _ QQ _ _ rQ
                replace hR := hR.other (g := g39) (by omega) (by omega) QQ
                replace hw := below_setRow hw (show w.heap.size ≤ g39 by omega) QQ
                replace f4 := f4.setRow (show 1 < g39 by omega) QQ
                refine hK_ _ _ (⟨ro, hR.hr⟩) ?_
                simp only [Act.put]
                clear hK_
                generalize q48.setRow (g39) QQ = q49 at *
                refine wpAnyH_done (by kernel_rfl) ?_ _
                refine NoPanic.normal ?_
                exact hT_ g46 g39 q49 ⟨ro, hR, hw, f4, by omega, by omega, by omega, rP, rQ⟩
          clear ro hR hw f4
          intro gP gQ y9 hW_
          obtain ⟨ro, hR, hw, f4, lgP, lgQ, ney9, rP, rQ⟩ := id hW_
          clear hW_
          go_upto_region 10 with (fail)
          apply ecut2 (fun (g h : Nat) (W : World) => W.heap[gO]? = some (.cells oc 36 (0, 0)) ∧ Regs W w.heap.size (w.heap.size + 1) rs xs ∧ Below w.heap.size w W ∧ Both W ∧ gO < g ∧ gO < h ∧ g ≠ h ∧ W.heap[g]? = some (.cells (rd (XP % prm)) 30 (0, 0)) ∧ W.heap[h]? = some (.cells (rd (XQ % prm)) 30 (0, 0)) ∧ W.heap[gP]? = some (.cells PP 26 (0, 0)) ∧ gP ≠ g ∧ gP ≠ h ∧ W.heap[gQ]? = some (.cells QQ 26 (0, 0)) ∧ gQ ≠ g ∧ gQ ≠ h)
          · intro hT_
            have hbd : Below y9.heap.size y9 y9.drew := below_drN (Below.refl _ _) 1
            replace ro := keep hbd ro
            replace rP := keep hbd rP
            replace rQ := keep hbd rQ
            replace hR := hR.keep hbd
            replace f4 := f4.below hbd
            replace hw := Below.after hw hbd
            clear hbd
            refine wp_region_noPanic ?_
            refine wp_region_held (S := fun W => W.heap[gO]? = some (.cells oc 36 (0, 0)) ∧ W.heap[w.heap.size + 1]? = some (.cells (flat (dcs xs)) 31 (0, 0))) (by kernel_rfl) ?_
            change wpAnyH _ _ _ _ _ _ _ _ (World.drew _)
            generalize y9.drew = y10d at *
            refine wpAnyH_take (i := 0) (v := ?v60) rfl (by kernel_rfl) (by kernel_rfl) (by kernel_rfl) (fun _ _ _ h => h) (Or.inl ⟨by rfl, ?y60⟩) (⟨ro, hR.hd⟩) ?r60
            case y60 =>
              intro w_ hS_
              go_simp
              try with_reducible rfl
            simp only [Act.put, List.getElem_toArray, List.getElem_cons_zero, List.setIfInBounds_toArray]
            refine wpAnyH_take (i := 1) (v := ?v61) rfl (by kernel_rfl) (by kernel_rfl) (by kernel_rfl) (fun _ _ _ h => h) (Or.inl ⟨by rfl, ?y61⟩) (⟨ro, hR.hd⟩) ?r61
            case y61 =>
              intro w_ hS_
              go_simp
              try with_reducible rfl
            simp only [Act.put, List.getElem_toArray, List.getElem_cons_succ, List.getElem_cons_zero, List.setIfInBounds_toArray, List.set_cons_succ, List.set_cons_zero]
            refine wpAnyH_take (i := 2) (v := .agg (rd (xa % prm))) rfl (by kernel_rfl) (by kernel_rfl) (by kernel_rfl) (fun _ _ _ h => h) (Or.inl ⟨by rfl, ?y62⟩) (⟨ro, hR.hd⟩) ?r62
            case y62 =>
              intro w_ hS_
              simp only [List.getElem_toArray, List.getElem_cons_succ, List.getElem_cons_zero]
              exact e_load_part 30 _ (by rfl) (w.heap.size + 1) (ia * 16) (by rfl) 31 (flat (dcs xs)) (0, 0) (rd (xa % prm)) _ (hS_.2) pda Tryd.underlying30 rfl (rd_info _)
            simp only [Act.put, List.getElem_toArray, List.getElem_cons_succ, List.getElem_cons_zero, List.setIfInBounds_toArray, List.set_cons_succ, List.set_cons_zero]
            refine wpAnyH_take (i := 3) (v := ?v63) rfl (by kernel_rfl) (by kernel_rfl) (by kernel_rfl) (fun _ _ _ h => h) (Or.inl ⟨by rfl, ?y63⟩) (⟨ro, hR.hd⟩) ?r63
            case y63 =>
              intro w_ hS_
              go_simp
              try with_reducible rfl
            simp only [Act.put, List.getElem_toArray, List.getElem_cons_succ, List.getElem_cons_zero, List.setIfInBounds_toArray, List.set_cons_succ, List.set_cons_zero]
            refine wpAnyH_take (i := 4) (v := ?v64) rfl (by kernel_rfl) (by kernel_rfl) (by kernel_rfl) (fun _ _ _ h => h) (Or.inl ⟨by rfl, ?y64⟩) (⟨ro, hR.hd⟩) ?r64
            case y64 =>
              intro w_ hS_
              go_simp
              try with_reducible rfl
            simp only [Act.put, List.getElem_toArray, List.getElem_cons_succ, List.getElem_cons_zero, List.setIfInBounds_toArray, List.set_cons_succ, List.set_cons_zero]
            refine wpAnyH_take (i := 5) (v := .agg (rd (xb % prm))) rfl (by kernel_rfl) (by kernel_rfl) (by kernel_rfl) (fun _ _ _ h => h) (Or.inl ⟨by rfl, ?y65⟩) (⟨ro, hR.hd⟩) ?r65
            case y65 =>
              intro w_ hS_
              simp only [List.getElem_toArray, List.getElem_cons_succ, List.getElem_cons_zero]
              exact e_load_part 30 _ (by rfl) (w.heap.size + 1) (ib * 16) (by rfl) 31 (flat (dcs xs)) (0, 0) (rd (xb % prm)) _ (hS_.2) pdb Tryd.underlying30 rfl (rd_info _)
            simp only [Act.put, List.getElem_toArray, List.getElem_cons_succ, List.getElem_cons_zero, List.setIfInBounds_toArray, List.set_cons_succ, List.set_cons_zero]
            refine wpAnyH_take (i := 6) (v := ?v66) rfl (by kernel_rfl) (by kernel_rfl) (by kernel_rfl) (fun _ _ _ h => h) (Or.inl ⟨by rfl, ?y66⟩) (⟨ro, hR.hd⟩) ?r66
            case y66 =>
              intro w_ hS_
              go_simp
              try with_reducible rfl
            simp only [Act.put, List.getElem_toArray, List.getElem_cons_succ, List.getElem_cons_zero, List.setIfInBounds_toArray, List.set_cons_succ, List.set_cons_zero]
            refine wpAnyH_take (i := 7) (v := .bool Fl) rfl (by kernel_rfl) (by kernel_rfl) (by kernel_rfl) (fun _ _ _ h => h) (Or.inl ⟨by rfl, ?y67⟩) (⟨ro, hR.hd⟩) ?r67
            case y67 =>
              intro w_ hS_
              have c_ := (cell_of_row _ _ 38 _ _ _ hS_.1).trans ho.c38
              go_simp
              try with_reducible rfl
            simp only [Act.put, List.getElem_toArray, List.getElem_cons_succ, List.getElem_cons_zero, List.setIfInBounds_toArray, List.set_cons_succ, List.set_cons_zero]
            refine eH_three (j := 8) (k := 12) (l := 13) (fuel := 7) (by kernel_rfl) rfl rfl rfl (by kernel_rfl) (by kernel_rfl) (by kernel_rfl) (fun K_ hK_ => ?_) (fun K_ hK_ => ?_) (fun K_ hK_ => ?_)
            · refine wp_call_ex (f := 6) (by kernel_rfl) (ex1e (cR.at _)) (fun v_ q50 hX_ => ?_)
              obtain ⟨rfl, hb_⟩ := hX_
              replace ro := keep hb_ ro
              replace rP := keep hb_ rP
              replace rQ := keep hb_ rQ
              replace hR := hR.keep hb_
              replace f4 := f4.below hb_
              replace hw := Below.after hw hb_
              clear hb_
              refine hK_ _ _ (⟨ro, hR.hd⟩) ?_
              simp only [Act.put, List.getElem_toArray, List.getElem_cons_succ, List.getElem_cons_zero, List.setIfInBounds_toArray, List.set_cons_succ, List.set_cons_zero]
              clear hK_
              refine wpAnyH_take (i := 9) (v := ?v68) rfl (by kernel_rfl) (by kernel_rfl) (by kernel_rfl) (fun _ _ _ h => h) (Or.inl ⟨by rfl, ?y68⟩) (⟨ro, hR.hd⟩) ?r68
              case y68 =>
                intro w_ hS_
                go_simp
                try with_reducible rfl
              simp only [Act.put, List.getElem_toArray, List.getElem_cons_succ, List.getElem_cons_zero, List.setIfInBounds_toArray, List.set_cons_succ, List.set_cons_zero]
              refine wpAnyH_take (i := 10) (v := ?v69) rfl (by kernel_rfl) (by kernel_rfl) (by kernel_rfl) (fun _ _ _ h => h) (Or.inl ⟨by rfl, ?y69⟩) (⟨ro, hR.hd⟩) ?r69
              case y69 =>
                intro w_ hS_
                go_simp
                try with_reducible rfl
              simp only [Act.put, List.getElem_toArray, List.getElem_cons_succ, List.getElem_cons_zero, List.setIfInBounds_toArray, List.set_cons_succ, List.set_cons_zero]
              refine wpAnyH_take (i := 11) (v := ?v70) rfl (by kernel_rfl) (by kernel_rfl) (by kernel_rfl) (fun _ _ _ h => h) (Or.inl ⟨by rfl, ?y70⟩) (⟨ro, hR.hd⟩) ?r70
              case y70 =>
                intro w_ hS_
                go_simp
                try with_reducible rfl
              simp only [Act.put, List.getElem_toArray, List.getElem_cons_succ, List.getElem_cons_zero, List.setIfInBounds_toArray, List.set_cons_succ, List.set_cons_zero]
              refine eH_two (j := 12) (k := 13) (fuel := 3) (by kernel_rfl) rfl rfl (by kernel_rfl) (by kernel_rfl) (fun K_ hK_ => ?_) (fun K_ hK_ => ?_)
              · have lO0_ := lt_of_row ro
                have lR0_ := lt_of_row hR.hr
                have lD0_ := lt_of_row hR.hd
                have l0_rP := lt_of_row rP
                have l0_rQ := lt_of_row rQ
                refine e_world_op (.pointer (some ⟨q50.heap.size, 0, none⟩)) (q50.alloc (.cells #[.int .u64 0, .int .u64 0, .int .u64 0, .int .u64 0, .int .u64 0, .int .u64 0, .int .u64 0, .int .u64 0, .int .u64 0, .int .u64 0, .int .u64 0, .int .u64 0, .int .u64 0, .int .u64 0, .int .u64 0, .int .u64 0] 30)) (by kernel_rfl) ?_
                have hb_ : Below q50.heap.size q50 (q50.alloc (.cells #[.int .u64 0, .int .u64 0, .int .u64 0, .int .u64 0, .int .u64 0, .int .u64 0, .int .u64 0, .int .u64 0, .int .u64 0, .int .u64 0, .int .u64 0, .int .u64 0, .int .u64 0, .int .u64 0, .int .u64 0, .int .u64 0] 30)) := (Below.refl _ _).alloc (Nat.le_refl _) _
                have sz_g52 : w.heap.size ≤ q50.heap.size := hw.size
                have lt_ro_g52 := lt_of_row ro
                have lt_rP_g52 := lt_of_row rP
                have lt_rQ_g52 := lt_of_row rQ
                have rX := hp1_0 q50 (.cells #[.int .u64 0, .int .u64 0, .int .u64 0, .int .u64 0, .int .u64 0, .int .u64 0, .int .u64 0, .int .u64 0, .int .u64 0, .int .u64 0, .int .u64 0, .int .u64 0, .int .u64 0, .int .u64 0, .int .u64 0, .int .u64 0] 30)
                replace ro := keep hb_ ro
                replace rP := keep hb_ rP
                replace rQ := keep hb_ rQ
                replace hR := hR.keep hb_
                replace f4 := f4.below hb_
                replace hw := Below.after hw hb_
                clear hb_
                refine hK_ _ _ (⟨ro, hR.hd⟩) ?_
                simp only [Act.put, List.getElem_toArray, List.getElem_cons_succ, List.getElem_cons_zero, List.setIfInBounds_toArray, List.set_cons_succ, List.set_cons_zero]
                clear hK_
                generalize q50.alloc (.cells #[.int .u64 0, .int .u64 0, .int .u64 0, .int .u64 0, .int .u64 0, .int .u64 0, .int .u64 0, .int .u64 0, .int .u64 0, .int .u64 0, .int .u64 0, .int .u64 0, .int .u64 0, .int .u64 0, .int .u64 0, .int .u64 0] 30) = q51 at *
                generalize q50.heap.size = g52 at *
                refine eH_one (k := 13) (fuel := 2) (by kernel_rfl) rfl (by kernel_rfl) (fun K_ hK_ => ?_)
                have lO1_ := lt_of_row ro
                have lR1_ := lt_of_row hR.hr
                have lD1_ := lt_of_row hR.hd
                have l1_rP := lt_of_row rP
                have l1_rQ := lt_of_row rQ
                have lz_ := lt_of_row rX
                refine e_world_op (.pointer (some ⟨q51.heap.size, 0, none⟩)) (q51.alloc (.cells #[.int .u64 0, .int .u64 0, .int .u64 0, .int .u64 0, .int .u64 0, .int .u64 0, .int .u64 0, .int .u64 0, .int .u64 0, .int .u64 0, .int .u64 0, .int .u64 0, .int .u64 0, .int .u64 0, .int .u64 0, .int .u64 0] 30)) (by kernel_rfl) ?_
                have hb_ : Below q51.heap.size q51 (q51.alloc (.cells #[.int .u64 0, .int .u64 0, .int .u64 0, .int .u64 0, .int .u64 0, .int .u64 0, .int .u64 0, .int .u64 0, .int .u64 0, .int .u64 0, .int .u64 0, .int .u64 0, .int .u64 0, .int .u64 0, .int .u64 0, .int .u64 0] 30)) := (Below.refl _ _).alloc (Nat.le_refl _) _
                have sz_g54 : w.heap.size ≤ q51.heap.size := hw.size
                have lt_ro_g54 := lt_of_row ro
                have lt_rP_g54 := lt_of_row rP
                have lt_rQ_g54 := lt_of_row rQ
                have lt_rX_g54 := lt_of_row rX
                have rY := hp1_0 q51 (.cells #[.int .u64 0, .int .u64 0, .int .u64 0, .int .u64 0, .int .u64 0, .int .u64 0, .int .u64 0, .int .u64 0, .int .u64 0, .int .u64 0, .int .u64 0, .int .u64 0, .int .u64 0, .int .u64 0, .int .u64 0, .int .u64 0] 30)
                replace ro := keep hb_ ro
                replace rP := keep hb_ rP
                replace rQ := keep hb_ rQ
                replace rX := keep hb_ rX
                replace hR := hR.keep hb_
                replace f4 := f4.below hb_
                replace hw := Below.after hw hb_
                clear hb_
                refine hK_ _ _ (⟨ro, hR.hd⟩) ?_
                simp only [Act.put, List.getElem_toArray, List.getElem_cons_succ, List.getElem_cons_zero, List.setIfInBounds_toArray, List.set_cons_succ, List.set_cons_zero]
                clear hK_
                generalize q51.alloc (.cells #[.int .u64 0, .int .u64 0, .int .u64 0, .int .u64 0, .int .u64 0, .int .u64 0, .int .u64 0, .int .u64 0, .int .u64 0, .int .u64 0, .int .u64 0, .int .u64 0, .int .u64 0, .int .u64 0, .int .u64 0, .int .u64 0] 30) = q53 at *
                generalize q51.heap.size = g54 at *
                refine eH_one (k := 14) (fuel := 1) (by kernel_rfl) rfl (by kernel_rfl) (fun K_ hK_ => ?_)
                refine wp_store_row 30 _ _ rfl (g52) (rd (XP % prm)) rfl rfl 30 _ rX (rd_info _) rfl (rd_one _) ?_
                replace ro := (setRow_other q53 (g52) (gO) (rd (XP % prm)) (by omega)).trans ro
                replace rY := (setRow_other q53 (g52) (g54) (rd (XP % prm)) (by omega)).trans rY
                replace rP := (setRow_other q53 (g52) (gP) (rd (XP % prm)) (by omega)).trans rP
                replace rQ := (setRow_other q53 (g52) (gQ) (rd (XP % prm)) (by omega)).trans rQ
                replace rX := setRow_heap q53 (g52) _ (rd (XP % prm)) _ _ rX
                replace hR := hR.other (g := g52) (by omega) (by omega) (rd (XP % prm))
                replace hw := below_setRow hw (show w.heap.size ≤ g52 by omega) (rd (XP % prm))
                replace f4 := f4.setRow (show 1 < g52 by omega) (rd (XP % prm))
                refine hK_ _ _ (⟨ro, hR.hd⟩) ?_
                simp only [Act.put]
                clear hK_
                generalize q53.setRow (g52) (rd (XP % prm)) = q55 at *
                refine eH_one (k := 15) (fuel := 0) (by kernel_rfl) rfl (by kernel_rfl) (fun K_ hK_ => ?_)
                refine wp_store_row 30 _ _ rfl (g54) (rd (XQ % prm)) rfl rfl 30 _ rY (rd_info _) rfl (rd_one _) ?_
                replace ro := (setRow_other q55 (g54) (gO) (rd (XQ % prm)) (by omega)).trans ro
                replace rX := (setRow_other q55 (g54) (g52) (rd (XQ % prm)) (by omega)).trans rX
                replace rP := (setRow_other q55 (g54) (gP) (rd (XQ % prm)) (by omega)).trans rP
                replace rQ := (setRow_other q55 (g54) (gQ) (rd (XQ % prm)) (by omega)).trans rQ
                replace rY := setRow_heap q55 (g54) _ (rd (XQ % prm)) _ _ rY
                replace hR := hR.other (g := g54) (by omega) (by omega) (rd (XQ % prm))
                replace hw := below_setRow hw (show w.heap.size ≤ g54 by omega) (rd (XQ % prm))
                replace f4 := f4.setRow (show 1 < g54 by omega) (rd (XQ % prm))
                refine hK_ _ _ (⟨ro, hR.hd⟩) ?_
                simp only [Act.put]
                clear hK_
                generalize q55.setRow (g54) (rd (XQ % prm)) = q56 at *
                refine wpAnyH_done (by kernel_rfl) ?_ _
                refine NoPanic.normal ?_
                exact hT_ g52 g54 q56 ⟨ro, hR, hw, f4, by omega, by omega, by omega, rX, rY, rP, by omega, by omega, rQ, by omega, by omega⟩
              · have lO0_ := lt_of_row ro
                have lR0_ := lt_of_row hR.hr
                have lD0_ := lt_of_row hR.hd
                have l0_rP := lt_of_row rP
                have l0_rQ := lt_of_row rQ
                refine e_world_op (.pointer (some ⟨q50.heap.size, 0, none⟩)) (q50.alloc (.cells #[.int .u64 0, .int .u64 0, .int .u64 0, .int .u64 0, .int .u64 0, .int .u64 0, .int .u64 0, .int .u64 0, .int .u64 0, .int .u64 0, .int .u64 0, .int .u64 0, .int .u64 0, .int .u64 0, .int .u64 0, .int .u64 0] 30)) (by kernel_rfl) ?_
                have hb_ : Below q50.heap.size q50 (q50.alloc (.cells #[.int .u64 0, .int .u64 0, .int .u64 0, .int .u64 0, .int .u64 0, .int .u64 0, .int .u64 0, .int .u64 0, .int .u64 0, .int .u64 0, .int .u64 0, .int .u64 0, .int .u64 0, .int .u64 0, .int .u64 0, .int .u64 0] 30)) := (Below.refl _ _).alloc (Nat.le_refl _) _
                have sz_g58 : w.heap.size ≤ q50.heap.size := hw.size
                have lt_ro_g58 := lt_of_row ro
                have lt_rP_g58 := lt_of_row rP
                have lt_rQ_g58 := lt_of_row rQ
                have rY := hp1_0 q50 (.cells #[.int .u64 0, .int .u64 0, .int .u64 0, .int .u64 0, .int .u64 0, .int .u64 0, .int .u64 0, .int .u64 0, .int .u64 0, .int .u64 0, .int .u64 0, .int .u64 0, .int .u64 0, .int .u64 0, .int .u64 0, .int .u64 0] 30)
                replace ro := keep hb_ ro
                replace rP := keep hb_ rP
                replace rQ := keep hb_ rQ
                replace hR := hR.keep hb_
                replace f4 := f4.below hb_
                replace hw := Below.after hw hb_
                clear hb_
                refine hK_ _ _ (⟨ro, hR.hd⟩) ?_
                simp only [Act.put, List.getElem_toArray, List.getElem_cons_succ, List.getElem_cons_zero, List.setIfInBounds_toArray, List.set_cons_succ, List.set_cons_zero]
                clear hK_
                generalize q50.alloc (.cells #[.int .u64 0, .int .u64 0, .int .u64 0, .int .u64 0, .int .u64 0, .int .u64 0, .int .u64 0, .int .u64 0, .int .u64 0, .int .u64 0, .int .u64 0, .int .u64 0, .int .u64 0, .int .u64 0, .int .u64 0, .int .u64 0] 30) = q57 at *
                generalize q50.heap.size = g58 at *
                refine eH_one (k := 12) (fuel := 2) (by kernel_rfl) rfl (by kernel_rfl) (fun K_ hK_ => ?_)
                have lO1_ := lt_of_row ro
                have lR1_ := lt_of_row hR.hr
                have lD1_ := lt_of_row hR.hd
                have l1_rP := lt_of_row rP
                have l1_rQ := lt_of_row rQ
                have lz_ := lt_of_row rY
                refine e_world_op (.pointer (some ⟨q57.heap.size, 0, none⟩)) (q57.alloc (.cells #[.int .u64 0, .int .u64 0, .int .u64 0, .int .u64 0, .int .u64 0, .int .u64 0, .int .u64 0, .int .u64 0, .int .u64 0, .int .u64 0, .int .u64 0, .int .u64 0, .int .u64 0, .int .u64 0, .int .u64 0, .int .u64 0] 30)) (by kernel_rfl) ?_
                have hb_ : Below q57.heap.size q57 (q57.alloc (.cells #[.int .u64 0, .int .u64 0, .int .u64 0, .int .u64 0, .int .u64 0, .int .u64 0, .int .u64 0, .int .u64 0, .int .u64 0, .int .u64 0, .int .u64 0, .int .u64 0, .int .u64 0, .int .u64 0, .int .u64 0, .int .u64 0] 30)) := (Below.refl _ _).alloc (Nat.le_refl _) _
                have sz_g60 : w.heap.size ≤ q57.heap.size := hw.size
                have lt_ro_g60 := lt_of_row ro
                have lt_rP_g60 := lt_of_row rP
                have lt_rQ_g60 := lt_of_row rQ
                have lt_rY_g60 := lt_of_row rY
                have rX := hp1_0 q57 (.cells #[.int .u64 0, .int .u64 0, .int .u64 0, .int .u64 0, .int .u64 0, .int .u64 0, .int .u64 0, .int .u64 0, .int .u64 0, .int .u64 0, .int .u64 0, .int .u64 0, .int .u64 0, .int .u64 0, .int .u64 0, .int .u64 0] 30)
                replace ro := keep hb_ ro
                replace rP := keep hb_ rP
                replace rQ := keep hb_ rQ
                replace rY := keep hb_ rY
                replace hR := hR.keep hb_
                replace f4 := f4.below hb_
                replace hw := Below.after hw hb_
                clear hb_
                refine hK_ _ _ (⟨ro, hR.hd⟩) ?_
                simp only [Act.put, List.getElem_toArray, List.getElem_cons_succ, List.getElem_cons_zero, List.setIfInBounds_toArray, List.set_cons_succ, List.set_cons_zero]
                clear hK_
                generalize q57.alloc (.cells #[.int .u64 0, .int .u64 0, .int .u64 0, .int .u64 0, .int .u64 0, .int .u64 0, .int .u64 0, .int .u64 0, .int .u64 0, .int .u64 0, .int .u64 0, .int .u64 0, .int .u64 0, .int .u64 0, .int .u64 0, .int .u64 0] 30) = q59 at *
                generalize q57.heap.size = g60 at *
                refine eH_one (k := 14) (fuel := 1) (by kernel_rfl) rfl (by kernel_rfl) (fun K_ hK_ => ?_)
                refine wp_store_row 30 _ _ rfl (g60) (rd (XP % prm)) rfl rfl 30 _ rX (rd_info _) rfl (rd_one _) ?_
                replace ro := (setRow_other q59 (g60) (gO) (rd (XP % prm)) (by omega)).trans ro
                replace rY := (setRow_other q59 (g60) (g58) (rd (XP % prm)) (by omega)).trans rY
                replace rP := (setRow_other q59 (g60) (gP) (rd (XP % prm)) (by omega)).trans rP
                replace rQ := (setRow_other q59 (g60) (gQ) (rd (XP % prm)) (by omega)).trans rQ
                replace rX := setRow_heap q59 (g60) _ (rd (XP % prm)) _ _ rX
                replace hR := hR.other (g := g60) (by omega) (by omega) (rd (XP % prm))
                replace hw := below_setRow hw (show w.heap.size ≤ g60 by omega) (rd (XP % prm))
                replace f4 := f4.setRow (show 1 < g60 by omega) (rd (XP % prm))
                refine hK_ _ _ (⟨ro, hR.hd⟩) ?_
                simp only [Act.put]
                clear hK_
                generalize q59.setRow (g60) (rd (XP % prm)) = q61 at *
                refine eH_one (k := 15) (fuel := 0) (by kernel_rfl) rfl (by kernel_rfl) (fun K_ hK_ => ?_)
                refine wp_store_row 30 _ _ rfl (g58) (rd (XQ % prm)) rfl rfl 30 _ rY (rd_info _) rfl (rd_one _) ?_
                replace ro := (setRow_other q61 (g58) (gO) (rd (XQ % prm)) (by omega)).trans ro
                replace rX := (setRow_other q61 (g58) (g60) (rd (XQ % prm)) (by omega)).trans rX
                replace rP := (setRow_other q61 (g58) (gP) (rd (XQ % prm)) (by omega)).trans rP
                replace rQ := (setRow_other q61 (g58) (gQ) (rd (XQ % prm)) (by omega)).trans rQ
                replace rY := setRow_heap q61 (g58) _ (rd (XQ % prm)) _ _ rY
                replace hR := hR.other (g := g58) (by omega) (by omega) (rd (XQ % prm))
                replace hw := below_setRow hw (show w.heap.size ≤ g58 by omega) (rd (XQ % prm))
                replace f4 := f4.setRow (show 1 < g58 by omega) (rd (XQ % prm))
                refine hK_ _ _ (⟨ro, hR.hd⟩) ?_
                simp only [Act.put]
                clear hK_
                generalize q61.setRow (g58) (rd (XQ % prm)) = q62 at *
                refine wpAnyH_done (by kernel_rfl) ?_ _
                refine NoPanic.normal ?_
                exact hT_ g60 g58 q62 ⟨ro, hR, hw, f4, by omega, by omega, by omega, rX, rY, rP, by omega, by omega, rQ, by omega, by omega⟩
            · have lO0_ := lt_of_row ro
              have lR0_ := lt_of_row hR.hr
              have lD0_ := lt_of_row hR.hd
              have l0_rP := lt_of_row rP
              have l0_rQ := lt_of_row rQ
              refine e_world_op (.pointer (some ⟨y10d.heap.size, 0, none⟩)) (y10d.alloc (.cells #[.int .u64 0, .int .u64 0, .int .u64 0, .int .u64 0, .int .u64 0, .int .u64 0, .int .u64 0, .int .u64 0, .int .u64 0, .int .u64 0, .int .u64 0, .int .u64 0, .int .u64 0, .int .u64 0, .int .u64 0, .int .u64 0] 30)) (by kernel_rfl) ?_
              have hb_ : Below y10d.heap.size y10d (y10d.alloc (.cells #[.int .u64 0, .int .u64 0, .int .u64 0, .int .u64 0, .int .u64 0, .int .u64 0, .int .u64 0, .int .u64 0, .int .u64 0, .int .u64 0, .int .u64 0, .int .u64 0, .int .u64 0, .int .u64 0, .int .u64 0, .int .u64 0] 30)) := (Below.refl _ _).alloc (Nat.le_refl _) _
              have sz_g64 : w.heap.size ≤ y10d.heap.size := hw.size
              have lt_ro_g64 := lt_of_row ro
              have lt_rP_g64 := lt_of_row rP
              have lt_rQ_g64 := lt_of_row rQ
              have rX := hp1_0 y10d (.cells #[.int .u64 0, .int .u64 0, .int .u64 0, .int .u64 0, .int .u64 0, .int .u64 0, .int .u64 0, .int .u64 0, .int .u64 0, .int .u64 0, .int .u64 0, .int .u64 0, .int .u64 0, .int .u64 0, .int .u64 0, .int .u64 0] 30)
              replace ro := keep hb_ ro
              replace rP := keep hb_ rP
              replace rQ := keep hb_ rQ
              replace hR := hR.keep hb_
              replace f4 := f4.below hb_
              replace hw := Below.after hw hb_
              clear hb_
              refine hK_ _ _ (⟨ro, hR.hd⟩) ?_
              simp only [Act.put, List.getElem_toArray, List.getElem_cons_succ, List.getElem_cons_zero, List.setIfInBounds_toArray, List.set_cons_succ, List.set_cons_zero]
              clear hK_
              generalize y10d.alloc (.cells #[.int .u64 0, .int .u64 0, .int .u64 0, .int .u64 0, .int .u64 0, .int .u64 0, .int .u64 0, .int .u64 0, .int .u64 0, .int .u64 0, .int .u64 0, .int .u64 0, .int .u64 0, .int .u64 0, .int .u64 0, .int .u64 0] 30) = q63 at *
              generalize y10d.heap.size = g64 at *
              refine eH_two (j := 8) (k := 13) (fuel := 6) (by kernel_rfl) rfl rfl (by kernel_rfl) (by kernel_rfl) (fun K_ hK_ => ?_) (fun K_ hK_ => ?_)
              · refine wp_call_ex (f := 6) (by kernel_rfl) (ex1e (cR.at _)) (fun v_ q65 hX_ => ?_)
                obtain ⟨rfl, hb_⟩ := hX_
                replace ro := keep hb_ ro
                replace rP := keep hb_ rP
                replace rQ := keep hb_ rQ
                replace rX := keep hb_ rX
                replace hR := hR.keep hb_
                replace f4 := f4.below hb_
                replace hw := Below.after hw hb_
                clear hb_
                refine hK_ _ _ (⟨ro, hR.hd⟩) ?_
                simp only [Act.put, List.getElem_toArray, List.getElem_cons_succ, List.getElem_cons_zero, List.setIfInBounds_toArray, List.set_cons_succ, List.set_cons_zero]
                clear hK_
                refine wpAnyH_take (i := 9) (v := ?v71) rfl (by kernel_rfl) (by kernel_rfl) (by kernel_rfl) (fun _ _ _ h => h) (Or.inl ⟨by rfl, ?y71⟩) (⟨ro, hR.hd⟩) ?r71
                case y71 =>
                  intro w_ hS_
                  go_simp
                  try with_reducible rfl
                simp only [Act.put, List.getElem_toArray, List.getElem_cons_succ, List.getElem_cons_zero, List.setIfInBounds_toArray, List.set_cons_succ, List.set_cons_zero]
                refine wpAnyH_take (i := 10) (v := ?v72) rfl (by kernel_rfl) (by kernel_rfl) (by kernel_rfl) (fun _ _ _ h => h) (Or.inl ⟨by rfl, ?y72⟩) (⟨ro, hR.hd⟩) ?r72
                case y72 =>
                  intro w_ hS_
                  go_simp
                  try with_reducible rfl
                simp only [Act.put, List.getElem_toArray, List.getElem_cons_succ, List.getElem_cons_zero, List.setIfInBounds_toArray, List.set_cons_succ, List.set_cons_zero]
                refine wpAnyH_take (i := 11) (v := ?v73) rfl (by kernel_rfl) (by kernel_rfl) (by kernel_rfl) (fun _ _ _ h => h) (Or.inl ⟨by rfl, ?y73⟩) (⟨ro, hR.hd⟩) ?r73
                case y73 =>
                  intro w_ hS_
                  go_simp
                  try with_reducible rfl
                simp only [Act.put, List.getElem_toArray, List.getElem_cons_succ, List.getElem_cons_zero, List.setIfInBounds_toArray, List.set_cons_succ, List.set_cons_zero]
                refine eH_one (k := 13) (fuel := 2) (by kernel_rfl) rfl (by kernel_rfl) (fun K_ hK_ => ?_)
                have lO1_ := lt_of_row ro
                have lR1_ := lt_of_row hR.hr
                have lD1_ := lt_of_row hR.hd
                have l1_rP := lt_of_row rP
                have l1_rQ := lt_of_row rQ
                have lz_ := lt_of_row rX
                refine e_world_op (.pointer (some ⟨q65.heap.size, 0, none⟩)) (q65.alloc (.cells #[.int .u64 0, .int .u64 0, .int .u64 0, .int .u64 0, .int .u64 0, .int .u64 0, .int .u64 0, .int .u64 0, .int .u64 0, .int .u64 0, .int .u64 0, .int .u64 0, .int .u64 0, .int .u64 0, .int .u64 0, .int .u64 0] 30)) (by kernel_rfl) ?_
                have hb_ : Below q65.heap.size q65 (q65.alloc (.cells #[.int .u64 0, .int .u64 0, .int .u64 0, .int .u64 0, .int .u64 0, .int .u64 0, .int .u64 0, .int .u64 0, .int .u64 0, .int .u64 0, .int .u64 0, .int .u64 0, .int .u64 0, .int .u64 0, .int .u64 0, .int .u64 0] 30)) := (Below.refl _ _).alloc (Nat.le_refl _) _
                have sz_g67 : w.heap.size ≤ q65.heap.size := hw.size
                have lt_ro_g67 := lt_of_row ro
                have lt_rP_g67 := lt_of_row rP
                have lt_rQ_g67 := lt_of_row rQ
                have lt_rX_g67 := lt_of_row rX
                have rY := hp1_0 q65 (.cells #[.int .u64 0, .int .u64 0, .int .u64 0, .int .u64 0, .int .u64 0, .int .u64 0, .int .u64 0, .int .u64 0, .int .u64 0, .int .u64 0, .int .u64 0, .int .u64 0, .int .u64 0, .int .u64 0, .int .u64 0, .int .u64 0] 30)
                replace ro := keep hb_ ro
                replace rP := keep hb_ rP
                replace rQ := keep hb_ rQ
                replace rX := keep hb_ rX
                replace hR := hR.keep hb_
                replace f4 := f4.below hb_
                replace hw := Below.after hw hb_
                clear hb_
                refine hK_ _ _ (⟨ro, hR.hd⟩) ?_
                simp only [Act.put, List.getElem_toArray, List.getElem_cons_succ, List.getElem_cons_zero, List.setIfInBounds_toArray, List.set_cons_succ, List.set_cons_zero]
                clear hK_
                generalize q65.alloc (.cells #[.int .u64 0, .int .u64 0, .int .u64 0, .int .u64 0, .int .u64 0, .int .u64 0, .int .u64 0, .int .u64 0, .int .u64 0, .int .u64 0, .int .u64 0, .int .u64 0, .int .u64 0, .int .u64 0, .int .u64 0, .int .u64 0] 30) = q66 at *
                generalize q65.heap.size = g67 at *
                refine eH_one (k := 14) (fuel := 1) (by kernel_rfl) rfl (by kernel_rfl) (fun K_ hK_ => ?_)
                refine wp_store_row 30 _ _ rfl (g64) (rd (XP % prm)) rfl rfl 30 _ rX (rd_info _) rfl (rd_one _) ?_
                replace ro := (setRow_other q66 (g64) (gO) (rd (XP % prm)) (by omega)).trans ro
                replace rY := (setRow_other q66 (g64) (g67) (rd (XP % prm)) (by omega)).trans rY
                replace rP := (setRow_other q66 (g64) (gP) (rd (XP % prm)) (by omega)).trans rP
                replace rQ := (setRow_other q66 (g64) (gQ) (rd (XP % prm)) (by omega)).trans rQ
                replace rX := setRow_heap q66 (g64) _ (rd (XP % prm)) _ _ rX
                replace hR := hR.other (g := g64) (by omega) (by omega) (rd (XP % prm))
                replace hw := below_setRow hw (show w.heap.size ≤ g64 by omega) (rd (XP % prm))
                replace f4 := f4.setRow (show 1 < g64 by omega) (rd (XP % prm))
                refine hK_ _ _ (⟨ro, hR.hd⟩) ?_
                simp only [Act.put]
                clear hK_
                generalize q66.setRow (g64) (rd (XP % prm)) = q68 at *
                refine eH_one (k := 15) (fuel := 0) (by kernel_rfl) rfl (by kernel_rfl) (fun K_ hK_ => ?_)
                refine wp_store_row 30 _ _ rfl (g67) (rd (XQ % prm)) rfl rfl 30 _ rY (rd_info _) rfl (rd_one _) ?_
                replace ro := (setRow_other q68 (g67) (gO) (rd (XQ % prm)) (by omega)).trans ro
                replace rX := (setRow_other q68 (g67) (g64) (rd (XQ % prm)) (by omega)).trans rX
                replace rP := (setRow_other q68 (g67) (gP) (rd (XQ % prm)) (by omega)).trans rP
                replace rQ := (setRow_other q68 (g67) (gQ) (rd (XQ % prm)) (by omega)).trans rQ
                replace rY := setRow_heap q68 (g67) _ (rd (XQ % prm)) _ _ rY
                replace hR := hR.other (g := g67) (by omega) (by omega) (rd (XQ % prm))
                replace hw := below_setRow hw (show w.heap.size ≤ g67 by omega) (rd (XQ % prm))
                replace f4 := f4.setRow (show 1 < g67 by omega) (rd (XQ % prm))
                refine hK_ _ _ (⟨ro, hR.hd⟩) ?_
                simp only [Act.put]
                clear hK_
                generalize q68.setRow (g67) (rd (XQ % prm)) = q69 at *
                refine wpAnyH_done (by kernel_rfl) ?_ _
                refine NoPanic.normal ?_
                exact hT_ g64 g67 q69 ⟨ro, hR, hw, f4, by omega, by omega, by omega, rX, rY, rP, by omega, by omega, rQ, by omega, by omega⟩
              · have lO1_ := lt_of_row ro
                have lR1_ := lt_of_row hR.hr
                have lD1_ := lt_of_row hR.hd
                have l1_rP := lt_of_row rP
                have l1_rQ := lt_of_row rQ
                have lz_ := lt_of_row rX
                refine e_world_op (.pointer (some ⟨q63.heap.size, 0, none⟩)) (q63.alloc (.cells #[.int .u64 0, .int .u64 0, .int .u64 0, .int .u64 0, .int .u64 0, .int .u64 0, .int .u64 0, .int .u64 0, .int .u64 0, .int .u64 0, .int .u64 0, .int .u64 0, .int .u64 0, .int .u64 0, .int .u64 0, .int .u64 0] 30)) (by kernel_rfl) ?_
                have hb_ : Below q63.heap.size q63 (q63.alloc (.cells #[.int .u64 0, .int .u64 0, .int .u64 0, .int .u64 0, .int .u64 0, .int .u64 0, .int .u64 0, .int .u64 0, .int .u64 0, .int .u64 0, .int .u64 0, .int .u64 0, .int .u64 0, .int .u64 0, .int .u64 0, .int .u64 0] 30)) := (Below.refl _ _).alloc (Nat.le_refl _) _
                have sz_g71 : w.heap.size ≤ q63.heap.size := hw.size
                have lt_ro_g71 := lt_of_row ro
                have lt_rP_g71 := lt_of_row rP
                have lt_rQ_g71 := lt_of_row rQ
                have lt_rX_g71 := lt_of_row rX
                have rY := hp1_0 q63 (.cells #[.int .u64 0, .int .u64 0, .int .u64 0, .int .u64 0, .int .u64 0, .int .u64 0, .int .u64 0, .int .u64 0, .int .u64 0, .int .u64 0, .int .u64 0, .int .u64 0, .int .u64 0, .int .u64 0, .int .u64 0, .int .u64 0] 30)
                replace ro := keep hb_ ro
                replace rP := keep hb_ rP
                replace rQ := keep hb_ rQ
                replace rX := keep hb_ rX
                replace hR := hR.keep hb_
                replace f4 := f4.below hb_
                replace hw := Below.after hw hb_
                clear hb_
                refine hK_ _ _ (⟨ro, hR.hd⟩) ?_
                simp only [Act.put, List.getElem_toArray, List.getElem_cons_succ, List.getElem_cons_zero, List.setIfInBounds_toArray, List.set_cons_succ, List.set_cons_zero]
                clear hK_
                generalize q63.alloc (.cells #[.int .u64 0, .int .u64 0, .int .u64 0, .int .u64 0, .int .u64 0, .int .u64 0, .int .u64 0, .int .u64 0, .int .u64 0, .int .u64 0, .int .u64 0, .int .u64 0, .int .u64 0, .int .u64 0, .int .u64 0, .int .u64 0] 30) = q70 at *
                generalize q63.heap.size = g71 at *
                refine eH_one (k := 8) (fuel := 5) (by kernel_rfl) rfl (by kernel_rfl) (fun K_ hK_ => ?_)
                refine wp_call_ex (f := 6) (by kernel_rfl) (ex1e (cR.at _)) (fun v_ q72 hX_ => ?_)
                obtain ⟨rfl, hb_⟩ := hX_
                replace ro := keep hb_ ro
                replace rP := keep hb_ rP
                replace rQ := keep hb_ rQ
                replace rX := keep hb_ rX
                replace rY := keep hb_ rY
                replace hR := hR.keep hb_
                replace f4 := f4.below hb_
                replace hw := Below.after hw hb_
                clear hb_
                refine hK_ _ _ (⟨ro, hR.hd⟩) ?_
                simp only [Act.put, List.getElem_toArray, List.getElem_cons_succ, List.getElem_cons_zero, List.setIfInBounds_toArray, List.set_cons_succ, List.set_cons_zero]
                clear hK_
                refine wpAnyH_take (i := 9) (v := ?v74) rfl (by kernel_rfl) (by kernel_rfl) (by kernel_rfl) (fun _ _ _ h => h) (Or.inl ⟨by rfl, ?y74⟩) (⟨ro, hR.hd⟩) ?r74
                case y74 =>
                  intro w_ hS_
                  go_simp
                  try with_reducible rfl
                simp only [Act.put, List.getElem_toArray, List.getElem_cons_succ, List.getElem_cons_zero, List.setIfInBounds_toArray, List.set_cons_succ, List.set_cons_zero]
                refine wpAnyH_take (i := 10) (v := ?v75) rfl (by kernel_rfl) (by kernel_rfl) (by kernel_rfl) (fun _ _ _ h => h) (Or.inl ⟨by rfl, ?y75⟩) (⟨ro, hR.hd⟩) ?r75
                case y75 =>
                  intro w_ hS_
                  go_simp
                  try with_reducible rfl
                simp only [Act.put, List.getElem_toArray, List.getElem_cons_succ, List.getElem_cons_zero, List.setIfInBounds_toArray, List.set_cons_succ, List.set_cons_zero]
                refine wpAnyH_take (i := 11) (v := ?v76) rfl (by kernel_rfl) (by kernel_rfl) (by kernel_rfl) (fun _ _ _ h => h) (Or.inl ⟨by rfl, ?y76⟩) (⟨ro, hR.hd⟩) ?r76
                case y76 =>
                  intro w_ hS_
                  go_simp
                  try with_reducible rfl
                simp only [Act.put, List.getElem_toArray, List.getElem_cons_succ, List.getElem_cons_zero, List.setIfInBounds_toArray, List.set_cons_succ, List.set_cons_zero]
                refine eH_one (k := 14) (fuel := 1) (by kernel_rfl) rfl (by kernel_rfl) (fun K_ hK_ => ?_)
                refine wp_store_row 30 _ _ rfl (g64) (rd (XP % prm)) rfl rfl 30 _ rX (rd_info _) rfl (rd_one _) ?_
                replace ro := (setRow_other q72 (g64) (gO) (rd (XP % prm)) (by omega)).trans ro
                replace rY := (setRow_other q72 (g64) (g71) (rd (XP % prm)) (by omega)).trans rY
                replace rP := (setRow_other q72 (g64) (gP) (rd (XP % prm)) (by omega)).trans rP
                replace rQ := (setRow_other q72 (g64) (gQ) (rd (XP % prm)) (by omega)).trans rQ
                replace rX := setRow_heap q72 (g64) _ (rd (XP % prm)) _ _ rX
                replace hR := hR.other (g := g64) (by omega) (by omega) (rd (XP % prm))
                replace hw := below_setRow hw (show w.heap.size ≤ g64 by omega) (rd (XP % prm))
                replace f4 := f4.setRow (show 1 < g64 by omega) (rd (XP % prm))
                refine hK_ _ _ (⟨ro, hR.hd⟩) ?_
                simp only [Act.put]
                clear hK_
                generalize q72.setRow (g64) (rd (XP % prm)) = q73 at *
                refine eH_one (k := 15) (fuel := 0) (by kernel_rfl) rfl (by kernel_rfl) (fun K_ hK_ => ?_)
                refine wp_store_row 30 _ _ rfl (g71) (rd (XQ % prm)) rfl rfl 30 _ rY (rd_info _) rfl (rd_one _) ?_
                replace ro := (setRow_other q73 (g71) (gO) (rd (XQ % prm)) (by omega)).trans ro
                replace rX := (setRow_other q73 (g71) (g64) (rd (XQ % prm)) (by omega)).trans rX
                replace rP := (setRow_other q73 (g71) (gP) (rd (XQ % prm)) (by omega)).trans rP
                replace rQ := (setRow_other q73 (g71) (gQ) (rd (XQ % prm)) (by omega)).trans rQ
                replace rY := setRow_heap q73 (g71) _ (rd (XQ % prm)) _ _ rY
                replace hR := hR.other (g := g71) (by omega) (by omega) (rd (XQ % prm))
                replace hw := below_setRow hw (show w.heap.size ≤ g71 by omega) (rd (XQ % prm))
                replace f4 := f4.setRow (show 1 < g71 by omega) (rd (XQ % prm))
                refine hK_ _ _ (⟨ro, hR.hd⟩) ?_
                simp only [Act.put]
                clear hK_
                generalize q73.setRow (g71) (rd (XQ % prm)) = q74 at *
                refine wpAnyH_done (by kernel_rfl) ?_ _
                refine NoPanic.normal ?_
                exact hT_ g64 g71 q74 ⟨ro, hR, hw, f4, by omega, by omega, by omega, rX, rY, rP, by omega, by omega, rQ, by omega, by omega⟩
            · have lO0_ := lt_of_row ro
              have lR0_ := lt_of_row hR.hr
              have lD0_ := lt_of_row hR.hd
              have l0_rP := lt_of_row rP
              have l0_rQ := lt_of_row rQ
              refine e_world_op (.pointer (some ⟨y10d.heap.size, 0, none⟩)) (y10d.alloc (.cells #[.int .u64 0, .int .u64 0, .int .u64 0, .int .u64 0, .int .u64 0, .int .u64 0, .int .u64 0, .int .u64 0, .int .u64 0, .int .u64 0, .int .u64 0, .int .u64 0, .int .u64 0, .int .u64 0, .int .u64 0, .int .u64 0] 30)) (by kernel_rfl) ?_
              have hb_ : Below y10d.heap.size y10d (y10d.alloc (.cells #[.int .u64 0, .int .u64 0, .int .u64 0, .int .u64 0, .int .u64 0, .int .u64 0, .int .u64 0, .int .u64 0, .int .u64 0, .int .u64 0, .int .u64 0, .int .u64 0, .int .u64 0, .int .u64 0, .int .u64 0, .int .u64 0] 30)) := (Below.refl _ _).alloc (Nat.le_refl _) _
              have sz_g76 : w.heap.size ≤ y10d.heap.size := hw.size
              have lt_ro_g76 := lt_of_row ro
              have lt_rP_g76 := lt_of_row rP
              have lt_rQ_g76 := lt_of_row rQ
              have rY := hp1_0 y10d (.cells #[.int .u64 0, .int .u64 0, .int .u64 0, .int .u64 0, .int .u64 0, .int .u64 0, .int .u64 0, .int .u64 0, .int .u64 0, .int .u64 0, .int .u64 0, .int .u64 0, .int .u64 0, .int .u64 0, .int .u64 0, .int .u64 0] 30)
              replace ro := keep hb_ ro
              replace rP := keep hb_ rP
              replace rQ := keep hb_ rQ
              replace hR := hR.keep hb_
              replace f4 := f4.below hb_
              replace hw := Below.after hw hb_
              clear hb_
              refine hK_ _ _ (⟨ro, hR.hd⟩) ?_
              simp only [Act.put, List.getElem_toArray, List.getElem_cons_succ, List.getElem_cons_zero, List.setIfInBounds_toArray, List.set_cons_succ, List.set_cons_zero]
              clear hK_
              generalize y10d.alloc (.cells #[.int .u64 0, .int .u64 0, .int .u64 0, .int .u64 0, .int .u64 0, .int .u64 0, .int .u64 0, .int .u64 0, .int .u64 0, .int .u64 0, .int .u64 0, .int .u64 0, .int .u64 0, .int .u64 0, .int .u64 0, .int .u64 0] 30) = q75 at *
              generalize y10d.heap.size = g76 at *
              refine eH_two (j := 8) (k := 12) (fuel := 6) (by kernel_rfl) rfl rfl (by kernel_rfl) (by kernel_rfl) (fun K_ hK_ => ?_) (fun K_ hK_ => ?_)
              · refine wp_call_ex (f := 6) (by kernel_rfl) (ex1e (cR.at _)) (fun v_ q77 hX_ => ?_)
                obtain ⟨rfl, hb_⟩ := hX_
                replace ro := keep hb_ ro
                replace rP := keep hb_ rP
                replace rQ := keep hb_ rQ
                replace rY := keep hb_ rY
                replace hR := hR.keep hb_
                replace f4 := f4.below hb_
                replace hw := Below.after hw hb_
                clear hb_
                refine hK_ _ _ (⟨ro, hR.hd⟩) ?_
                simp only [Act.put, List.getElem_toArray, List.getElem_cons_succ, List.getElem_cons_zero, List.setIfInBounds_toArray, List.set_cons_succ, List.set_cons_zero]
                clear hK_
                refine wpAnyH_take (i := 9) (v := ?v77) rfl (by kernel_rfl) (by kernel_rfl) (by kernel_rfl) (fun _ _ _ h => h) (Or.inl ⟨by rfl, ?y77⟩) (⟨ro, hR.hd⟩) ?r77
                case y77 =>
                  intro w_ hS_
                  go_simp
                  try with_reducible rfl
                simp only [Act.put, List.getElem_toArray, List.getElem_cons_succ, List.getElem_cons_zero, List.setIfInBounds_toArray, List.set_cons_succ, List.set_cons_zero]
                refine wpAnyH_take (i := 10) (v := ?v78) rfl (by kernel_rfl) (by kernel_rfl) (by kernel_rfl) (fun _ _ _ h => h) (Or.inl ⟨by rfl, ?y78⟩) (⟨ro, hR.hd⟩) ?r78
                case y78 =>
                  intro w_ hS_
                  go_simp
                  try with_reducible rfl
                simp only [Act.put, List.getElem_toArray, List.getElem_cons_succ, List.getElem_cons_zero, List.setIfInBounds_toArray, List.set_cons_succ, List.set_cons_zero]
                refine wpAnyH_take (i := 11) (v := ?v79) rfl (by kernel_rfl) (by kernel_rfl) (by kernel_rfl) (fun _ _ _ h => h) (Or.inl ⟨by rfl, ?y79⟩) (⟨ro, hR.hd⟩) ?r79
                case y79 =>
                  intro w_ hS_
                  go_simp
                  try with_reducible rfl
                simp only [Act.put, List.getElem_toArray, List.getElem_cons_succ, List.getElem_cons_zero, List.setIfInBounds_toArray, List.set_cons_succ, List.set_cons_zero]
                refine eH_one (k := 12) (fuel := 2) (by kernel_rfl) rfl (by kernel_rfl) (fun K_ hK_ => ?_)
                have lO1_ := lt_of_row ro
                have lR1_ := lt_of_row hR.hr
                have lD1_ := lt_of_row hR.hd
                have l1_rP := lt_of_row rP
                have l1_rQ := lt_of_row rQ
                have lz_ := lt_of_row rY
                refine e_world_op (.pointer (some ⟨q77.heap.size, 0, none⟩)) (q77.alloc (.cells #[.int .u64 0, .int .u64 0, .int .u64 0, .int .u64 0, .int .u64 0, .int .u64 0, .int .u64 0, .int .u64 0, .int .u64 0, .int .u64 0, .int .u64 0, .int .u64 0, .int .u64 0, .int .u64 0, .int .u64 0, .int .u64 0] 30)) (by kernel_rfl) ?_
                have hb_ : Below q77.heap.size q77 (q77.alloc (.cells #[.int .u64 0, .int .u64 0, .int .u64 0, .int .u64 0, .int .u64 0, .int .u64 0, .int .u64 0, .int .u64 0, .int .u64 0, .int .u64 0, .int .u64 0, .int .u64 0, .int .u64 0, .int .u64 0, .int .u64 0, .int .u64 0] 30)) := (Below.refl _ _).alloc (Nat.le_refl _) _
                have sz_g79 : w.heap.size ≤ q77.heap.size := hw.size
                have lt_ro_g79 := lt_of_row ro
                have lt_rP_g79 := lt_of_row rP
                have lt_rQ_g79 := lt_of_row rQ
                have lt_rY_g79 := lt_of_row rY
                have rX := hp1_0 q77 (.cells #[.int .u64 0, .int .u64 0, .int .u64 0, .int .u64 0, .int .u64 0, .int .u64 0, .int .u64 0, .int .u64 0, .int .u64 0, .int .u64 0, .int .u64 0, .int .u64 0, .int .u64 0, .int .u64 0, .int .u64 0, .int .u64 0] 30)
                replace ro := keep hb_ ro
                replace rP := keep hb_ rP
                replace rQ := keep hb_ rQ
                replace rY := keep hb_ rY
                replace hR := hR.keep hb_
                replace f4 := f4.below hb_
                replace hw := Below.after hw hb_
                clear hb_
                refine hK_ _ _ (⟨ro, hR.hd⟩) ?_
                simp only [Act.put, List.getElem_toArray, List.getElem_cons_succ, List.getElem_cons_zero, List.setIfInBounds_toArray, List.set_cons_succ, List.set_cons_zero]
                clear hK_
                generalize q77.alloc (.cells #[.int .u64 0, .int .u64 0, .int .u64 0, .int .u64 0, .int .u64 0, .int .u64 0, .int .u64 0, .int .u64 0, .int .u64 0, .int .u64 0, .int .u64 0, .int .u64 0, .int .u64 0, .int .u64 0, .int .u64 0, .int .u64 0] 30) = q78 at *
                generalize q77.heap.size = g79 at *
                refine eH_one (k := 14) (fuel := 1) (by kernel_rfl) rfl (by kernel_rfl) (fun K_ hK_ => ?_)
                refine wp_store_row 30 _ _ rfl (g79) (rd (XP % prm)) rfl rfl 30 _ rX (rd_info _) rfl (rd_one _) ?_
                replace ro := (setRow_other q78 (g79) (gO) (rd (XP % prm)) (by omega)).trans ro
                replace rY := (setRow_other q78 (g79) (g76) (rd (XP % prm)) (by omega)).trans rY
                replace rP := (setRow_other q78 (g79) (gP) (rd (XP % prm)) (by omega)).trans rP
                replace rQ := (setRow_other q78 (g79) (gQ) (rd (XP % prm)) (by omega)).trans rQ
                replace rX := setRow_heap q78 (g79) _ (rd (XP % prm)) _ _ rX
                replace hR := hR.other (g := g79) (by omega) (by omega) (rd (XP % prm))
                replace hw := below_setRow hw (show w.heap.size ≤ g79 by omega) (rd (XP % prm))
                replace f4 := f4.setRow (show 1 < g79 by omega) (rd (XP % prm))
                refine hK_ _ _ (⟨ro, hR.hd⟩) ?_
                simp only [Act.put]
                clear hK_
                generalize q78.setRow (g79) (rd (XP % prm)) = q80 at *
                refine eH_one (k := 15) (fuel := 0) (by kernel_rfl) rfl (by kernel_rfl) (fun K_ hK_ => ?_)
                refine wp_store_row 30 _ _ rfl (g76) (rd (XQ % prm)) rfl rfl 30 _ rY (rd_info _) rfl (rd_one _) ?_
                replace ro := (setRow_other q80 (g76) (gO) (rd (XQ % prm)) (by omega)).trans ro
                replace rX := (setRow_other q80 (g76) (g79) (rd (XQ % prm)) (by omega)).trans rX
                replace rP := (setRow_other q80 (g76) (gP) (rd (XQ % prm)) (by omega)).trans rP
                replace rQ := (setRow_other q80 (g76) (gQ) (rd (XQ % prm)) (by omega)).trans rQ
                replace rY := setRow_heap q80 (g76) _ (rd (XQ % prm)) _ _ rY
                replace hR := hR.other (g := g76) (by omega) (by omega) (rd (XQ % prm))
                replace hw := below_setRow hw (show w.heap.size ≤ g76 by omega) (rd (XQ % prm))
                replace f4 := f4.setRow (show 1 < g76 by omega) (rd (XQ % prm))
                refine hK_ _ _ (⟨ro, hR.hd⟩) ?_
                simp only [Act.put]
                clear hK_
                generalize q80.setRow (g76) (rd (XQ % prm)) = q81 at *
                refine wpAnyH_done (by kernel_rfl) ?_ _
                refine NoPanic.normal ?_
                exact hT_ g79 g76 q81 ⟨ro, hR, hw, f4, by omega, by omega, by omega, rX, rY, rP, by omega, by omega, rQ, by omega, by omega⟩
              · have lO1_ := lt_of_row ro
                have lR1_ := lt_of_row hR.hr
                have lD1_ := lt_of_row hR.hd
                have l1_rP := lt_of_row rP
                have l1_rQ := lt_of_row rQ
                have lz_ := lt_of_row rY
                refine e_world_op (.pointer (some ⟨q75.heap.size, 0, none⟩)) (q75.alloc (.cells #[.int .u64 0, .int .u64 0, .int .u64 0, .int .u64 0, .int .u64 0, .int .u64 0, .int .u64 0, .int .u64 0, .int .u64 0, .int .u64 0, .int .u64 0, .int .u64 0, .int .u64 0, .int .u64 0, .int .u64 0, .int .u64 0] 30)) (by kernel_rfl) ?_
                have hb_ : Below q75.heap.size q75 (q75.alloc (.cells #[.int .u64 0, .int .u64 0, .int .u64 0, .int .u64 0, .int .u64 0, .int .u64 0, .int .u64 0, .int .u64 0, .int .u64 0, .int .u64 0, .int .u64 0, .int .u64 0, .int .u64 0, .int .u64 0, .int .u64 0, .int .u64 0] 30)) := (Below.refl _ _).alloc (Nat.le_refl _) _
                have sz_g83 : w.heap.size ≤ q75.heap.size := hw.size
                have lt_ro_g83 := lt_of_row ro
                have lt_rP_g83 := lt_of_row rP
                have lt_rQ_g83 := lt_of_row rQ
                have lt_rY_g83 := lt_of_row rY
                have rX := hp1_0 q75 (.cells #[.int .u64 0, .int .u64 0, .int .u64 0, .int .u64 0, .int .u64 0, .int .u64 0, .int .u64 0, .int .u64 0, .int .u64 0, .int .u64 0, .int .u64 0, .int .u64 0, .int .u64 0, .int .u64 0, .int .u64 0, .int .u64 0] 30)
                replace ro := keep hb_ ro
                replace rP := keep hb_ rP
                replace rQ := keep hb_ rQ
                replace rY := keep hb_ rY
                replace hR := hR.keep hb_
                replace f4 := f4.below hb_
                replace hw := Below.after hw hb_
                clear hb_
                refine hK_ _ _ (⟨ro, hR.hd⟩) ?_
                simp only [Act.put, List.getElem_toArray, List.getElem_cons_succ, List.getElem_cons_zero, List.setIfInBounds_toArray, List.set_cons_succ, List.set_cons_zero]
                clear hK_
                generalize q75.alloc (.cells #[.int .u64 0, .int .u64 0, .int .u64 0, .int .u64 0, .int .u64 0, .int .u64 0, .int .u64 0, .int .u64 0, .int .u64 0, .int .u64 0, .int .u64 0, .int .u64 0, .int .u64 0, .int .u64 0, .int .u64 0, .int .u64 0] 30) = q82 at *
                generalize q75.heap.size = g83 at *
                refine eH_one (k := 8) (fuel := 5) (by kernel_rfl) rfl (by kernel_rfl) (fun K_ hK_ => ?_)
                refine wp_call_ex (f := 6) (by kernel_rfl) (ex1e (cR.at _)) (fun v_ q84 hX_ => ?_)
                obtain ⟨rfl, hb_⟩ := hX_
                replace ro := keep hb_ ro
                replace rP := keep hb_ rP
                replace rQ := keep hb_ rQ
                replace rY := keep hb_ rY
                replace rX := keep hb_ rX
                replace hR := hR.keep hb_
                replace f4 := f4.below hb_
                replace hw := Below.after hw hb_
                clear hb_
                refine hK_ _ _ (⟨ro, hR.hd⟩) ?_
                simp only [Act.put, List.getElem_toArray, List.getElem_cons_succ, List.getElem_cons_zero, List.setIfInBounds_toArray, List.set_cons_succ, List.set_cons_zero]
                clear hK_
                refine wpAnyH_take (i := 9) (v := ?v80) rfl (by kernel_rfl) (by kernel_rfl) (by kernel_rfl) (fun _ _ _ h => h) (Or.inl ⟨by rfl, ?y80⟩) (⟨ro, hR.hd⟩) ?r80
                case y80 =>
                  intro w_ hS_
                  go_simp
                  try with_reducible rfl
                simp only [Act.put, List.getElem_toArray, List.getElem_cons_succ, List.getElem_cons_zero, List.setIfInBounds_toArray, List.set_cons_succ, List.set_cons_zero]
                refine wpAnyH_take (i := 10) (v := ?v81) rfl (by kernel_rfl) (by kernel_rfl) (by kernel_rfl) (fun _ _ _ h => h) (Or.inl ⟨by rfl, ?y81⟩) (⟨ro, hR.hd⟩) ?r81
                case y81 =>
                  intro w_ hS_
                  go_simp
                  try with_reducible rfl
                simp only [Act.put, List.getElem_toArray, List.getElem_cons_succ, List.getElem_cons_zero, List.setIfInBounds_toArray, List.set_cons_succ, List.set_cons_zero]
                refine wpAnyH_take (i := 11) (v := ?v82) rfl (by kernel_rfl) (by kernel_rfl) (by kernel_rfl) (fun _ _ _ h => h) (Or.inl ⟨by rfl, ?y82⟩) (⟨ro, hR.hd⟩) ?r82
                case y82 =>
                  intro w_ hS_
                  go_simp
                  try with_reducible rfl
                simp only [Act.put, List.getElem_toArray, List.getElem_cons_succ, List.getElem_cons_zero, List.setIfInBounds_toArray, List.set_cons_succ, List.set_cons_zero]
                refine eH_one (k := 14) (fuel := 1) (by kernel_rfl) rfl (by kernel_rfl) (fun K_ hK_ => ?_)
                refine wp_store_row 30 _ _ rfl (g83) (rd (XP % prm)) rfl rfl 30 _ rX (rd_info _) rfl (rd_one _) ?_
                replace ro := (setRow_other q84 (g83) (gO) (rd (XP % prm)) (by omega)).trans ro
                replace rY := (setRow_other q84 (g83) (g76) (rd (XP % prm)) (by omega)).trans rY
                replace rP := (setRow_other q84 (g83) (gP) (rd (XP % prm)) (by omega)).trans rP
                replace rQ := (setRow_other q84 (g83) (gQ) (rd (XP % prm)) (by omega)).trans rQ
                replace rX := setRow_heap q84 (g83) _ (rd (XP % prm)) _ _ rX
                replace hR := hR.other (g := g83) (by omega) (by omega) (rd (XP % prm))
                replace hw := below_setRow hw (show w.heap.size ≤ g83 by omega) (rd (XP % prm))
                replace f4 := f4.setRow (show 1 < g83 by omega) (rd (XP % prm))
                refine hK_ _ _ (⟨ro, hR.hd⟩) ?_
                simp only [Act.put]
                clear hK_
                generalize q84.setRow (g83) (rd (XP % prm)) = q85 at *
                refine eH_one (k := 15) (fuel := 0) (by kernel_rfl) rfl (by kernel_rfl) (fun K_ hK_ => ?_)
                refine wp_store_row 30 _ _ rfl (g76) (rd (XQ % prm)) rfl rfl 30 _ rY (rd_info _) rfl (rd_one _) ?_
                replace ro := (setRow_other q85 (g76) (gO) (rd (XQ % prm)) (by omega)).trans ro
                replace rX := (setRow_other q85 (g76) (g83) (rd (XQ % prm)) (by omega)).trans rX
                replace rP := (setRow_other q85 (g76) (gP) (rd (XQ % prm)) (by omega)).trans rP
                replace rQ := (setRow_other q85 (g76) (gQ) (rd (XQ % prm)) (by omega)).trans rQ
                replace rY := setRow_heap q85 (g76) _ (rd (XQ % prm)) _ _ rY
                replace hR := hR.other (g := g76) (by omega) (by omega) (rd (XQ % prm))
                replace hw := below_setRow hw (show w.heap.size ≤ g76 by omega) (rd (XQ % prm))
                replace f4 := f4.setRow (show 1 < g76 by omega) (rd (XQ % prm))
                refine hK_ _ _ (⟨ro, hR.hd⟩) ?_
                simp only [Act.put]
                clear hK_
                generalize q85.setRow (g76) (rd (XQ % prm)) = q86 at *
                refine wpAnyH_done (by kernel_rfl) ?_ _
                refine NoPanic.normal ?_
                exact hT_ g83 g76 q86 ⟨ro, hR, hw, f4, by omega, by omega, by omega, rX, rY, rP, by omega, by omega, rQ, by omega, by omega⟩
          clear ro hR hw f4 rP rQ
          intro gX gY y10 hW_
          obtain ⟨ro, hR, hw, f4, lgX, lgY, ney10, rX, rY, rP, n1rP, n2rP, rQ, n1rQ, n2rQ⟩ := id hW_
          clear hW_
          go_upto_region 11 with (fail)
          clear pra pda prb pdb gra gxa grb gxb hra hrb cA cR
          have hP_PP := hp_
          have hbd : Below y10.heap.size y10 y10.drew := below_drN (Below.refl _ _) 1
          replace ro := keep hbd ro
          replace rP := keep hbd rP
          replace rQ := keep hbd rQ
          replace rX := keep hbd rX
          replace rY := keep hbd rY
          replace hR := hR.keep hbd
          replace f4 := f4.below hbd
          replace hw := Below.after hw hbd
          clear hbd
          refine wp_region_noPanic ?_
          refine wp_region_last 7 _ rfl rfl rfl (by kernel_rfl) (by kernel_rfl) (by kernel_rfl) ?_
          refine wpAny_of_held (S := fun W => W.heap[gP]? = some (.cells PP 26 (0, 0)) ∧ W.heap[gX]? = some (.cells (rd (XP % prm)) 30 (0, 0))) _ _ _ _ ?_
          dsimp only [List.set, idle]
          change wpAnyH _ _ _ _ _ _ _ _ (World.drew _)
          generalize y10.drew = vd11 at *
          refine wpAnyH_take (i := 0) (v := ?v83) rfl (by kernel_rfl) (by kernel_rfl) (by kernel_rfl) (fun _ _ _ h => h) (Or.inl ⟨by rfl, ?y83⟩) (⟨rP, rX⟩) ?r83
          case y83 =>
            intro w_ hS_
            go_simp
            try with_reducible rfl
          simp only [Act.put, List.getElem_toArray, List.getElem_cons_zero, List.setIfInBounds_toArray]
          refine wpAnyH_take (i := 1) (v := ?v84) rfl (by kernel_rfl) (by kernel_rfl) (by kernel_rfl) (fun _ _ _ h => h) (Or.inl ⟨by rfl, ?y84⟩) (⟨rP, rX⟩) ?r84
          case y84 =>
            intro w_ hS_
            go_simp
            try with_reducible rfl
          simp only [Act.put, List.getElem_toArray, List.getElem_cons_succ, List.getElem_cons_zero, List.setIfInBounds_toArray, List.set_cons_succ, List.set_cons_zero]
          refine wpAnyH_take (i := 2) (v := .agg PP) rfl (by kernel_rfl) (by kernel_rfl) (by kernel_rfl) (fun _ _ _ h => h) (Or.inl ⟨by rfl, ?y85⟩) (⟨rP, rX⟩) ?r85
          case y85 =>
            intro w_ hS_
            simp only [List.getElem_toArray, List.getElem_cons_succ, List.getElem_cons_zero]
            exact e_load_part 26 _ (by rfl) (gP) 0 (by rfl) 26 PP (0, 0) PP _ (hS_.1) (all_rowe _) Tryd.underlying26 rfl hp_.info
          simp only [Act.put, List.getElem_toArray, List.getElem_cons_succ, List.getElem_cons_zero, List.setIfInBounds_toArray, List.set_cons_succ, List.set_cons_zero]
          refine wpAnyH_take (i := 3) (v := .agg (rd (XP % prm))) rfl (by kernel_rfl) (by kernel_rfl) (by kernel_rfl) (fun _ _ _ h => h) (Or.inl ⟨by rfl, ?y86⟩) (⟨rP, rX⟩) ?r86
          case y86 =>
            intro w_ hS_
            simp only [List.getElem_toArray, List.getElem_cons_succ, List.getElem_cons_zero]
            exact e_load_part 30 _ (by rfl) (gX) 0 (by rfl) 30 (rd (XP % prm)) (0, 0) (rd (XP % prm)) _ (hS_.2) (all_rowe _) Tryd.underlying30 rfl (rd_info _)
          simp only [Act.put, List.getElem_toArray, List.getElem_cons_succ, List.getElem_cons_zero, List.setIfInBounds_toArray, List.set_cons_succ, List.set_cons_zero]
          refine wpAnyH_take (i := 4) (v := ?v87) rfl (by kernel_rfl) (by kernel_rfl) (by kernel_rfl) (fun _ _ _ h => h) (Or.inl ⟨by rfl, ?y87⟩) (⟨rP, rX⟩) ?r87
          case y87 =>
            intro w_ hS_
            go_simp
            try with_reducible rfl
          simp only [Act.put, List.getElem_toArray, List.getElem_cons_succ, List.getElem_cons_zero, List.setIfInBounds_toArray, List.set_cons_succ, List.set_cons_zero]
          refine eH_one (k := 5) (fuel := 2) (by kernel_rfl) rfl (by kernel_rfl) (fun K_ hK_ => ?_)
          have lR_ := lt_of_row hR.hr
          have lM_ := lt_of_row ro
          refine wp_store_mid 26 _ _ rfl w.heap.size (ia * 5) PP rfl rfl (there_of_row hR.hr (by rw [flat_size hR.sr, hR.lr, hp_.size]; omega)) hp_.info hp_.one ?_
          have hRo := hR
          replace ro := (heap_setCells_else (g := w.heap.size) (k := gO) (by omega) PP.toList (ia * 5) vd11).trans ro
          replace rP := (heap_setCells_else (g := w.heap.size) (k := gP) (by omega) PP.toList (ia * 5) vd11).trans rP
          replace rQ := (heap_setCells_else (g := w.heap.size) (k := gQ) (by omega) PP.toList (ia * 5) vd11).trans rQ
          replace rX := (heap_setCells_else (g := w.heap.size) (k := gX) (by omega) PP.toList (ia * 5) vd11).trans rX
          replace rY := (heap_setCells_else (g := w.heap.size) (k := gY) (by omega) PP.toList (ia * 5) vd11).trans rY
          have rD := (heap_setCells_else (g := w.heap.size) (k := w.heap.size + 1) (by omega) PP.toList (ia * 5) vd11).trans hR.hd
          replace hw := below_setCells5 (g := w.heap.size) (Nat.le_refl _) PP.toList (ia * 5) vd11 hw
          replace f4 := f4.belowN (n := w.heap.size) hz0 (below_setCells5 (g := w.heap.size) (Nat.le_refl _) PP.toList (ia * 5) vd11 (Below.refl _ _))
          refine hK_ _ _ (⟨rP, rX⟩) ?_
          simp only [Act.put]
          clear hK_
          refine wpAnyH_take (i := 6) (v := ?v88) rfl (by kernel_rfl) (by kernel_rfl) (by kernel_rfl) (fun _ _ _ h => h) (Or.inl ⟨by rfl, ?y88⟩) (⟨rP, rX⟩) ?r88
          case y88 =>
            intro w_ hS_
            go_simp
            try with_reducible rfl
          simp only [Act.put, List.getElem_toArray, List.getElem_cons_succ, List.getElem_cons_zero, List.setIfInBounds_toArray, List.set_cons_succ, List.set_cons_zero]
          refine eH_one (k := 7) (fuel := 0) (by kernel_rfl) rfl (by kernel_rfl) (fun K_ hK_ => ?_)
          refine wp_pure_op undef (by kernel_rfl) ?_
          refine hK_ _ _ (⟨rP, rX⟩) ?_
          simp only [Act.put]
          clear hK_
          refine wpAnyH_done (by kernel_rfl) ?_ _
          change wpList _ _ _ _ _ _
          refine wpList_store_mid rfl 30 _ _ rfl (w.heap.size + 1) (ia * 16) (rd (XP % prm)) rfl rfl (there_of_row rD (by rw [flat_size (dcs_size _), rd_size]; unfold dcs; rw [List.length_map, hRo.lx]; omega)) (rd_info _) (rd_one _) ?_
          refine NoPanic.normal ?_
          have hR := hRo.set (by omega) (show ia < 4 by omega) hP_PP
          rw [Nat.mul_comm 5 ia, Nat.mul_comm 16 ia] at hR
          replace ro := (heap_setCells_else (g := w.heap.size + 1) (k := gO) (by omega) (rd (XP % prm)).toList (ia * 16) (vd11.setCells w.heap.size (ia * 5) PP.toList)).trans ro
          replace rP := (heap_setCells_else (g := w.heap.size + 1) (k := gP) (by omega) (rd (XP % prm)).toList (ia * 16) (vd11.setCells w.heap.size (ia * 5) PP.toList)).trans rP
          replace rQ := (heap_setCells_else (g := w.heap.size + 1) (k := gQ) (by omega) (rd (XP % prm)).toList (ia * 16) (vd11.setCells w.heap.size (ia * 5) PP.toList)).trans rQ
          replace rX := (heap_setCells_else (g := w.heap.size + 1) (k := gX) (by omega) (rd (XP % prm)).toList (ia * 16) (vd11.setCells w.heap.size (ia * 5) PP.toList)).trans rX
          replace rY := (heap_setCells_else (g := w.heap.size + 1) (k := gY) (by omega) (rd (XP % prm)).toList (ia * 16) (vd11.setCells w.heap.size (ia * 5) PP.toList)).trans rY
          replace hw := below_setCells5 (g := w.heap.size + 1) (Nat.le_succ _) (rd (XP % prm)).toList (ia * 16) _ hw
          replace f4 := f4.belowN (n := w.heap.size) hz0 (below_setCells5 (g := w.heap.size + 1) (Nat.le_succ _) (rd (XP % prm)).toList (ia * 16) _ (Below.refl _ _))
          generalize ((vd11.setCells w.heap.size (ia * 5) PP.toList).setCells (w.heap.size + 1) (ia * 16) (rd (XP % prm)).toList) = vd11z at *
          clear rD hRo
          generalize rs.set ia PP = rs1 at *
          generalize xs.set ia XP = xs1 at *
          simp only [Act.put]
          go_upto_region 12 with (fail)
          have hP_QQ := hq_
          have hbd : Below vd11z.heap.size vd11z vd11z.drew := below_drN (Below.refl _ _) 1
          replace ro := keep hbd ro
          replace rQ := keep hbd rQ
          replace rY := keep hbd rY
          replace hR := hR.keep hbd
          replace f4 := f4.below hbd
          replace hw := Below.after hw hbd
          clear hbd
          refine wp_region_noPanic ?_
          refine wp_region_last 7 _ rfl rfl rfl (by kernel_rfl) (by kernel_rfl) (by kernel_rfl) ?_
          refine wpAny_of_held (S := fun W => W.heap[gQ]? = some (.cells QQ 26 (0, 0)) ∧ W.heap[gY]? = some (.cells (rd (XQ % prm)) 30 (0, 0))) _ _ _ _ ?_
          dsimp only [List.set, idle]
          change wpAnyH _ _ _ _ _ _ _ _ (World.drew _)
          generalize vd11z.drew = vd12 at *
          refine wpAnyH_take (i := 0) (v := ?v89) rfl (by kernel_rfl) (by kernel_rfl) (by kernel_rfl) (fun _ _ _ h => h) (Or.inl ⟨by rfl, ?y89⟩) (⟨rQ, rY⟩) ?r89
          case y89 =>
            intro w_ hS_
            go_simp
            try with_reducible rfl
          simp only [Act.put, List.getElem_toArray, List.getElem_cons_zero, List.setIfInBounds_toArray]
          refine wpAnyH_take (i := 1) (v := ?v90) rfl (by kernel_rfl) (by kernel_rfl) (by kernel_rfl) (fun _ _ _ h => h) (Or.inl ⟨by rfl, ?y90⟩) (⟨rQ, rY⟩) ?r90
          case y90 =>
            intro w_ hS_
            go_simp
            try with_reducible rfl
          simp only [Act.put, List.getElem_toArray, List.getElem_cons_succ, List.getElem_cons_zero, List.setIfInBounds_toArray, List.set_cons_succ, List.set_cons_zero]
          refine wpAnyH_take (i := 2) (v := .agg QQ) rfl (by kernel_rfl) (by kernel_rfl) (by kernel_rfl) (fun _ _ _ h => h) (Or.inl ⟨by rfl, ?y91⟩) (⟨rQ, rY⟩) ?r91
          case y91 =>
            intro w_ hS_
            simp only [List.getElem_toArray, List.getElem_cons_succ, List.getElem_cons_zero]
            exact e_load_part 26 _ (by rfl) (gQ) 0 (by rfl) 26 QQ (0, 0) QQ _ (hS_.1) (all_rowe _) Tryd.underlying26 rfl hq_.info
          simp only [Act.put, List.getElem_toArray, List.getElem_cons_succ, List.getElem_cons_zero, List.setIfInBounds_toArray, List.set_cons_succ, List.set_cons_zero]
          refine wpAnyH_take (i := 3) (v := .agg (rd (XQ % prm))) rfl (by kernel_rfl) (by kernel_rfl) (by kernel_rfl) (fun _ _ _ h => h) (Or.inl ⟨by rfl, ?y92⟩) (⟨rQ, rY⟩) ?r92
          case y92 =>
            intro w_ hS_
            simp only [List.getElem_toArray, List.getElem_cons_succ, List.getElem_cons_zero]
            exact e_load_part 30 _ (by rfl) (gY) 0 (by rfl) 30 (rd (XQ % prm)) (0, 0) (rd (XQ % prm)) _ (hS_.2) (all_rowe _) Tryd.underlying30 rfl (rd_info _)
          simp only [Act.put, List.getElem_toArray, List.getElem_cons_succ, List.getElem_cons_zero, List.setIfInBounds_toArray, List.set_cons_succ, List.set_cons_zero]
          refine wpAnyH_take (i := 4) (v := ?v93) rfl (by kernel_rfl) (by kernel_rfl) (by kernel_rfl) (fun _ _ _ h => h) (Or.inl ⟨by rfl, ?y93⟩) (⟨rQ, rY⟩) ?r93
          case y93 =>
            intro w_ hS_
            go_simp
            try with_reducible rfl
          simp only [Act.put, List.getElem_toArray, List.getElem_cons_succ, List.getElem_cons_zero, List.setIfInBounds_toArray, List.set_cons_succ, List.set_cons_zero]
          refine eH_one (k := 5) (fuel := 2) (by kernel_rfl) rfl (by kernel_rfl) (fun K_ hK_ => ?_)
          have lR_ := lt_of_row hR.hr
          have lM_ := lt_of_row ro
          refine wp_store_mid 26 _ _ rfl w.heap.size (ib * 5) QQ rfl rfl (there_of_row hR.hr (by rw [flat_size hR.sr, hR.lr, hq_.size]; omega)) hq_.info hq_.one ?_
          have hRo := hR
          replace ro := (heap_setCells_else (g := w.heap.size) (k := gO) (by omega) QQ.toList (ib * 5) vd12).trans ro
          replace rQ := (heap_setCells_else (g := w.heap.size) (k := gQ) (by omega) QQ.toList (ib * 5) vd12).trans rQ
          replace rY := (heap_setCells_else (g := w.heap.size) (k := gY) (by omega) QQ.toList (ib * 5) vd12).trans rY
          have rD := (heap_setCells_else (g := w.heap.size) (k := w.heap.size + 1) (by omega) QQ.toList (ib * 5) vd12).trans hR.hd
          replace hw := below_setCells5 (g := w.heap.size) (Nat.le_refl _) QQ.toList (ib * 5) vd12 hw
          replace f4 := f4.belowN (n := w.heap.size) hz0 (below_setCells5 (g := w.heap.size) (Nat.le_refl _) QQ.toList (ib * 5) vd12 (Below.refl _ _))
          refine hK_ _ _ (⟨rQ, rY⟩) ?_
          simp only [Act.put]
          clear hK_
          refine wpAnyH_take (i := 6) (v := ?v94) rfl (by kernel_rfl) (by kernel_rfl) (by kernel_rfl) (fun _ _ _ h => h) (Or.inl ⟨by rfl, ?y94⟩) (⟨rQ, rY⟩) ?r94
          case y94 =>
            intro w_ hS_
            go_simp
            try with_reducible rfl
          simp only [Act.put, List.getElem_toArray, List.getElem_cons_succ, List.getElem_cons_zero, List.setIfInBounds_toArray, List.set_cons_succ, List.set_cons_zero]
          refine eH_one (k := 7) (fuel := 0) (by kernel_rfl) rfl (by kernel_rfl) (fun K_ hK_ => ?_)
          refine wp_pure_op undef (by kernel_rfl) ?_
          refine hK_ _ _ (⟨rQ, rY⟩) ?_
          simp only [Act.put]
          clear hK_
          refine wpAnyH_done (by kernel_rfl) ?_ _
          change wpList _ _ _ _ _ _
          refine wpList_store_mid rfl 30 _ _ rfl (w.heap.size + 1) (ib * 16) (rd (XQ % prm)) rfl rfl (there_of_row rD (by rw [flat_size (dcs_size _), rd_size]; unfold dcs; rw [List.length_map, hRo.lx]; omega)) (rd_info _) (rd_one _) ?_
          refine NoPanic.normal ?_
          have hR := hRo.set (by omega) (show ib < 4 by omega) hP_QQ
          rw [Nat.mul_comm 5 ib, Nat.mul_comm 16 ib] at hR
          replace ro := (heap_setCells_else (g := w.heap.size + 1) (k := gO) (by omega) (rd (XQ % prm)).toList (ib * 16) (vd12.setCells w.heap.size (ib * 5) QQ.toList)).trans ro
          replace rQ := (heap_setCells_else (g := w.heap.size + 1) (k := gQ) (by omega) (rd (XQ % prm)).toList (ib * 16) (vd12.setCells w.heap.size (ib * 5) QQ.toList)).trans rQ
          replace rY := (heap_setCells_else (g := w.heap.size + 1) (k := gY) (by omega) (rd (XQ % prm)).toList (ib * 16) (vd12.setCells w.heap.size (ib * 5) QQ.toList)).trans rY
          replace hw := below_setCells5 (g := w.heap.size + 1) (Nat.le_succ _) (rd (XQ % prm)).toList (ib * 16) _ hw
          replace f4 := f4.belowN (n := w.heap.size) hz0 (below_setCells5 (g := w.heap.size + 1) (Nat.le_succ _) (rd (XQ % prm)).toList (ib * 16) _ (Below.refl _ _))
          generalize ((vd12.setCells w.heap.size (ib * 5) QQ.toList).setCells (w.heap.size + 1) (ib * 16) (rd (XQ % prm)).toList) = vd12z at *
          clear rD hRo
          simp only [Act.put]
          go_wp2_with (fail)
          go_meet
          case rel => exact ⟨_, _, ro, hR, hw, f4⟩
        · have hKd : decide (K = 11) = false := decide_eq_false hK
          have hKb : (K == 11) = false := by simpa using hK
          obtain ⟨sm, hsm, cM⟩ := a_made ho hra hrb hkey hN hz hbl hnil
          go_upto_region 13 with (fail)
          clear hKd hKb
          apply ecut (fun (g : Nat) (W : World) => W.heap[gO]? = some (.cells oc 36 (0, 0)) ∧ Regs W w.heap.size (w.heap.size + 1) rs xs ∧ Below w.heap.size w W ∧ Both W ∧ gO < g ∧ W.heap[g]? = some (.cells sm 26 (0, 0)))
          · intro hT_
            have hbd : Below q3.heap.size q3 q3.drew := below_drN (Below.refl _ _) 1
            replace ro := keep hbd ro
            replace hR := hR.keep hbd
            replace f4 := f4.below hbd
            replace hw := Below.after hw hbd
            clear hbd
            refine wp_region_noPanic ?_
            refine wp_region_held (S := fun W => W.heap[gO]? = some (.cells oc 36 (0, 0)) ∧ W.heap[w.heap.size]? = some (.cells (flat rs) 27 (0, 0))) (by kernel_rfl) ?_
            change wpAnyH _ _ _ _ _ _ _ _ (World.drew _)
            generalize q3.drew = vd13 at *
            refine wpAnyH_take (i := 0) (v := .agg oc) rfl (by kernel_rfl) (by kernel_rfl) (by kernel_rfl) (fun _ _ _ h => h) (Or.inl ⟨by rfl, ?y10⟩) (⟨ro, hR.hr⟩) ?r10
            case y10 =>
              intro w_ hS_
              simp only [List.getElem_toArray, List.getElem_cons_zero]
              exact e_load_part 36 _ (by rfl) (gO) 0 (by rfl) 36 oc (0, 0) oc _ (hS_.1) (all_rowe _) Tryd.underlying36 rfl hinf2
            simp only [Act.put, List.getElem_toArray, List.getElem_cons_zero, List.setIfInBounds_toArray, List.set_cons_succ, List.set_cons_zero]
            refine wpAnyH_take (i := 1) (v := ?v11) rfl (by kernel_rfl) (by kernel_rfl) (by kernel_rfl) (fun _ _ _ h => h) (Or.inl ⟨by rfl, ?y11⟩) (⟨ro, hR.hr⟩) ?r11
            case y11 =>
              intro w_ hS_
              go_simp
              try with_reducible rfl
            simp only [Act.put, List.getElem_toArray, List.getElem_cons_succ, List.getElem_cons_zero, List.setIfInBounds_toArray, List.set_cons_succ, List.set_cons_zero]
            refine wpAnyH_take (i := 2) (v := ?v12) rfl (by kernel_rfl) (by kernel_rfl) (by kernel_rfl) (fun _ _ _ h => h) (Or.inl ⟨by rfl, ?y12⟩) (⟨ro, hR.hr⟩) ?r12
            case y12 =>
              intro w_ hS_
              go_simp
              try with_reducible rfl
            simp only [Act.put, List.getElem_toArray, List.getElem_cons_succ, List.getElem_cons_zero, List.setIfInBounds_toArray, List.set_cons_succ, List.set_cons_zero]
            refine wpAnyH_take (i := 3) (v := .agg ra) rfl (by kernel_rfl) (by kernel_rfl) (by kernel_rfl) (fun _ _ _ h => h) (Or.inl ⟨by rfl, ?y13⟩) (⟨ro, hR.hr⟩) ?r13
            case y13 =>
              intro w_ hS_
              simp only [List.getElem_toArray, List.getElem_cons_succ, List.getElem_cons_zero]
              exact e_load_part 26 _ (by rfl) (w.heap.size) (ia * 5) (by rfl) 27 (flat rs) (0, 0) ra _ (hS_.2) pra Tryd.underlying26 rfl hra.info
            simp only [Act.put, List.getElem_toArray, List.getElem_cons_succ, List.getElem_cons_zero, List.setIfInBounds_toArray, List.set_cons_succ, List.set_cons_zero]
            refine wpAnyH_take (i := 4) (v := ?v14) rfl (by kernel_rfl) (by kernel_rfl) (by kernel_rfl) (fun _ _ _ h => h) (Or.inl ⟨by rfl, ?y14⟩) (⟨ro, hR.hr⟩) ?r14
            case y14 =>
              intro w_ hS_
              go_simp
              try with_reducible rfl
            simp only [Act.put, List.getElem_toArray, List.getElem_cons_succ, List.getElem_cons_zero, List.setIfInBounds_toArray, List.set_cons_succ, List.set_cons_zero]
            refine wpAnyH_take (i := 5) (v := ?v15) rfl (by kernel_rfl) (by kernel_rfl) (by kernel_rfl) (fun _ _ _ h => h) (Or.inl ⟨by rfl, ?y15⟩) (⟨ro, hR.hr⟩) ?r15
            case y15 =>
              intro w_ hS_
              go_simp
              try with_reducible rfl
            simp only [Act.put, List.getElem_toArray, List.getElem_cons_succ, List.getElem_cons_zero, List.setIfInBounds_toArray, List.set_cons_succ, List.set_cons_zero]
            refine wpAnyH_take (i := 6) (v := .agg rb) rfl (by kernel_rfl) (by kernel_rfl) (by kernel_rfl) (fun _ _ _ h => h) (Or.inl ⟨by rfl, ?y16⟩) (⟨ro, hR.hr⟩) ?r16
            case y16 =>
              intro w_ hS_
              simp only [List.getElem_toArray, List.getElem_cons_succ, List.getElem_cons_zero]
              exact e_load_part 26 _ (by rfl) (w.heap.size) (ib * 5) (by rfl) 27 (flat rs) (0, 0) rb _ (hS_.2) prb Tryd.underlying26 rfl hrb.info
            simp only [Act.put, List.getElem_toArray, List.getElem_cons_succ, List.getElem_cons_zero, List.setIfInBounds_toArray, List.set_cons_succ, List.set_cons_zero]
            refine eH_two (j := 7) (k := 11) (fuel := 6) (by kernel_rfl) rfl rfl (by kernel_rfl) (by kernel_rfl) (fun K_ hK_ => ?_) (fun K_ hK_ => ?_)
            · refine wp_call_ex (f := 7) (by kernel_rfl) (ex1e (cM _ f4 (hBw.out _ hw))) (fun v_ q4 hX_ => ?_)
              obtain ⟨rfl, hb_⟩ := hX_
              replace ro := keep hb_ ro
              replace hR := hR.keep hb_
              replace f4 := f4.below hb_
              replace hw := Below.after hw hb_
              clear hb_
              refine hK_ _ _ (⟨ro, hR.hr⟩) ?_
              simp only [Act.put, List.getElem_toArray, List.getElem_cons_succ, List.getElem_cons_zero, List.setIfInBounds_toArray, List.set_cons_succ, List.set_cons_zero]
              clear hK_
              refine wpAnyH_take (i := 8) (v := ?v17) rfl (by kernel_rfl) (by kernel_rfl) (by kernel_rfl) (fun _ _ _ h => h) (Or.inl ⟨by rfl, ?y17⟩) (⟨ro, hR.hr⟩) ?r17
              case y17 =>
                intro w_ hS_
                go_simp
                try with_reducible rfl
              simp only [Act.put, List.getElem_toArray, List.getElem_cons_succ, List.getElem_cons_zero, List.setIfInBounds_toArray, List.set_cons_succ, List.set_cons_zero]
              refine wpAnyH_take (i := 9) (v := ?v18) rfl (by kernel_rfl) (by kernel_rfl) (by kernel_rfl) (fun _ _ _ h => h) (Or.inl ⟨by rfl, ?y18⟩) (⟨ro, hR.hr⟩) ?r18
              case y18 =>
                intro w_ hS_
                go_simp
                try with_reducible rfl
              simp only [Act.put, List.getElem_toArray, List.getElem_cons_succ, List.getElem_cons_zero, List.setIfInBounds_toArray, List.set_cons_succ, List.set_cons_zero]
              refine wpAnyH_take (i := 10) (v := ?v19) rfl (by kernel_rfl) (by kernel_rfl) (by kernel_rfl) (fun _ _ _ h => h) (Or.inl ⟨by rfl, ?y19⟩) (⟨ro, hR.hr⟩) ?r19
              case y19 =>
                intro w_ hS_
                go_simp
                try with_reducible rfl
              simp only [Act.put, List.getElem_toArray, List.getElem_cons_succ, List.getElem_cons_zero, List.setIfInBounds_toArray, List.set_cons_succ, List.set_cons_zero]
              refine eH_one (k := 11) (fuel := 2) (by kernel_rfl) rfl (by kernel_rfl) (fun K_ hK_ => ?_)
              have lR_ := lt_of_row hR.hr
              have lD_ := lt_of_row hR.hd
              refine e_world_op (.pointer (some ⟨q4.heap.size, 0, none⟩)) (q4.alloc (.cells #[.int .u64 0, .int .u64 0, .int .u64 0, .int .u64 0, .int .u64 0] 26)) (by kernel_rfl) ?_
              have hb_ : Below q4.heap.size q4 (q4.alloc (.cells #[.int .u64 0, .int .u64 0, .int .u64 0, .int .u64 0, .int .u64 0] 26)) := (Below.refl _ _).alloc (Nat.le_refl _) _
              have sz_g6 : w.heap.size ≤ q4.heap.size := hw.size
              have lt_ro_g6 := lt_of_row ro
              have rA := hp1_0 q4 (.cells #[.int .u64 0, .int .u64 0, .int .u64 0, .int .u64 0, .int .u64 0] 26)
              replace ro := keep hb_ ro
              replace hR := hR.keep hb_
              replace f4 := f4.below hb_
              replace hw := Below.after hw hb_
              clear hb_
              refine hK_ _ _ (⟨ro, hR.hr⟩) ?_
              simp only [Act.put, List.getElem_toArray, List.getElem_cons_succ, List.getElem_cons_zero, List.setIfInBounds_toArray, List.set_cons_succ, List.set_cons_zero]
              clear hK_
              generalize q4.alloc (.cells #[.int .u64 0, .int .u64 0, .int .u64 0, .int .u64 0, .int .u64 0] 26) = q5 at *
              generalize q4.heap.size = g6 at *
              refine eH_one (k := 12) (fuel := 1) (by kernel_rfl) rfl (by kernel_rfl) (fun K_ hK_ => ?_)
              refine wp_store_row 26 _ _ rfl (g6) sm rfl rfl 26 _ rA hsm.info (hsm.fits rfl) hsm.one ?_
              replace ro := (setRow_other q5 (g6) (gO) sm (by omega)).trans ro
              replace rA := setRow_heap q5 (g6) _ sm _ _ rA
              replace hR := hR.other (g := g6) (by omega) (by omega) sm
              replace hw := below_setRow hw (show w.heap.size ≤ g6 by omega) sm
              replace f4 := f4.setRow (show 1 < g6 by omega) sm
              refine hK_ _ _ (⟨ro, hR.hr⟩) ?_
              simp only [Act.put]
              clear hK_
              generalize q5.setRow (g6) sm = q7 at *
              refine wpAnyH_take (i := 13) (v := ?v20) rfl (by kernel_rfl) (by kernel_rfl) (by kernel_rfl) (fun _ _ _ h => h) (Or.inl ⟨by rfl, ?y20⟩) (⟨ro, hR.hr⟩) ?r20
              case y20 =>
                intro w_ hS_
                go_simp
                try with_reducible rfl
              simp only [Act.put, List.getElem_toArray, List.getElem_cons_succ, List.getElem_cons_zero, List.setIfInBounds_toArray, List.set_cons_succ, List.set_cons_zero]
              refine wpAnyH_done (by kernel_rfl) ?_ _
              refine NoPanic.normal ?_
              exact hT_ g6 q7 ⟨ro, hR, hw, f4, by omega, rA⟩
            · have lR_ := lt_of_row hR.hr
              have lD_ := lt_of_row hR.hd
              refine e_world_op (.pointer (some ⟨vd13.heap.size, 0, none⟩)) (vd13.alloc (.cells #[.int .u64 0, .int .u64 0, .int .u64 0, .int .u64 0, .int .u64 0] 26)) (by kernel_rfl) ?_
              have hb_ : Below vd13.heap.size vd13 (vd13.alloc (.cells #[.int .u64 0, .int .u64 0, .int .u64 0, .int .u64 0, .int .u64 0] 26)) := (Below.refl _ _).alloc (Nat.le_refl _) _
              have sz_g9 : w.heap.size ≤ vd13.heap.size := hw.size
              have lt_ro_g9 := lt_of_row ro
              have rA := hp1_0 vd13 (.cells #[.int .u64 0, .int .u64 0, .int .u64 0, .int .u64 0, .int .u64 0] 26)
              replace ro := keep hb_ ro
              replace hR := hR.keep hb_
              replace f4 := f4.below hb_
              replace hw := Below.after hw hb_
              clear hb_
              refine hK_ _ _ (⟨ro, hR.hr⟩) ?_
              simp only [Act.put, List.getElem_toArray, List.getElem_cons_succ, List.getElem_cons_zero, List.setIfInBounds_toArray, List.set_cons_succ, List.set_cons_zero]
              clear hK_
              generalize vd13.alloc (.cells #[.int .u64 0, .int .u64 0, .int .u64 0, .int .u64 0, .int .u64 0] 26) = q8 at *
              generalize vd13.heap.size = g9 at *
              refine eH_one (k := 7) (fuel := 5) (by kernel_rfl) rfl (by kernel_rfl) (fun K_ hK_ => ?_)
              refine wp_call_ex (f := 7) (by kernel_rfl) (ex1e (cM _ f4 (hBw.out _ hw))) (fun v_ q10 hX_ => ?_)
              obtain ⟨rfl, hb_⟩ := hX_
              replace ro := keep hb_ ro
              replace rA := keep hb_ rA
              replace hR := hR.keep hb_
              replace f4 := f4.below hb_
              replace hw := Below.after hw hb_
              clear hb_
              refine hK_ _ _ (⟨ro, hR.hr⟩) ?_
              simp only [Act.put, List.getElem_toArray, List.getElem_cons_succ, List.getElem_cons_zero, List.setIfInBounds_toArray, List.set_cons_succ, List.set_cons_zero]
              clear hK_
              refine wpAnyH_take (i := 8) (v := ?v21) rfl (by kernel_rfl) (by kernel_rfl) (by kernel_rfl) (fun _ _ _ h => h) (Or.inl ⟨by rfl, ?y21⟩) (⟨ro, hR.hr⟩) ?r21
              case y21 =>
                intro w_ hS_
                go_simp
                try with_reducible rfl
              simp only [Act.put, List.getElem_toArray, List.getElem_cons_succ, List.getElem_cons_zero, List.setIfInBounds_toArray, List.set_cons_succ, List.set_cons_zero]
              refine wpAnyH_take (i := 9) (v := ?v22) rfl (by kernel_rfl) (by kernel_rfl) (by kernel_rfl) (fun _ _ _ h => h) (Or.inl ⟨by rfl, ?y22⟩) (⟨ro, hR.hr⟩) ?r22
              case y22 =>
                intro w_ hS_
                go_simp
                try with_reducible rfl
              simp only [Act.put, List.getElem_toArray, List.getElem_cons_succ, List.getElem_cons_zero, List.setIfInBounds_toArray, List.set_cons_succ, List.set_cons_zero]
              refine wpAnyH_take (i := 10) (v := ?v23) rfl (by kernel_rfl) (by kernel_rfl) (by kernel_rfl) (fun _ _ _ h => h) (Or.inl ⟨by rfl, ?y23⟩) (⟨ro, hR.hr⟩) ?r23
              case y23 =>
                intro w_ hS_
                go_simp
                try with_reducible rfl
              simp only [Act.put, List.getElem_toArray, List.getElem_cons_succ, List.getElem_cons_zero, List.setIfInBounds_toArray, List.set_cons_succ, List.set_cons_zero]
              refine eH_one (k := 12) (fuel := 1) (by kernel_rfl) rfl (by kernel_rfl) (fun K_ hK_ => ?_)
              refine wp_store_row 26 _ _ rfl (g9) sm rfl rfl 26 _ rA hsm.info (hsm.fits rfl) hsm.one ?_
              replace ro := (setRow_other q10 (g9) (gO) sm (by omega)).trans ro
              replace rA := setRow_heap q10 (g9) _ sm _ _ rA
              replace hR := hR.other (g := g9) (by omega) (by omega) sm
              replace hw := below_setRow hw (show w.heap.size ≤ g9 by omega) sm
              replace f4 := f4.setRow (show 1 < g9 by omega) sm
              refine hK_ _ _ (⟨ro, hR.hr⟩) ?_
              simp only [Act.put]
              clear hK_
              generalize q10.setRow (g9) sm = q11 at *
              refine wpAnyH_take (i := 13) (v := ?v24) rfl (by kernel_rfl) (by kernel_rfl) (by kernel_rfl) (fun _ _ _ h => h) (Or.inl ⟨by rfl, ?y24⟩) (⟨ro, hR.hr⟩) ?r24
              case y24 =>
                intro w_ hS_
                go_simp
                try with_reducible rfl
              simp only [Act.put, List.getElem_toArray, List.getElem_cons_succ, List.getElem_cons_zero, List.setIfInBounds_toArray, List.set_cons_succ, List.set_cons_zero]
              refine wpAnyH_done (by kernel_rfl) ?_ _
              refine NoPanic.normal ?_
              exact hT_ g9 q11 ⟨ro, hR, hw, f4, by omega, rA⟩
          clear ro hR hw f4
          intro gM v13 hW_
          obtain ⟨ro, hR, hw, f4, lM, rM⟩ := id hW_
          clear hW_
          go_upto_region 16 with (fail)
          have cD := fun (W : World) (h : Below w.heap.size w W) => r_made (x := xa) (y := xb) ho hkey hN hz hbl hnil W (hBw.out W h)
          have hdm : NumOf sm (mv K xa xb N Nk (bval bs)) := hsm
          generalize mv K xa xb N Nk (bval bs) = xm at *
          have hP_sm := hdm
          have hbd : Below v13.heap.size v13 v13.drew := below_drN (Below.refl _ _) 1
          replace ro := keep hbd ro
          replace rM := keep hbd rM
          replace hR := hR.keep hbd
          replace f4 := f4.below hbd
          replace hw := Below.after hw hbd
          clear hbd
          refine wp_region_noPanic ?_
          refine wp_region_last 14 _ rfl rfl rfl (by kernel_rfl) (by kernel_rfl) (by kernel_rfl) ?_
          refine wpAny_of_held (S := fun W => W.heap[gO]? = some (.cells oc 36 (0, 0)) ∧ W.heap[gM]? = some (.cells sm 26 (0, 0)) ∧ W.heap[w.heap.size + 1]? = some (.cells (flat (dcs xs)) 31 (0, 0))) _ _ _ _ ?_
          dsimp only [List.set, idle]
          change wpAnyH _ _ _ _ _ _ _ _ (World.drew _)
          generalize v13.drew = vd16 at *
          refine wpAnyH_take (i := 0) (v := ?v25) rfl (by kernel_rfl) (by kernel_rfl) (by kernel_rfl) (fun _ _ _ h => h) (Or.inl ⟨by rfl, ?y25⟩) (⟨ro, rM, hR.hd⟩) ?r25
          case y25 =>
            intro w_ hS_
            go_simp
            try with_reducible rfl
          simp only [Act.put, List.getElem_toArray, List.getElem_cons_zero, List.setIfInBounds_toArray, List.set_cons_succ, List.set_cons_zero]
          refine wpAnyH_take (i := 1) (v := ?v26) rfl (by kernel_rfl) (by kernel_rfl) (by kernel_rfl) (fun _ _ _ h => h) (Or.inl ⟨by rfl, ?y26⟩) (⟨ro, rM, hR.hd⟩) ?r26
          case y26 =>
            intro w_ hS_
            go_simp
            try with_reducible rfl
          simp only [Act.put, List.getElem_toArray, List.getElem_cons_succ, List.getElem_cons_zero, List.setIfInBounds_toArray, List.set_cons_succ, List.set_cons_zero]
          refine wpAnyH_take (i := 2) (v := .agg sm) rfl (by kernel_rfl) (by kernel_rfl) (by kernel_rfl) (fun _ _ _ h => h) (Or.inl ⟨by rfl, ?y27⟩) (⟨ro, rM, hR.hd⟩) ?r27
          case y27 =>
            intro w_ hS_
            simp only [List.getElem_toArray, List.getElem_cons_succ, List.getElem_cons_zero]
            exact e_load_part 26 _ (by rfl) (gM) 0 (by rfl) 26 sm (0, 0) sm _ (hS_.2.1) (all_rowe _) Tryd.underlying26 rfl hsm.info
          simp only [Act.put, List.getElem_toArray, List.getElem_cons_succ, List.getElem_cons_zero, List.setIfInBounds_toArray, List.set_cons_succ, List.set_cons_zero]
          refine wpAnyH_take (i := 3) (v := .agg oc) rfl (by kernel_rfl) (by kernel_rfl) (by kernel_rfl) (fun _ _ _ h => h) (Or.inl ⟨by rfl, ?y28⟩) (⟨ro, rM, hR.hd⟩) ?r28
          case y28 =>
            intro w_ hS_
            simp only [List.getElem_toArray, List.getElem_cons_succ, List.getElem_cons_zero]
            exact e_load_part 36 _ (by rfl) (gO) 0 (by rfl) 36 oc (0, 0) oc _ (hS_.1) (all_rowe _) Tryd.underlying36 rfl hinf2
          simp only [Act.put, List.getElem_toArray, List.getElem_cons_succ, List.getElem_cons_zero, List.setIfInBounds_toArray, List.set_cons_succ, List.set_cons_zero]
          refine wpAnyH_take (i := 4) (v := ?v29) rfl (by kernel_rfl) (by kernel_rfl) (by kernel_rfl) (fun _ _ _ h => h) (Or.inl ⟨by rfl, ?y29⟩) (⟨ro, rM, hR.hd⟩) ?r29
          case y29 =>
            intro w_ hS_
            go_simp
            try with_reducible rfl
          simp only [Act.put, List.getElem_toArray, List.getElem_cons_succ, List.getElem_cons_zero, List.setIfInBounds_toArray, List.set_cons_succ, List.set_cons_zero]
          refine wpAnyH_take (i := 5) (v := ?v30) rfl (by kernel_rfl) (by kernel_rfl) (by kernel_rfl) (fun _ _ _ h => h) (Or.inl ⟨by rfl, ?y30⟩) (⟨ro, rM, hR.hd⟩) ?r30
          case y30 =>
            intro w_ hS_
            go_simp
            try with_reducible rfl
          simp only [Act.put, List.getElem_toArray, List.getElem_cons_succ, List.getElem_cons_zero, List.setIfInBounds_toArray, List.set_cons_succ, List.set_cons_zero]
          refine wpAnyH_take (i := 6) (v := .agg (rd (xa % prm))) rfl (by kernel_rfl) (by kernel_rfl) (by kernel_rfl) (fun _ _ _ h => h) (Or.inl ⟨by rfl, ?y31⟩) (⟨ro, rM, hR.hd⟩) ?r31
          case y31 =>
            intro w_ hS_
            simp only [List.getElem_toArray, List.getElem_cons_succ, List.getElem_cons_zero]
            exact e_load_part 30 _ (by rfl) (w.heap.size + 1) (ia * 16) (by rfl) 31 (flat (dcs xs)) (0, 0) (rd (xa % prm)) _ (hS_.2.2) pda Tryd.underlying30 rfl (rd_info _)
          simp only [Act.put, List.getElem_toArray, List.getElem_cons_succ, List.getElem_cons_zero, List.setIfInBounds_toArray, List.set_cons_succ, List.set_cons_zero]
          refine wpAnyH_take (i := 7) (v := ?v32) rfl (by kernel_rfl) (by kernel_rfl) (by kernel_rfl) (fun _ _ _ h => h) (Or.inl ⟨by rfl, ?y32⟩) (⟨ro, rM, hR.hd⟩) ?r32
          case y32 =>
            intro w_ hS_
            go_simp
            try with_reducible rfl
          simp only [Act.put, List.getElem_toArray, List.getElem_cons_succ, List.getElem_cons_zero, List.setIfInBounds_toArray, List.set_cons_succ, List.set_cons_zero]
          refine wpAnyH_take (i := 8) (v := ?v33) rfl (by kernel_rfl) (by kernel_rfl) (by kernel_rfl) (fun _ _ _ h => h) (Or.inl ⟨by rfl, ?y33⟩) (⟨ro, rM, hR.hd⟩) ?r33
          case y33 =>
            intro w_ hS_
            go_simp
            try with_reducible rfl
          simp only [Act.put, List.getElem_toArray, List.getElem_cons_succ, List.getElem_cons_zero, List.setIfInBounds_toArray, List.set_cons_succ, List.set_cons_zero]
          refine wpAnyH_take (i := 9) (v := .agg (rd (xb % prm))) rfl (by kernel_rfl) (by kernel_rfl) (by kernel_rfl) (fun _ _ _ h => h) (Or.inl ⟨by rfl, ?y34⟩) (⟨ro, rM, hR.hd⟩) ?r34
          case y34 =>
            intro w_ hS_
            simp only [List.getElem_toArray, List.getElem_cons_succ, List.getElem_cons_zero]
            exact e_load_part 30 _ (by rfl) (w.heap.size + 1) (ib * 16) (by rfl) 31 (flat (dcs xs)) (0, 0) (rd (xb % prm)) _ (hS_.2.2) pdb Tryd.underlying30 rfl (rd_info _)
          simp only [Act.put, List.getElem_toArray, List.getElem_cons_succ, List.getElem_cons_zero, List.setIfInBounds_toArray, List.set_cons_succ, List.set_cons_zero]
          refine wpAnyH_take (i := 11) (v := ?v35) rfl (by kernel_rfl) (by kernel_rfl) (by kernel_rfl) (fun _ _ _ h => h) (Or.inl ⟨by rfl, ?y35⟩) (⟨ro, rM, hR.hd⟩) ?r35
          case y35 =>
            intro w_ hS_
            go_simp
            try with_reducible rfl
          simp only [Act.put, List.getElem_toArray, List.getElem_cons_succ, List.getElem_cons_zero, List.setIfInBounds_toArray, List.set_cons_succ, List.set_cons_zero]
          refine eH_one (k := 10) (fuel := 3) (by kernel_rfl) rfl (by kernel_rfl) (fun K_ hK_ => ?_)
          refine wp_call_ex (f := 8) (by kernel_rfl) (ex1e (cD _ hw)) (fun v_ q12 hX_ => ?_)
          obtain ⟨rfl, hb_⟩ := hX_
          replace ro := keep hb_ ro
          replace rM := keep hb_ rM
          replace hR := hR.keep hb_
          replace f4 := f4.below hb_
          replace hw := Below.after hw hb_
          clear hb_
          refine hK_ _ _ (⟨ro, rM, hR.hd⟩) ?_
          simp only [Act.put, List.getElem_toArray, List.getElem_cons_succ, List.getElem_cons_zero, List.setIfInBounds_toArray, List.set_cons_succ, List.set_cons_zero]
          clear hK_
          refine eH_one (k := 12) (fuel := 2) (by kernel_rfl) rfl (by kernel_rfl) (fun K_ hK_ => ?_)
          have lR_ := lt_of_row hR.hr
          have lM_ := lt_of_row ro
          refine wp_store_mid 26 _ _ rfl w.heap.size (it * 5) sm rfl rfl (there_of_row hR.hr (by rw [flat_size hR.sr, hR.lr, hsm.size]; omega)) hsm.info hsm.one ?_
          have hRo := hR
          replace ro := (heap_setCells_else (g := w.heap.size) (k := gO) (by omega) sm.toList (it * 5) q12).trans ro
          replace rM := (heap_setCells_else (g := w.heap.size) (k := gM) (by omega) sm.toList (it * 5) q12).trans rM
          have rD := (heap_setCells_else (g := w.heap.size) (k := w.heap.size + 1) (by omega) sm.toList (it * 5) q12).trans hR.hd
          replace hw := below_setCells5 (g := w.heap.size) (Nat.le_refl _) sm.toList (it * 5) q12 hw
          replace f4 := f4.belowN (n := w.heap.size) hz0 (below_setCells5 (g := w.heap.size) (Nat.le_refl _) sm.toList (it * 5) q12 (Below.refl _ _))
          refine hK_ _ _ (⟨ro, rM, rD⟩) ?_
          simp only [Act.put]
          clear hK_
          refine wpAnyH_take (i := 13) (v := ?v36) rfl (by kernel_rfl) (by kernel_rfl) (by kernel_rfl) (fun _ _ _ h => h) (Or.inl ⟨by rfl, ?y36⟩) (⟨ro, rM, rD⟩) ?r36
          case y36 =>
            intro w_ hS_
            go_simp
            try with_reducible rfl
          simp only [Act.put, List.getElem_toArray, List.getElem_cons_succ, List.getElem_cons_zero, List.setIfInBounds_toArray, List.set_cons_succ, List.set_cons_zero]
          refine eH_one (k := 14) (fuel := 0) (by kernel_rfl) rfl (by kernel_rfl) (fun K_ hK_ => ?_)
          refine wp_pure_op undef (by kernel_rfl) ?_
          refine hK_ _ _ (⟨ro, rM, rD⟩) ?_
          simp only [Act.put]
          clear hK_
          refine wpAnyH_done (by kernel_rfl) ?_ _
          change wpList _ _ _ _ _ _
          refine wpList_store_mid rfl 30 _ _ rfl (w.heap.size + 1) (it * 16) (rd (xm % prm)) rfl rfl (there_of_row rD (by rw [flat_size (dcs_size _), rd_size]; unfold dcs; rw [List.length_map, hRo.lx]; omega)) (rd_info _) (rd_one _) ?_
          refine NoPanic.normal ?_
          have hR := hRo.set (by omega) (show it < 4 by omega) hP_sm
          rw [Nat.mul_comm 5 it, Nat.mul_comm 16 it] at hR
          replace ro := (heap_setCells_else (g := w.heap.size + 1) (k := gO) (by omega) (rd (xm % prm)).toList (it * 16) (q12.setCells w.heap.size (it * 5) sm.toList)).trans ro
          replace rM := (heap_setCells_else (g := w.heap.size + 1) (k := gM) (by omega) (rd (xm % prm)).toList (it * 16) (q12.setCells w.heap.size (it * 5) sm.toList)).trans rM
          replace hw := below_setCells5 (g := w.heap.size + 1) (Nat.le_succ _) (rd (xm % prm)).toList (it * 16) _ hw
          replace f4 := f4.belowN (n := w.heap.size) hz0 (below_setCells5 (g := w.heap.size + 1) (Nat.le_succ _) (rd (xm % prm)).toList (it * 16) _ (Below.refl _ _))
          generalize ((q12.setCells w.heap.size (it * 5) sm.toList).setCells (w.heap.size + 1) (it * 16) (rd (xm % prm)).toList) = vd16z at *
          clear rD hRo
          simp only [Act.put]
          go_wp2_with (fail)
          go_meet
          case rel => exact ⟨_, _, ro, hR, hw, f4⟩
      case rest =>
        obtain ⟨rs', xs', ro, hR, hw, f4⟩ := hcut
        have hU4 := atv_lt U
        obtain ⟨rt, xt, hrt, pnt, pdt, _, _⟩ := hR.get2 hT4
        obtain ⟨ru, xu, hru, pnu, pdu, _, _⟩ := hR.get2 hU4
        have wU := at_walk U
        generalize atv U = iu at *
        have bt1 : ((it : Int) < 0) = False := by simp
        have bt2 : ((it : Int) < 4) = True := by simp; omega
        have bu1 : ((iu : Int) < 0) = False := by simp
        have bu2 : ((iu : Int) < 4) = True := by simp; omega
        have cQ := a_asked (hrt.congr (Int.emod_emod_of_dvd _ (Int.dvd_refl _)).symm) (hru.congr (Int.emod_emod_of_dvd _ (Int.dvd_refl _)).symm) (inP_mod xt) (inP_mod xu)
        have e39 : wc.cell? ⟨gO, 39, none⟩ = some (.int .i64 U) := (cell_of_row _ _ 39 _ _ _ ro).trans ho.c39
        go_upto_region 17 with (fail)
        have Hr := keepr hR.hr
        have Hd := keepr hR.hd
        have k39 : ∀ p : Regrown, (grow (redrawn wc p.d) p.os).cell? ⟨gO, 39, none⟩ = some (.int .i64 U) := fun p => cell_regrown (e39) p.d p.os
        refine wp_region_quiet_below (by kernel_rfl) (by kernel_rfl) ?_
        go_big_quiet_step (fail)
        go_big_quiet_step (fail)
        refine wpQuiet_load_part rfl 26 _ rfl (w.heap.size) (it * 5) rfl 27 (flat rs') (0, 0) rt _ Hr.out pnt Tryd.underlying26 rfl hrt.info ?_
        simp only [Act.put, List.setIfInBounds_toArray, List.set_cons_succ, List.set_cons_zero]
        go_big_quiet_step (fail)
        go_big_quiet_step (fail)
        go_big_quiet_step (exact wU.re)
        go_big_quiet_step (fail)
        refine wpQuiet_load_part rfl 26 _ rfl (w.heap.size) (iu * 5) rfl 27 (flat rs') (0, 0) ru _ Hr.out pnu Tryd.underlying26 rfl hru.info ?_
        simp only [Act.put, List.setIfInBounds_toArray, List.set_cons_succ, List.set_cons_zero]
        go_big_quiet_step (fail)
        go_big_quiet_step (fail)
        refine wpQuiet_load_part rfl 30 _ rfl (w.heap.size + 1) (it * 16) rfl 31 (flat (dcs xs')) (0, 0) (rd (xt % prm)) _ Hd.out pdt Tryd.underlying30 rfl (rd_info _) ?_
        simp only [Act.put, List.setIfInBounds_toArray, List.set_cons_succ, List.set_cons_zero]
        go_big_quiet_step (fail)
        go_big_quiet_step (fail)
        go_big_quiet_step (exact wU.re)
        go_big_quiet_step (fail)
        refine wpQuiet_load_part rfl 30 _ rfl (w.heap.size + 1) (iu * 16) rfl 31 (flat (dcs xs')) (0, 0) (rd (xu % prm)) _ Hd.out pdu Tryd.underlying30 rfl (rd_info _) ?_
        simp only [Act.put, List.setIfInBounds_toArray, List.set_cons_succ, List.set_cons_zero]
        go_big_quiet_step (exact cQ.re)
        go_big_quiet_step (fail)
        refine wpQuiet_nil ?_
        rintro _ ⟨p, rfl⟩
        have hb := below_regrown wc p.d p.os
        generalize grow (redrawn wc p.d) p.os = w17 at *
        clear k39
        replace hR := hR.keep hb
        replace f4 := f4.below hb
        replace hw := Below.after hw hb
        clear hb
        clear Hr Hd e39 ro
        go_wp2
        refine ⟨⟨k + 1, _, _, by omega, by go_num, hR, hw, f4⟩, ?_⟩
        simp [intOf]; omega
    · have ek : k = np := by omega
      have hd : decide ((k : Int) < (np : Int)) = false := by simp; omega
      clear hpc
      go_wp2
      go_loopw [16] (fun i wr => ∃ j : Nat, j ≤ 4 ∧ i = .int .i64 j ∧ Regs wr w.heap.size (w.heap.size + 1) rs xs ∧ Below w.heap.size w wr) (fun i _ => 4 - (intOf i).toNat)
      case atStart => exact ⟨0, by omega, rfl, hR, hw⟩
      case round =>
        clear hR hw hd f4
        obtain ⟨j, hj, rfl, hR, hw⟩ := hrel
        by_cases hlj : j < 4
        · have hd : decide ((j : Int) < 4) = true := by simp; omega
          obtain ⟨rj, xj, hrj, pnj, pdj, _, _⟩ := hR.get2 hlj
          have cB := a_bytes hrj
          have cR := r_bytes (xj % prm)
          have heq : ∀ W, (Op.equalIn 10000 34 (.agg (kb (xj % prm))) (.agg (kb (xj % prm)))).run Tryd.prog W = .ok true W := fun W => by rw [kb_equal_mod]; simp
          have bj1 : ((j : Int) < 0) = False := by simp
          have bj2 : ((j : Int) < 4) = True := by simp; omega
          go_upto_region 22 with (fail)
          have Hr := keepr hR.hr
          have Hd := keepr hR.hd
          refine wp_region_quiet_below (by kernel_rfl) (by kernel_rfl) ?_
          go_big_quiet_step (fail)
          go_big_quiet_step (fail)
          refine wpQuiet_load_part rfl 26 _ rfl (w.heap.size) (j * 5) rfl 27 (flat rs) (0, 0) rj _ Hr.out pnj Tryd.underlying26 rfl hrj.info ?_
          simp only [Act.put, List.setIfInBounds_toArray, List.set_cons_succ, List.set_cons_zero]
          go_big_quiet_step (exact cB.re)
          go_big_quiet_step (fail)
          go_big_quiet_step (fail)
          refine wpQuiet_load_part rfl 30 _ rfl (w.heap.size + 1) (j * 16) rfl 31 (flat (dcs xs)) (0, 0) (rd (xj % prm)) _ Hd.out pdj Tryd.underlying30 rfl (rd_info _) ?_
          simp only [Act.put, List.setIfInBounds_toArray, List.set_cons_succ, List.set_cons_zero]
          go_big_quiet_step (exact cR.re)
          go_big_quiet_step (fail)
          refine wpQuiet_nil ?_
          rintro _ ⟨p, rfl⟩
          have hb := below_regrown wr p.d p.os
          generalize grow (redrawn wr p.d) p.os = w22 at *
          replace hR := hR.keep hb
          replace hw := Below.after hw hb
          clear hb
          clear Hr Hd
          go_wp2
          refine ⟨⟨j + 1, by omega, by go_num, hR, hw⟩, ?_⟩
          simp [intOf]; omega
        · obtain rfl : j = 4 := by omega
          have hd : decide ((4 : Int) < 4) = false := by decide
          obtain ⟨t7, h7, c7⟩ := a_small 7 (by decide) (by decide)
          have d7 := r_small 7 (by decide) (by decide)
          have e7 := a_bytes h7
          have f7 := r_bytes 7
          rw [show (7 : Int) % prm = 7 from rfl] at e7
          have heq : ∀ W, (Op.equalIn 10000 34 (.agg (kb 7)) (.agg (kb 7))).run Tryd.prog W = .ok true W := fun W => by
            have := kb_equal_mod 7 7 W
            rw [show (7 : Int) % prm = 7 from rfl] at this
            rw [this]; simp
          clear hR
          go_wp2_with (fail)
          refine (c7.at _).mono ?_
          rintro e_ x1 ⟨rfl, hb⟩
          replace hw := Below.after hw hb
          clear hb
          go_wp2_with (fail)
          refine (e7.at _).mono ?_
          rintro e_ x2 ⟨rfl, hb⟩
          replace hw := Below.after hw hb
          clear hb
          go_wp2_with (fail)
          refine (d7.at _).mono ?_
          rintro e_ x3 ⟨rfl, hb⟩
          replace hw := Below.after hw hb
          clear hb
          go_wp2_with (fail)
          refine (f7.at _).mono ?_
          rintro e_ x4 ⟨rfl, hb⟩
          replace hw := Below.after hw hb
          clear hb
          generalize kb 7 = KB at *
          go_wp2
          go_ret
          exact ⟨rfl, hw⟩

end Go.Proofs.YtnohfbpmckhbbaaDoor

