import Derived.Test.YtnbkdlfkacbfjaaKit4
import Derived.RegionTactic
namespace Go.Proofs.Ytnbkdlfkacbfjaa
open Go Go.RowKit Go.Sort
/-- A region that reads two rows and stores them into two others, in whatever order its draw allows: the first store may go ahead of the second reading. -/
theorem wp_region_pair {P : Program} {id : Nat} {Q : Exit → Act → World → Prop} {a : Act} {w : World} {l0 l1 s0 s1 : Oper} (hm : P.follows .mixedOrders = true)
    (r0 : Region.ready .any #[l0, l1, s0, s1] #[false, false, false, false] = [0, 1]) (r1 : Region.ready .any #[l0, l1, s0, s1] #[true, false, false, false] = [1, 2]) (r2 : Region.ready .any #[l0, l1, s0, s1] #[false, true, false, false] = [0])
    (r3 : Region.ready .any #[l0, l1, s0, s1] #[true, true, false, false] = [2]) (r4 : Region.ready .any #[l0, l1, s0, s1] #[true, false, true, false] = [1]) (r5 : Region.ready .any #[l0, l1, s0, s1] #[true, true, true, false] = [3])
    (r6 : Region.ready .any #[l0, l1, s0, s1] #[true, true, true, true] = [])
    (ty tz : TypeId) (x0 x1 y0 y1 : Operand) (d0 d1 : Tmp) (o0 : l0.op = .load ty x0) (o1 : l1.op = .load tz x1) (q0 : s0.op = .store ty y0 (.tmp d0)) (q1 : s1.op = .store tz y1 (.tmp d1))
    (e0 : l0.dst = some d0) (e1 : l1.dst = some d1) (e2 : s0.dst = none) (e3 : s1.dst = none) (k0 : l0.guard = none) (k1 : l1.guard = none) (k2 : s0.guard = none) (k3 : s1.guard = none)
    (g0 g1 g2 g3 : Nat) (c0 c1 z0 z1 : Array Value) (t0 t1 t2 t3 : TypeId) (f0 f1 : Nat × Nat) (D D' : TypeDesc) (af : Act)
    (n0 : w.heap[g0]? = some (.cells c0 t0 f0)) (n1 : w.heap[g1]? = some (.cells c1 t1 f1)) (n2 : w.heap[g2]? = some (.cells z0 t2 (0, 0))) (n3 : w.heap[g3]? = some (.cells z1 t3 (0, 0))) (n12 : g1 ≠ g2) (n23 : g3 ≠ g2)
    (hu : P.underlying ty = some D) (hd : (match D with | .struct _ | .array _ _ => true | _ => false) = true) (hi : (P.info? ty).map (·.size) = some c0.size) (hz : z0.size = c0.size) (h1 : c0.all (·.oneCell') = true)
    (hu' : P.underlying tz = some D') (hd' : (match D' with | .struct _ | .array _ _ => true | _ => false) = true) (hi' : (P.info? tz).map (·.size) = some c1.size) (hz' : z1.size = c1.size) (h1' : c1.all (·.oneCell') = true)
    (v0 : a.eval x0 = .pointer (some ⟨g0, 0, none⟩)) (v1 : a.eval x1 = .pointer (some ⟨g1, 0, none⟩))
    (v0' : (a.put (some d1) (.agg c1)).eval x0 = .pointer (some ⟨g0, 0, none⟩)) (v1' : (a.put (some d0) (.agg c0)).eval x1 = .pointer (some ⟨g1, 0, none⟩))
    (u0 : (a.put (some d0) (.agg c0)).eval y0 = .pointer (some ⟨g2, 0, none⟩)) (u0' : (a.put (some d0) (.agg c0)).eval (.tmp d0) = .agg c0)
    (hf1 : (a.put (some d0) (.agg c0)).put (some d1) (.agg c1) = af) (hf2 : (a.put (some d1) (.agg c1)).put (some d0) (.agg c0) = af)
    (p0 : af.eval y0 = .pointer (some ⟨g2, 0, none⟩)) (p1 : af.eval y1 = .pointer (some ⟨g3, 0, none⟩)) (p2 : af.eval (.tmp d0) = .agg c0) (p3 : af.eval (.tmp d1) = .agg c1)
    (h : ∀ w1, Below w.heap.size w w1 → Q .normal af ((w1.setRow g2 c0).setRow g3 c1)) :
    (Code.region id #[l0, l1, s0, s1] true).wp P Q a w := by
  refine wp_region_any hm ?_
  have hw : Below w.heap.size w { w with drawn := w.drawn + 1 } := ⟨rfl, rfl, rfl, Nat.le_refl _, fun _ _ => rfl⟩
  have m0 := n0; have m1 := n1; have m2 := n2; have m3 := n3
  replace h := h _ hw
  change (show World from { w with drawn := w.drawn + 1 }).heap[g0]? = _ at n0
  change (show World from { w with drawn := w.drawn + 1 }).heap[g1]? = _ at n1
  change (show World from { w with drawn := w.drawn + 1 }).heap[g2]? = _ at n2
  change (show World from { w with drawn := w.drawn + 1 }).heap[g3]? = _ at n3
  generalize ({ w with drawn := w.drawn + 1 } : World) = W at *
  have put0 : ∀ (b : Act), b.put none undef = b := fun b => rfl
  -- the last store
  have last : wpAny P .any #[l0, l1, s0, s1] Q 1 #[true, true, true, false] af (W.setRow g2 c0) := by
    refine wpAny_ready r5 (by simp) (AllReady.cons (o := s1) rfl (fun K' hK => ?_) AllReady.nil)
    rw [if_pos (by simp [Region.wanted, k3])]
    refine wp_store_row tz y1 (.tmp d1) q1 g3 c1 p1 p3 t3 z1 ((setRow_other W g2 g3 c0 n23).trans n3) hi' hz' h1' (hK _ _ ?_)
    rw [e3, put0]
    exact wpAny_done r6 h 0
  -- both read, then the stores
  have both : wpAny P .any #[l0, l1, s0, s1] Q 2 #[true, true, false, false] af W := by
    refine wpAny_ready r3 (by simp) (AllReady.cons (o := s0) rfl (fun K' hK => ?_) AllReady.nil)
    rw [if_pos (by simp [Region.wanted, k2])]
    refine wp_store_row ty y0 (.tmp d0) q0 g2 c0 p0 p2 t2 z0 n2 hi hz h1 (hK _ _ ?_)
    rw [e2, put0]
    exact last
  refine wpAny_ready (fuel := 3) r0 (by simp) (AllReady.cons (o := l0) rfl (fun K' hK => ?_) (AllReady.cons (o := l1) rfl (fun K' hK => ?_) AllReady.nil))
  · rw [if_pos (by simp [Region.wanted, k0])]
    refine wp_load_row ty x0 o0 g0 v0 t0 c0 f0 D n0 hu hd hi (hK _ _ ?_)
    rw [e0]
    refine wpAny_ready (fuel := 2) r1 (by simp) (AllReady.cons (o := l1) rfl (fun K' hK => ?_) (AllReady.cons (o := s0) rfl (fun K' hK => ?_) AllReady.nil))
    · rw [if_pos (by simp [Region.wanted, k1])]
      refine wp_load_row tz x1 o1 g1 v1' t1 c1 f1 D' n1 hu' hd' hi' (hK _ _ ?_)
      rw [e1, hf1]
      exact both
    · rw [if_pos (by simp [Region.wanted, k2])]
      refine wp_store_row ty y0 (.tmp d0) q0 g2 c0 u0 u0' t2 z0 n2 hi hz h1 (hK _ _ ?_)
      rw [e2, put0]
      refine wpAny_ready (fuel := 1) r4 (by simp) (AllReady.cons (o := l1) rfl (fun K' hK => ?_) AllReady.nil)
      rw [if_pos (by simp [Region.wanted, k1])]
      refine wp_load_row tz x1 o1 g1 v1' t1 c1 f1 D' ((setRow_other W g2 g1 c0 n12).trans n1) hu' hd' hi' (hK _ _ ?_)
      rw [e1, hf1]
      exact last
  · rw [if_pos (by simp [Region.wanted, k1])]
    refine wp_load_row tz x1 o1 g1 v1 t1 c1 f1 D' n1 hu' hd' hi' (hK _ _ ?_)
    rw [e1]
    refine wpAny_ready (fuel := 2) r2 (by simp) (AllReady.cons (o := l0) rfl (fun K' hK => ?_) AllReady.nil)
    rw [if_pos (by simp [Region.wanted, k0])]
    refine wp_load_row ty x0 o0 g0 v0' t0 c0 f0 D n0 hu hd hi (hK _ _ ?_)
    rw [e0, hf2]
    exact both
end Go.Proofs.Ytnbkdlfkacbfjaa
