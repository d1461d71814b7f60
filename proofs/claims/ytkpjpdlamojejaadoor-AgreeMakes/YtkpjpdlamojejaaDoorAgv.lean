import Derived.Test.YtkpjpdlamojejaaDoorProg
import Derived.WalkKit
import Derived.WalkSpells
import Derived.WalkLawsBesides
import Derived.Lib.QuietBelow
import Derived.BigQuiet
import Derived.OrdersHeld
import Derived.Deep.RegionHeld3
import Derived.OwnWalk
import Derived.Laws.MakeOwn
import Derived.Deep.Cut
import Derived.Test.YtkpjpdlamojejaaDoorKa
import Derived.Test.YtkpjpdlamojejaaDoorAgq
namespace Go.Proofs.YtkpjpdlamojejaaDoor
set_option maxRecDepth 100000
open Go Go.RowKit Go.Sort
attribute [local go_sem] setCell_drewN alloc_drewN

theorem slice_ko (g o : Nat) (W : World) : (Instr.sliceAt 23 (.pointer (some ⟨g, o, none⟩)) none none none).run Tryd.prog W = .ok (.slice (some ⟨g, o, none⟩) 32 32) W := by kernel_rfl
theorem ext_news {W : World} {g a : Nat} {cur : Array Value} {key : List Int} {t : TypeId} (hg : W.heap[g]? = some (.cells cur t (0, 0))) (h : cur.extract a (a + (irow .u8 key).size) = irow .u8 key) : ∀ j u, (key.map (Value.int .u8))[j]? = some u → W.cell? ((⟨g, a, none⟩ : Addr).add j) = some u := by
  intro j u hj
  have hjl : j < key.length := by simpa using (List.getElem?_eq_some_iff.1 hj).1
  rw [addr_add, cell_of_row _ _ _ _ _ _ hg]
  have e := congrArg (fun c : Array Value => c[j]?) h
  simp only [irow_size] at e
  rw [Array.getElem?_extract] at e
  have hk : (irow .u8 key)[j]? = some u := by rw [← hj]; simp [irow]
  rw [hk] at e
  split at e
  · exact e
  · cases e
set_option maxRecDepth 100000 in
set_option maxHeartbeats 4000000 in
theorem l_join14 (ks : List (List Int)) (hks : ∀ k ∈ ks, k.length = 32) (h1 : 0 < ks.length) (h5 : ks.length ≤ 5) (b : Nat) (v : Value) (w : World) (hv : OwnE 23 32 w b v ks) : Calls Tryd.prog 7 #[v] w fun e w' => ∃ u, e = .returned u ∧ OwnI w' w.heap.size u ks.flatten ∧ Below w.heap.size w w' := by
  obtain ⟨gv, cap, _, rfl, -, -⟩ := hv.part hks 0 h1
  have hgv := (hv.lt gv rfl).2
  go_enter Tryd.func7, Tryd.ntmps7
  go_wp2_with (fail)
  go_loopw [3, 4] (fun s i wr => ∃ k : Nat, k ≤ ks.length ∧ i = .int .i64 k ∧ OwnI wr w.heap.size s (ks.take k).flatten ∧ Below w.heap.size w wr) (fun _ i _ => ks.length - (intOf i).toNat)
  case atStart => exact ⟨0, by omega, rfl, ⟨rfl, .inl ⟨rfl, rfl⟩⟩, Below.refl _ _⟩
  case round =>
    obtain ⟨k, hk, rfl, hO, hw⟩ := hrel
    by_cases hlt : k < ks.length
    · have hd : decide ((k : Int) < (ks.length : Int)) = true := by simp; omega
      obtain ⟨g1, cap1, cur, hvv, r1, x1⟩ := (hv.keep hw).part hks k hlt
      cases hvv
      have hmem : ks.getD k [] ∈ ks := by rw [List.getD_eq_getElem?_getD, List.getElem?_eq_getElem hlt]; exact List.getElem_mem _
      have hm := hks _ hmem
      have hk1 : (ks.take (k + 1)).flatten = (ks.take k).flatten ++ ks.getD k [] := by
        rw [List.take_add_one, List.flatten_append, List.getD_eq_getElem?_getD, List.getElem?_eq_getElem hlt]
        simp
      have hsl : (ks.take k).flatten.length + 32 ≤ 1000000 := by
        have e := sec_len (ks.take k) (fun x hx => hks x (List.mem_of_mem_take hx))
        rw [sec, List.length_append, List.length_replicate, List.length_take] at e
        omega
      have hn := ext_news r1 x1
      generalize ks.getD k [] = m at *
      generalize (ks.take k).flatten = S at *
      replace hk1 := hide hk1
      have sk := slice_ko gv (k * 32)
      have szq := hw.size
      go_upto_region 5 with (fail)
      repeat ((fail_if_success (refine wpList_append_sec rfl _ _ rfl w.heap.size _ _ rfl (.inl hO) ⟨gv, k * 32, none⟩ m 32 (by rw [hm]; rfl) hn (by omega) (by omega) szq (fun v' w' hO4 hgr => ?_))); first | go_skip | go_step)
      refine wpList_append_sec rfl _ _ rfl w.heap.size _ _ rfl (.inl hO) ⟨gv, k * 32, none⟩ m 32 (by rw [hm]; rfl) hn (by omega) (by omega) szq (fun v' w' hO4 hgr => ?_)
      have hb4 := hw.grown hgr szq (fun z e => (hO.lt z e).1)
      clear hgr hO hw sk
      go_wp2_with (fail)
      refine ⟨⟨k + 1, by omega, by go_num, by rw [hk1.out]; exact hO4, hb4⟩, ?_⟩
      simp [intOf]; omega
    · obtain rfl : k = ks.length := by omega
      have hd : decide ((ks.length : Int) < (ks.length : Int)) = false := by simp
      rw [List.take_length] at hO
      go_wp2_with (fail)
      go_ret
      exact ⟨_, rfl, hO, hw⟩
theorem run_bk2 (p q : List Int) (hp : p.length = 32) (hq : q.length = 32) (W : World) : (Instr.buildSlice 48 2 #[(0, .agg (irow .u8 p)), (1, .agg (irow .u8 q))]).run Tryd.prog W = .ok (.slice (some ⟨W.heap.size, 0, none⟩) 2 2) (W.alloc (.cells (irow .u8 (p ++ (q))) 23)) := by
  obtain ⟨p0, p1, p2, p3, p4, p5, p6, p7, p8, p9, p10, p11, p12, p13, p14, p15, p16, p17, p18, p19, p20, p21, p22, p23, p24, p25, p26, p27, p28, p29, p30, p31, rfl⟩ := len32 p hp
  obtain ⟨q0, q1, q2, q3, q4, q5, q6, q7, q8, q9, q10, q11, q12, q13, q14, q15, q16, q17, q18, q19, q20, q21, q22, q23, q24, q25, q26, q27, q28, q29, q30, q31, rfl⟩ := len32 q hq
  kernel_rfl
theorem op_bk2 {o : Oper} {a : Act} {w : World} (op oq : Operand) (ho : o.op = .buildSlice 48 2 #[(0, op), (1, oq)]) (p q : List Int) (hp : p.length = 32) (hq : q.length = 32) (ep : a.eval op = .agg (irow .u8 p)) (eq : a.eval oq = .agg (irow .u8 q)) : (execOp a.eval o).run Tryd.prog w = .ok (.value (.slice (some ⟨w.heap.size, 0, none⟩) 2 2)) (w.alloc (.cells (irow .u8 (p ++ (q))) 23)) := by
  have hr := run_bk2 p q hp hq w
  unfold execOp
  simp only [ho, List.map_toArray, List.map_cons, List.map_nil, ep, eq, Sem.run_bind, Sem.run_pure, hr, Result.andThen_ok]
theorem own_bk2 {w : World} {p q : List Int} {g : Nat} (hp : p.length = 32) (hq : q.length = 32) (hg : w.heap[g]? = some (.cells (irow .u8 (p ++ (q))) 23 (0, 0))) : OwnE 23 32 w g (.slice (some ⟨g, 0, none⟩) 2 2) [p, q] := by
  refine ⟨by simp [kcs, hp, hq], .inr ⟨g, 2, _, rfl, Nat.le_refl _, hg, by simp, by decide, by simp [irow, hp, hq], ?_⟩⟩
  simp only [kcs, irow, List.flatMap_cons, List.flatMap_nil, List.append_nil, List.map_append]
  exact List.take_of_length_le (by simp [hp, hq])
theorem run_bk3 (p q r : List Int) (hp : p.length = 32) (hq : q.length = 32) (hr : r.length = 32) (W : World) : (Instr.buildSlice 48 3 #[(0, .agg (irow .u8 p)), (1, .agg (irow .u8 q)), (2, .agg (irow .u8 r))]).run Tryd.prog W = .ok (.slice (some ⟨W.heap.size, 0, none⟩) 3 3) (W.alloc (.cells (irow .u8 (p ++ (q ++ (r)))) 23)) := by
  obtain ⟨p0, p1, p2, p3, p4, p5, p6, p7, p8, p9, p10, p11, p12, p13, p14, p15, p16, p17, p18, p19, p20, p21, p22, p23, p24, p25, p26, p27, p28, p29, p30, p31, rfl⟩ := len32 p hp
  obtain ⟨q0, q1, q2, q3, q4, q5, q6, q7, q8, q9, q10, q11, q12, q13, q14, q15, q16, q17, q18, q19, q20, q21, q22, q23, q24, q25, q26, q27, q28, q29, q30, q31, rfl⟩ := len32 q hq
  obtain ⟨r0, r1, r2, r3, r4, r5, r6, r7, r8, r9, r10, r11, r12, r13, r14, r15, r16, r17, r18, r19, r20, r21, r22, r23, r24, r25, r26, r27, r28, r29, r30, r31, rfl⟩ := len32 r hr
  kernel_rfl
theorem op_bk3 {o : Oper} {a : Act} {w : World} (op oq or : Operand) (ho : o.op = .buildSlice 48 3 #[(0, op), (1, oq), (2, or)]) (p q r : List Int) (hp : p.length = 32) (hq : q.length = 32) (hr : r.length = 32) (ep : a.eval op = .agg (irow .u8 p)) (eq : a.eval oq = .agg (irow .u8 q)) (er : a.eval or = .agg (irow .u8 r)) : (execOp a.eval o).run Tryd.prog w = .ok (.value (.slice (some ⟨w.heap.size, 0, none⟩) 3 3)) (w.alloc (.cells (irow .u8 (p ++ (q ++ (r)))) 23)) := by
  have hr := run_bk3 p q r hp hq hr w
  unfold execOp
  simp only [ho, List.map_toArray, List.map_cons, List.map_nil, ep, eq, er, Sem.run_bind, Sem.run_pure, hr, Result.andThen_ok]
theorem own_bk3 {w : World} {p q r : List Int} {g : Nat} (hp : p.length = 32) (hq : q.length = 32) (hr : r.length = 32) (hg : w.heap[g]? = some (.cells (irow .u8 (p ++ (q ++ (r)))) 23 (0, 0))) : OwnE 23 32 w g (.slice (some ⟨g, 0, none⟩) 3 3) [p, q, r] := by
  refine ⟨by simp [kcs, hp, hq, hr], .inr ⟨g, 3, _, rfl, Nat.le_refl _, hg, by simp, by decide, by simp [irow, hp, hq, hr], ?_⟩⟩
  simp only [kcs, irow, List.flatMap_cons, List.flatMap_nil, List.append_nil, List.map_append]
  exact List.take_of_length_le (by simp [hp, hq, hr])
theorem run_bk4 (p q r s : List Int) (hp : p.length = 32) (hq : q.length = 32) (hr : r.length = 32) (hs : s.length = 32) (W : World) : (Instr.buildSlice 48 4 #[(0, .agg (irow .u8 p)), (1, .agg (irow .u8 q)), (2, .agg (irow .u8 r)), (3, .agg (irow .u8 s))]).run Tryd.prog W = .ok (.slice (some ⟨W.heap.size, 0, none⟩) 4 4) (W.alloc (.cells (irow .u8 (p ++ (q ++ (r ++ (s))))) 23)) := by
  obtain ⟨p0, p1, p2, p3, p4, p5, p6, p7, p8, p9, p10, p11, p12, p13, p14, p15, p16, p17, p18, p19, p20, p21, p22, p23, p24, p25, p26, p27, p28, p29, p30, p31, rfl⟩ := len32 p hp
  obtain ⟨q0, q1, q2, q3, q4, q5, q6, q7, q8, q9, q10, q11, q12, q13, q14, q15, q16, q17, q18, q19, q20, q21, q22, q23, q24, q25, q26, q27, q28, q29, q30, q31, rfl⟩ := len32 q hq
  obtain ⟨r0, r1, r2, r3, r4, r5, r6, r7, r8, r9, r10, r11, r12, r13, r14, r15, r16, r17, r18, r19, r20, r21, r22, r23, r24, r25, r26, r27, r28, r29, r30, r31, rfl⟩ := len32 r hr
  obtain ⟨s0, s1, s2, s3, s4, s5, s6, s7, s8, s9, s10, s11, s12, s13, s14, s15, s16, s17, s18, s19, s20, s21, s22, s23, s24, s25, s26, s27, s28, s29, s30, s31, rfl⟩ := len32 s hs
  kernel_rfl
theorem op_bk4 {o : Oper} {a : Act} {w : World} (op oq or os : Operand) (ho : o.op = .buildSlice 48 4 #[(0, op), (1, oq), (2, or), (3, os)]) (p q r s : List Int) (hp : p.length = 32) (hq : q.length = 32) (hr : r.length = 32) (hs : s.length = 32) (ep : a.eval op = .agg (irow .u8 p)) (eq : a.eval oq = .agg (irow .u8 q)) (er : a.eval or = .agg (irow .u8 r)) (es : a.eval os = .agg (irow .u8 s)) : (execOp a.eval o).run Tryd.prog w = .ok (.value (.slice (some ⟨w.heap.size, 0, none⟩) 4 4)) (w.alloc (.cells (irow .u8 (p ++ (q ++ (r ++ (s))))) 23)) := by
  have hr := run_bk4 p q r s hp hq hr hs w
  unfold execOp
  simp only [ho, List.map_toArray, List.map_cons, List.map_nil, ep, eq, er, es, Sem.run_bind, Sem.run_pure, hr, Result.andThen_ok]
theorem own_bk4 {w : World} {p q r s : List Int} {g : Nat} (hp : p.length = 32) (hq : q.length = 32) (hr : r.length = 32) (hs : s.length = 32) (hg : w.heap[g]? = some (.cells (irow .u8 (p ++ (q ++ (r ++ (s))))) 23 (0, 0))) : OwnE 23 32 w g (.slice (some ⟨g, 0, none⟩) 4 4) [p, q, r, s] := by
  refine ⟨by simp [kcs, hp, hq, hr, hs], .inr ⟨g, 4, _, rfl, Nat.le_refl _, hg, by simp, by decide, by simp [irow, hp, hq, hr, hs], ?_⟩⟩
  simp only [kcs, irow, List.flatMap_cons, List.flatMap_nil, List.append_nil, List.map_append]
  exact List.take_of_length_le (by simp [hp, hq, hr, hs])
theorem run_bk5 (p q r s t : List Int) (hp : p.length = 32) (hq : q.length = 32) (hr : r.length = 32) (hs : s.length = 32) (ht : t.length = 32) (W : World) : (Instr.buildSlice 48 5 #[(0, .agg (irow .u8 p)), (1, .agg (irow .u8 q)), (2, .agg (irow .u8 r)), (3, .agg (irow .u8 s)), (4, .agg (irow .u8 t))]).run Tryd.prog W = .ok (.slice (some ⟨W.heap.size, 0, none⟩) 5 5) (W.alloc (.cells (irow .u8 (p ++ (q ++ (r ++ (s ++ (t)))))) 23)) := by
  obtain ⟨p0, p1, p2, p3, p4, p5, p6, p7, p8, p9, p10, p11, p12, p13, p14, p15, p16, p17, p18, p19, p20, p21, p22, p23, p24, p25, p26, p27, p28, p29, p30, p31, rfl⟩ := len32 p hp
  obtain ⟨q0, q1, q2, q3, q4, q5, q6, q7, q8, q9, q10, q11, q12, q13, q14, q15, q16, q17, q18, q19, q20, q21, q22, q23, q24, q25, q26, q27, q28, q29, q30, q31, rfl⟩ := len32 q hq
  obtain ⟨r0, r1, r2, r3, r4, r5, r6, r7, r8, r9, r10, r11, r12, r13, r14, r15, r16, r17, r18, r19, r20, r21, r22, r23, r24, r25, r26, r27, r28, r29, r30, r31, rfl⟩ := len32 r hr
  obtain ⟨s0, s1, s2, s3, s4, s5, s6, s7, s8, s9, s10, s11, s12, s13, s14, s15, s16, s17, s18, s19, s20, s21, s22, s23, s24, s25, s26, s27, s28, s29, s30, s31, rfl⟩ := len32 s hs
  obtain ⟨t0, t1, t2, t3, t4, t5, t6, t7, t8, t9, t10, t11, t12, t13, t14, t15, t16, t17, t18, t19, t20, t21, t22, t23, t24, t25, t26, t27, t28, t29, t30, t31, rfl⟩ := len32 t ht
  kernel_rfl
theorem op_bk5 {o : Oper} {a : Act} {w : World} (op oq or os ot : Operand) (ho : o.op = .buildSlice 48 5 #[(0, op), (1, oq), (2, or), (3, os), (4, ot)]) (p q r s t : List Int) (hp : p.length = 32) (hq : q.length = 32) (hr : r.length = 32) (hs : s.length = 32) (ht : t.length = 32) (ep : a.eval op = .agg (irow .u8 p)) (eq : a.eval oq = .agg (irow .u8 q)) (er : a.eval or = .agg (irow .u8 r)) (es : a.eval os = .agg (irow .u8 s)) (et : a.eval ot = .agg (irow .u8 t)) : (execOp a.eval o).run Tryd.prog w = .ok (.value (.slice (some ⟨w.heap.size, 0, none⟩) 5 5)) (w.alloc (.cells (irow .u8 (p ++ (q ++ (r ++ (s ++ (t)))))) 23)) := by
  have hr := run_bk5 p q r s t hp hq hr hs ht w
  unfold execOp
  simp only [ho, List.map_toArray, List.map_cons, List.map_nil, ep, eq, er, es, et, Sem.run_bind, Sem.run_pure, hr, Result.andThen_ok]
theorem own_bk5 {w : World} {p q r s t : List Int} {g : Nat} (hp : p.length = 32) (hq : q.length = 32) (hr : r.length = 32) (hs : s.length = 32) (ht : t.length = 32) (hg : w.heap[g]? = some (.cells (irow .u8 (p ++ (q ++ (r ++ (s ++ (t)))))) 23 (0, 0))) : OwnE 23 32 w g (.slice (some ⟨g, 0, none⟩) 5 5) [p, q, r, s, t] := by
  refine ⟨by simp [kcs, hp, hq, hr, hs, ht], .inr ⟨g, 5, _, rfl, Nat.le_refl _, hg, by simp, by decide, by simp [irow, hp, hq, hr, hs, ht], ?_⟩⟩
  simp only [kcs, irow, List.flatMap_cons, List.flatMap_nil, List.append_nil, List.map_append]
  exact List.take_of_length_le (by simp [hp, hq, hr, hs, ht])

end Go.Proofs.YtkpjpdlamojejaaDoor
