import Derived.Test.YtdlillgkgbfheaaDoorProg
import Derived.WalkKit
import Derived.Lib.QuietBelow
import Derived.BigQuiet
import Derived.OrdersHeld
import Derived.Deep.RegionHeld3
import Derived.OwnWalk
import Derived.Deep.Cut
import Derived.Test.YtdlillgkgbfheaaDoorKa
import Derived.Test.YtdlillgkgbfheaaDoorAhp
namespace Go.Proofs.YtdlillgkgbfheaaDoor
set_option maxRecDepth 100000
open Go Go.RowKit Go.Sort
attribute [local go_sem] setCell_drewN alloc_drewN
/-- Keys' cells, one key behind the other. -/
def kcs (ks : List (List Int)) : List Value := ks.flatMap fun k => k.map (Value.int .u8)
/-- A list of rows of bytes of one's own, each of n cells. -/
def OwnE (e : TypeId) (n : Nat) (W : World) (b : Nat) (v : Value) (ks : List (List Int)) : Prop := W.ownsRow b e n v ks.length (kcs ks)
theorem OwnE.move {e : TypeId} {n : Nat} {W W' : World} {b : Nat} {v : Value} {ks : List (List Int)} (h : OwnE e n W b v ks) (hm : ∀ g o, v.ownBlock = some g → W.heap[g]? = some o → W'.heap[g]? = some o) : OwnE e n W' b v ks := by
  obtain ⟨h1, h2⟩ := h
  refine ⟨h1, ?_⟩
  rcases h2 with h2 | ⟨g, cap, cur, rfl, hb, hg, rest⟩
  · exact .inl h2
  · exact .inr ⟨g, cap, cur, rfl, hb, hm g _ rfl hg, rest⟩
theorem OwnE.keep {e : TypeId} {n : Nat} {W W' : World} {b : Nat} {v : Value} {ks : List (List Int)} (h : OwnE e n W b v ks) (hb : Below W.heap.size W W') : OwnE e n W' b v ks := h.move (fun _ _ _ hg => Go.Proofs.YtdlillgkgbfheaaDoor.keep hb hg)
theorem OwnE.lt {e : TypeId} {n : Nat} {W : World} {b : Nat} {v : Value} {ks : List (List Int)} (h : OwnE e n W b v ks) : ∀ k, v.ownBlock = some k → b ≤ k ∧ k < W.heap.size := World.ownsRow.lt h
theorem kcsN_get (n : Nat) : ∀ (ks : List (List Int)) (i : Nat), (∀ k ∈ ks, k.length = n) → i < ks.length → ((kcs ks).drop (i * n)).take n = (ks.getD i []).map (Value.int .u8)
  | [], i, _, h => by simp at h
  | k :: r, 0, hl, _ => by
    have hk : k.length = n := hl k (by simp)
    simp only [kcs, List.flatMap_cons, Nat.zero_mul, List.drop_zero, List.getD_cons_zero]
    rw [List.take_append_of_le_length (by simp [hk]), List.take_of_length_le (by simp [hk])]
  | k :: r, i + 1, hl, hi => by
    have hk : k.length = n := hl k (by simp)
    have := kcsN_get n r i (fun x hx => hl x (by simp [hx])) (by simpa using hi)
    simp only [kcs, List.flatMap_cons, List.getD_cons_succ] at this ⊢
    rw [Nat.add_mul, Nat.one_mul, Nat.add_comm, ← List.drop_drop, List.drop_left' (by simp [hk])]
    exact this
theorem OwnE.part {e : TypeId} {n : Nat} {W : World} {b : Nat} {v : Value} {ks : List (List Int)} (h : OwnE e n W b v ks) (hl : ∀ k ∈ ks, k.length = n) (i : Nat) (hi : i < ks.length) : ∃ g cap cur, v = .slice (some ⟨g, 0, none⟩) ks.length cap ∧ W.heap[g]? = some (.cells cur e (0, 0)) ∧ cur.extract (i * n) (i * n + (irow .u8 (ks.getD i [])).size) = irow .u8 (ks.getD i []) := by
  obtain ⟨_, ⟨rfl, h0⟩ | ⟨g, cap, cur, rfl, _, hg, _, _, _, ht⟩⟩ := h
  · omega
  · refine ⟨g, cap, cur, rfl, hg, ?_⟩
    have hk : (ks.getD i []).length = n := hl _ (by rw [List.getD_eq_getElem?_getD, List.getElem?_eq_getElem hi]; exact List.getElem_mem _)
    have e := kcsN_get n ks i hl hi
    rw [← ht] at e
    apply Array.ext'
    rw [irow_size, hk]
    simp only [Array.toList_extract, irow, List.extract_eq_take_drop]
    rw [← e, List.drop_take, List.take_take]
    congr 1
    have : i * n + n ≤ ks.length * n := by rw [← Nat.succ_mul]; exact Nat.mul_le_mul_right n hi
    omega
theorem sec_len (ks : List (List Int)) (h : ∀ k ∈ ks, k.length = 32) : (sec ks).length = 32 + 32 * ks.length := by
  have : ks.flatten.length = 32 * ks.length := by
    induction ks with
    | nil => rfl
    | cons k r ih => rw [List.flatten_cons, List.length_append, h k (by simp), ih (fun x hx => h x (by simp [hx])), List.length_cons]; omega
  rw [sec, List.length_append, List.length_replicate, this]
theorem slice_ko (g o : Nat) (W : World) : (Instr.sliceAt 23 (.pointer (some ⟨g, o, none⟩)) none none none).run Tryd.prog W = .ok (.slice (some ⟨g, o, none⟩) 32 32) W := by kernel_rfl
theorem ext_news {W : World} {g a : Nat} {cur : Array Value} {key : List Int} {t : TypeId} (hg : W.heap[g]? = some (.cells cur t (0, 0))) (h : cur.extract a (a + (irow .u8 key).size) = irow .u8 key) : ∀ j u, (key.map (Value.int .u8))[j]? = some u → W.cell? ((⟨g, a, none⟩ : Addr).add j) = some u := by
  intro j u hj
  have hjl : j < key.length := by simpa using (List.getElem?_eq_some_iff.1 hj).1
  rw [addr_add, cell_of_row _ _ _ _ _ _ hg]
  have e := congrArg (fun c : Array Value => c[j]?) h
  simp only [irow_size] at e
  rw [Array.getElem?_extract] at e
  have hk : (irow .u8 key)[j]? = some u := by rw [← hj]; simp [irow]
  rw [hk] at e
  split at e
  · exact e
  · cases e
set_option maxRecDepth 100000 in
set_option maxHeartbeats 4000000 in
theorem l_join14 (ks : List (List Int)) (hks : ∀ k ∈ ks, k.length = 32) (h1 : 0 < ks.length) (h5 : ks.length ≤ 5) (b : Nat) (v : Value) (w : World) (hv : OwnE 23 32 w b v ks) : Calls Tryd.prog 10 #[v] w fun e w' => ∃ u, e = .returned u ∧ OwnI w' w.heap.size u ks.flatten ∧ Below w.heap.size w w' := by
  obtain ⟨gv, cap, _, rfl, -, -⟩ := hv.part hks 0 h1
  have hgv := (hv.lt gv rfl).2
  go_enter Tryd.func10, Tryd.ntmps10
  go_wp2_with (fail)
  go_loopw [3, 4] (fun s i wr => ∃ k : Nat, k ≤ ks.length ∧ i = .int .i64 k ∧ OwnI wr w.heap.size s (ks.take k).flatten ∧ Below w.heap.size w wr) (fun _ i _ => ks.length - (intOf i).toNat)
  case atStart => exact ⟨0, by omega, rfl, ⟨rfl, .inl ⟨rfl, rfl⟩⟩, Below.refl _ _⟩
  case round =>
    obtain ⟨k, hk, rfl, hO, hw⟩ := hrel
    by_cases hlt : k < ks.length
    · have hd : decide ((k : Int) < (ks.length : Int)) = true := by simp; omega
      obtain ⟨g1, cap1, cur, hvv, r1, x1⟩ := (hv.keep hw).part hks k hlt
      cases hvv
      have hmem : ks.getD k [] ∈ ks := by rw [List.getD_eq_getElem?_getD, List.getElem?_eq_getElem hlt]; exact List.getElem_mem _
      have hm := hks _ hmem
      have hk1 : (ks.take (k + 1)).flatten = (ks.take k).flatten ++ ks.getD k [] := by
        rw [List.take_add_one, List.flatten_append, List.getD_eq_getElem?_getD, List.getElem?_eq_getElem hlt]
        simp
      have hsl : (ks.take k).flatten.length + 32 ≤ 1000000 := by
        have e := sec_len (ks.take k) (fun x hx => hks x (List.mem_of_mem_take hx))
        rw [sec, List.length_append, List.length_replicate, List.length_take] at e
        omega
      have hn := ext_news r1 x1
      generalize ks.getD k [] = m at *
      generalize (ks.take k).flatten = S at *
      replace hk1 := hide hk1
      have sk := slice_ko gv (k * 32)
      have szq := hw.size
      go_upto_region 5 with (fail)
      repeat ((fail_if_success (refine wpList_append_sec rfl _ _ rfl w.heap.size _ _ rfl (.inl hO) ⟨gv, k * 32, none⟩ m 32 (by rw [hm]; rfl) hn (by omega) (by omega) szq (fun v' w' hO4 hgr => ?_))); first | go_skip | go_step)
      refine wpList_append_sec rfl _ _ rfl w.heap.size _ _ rfl (.inl hO) ⟨gv, k * 32, none⟩ m 32 (by rw [hm]; rfl) hn (by omega) (by omega) szq (fun v' w' hO4 hgr => ?_)
      have hb4 := hw.grown hgr szq (fun z e => (hO.lt z e).1)
      clear hgr hO hw sk
      go_wp2_with (fail)
      refine ⟨⟨k + 1, by omega, by go_num, by rw [hk1.out]; exact hO4, hb4⟩, ?_⟩
      simp [intOf]; omega
    · obtain rfl : k = ks.length := by omega
      have hd : decide ((ks.length : Int) < (ks.length : Int)) = false := by simp
      rw [List.take_length] at hO
      go_wp2_with (fail)
      go_ret
      exact ⟨_, rfl, hO, hw⟩
theorem run_bk2 (p q : List Int) (hp : p.length = 32) (hq : q.length = 32) (W : World) : (Instr.buildSlice 44 2 #[(0, .agg (irow .u8 p)), (1, .agg (irow .u8 q))]).run Tryd.prog W = .ok (.slice (some ⟨W.heap.size, 0, none⟩) 2 2) (W.alloc (.cells (irow .u8 (p ++ (q))) 23)) := by
  obtain ⟨p0, p1, p2, p3, p4, p5, p6, p7, p8, p9, p10, p11, p12, p13, p14, p15, p16, p17, p18, p19, p20, p21, p22, p23, p24, p25, p26, p27, p28, p29, p30, p31, rfl⟩ := len32 p hp
  obtain ⟨q0, q1, q2, q3, q4, q5, q6, q7, q8, q9, q10, q11, q12, q13, q14, q15, q16, q17, q18, q19, q20, q21, q22, q23, q24, q25, q26, q27, q28, q29, q30, q31, rfl⟩ := len32 q hq
  kernel_rfl
theorem op_bk2 {o : Oper} {a : Act} {w : World} (op oq : Operand) (ho : o.op = .buildSlice 44 2 #[(0, op), (1, oq)]) (p q : List Int) (hp : p.length = 32) (hq : q.length = 32) (ep : a.eval op = .agg (irow .u8 p)) (eq : a.eval oq = .agg (irow .u8 q)) : (execOp a.eval o).run Tryd.prog w = .ok (.value (.slice (some ⟨w.heap.size, 0, none⟩) 2 2)) (w.alloc (.cells (irow .u8 (p ++ (q))) 23)) := by
  have hr := run_bk2 p q hp hq w
  unfold execOp
  simp only [ho, List.map_toArray, List.map_cons, List.map_nil, ep, eq, Sem.run_bind, Sem.run_pure, hr, Result.andThen_ok]
theorem own_bk2 {w : World} {p q : List Int} {g : Nat} (hp : p.length = 32) (hq : q.length = 32) (hg : w.heap[g]? = some (.cells (irow .u8 (p ++ (q))) 23 (0, 0))) : OwnE 23 32 w g (.slice (some ⟨g, 0, none⟩) 2 2) [p, q] := by
  refine ⟨by simp [kcs, hp, hq], .inr ⟨g, 2, _, rfl, Nat.le_refl _, hg, by simp, by decide, by simp [irow, hp, hq], ?_⟩⟩
  simp only [kcs, irow, List.flatMap_cons, List.flatMap_nil, List.append_nil, List.map_append]
  exact List.take_of_length_le (by simp [hp, hq])
/-- A key's half of a number. -/
def hlb (h : List Int) : ByteArray := ⟨((dgs h 6).drop 1).toArray⟩
theorem sl_first (x y : List Int) (W : World) : (Instr.sliceAt 9 (.string (sfs x y)) none (some (.int .i64 35)) none).run Tryd.prog W = .ok (.string (hlb x)) W := by
  have hl := sfs_eq x y
  have hx := dgs_len x 6
  have hy := dgs_len y 6
  unfold hlb
  generalize sfs x y = S at *
  generalize dgs x 6 = l at *
  generalize dgs y 6 = m at *
  obtain ⟨⟨L⟩⟩ := S
  have hl' : L = (l ++ m).drop 1 := hl
  subst hl'
  have hr := run_slice_string_to_if (P := Tryd.prog) W 9 ⟨((l ++ m).drop 1).toArray⟩ .i64 35 Tryd.underlying9
  rw [if_pos (by simp [ByteArray.size]; omega), ext_bytes] at hr
  have e : (((l ++ m).drop 1).take (35 : Int).toNat).drop 0 = l.drop 1 := by
    show (((l ++ m).drop 1).take 35) = l.drop 1
    rw [List.drop_append_of_le_length (by omega), List.take_append_of_le_length (by simp; omega), List.take_of_length_le (by simp; omega)]
  rw [e] at hr
  exact hr
theorem sl_second (x y : List Int) (W : World) : (Instr.sliceAt 9 (.string (sfs x y)) (some (.int .i64 36)) none none).run Tryd.prog W = .ok (.string (hlb y)) W := by
  have hl := sfs_eq x y
  have hx := dgs_len x 6
  have hy := dgs_len y 6
  unfold hlb
  generalize sfs x y = S at *
  generalize dgs x 6 = l at *
  generalize dgs y 6 = m at *
  obtain ⟨⟨L⟩⟩ := S
  have hl' : L = (l ++ m).drop 1 := hl
  subst hl'
  have hr := run_slice_string_from_if (P := Tryd.prog) W 9 ⟨((l ++ m).drop 1).toArray⟩ .i64 36 Tryd.underlying9
  rw [if_pos (by simp [ByteArray.size]; omega), ext_bytes] at hr
  have e : (((l ++ m).drop 1).take (ByteArray.size ⟨((l ++ m).drop 1).toArray⟩)).drop (36 : Int).toNat = m.drop 1 := by
    rw [List.take_of_length_le (by simp [ByteArray.size])]
    show ((l ++ m).drop 1).drop 36 = m.drop 1
    rw [List.drop_drop, show 1 + 36 = l.length + 1 by omega, ← List.drop_drop, List.drop_left]
  rw [e] at hr
  exact hr
set_option maxRecDepth 100000 in
set_option maxHeartbeats 4000000 in
theorem l_side (a b : List Int) (ha : K8 a) (hb : K8 b) (r : Nat) (w : World) : Calls Tryd.prog 11 #[.string (saf a b r), .agg (irow .u8 a), .agg (irow .u8 b)] w fun e w' => ∃ v, e = .returned v ∧ v = .string (hlb (hrs a (r - 1))) ∧ Below w.heap.size w w' := by
  have RA := hp2_0 w (.cells (irow .u8 a) 23) (.cells (irow .u8 b) 23)
  have RB := hp2_1 w (.cells (irow .u8 a) 23) (.cells (irow .u8 b) 23)
  have hw : Below w.heap.size w ((w.alloc (.cells (irow .u8 a) 23)).alloc (.cells (irow .u8 b) 23)) := ((Below.refl _ _).alloc (Nat.le_refl _) _).alloc (by simp) _
  have sk := slice_k w.heap.size
  have sk1 := slice_k (w.heap.size + 1)
  go_enter Tryd.func11, Tryd.ntmps11
  go_upto_region 1 with (first | (refine wpList_box rfl 23 _ rfl _ rfl (bKy _) ?_) | fail)
  try simp only [size_alloc1, Act.put, List.setIfInBounds_toArray, List.set_cons_succ, List.set_cons_zero]
  generalize (w.alloc (.cells (irow .u8 a) 23)).alloc (.cells (irow .u8 b) 23) = w1 at *
  have hbd : Below w1.heap.size w1 w1.drew := below_drN (Below.refl _ _) 1
  replace RA := keep hbd RA
  replace RB := keep hbd RB
  replace hw := Below.after hw hbd
  clear hbd
  refine wp_region_noPanic ?_
  refine wp_region_held (S := fun W => W.heap[w.heap.size]? = some (.cells (irow .u8 a) 23 (0, 0)) ∧ W.heap[w.heap.size + 1]? = some (.cells (irow .u8 b) 23 (0, 0))) (by kernel_rfl) ?_
  change wpAnyH _ _ _ _ _ _ _ _ (World.drew _)
  generalize w1.drew = y2 at *
  refine wpAnyH_take (i := 0) (v := ?v3) rfl (by kernel_rfl) (by kernel_rfl) (by kernel_rfl) (fun _ _ _ h => h) (Or.inl ⟨by rfl, ?y3⟩) ⟨RA, RB⟩ ?r3
  case y3 =>
    intro w_ hS_
    go_simp
    try with_reducible rfl
  simp only [Act.put, List.getElem_toArray, List.getElem_cons_zero, List.setIfInBounds_toArray, List.set_cons_succ, List.set_cons_zero]
  refine wpAnyH_take (i := 1) (v := .string (kst b)) rfl (by kernel_rfl) (by kernel_rfl) (by kernel_rfl) (fun _ _ _ h => h) (Or.inl ⟨by rfl, ?y4⟩) ⟨RA, RB⟩ ?r4
  case y4 =>
    intro w_ hS_
    simp only [List.getElem_toArray, List.getElem_cons_succ, List.getElem_cons_zero]
    exact op_strK _ rfl (w.heap.size + 1) 32 rfl b hb.1 hS_.2
  simp only [Act.put, List.getElem_toArray, List.getElem_cons_succ, List.getElem_cons_zero, List.setIfInBounds_toArray, List.set_cons_succ, List.set_cons_zero]
  refine wpAnyH_take (i := 2) (v := ?v5) rfl (by kernel_rfl) (by kernel_rfl) (by kernel_rfl) (fun _ _ _ h => h) (Or.inl ⟨by rfl, ?y5⟩) ⟨RA, RB⟩ ?r5
  case y5 =>
    intro w_ hS_
    go_simp
    try with_reducible rfl
  simp only [Act.put, List.getElem_toArray, List.getElem_cons_succ, List.getElem_cons_zero, List.setIfInBounds_toArray, List.set_cons_succ, List.set_cons_zero]
  refine wpAnyH_take (i := 3) (v := .string (kst a)) rfl (by kernel_rfl) (by kernel_rfl) (by kernel_rfl) (fun _ _ _ h => h) (Or.inl ⟨by rfl, ?y6⟩) ⟨RA, RB⟩ ?r6
  case y6 =>
    intro w_ hS_
    simp only [List.getElem_toArray, List.getElem_cons_succ, List.getElem_cons_zero]
    exact op_strK _ rfl (w.heap.size) 32 rfl a ha.1 hS_.1
  simp only [Act.put, List.getElem_toArray, List.getElem_cons_succ, List.getElem_cons_zero, List.setIfInBounds_toArray, List.set_cons_succ, List.set_cons_zero]
  refine wpAnyH_take (i := 4) (v := .bool (swp a b)) rfl (by kernel_rfl) (by kernel_rfl) (by kernel_rfl) (fun _ _ _ h => h) (Or.inl ⟨by rfl, ?y7⟩) ⟨RA, RB⟩ ?r7
  case y7 =>
    intro w_ hS_
    simp only [List.getElem_toArray, List.getElem_cons_succ, List.getElem_cons_zero]
    exact op_lssK _ _ rfl a b rfl rfl
  simp only [Act.put, List.getElem_toArray, List.getElem_cons_succ, List.getElem_cons_zero, List.setIfInBounds_toArray, List.set_cons_succ, List.set_cons_zero]
  refine wpAnyH_done (by kernel_rfl) ?_ _
  refine NoPanic.normal ?_
  cases hsw : swp a b with
  | true =>
    have hf := sl_second (hrs b (r - 1)) (hrs a (r - 1))
    have ry : saf a b r = sfs (hrs b (r - 1)) (hrs a (r - 1)) := by simp [saf, hsw]
    rw [← ry] at hf
    clear ry hsw
    generalize saf a b r = S at *
    go_wp2_with (fail)
    go_ret
    exact ⟨_, rfl, rfl, hw⟩
  | false =>
    have hf := sl_first (hrs a (r - 1)) (hrs b (r - 1))
    have ry : saf a b r = sfs (hrs a (r - 1)) (hrs b (r - 1)) := by simp [saf, hsw]
    rw [← ry] at hf
    clear ry hsw
    generalize saf a b r = S at *
    go_wp2_with (fail)
    go_ret
    exact ⟨_, rfl, rfl, hw⟩
/-- A power of ten, going down. -/
def pwd (m : Nat) : Nat := 10000 / 10 ^ m
theorem pwd_next (m : Nat) : pwd m / 10 = pwd (m + 1) := by unfold pwd; rw [Nat.div_div_eq_div_mul, Nat.pow_succ]
theorem pwd_at (m : Nat) (h : m < 5) : pwd m = 10 ^ (4 - m) := by
  obtain rfl | rfl | rfl | rfl | rfl : m = 0 ∨ m = 1 ∨ m = 2 ∨ m = 3 ∨ m = 4 := by omega
  all_goals rfl
theorem dig_take (n m : Nat) (h : m < 5) : (dig5 n).take (m + 1) = (dig5 n).take m ++ [Lib.dg n (4 - m)] := by
  obtain rfl | rfl | rfl | rfl | rfl : m = 0 ∨ m = 1 ∨ m = 2 ∨ m = 3 ∨ m = 4 := by omega
  all_goals rfl
/-- The half under way. -/
def hlf (h : List Int) (j : Nat) : List UInt8 := (dgs h j ++ [32]).drop 1
theorem hlf_succ (h : List Int) (j : Nat) : hlf h (j + 1) = hlf h j ++ (grp h j).data.toList ++ [32] := by
  unfold hlf
  rw [dgs_succ]
  have e : dgs h j ++ (32 :: (grp h j).data.toList) ++ [32] = (dgs h j ++ [32]) ++ ((grp h j).data.toList ++ [32]) := by simp
  rw [e, List.drop_append_of_le_length (by simp), List.append_assoc]
theorem hlf_len (h : List Int) (j : Nat) : (hlf h j).length = 6 * j := by
  unfold hlf
  rw [List.length_drop, List.length_append, dgs_len]
  simp
theorem sl_half (h : List Int) (W : World) : (Instr.sliceAt 9 (.string ⟨(hlf h 6).toArray⟩) none (some (.int .i64 35)) none).run Tryd.prog W = .ok (.string (hlb h)) W := by
  have hx := dgs_len h 6
  unfold hlb hlf
  generalize dgs h 6 = l at *
  have hr := run_slice_string_to_if (P := Tryd.prog) W 9 ⟨((l ++ [32]).drop 1).toArray⟩ .i64 35 Tryd.underlying9
  rw [if_pos (by simp [ByteArray.size]; omega), ext_bytes] at hr
  have e : (((l ++ [32]).drop 1).take (35 : Int).toNat).drop 0 = l.drop 1 := by
    show (((l ++ [32]).drop 1).take 35) = l.drop 1
    rw [List.drop_append_of_le_length (by omega), List.take_append_of_le_length (by simp; omega), List.take_of_length_le (by simp; omega)]
  rw [e] at hr
  exact hr
set_option maxRecDepth 100000 in
set_option maxHeartbeats 4000000 in
theorem halves_any (a b c : List Int) (ha : K8 a) (hb : K8 b) (hc : K8 c) (r : Int) (w : World) (hS : Sta w) (hKo : Kon w) (hT : Pow w) : Calls Tryd.prog 5 #[.agg (irow .u8 a), .agg (irow .u8 b), .agg (irow .u8 c), .int .i64 r] w fun e w' => e = .returned (.bool true) ∧ Below w.heap.size w w' := by
  have RA := hp3_0 w (.cells (irow .u8 a) 23) (.cells (irow .u8 b) 23) (.cells (irow .u8 c) 23)
  have RB := hp3_1 w (.cells (irow .u8 a) 23) (.cells (irow .u8 b) 23) (.cells (irow .u8 c) 23)
  have RC := hp3_2 w (.cells (irow .u8 a) 23) (.cells (irow .u8 b) 23) (.cells (irow .u8 c) 23)
  have hw : Below w.heap.size w (((w.alloc (.cells (irow .u8 a) 23)).alloc (.cells (irow .u8 b) 23)).alloc (.cells (irow .u8 c) 23)) := (((Below.refl _ _).alloc (Nat.le_refl _) _).alloc (by simp) _).alloc (by simp; omega) _
  replace hS := hS.below hw
  replace hKo := hKo.below hw
  replace hT := hT.below hw
  have sk := slice_k w.heap.size
  go_enter Tryd.func5, Tryd.ntmps5
  go_upto_region 1 with (first | (refine wpList_box rfl 23 _ rfl _ rfl (bKy _) ?_) | fail)
  try simp only [size_alloc1, Act.put, List.setIfInBounds_toArray, List.set_cons_succ, List.set_cons_zero]
  generalize ((w.alloc (.cells (irow .u8 a) 23)).alloc (.cells (irow .u8 b) 23)).alloc (.cells (irow .u8 c) 23) = w1 at *
  by_cases hr : r < 1 ∨ 6000 < r
  · by_cases hr1 : r < 1
    · have hd1 : decide (r < 1) = true := by simpa using hr1
      go_wp2_with (first | (refine wpList_load_want rfl 23 _ rfl (w.heap.size + 1 + 1) rfl 23 (irow .u8 c) (0, 0) _ RC Tryd.underlying23 rfl (infoKy _ hc.1) ?_) | (refine wpList_load_want rfl 23 _ rfl (w.heap.size + 1) rfl 23 (irow .u8 b) (0, 0) _ RB Tryd.underlying23 rfl (infoKy _ hb.1) ?_) | (refine wpList_load_want rfl 23 _ rfl (w.heap.size) rfl 23 (irow .u8 a) (0, 0) _ RA Tryd.underlying23 rfl (infoKy _ ha.1) ?_) | fail)
      refine (number_any a b ha hb r w1 hS hKo hT).mono ?_
      rintro e_ w2 ⟨rfl, hb_⟩
      go_wp2_with (fail)
      go_ret
      exact ⟨rfl, Below.after hw hb_⟩
    · have hd1 : decide (r < 1) = false := by simpa using hr1
      have hd2 : decide ((6000 : Int) < r) = true := by simp; omega
      go_wp2_with (first | (refine wpList_load_want rfl 23 _ rfl (w.heap.size + 1 + 1) rfl 23 (irow .u8 c) (0, 0) _ RC Tryd.underlying23 rfl (infoKy _ hc.1) ?_) | (refine wpList_load_want rfl 23 _ rfl (w.heap.size + 1) rfl 23 (irow .u8 b) (0, 0) _ RB Tryd.underlying23 rfl (infoKy _ hb.1) ?_) | (refine wpList_load_want rfl 23 _ rfl (w.heap.size) rfl 23 (irow .u8 a) (0, 0) _ RA Tryd.underlying23 rfl (infoKy _ ha.1) ?_) | fail)
      refine (number_any a b ha hb r w1 hS hKo hT).mono ?_
      rintro e_ w2 ⟨rfl, hb_⟩
      go_wp2_with (fail)
      go_ret
      exact ⟨rfl, Below.after hw hb_⟩
  · obtain ⟨n, rfl⟩ := Int.eq_ofNat_of_zero_le (show 0 ≤ r by omega)
    have h1 : 1 ≤ n := by omega
    have h2 : n ≤ 6000 := by omega
    have hd1 : decide ((n : Int) < 1) = false := by simp; omega
    have hd2 : decide ((6000 : Int) < (n : Int)) = false := by simp; omega
    clear hr
    go_wp2_with (first | (refine wpList_load_want rfl 23 _ rfl (w.heap.size + 1 + 1) rfl 23 (irow .u8 c) (0, 0) _ RC Tryd.underlying23 rfl (infoKy _ hc.1) ?_) | (refine wpList_load_want rfl 23 _ rfl (w.heap.size + 1) rfl 23 (irow .u8 b) (0, 0) _ RB Tryd.underlying23 rfl (infoKy _ hb.1) ?_) | (refine wpList_load_want rfl 23 _ rfl (w.heap.size) rfl 23 (irow .u8 a) (0, 0) _ RA Tryd.underlying23 rfl (infoKy _ ha.1) ?_) | fail)
    refine (a_Safety a b ha hb n h1 h2 w1 hS hKo hT).mono ?_
    rintro e_ w2 ⟨_, rfl, rfl, hb_⟩
    have l_RA_w2 := lt_of_row RA
    have l_RB_w2 := lt_of_row RB
    have l_RC_w2 := lt_of_row RC
    replace RA := keep hb_ RA
    replace RB := keep hb_ RB
    replace RC := keep hb_ RC
    replace hS := hS.below hb_
    replace hKo := hKo.below hb_
    replace hT := hT.below hb_
    have sw_w2 := hw.size
    replace hw := Below.after hw hb_
    clear hb_
    go_wp2_with (first | (refine wpList_load_want rfl 23 _ rfl (w.heap.size + 1 + 1) rfl 23 (irow .u8 c) (0, 0) _ RC Tryd.underlying23 rfl (infoKy _ hc.1) ?_) | (refine wpList_load_want rfl 23 _ rfl (w.heap.size + 1) rfl 23 (irow .u8 b) (0, 0) _ RB Tryd.underlying23 rfl (infoKy _ hb.1) ?_) | (refine wpList_load_want rfl 23 _ rfl (w.heap.size) rfl 23 (irow .u8 a) (0, 0) _ RA Tryd.underlying23 rfl (infoKy _ ha.1) ?_) | fail)
    refine (a_Safety a c ha hc n h1 h2 w2 hS hKo hT).mono ?_
    rintro e_ w3 ⟨_, rfl, rfl, hb_⟩
    have l_RA_w3 := lt_of_row RA
    have l_RB_w3 := lt_of_row RB
    have l_RC_w3 := lt_of_row RC
    replace RA := keep hb_ RA
    replace RB := keep hb_ RB
    replace RC := keep hb_ RC
    replace hS := hS.below hb_
    replace hKo := hKo.below hb_
    replace hT := hT.below hb_
    have sw_w3 := hw.size
    replace hw := Below.after hw hb_
    clear hb_
    obtain ⟨x1_, x2_, hx_⟩ := saf_sfs a b n
    obtain ⟨y1_, y2_, hy_⟩ := saf_sfs a c n
    have lsA := l_side a b ha hb n
    have lsB := l_side a c ha hc n
    rw [hx_] at lsA ⊢
    rw [hy_] at lsB ⊢
    clear hx_ hy_
    generalize hSX : sfs x1_ x2_ = SX at *
    generalize hSY : sfs y1_ y2_ = SY at *
    replace hSX := hide hSX
    replace hSY := hide hSY
    replace lsA := hide lsA
    replace lsB := hide lsB
    have lg1 := hide (fun W => l_grouped x1_ x2_ W)
    have lg2 := hide (fun W => l_grouped y1_ y2_ W)
    rw [hSX.out] at lg1
    rw [hSY.out] at lg2
    clear hSX hSY
    go_wp2_with (fail)
    refine (lg1.out w3).mono ?_
    rintro e_ w4 ⟨_, rfl, rfl, hb_⟩
    have l_RA_w4 := lt_of_row RA
    have l_RB_w4 := lt_of_row RB
    have l_RC_w4 := lt_of_row RC
    replace RA := keep hb_ RA
    replace RB := keep hb_ RB
    replace RC := keep hb_ RC
    replace hS := hS.below hb_
    replace hKo := hKo.below hb_
    replace hT := hT.below hb_
    have sw_w4 := hw.size
    replace hw := Below.after hw hb_
    clear hb_
    go_wp2_with (fail)
    refine (lg2.out w4).mono ?_
    rintro e_ w5 ⟨_, rfl, rfl, hb_⟩
    have l_RA_w5 := lt_of_row RA
    have l_RB_w5 := lt_of_row RB
    have l_RC_w5 := lt_of_row RC
    replace RA := keep hb_ RA
    replace RB := keep hb_ RB
    replace RC := keep hb_ RC
    replace hS := hS.below hb_
    replace hKo := hKo.below hb_
    replace hT := hT.below hb_
    have sw_w5 := hw.size
    replace hw := Below.after hw hb_
    clear hb_ lg1 lg2
    go_upto_region 7 with (fail)
    repeat ((fail_if_success (refine wpList_wop rfl (.slice (some ⟨w5.heap.size, 0, none⟩) 11 11) (w5.alloc (.cells #[.int .u8 112, .int .u8 97, .int .u8 119, .int .u8 108, .int .u8 32, .int .u8 115, .int .u8 97, .int .u8 102, .int .u8 101, .int .u8 116, .int .u8 121] 5)) (op_bs11 rfl) ?_)); first | go_skip | go_step)
    refine wpList_wop rfl (.slice (some ⟨w5.heap.size, 0, none⟩) 11 11) (w5.alloc (.cells #[.int .u8 112, .int .u8 97, .int .u8 119, .int .u8 108, .int .u8 32, .int .u8 115, .int .u8 97, .int .u8 102, .int .u8 101, .int .u8 116, .int .u8 121] 5)) (op_bs11 rfl) ?_
    have NM := hp1_0 w5 (.cells #[.int .u8 112, .int .u8 97, .int .u8 119, .int .u8 108, .int .u8 32, .int .u8 115, .int .u8 97, .int .u8 102, .int .u8 101, .int .u8 116, .int .u8 121] 5)
    have hb_ : Below w5.heap.size w5 (w5.alloc (.cells #[.int .u8 112, .int .u8 97, .int .u8 119, .int .u8 108, .int .u8 32, .int .u8 115, .int .u8 97, .int .u8 102, .int .u8 101, .int .u8 116, .int .u8 121] 5)) := (Below.refl _ _).alloc (Nat.le_refl _) _
    have l_RA_v2 := lt_of_row RA
    have l_RB_v2 := lt_of_row RB
    have l_RC_v2 := lt_of_row RC
    replace RA := keep hb_ RA
    replace RB := keep hb_ RB
    replace RC := keep hb_ RC
    replace hS := hS.below hb_
    replace hKo := hKo.below hb_
    replace hT := hT.below hb_
    have sw_v2 := hw.size
    replace hw := Below.after hw hb_
    clear hb_
    try simp only [Act.put, List.setIfInBounds_toArray, List.set_cons_succ, List.set_cons_zero]
    generalize w5.alloc (.cells #[.int .u8 112, .int .u8 97, .int .u8 119, .int .u8 108, .int .u8 32, .int .u8 115, .int .u8 97, .int .u8 102, .int .u8 101, .int .u8 116, .int .u8 121] 5) = v2 at *
    generalize w5.heap.size = gN at *
    repeat ((fail_if_success (refine wpList_wop rfl (.slice (some ⟨gN, 0, none⟩) 11 11) (v2.freeze ⟨gN, 11, none⟩ 1) (op_cvC _ rfl gN 11 11 rfl _ NM) ?_)); first | go_skip | go_step)
    refine wpList_wop rfl (.slice (some ⟨gN, 0, none⟩) 11 11) (v2.freeze ⟨gN, 11, none⟩ 1) (op_cvC _ rfl gN 11 11 rfl _ NM) ?_
    have hT3 := hT.sz
    have hbz := freeze_below v2 gN 11
    replace RA := (freeze_other (W := v2) (g := gN) (k := 11) (by omega)).trans RA
    replace RB := (freeze_other (W := v2) (g := gN) (k := 11) (by omega)).trans RB
    replace RC := (freeze_other (W := v2) (g := gN) (k := 11) (by omega)).trans RC
    replace NM := freeze_heap (k := 11) NM
    replace hS := hS.belowN (by omega) hbz
    replace hKo := hKo.belowN (by omega) hbz
    replace hw := hw.trans (hbz.mono (by omega))
    clear hbz hT
    try simp only [Act.put, List.setIfInBounds_toArray, List.set_cons_succ, List.set_cons_zero]
    generalize v2.freeze ⟨gN, 11, none⟩ 1 = v3 at *
    repeat ((fail_if_success (refine wpList_append_full rfl _ _ rfl gN sfn rfl (sfn_news NM) ⟨w.heap.size, 0, none⟩ a 32 (by rw [ha.1]; rfl) (row_news RA) (by rw [ha.1]; decide) (by rw [ha.1]; decide) ?_)); first | go_skip | go_step)
    refine wpList_append_full rfl _ _ rfl gN sfn rfl (sfn_news NM) ⟨w.heap.size, 0, none⟩ a 32 (by rw [ha.1]; rfl) (row_news RA) (by rw [ha.1]; decide) (by rw [ha.1]; decide) ?_
    intro u1 v4 hC hb_
    have l_RA_v4 := lt_of_row RA
    have l_RB_v4 := lt_of_row RB
    have l_RC_v4 := lt_of_row RC
    replace RA := keep hb_ RA
    replace RB := keep hb_ RB
    replace RC := keep hb_ RC
    replace hS := hS.below hb_
    replace hKo := hKo.below hb_
    have sw_v4 := hw.size
    replace hw := Below.after hw hb_
    clear hb_ NM
    try simp only [Act.put, List.setIfInBounds_toArray, List.set_cons_succ, List.set_cons_zero]
    obtain ⟨hB1, hB2⟩ := (Sec.bys (.inl hC)) (by rw [List.length_append, ha.1]; decide) (fun z hz => (List.mem_append.1 hz).elim (sfn_bd z) (ha.2 z))
    go_wp2_with (fail)
    refine (a_sum (sfn ++ a) v4 _ hS hKo hB1 hB2 (by rw [List.length_append, ha.1]; decide)).mono ?_
    rintro e_ v6 ⟨rfl, hb_⟩
    have l_RA_v6 := lt_of_row RA
    have l_RB_v6 := lt_of_row RB
    have l_RC_v6 := lt_of_row RC
    replace RA := keep hb_ RA
    replace RB := keep hb_ RB
    replace RC := keep hb_ RC
    replace hS := hS.below hb_
    replace hKo := hKo.below hb_
    have sw_v6 := hw.size
    replace hw := Below.after hw hb_
    clear hb_ hC hB1 hB2
    have hl0 := hrs_len a 0
    rw [show sumL (sfn ++ a) = hrs a 0 from rfl]
    have z_ := hp1_0 v6 (.cells (irow .u8 (zr 32)) 23)
    go_wp2_with (first | (refine wpList_alloc rfl 23 rfl (irow .u8 (zr 32)) zkey ?_) | (refine wpList_store_row rfl 23 _ _ rfl (v6.heap.size) (irow .u8 (hrs a 0)) rfl rfl 23 _ z_ (infoKy _ hl0) (by rw [irow_size, irow_size, hl0, zr_len]) (irow_one _ _) ?_; refine wpList_stay ?_) | fail)
    unfold WpStay
    try simp only [Act.put, List.setIfInBounds_toArray, List.set_cons_succ, List.set_cons_zero]
    have HB := setRow_heap (v6.alloc (.cells (irow .u8 (zr 32)) 23)) v6.heap.size _ (irow .u8 (hrs a 0)) _ _ z_
    have hb_ : Below v6.heap.size v6 ((v6.alloc (.cells (irow .u8 (zr 32)) 23)).setRow v6.heap.size (irow .u8 (hrs a 0))) := below_setRow ((Below.refl _ _).alloc (Nat.le_refl _) _) (Nat.le_refl _) _
    have l_RA_v7 := lt_of_row RA
    have l_RB_v7 := lt_of_row RB
    have l_RC_v7 := lt_of_row RC
    replace RA := keep hb_ RA
    replace RB := keep hb_ RB
    replace RC := keep hb_ RC
    replace hS := hS.below hb_
    replace hKo := hKo.below hb_
    have sw_v7 := hw.size
    replace hw := Below.after hw hb_
    clear hb_ z_
    generalize (v6.alloc (.cells (irow .u8 (zr 32)) 23)).setRow v6.heap.size (irow .u8 (hrs a 0)) = v7 at *
    generalize v6.heap.size = gH at *
    go_wp2_with (fail)
    have lH7 := lt_of_row HB
    have kS := hS.sz
    have kK := hKo.sz
    go_loopw [14] (fun i wr => ∃ m : Nat, m ≤ n - 1 ∧ i = .int .i64 ((m + 1 : Nat) : Int) ∧ wr.heap[gH]? = some (.cells (irow .u8 (hrs a m)) 23 (0, 0)) ∧ Below gH v7 wr) (fun i _ => n - (intOf i).toNat)
    case atStart => exact ⟨0, by omega, rfl, HB, Below.refl _ _⟩
    case round =>
      clear HB
      obtain ⟨m, hm, rfl, HB, hbg⟩ := hrel
      replace RA := (hbg.block w.heap.size (by omega)).trans RA
      by_cases hlt : m < n - 1
      · have hd : decide (((m + 1 : Nat) : Int) < (n : Int)) = true := by simp; omega
        have hlm := hrs_len a m
        have hl1 := hrs_len a (m + 1)
        have szg := hbg.size
        replace hS := hS.belowN (by omega) hbg
        replace hKo := hKo.belowN (by omega) hbg
        clear RB RC hw
        go_upto_region 11 with (fail)
        repeat ((fail_if_success (refine wpList_load_want rfl 23 _ rfl gH rfl 23 (irow .u8 (hrs a m)) (0, 0) _ HB Tryd.underlying23 rfl (infoKy _ hlm) ?_)); first | go_skip | go_step)
        refine wpList_load_want rfl 23 _ rfl gH rfl 23 (irow .u8 (hrs a m)) (0, 0) _ HB Tryd.underlying23 rfl (infoKy _ hlm) ?_
        try simp only [Act.put, List.setIfInBounds_toArray, List.set_cons_succ, List.set_cons_zero]
        repeat ((fail_if_success (refine wpList_load_want rfl 23 _ rfl (w.heap.size) rfl 23 (irow .u8 a) (0, 0) _ RA Tryd.underlying23 rfl (infoKy _ ha.1) ?_)); first | go_skip | go_step)
        refine wpList_load_want rfl 23 _ rfl (w.heap.size) rfl 23 (irow .u8 a) (0, 0) _ RA Tryd.underlying23 rfl (infoKy _ ha.1) ?_
        try simp only [Act.put, List.setIfInBounds_toArray, List.set_cons_succ, List.set_cons_zero]
        repeat ((fail_if_success (refine wpList_wop rfl (.slice (some ⟨wr.heap.size, 0, none⟩) 2 2) (wr.alloc (.cells (irow .u8 (hrs a m ++ a)) 23)) (op_bk2 _ _ rfl (hrs a m) a hlm ha.1 rfl rfl) ?_)); first | go_skip | go_step)
        refine wpList_wop rfl (.slice (some ⟨wr.heap.size, 0, none⟩) 2 2) (wr.alloc (.cells (irow .u8 (hrs a m ++ a)) 23)) (op_bk2 _ _ rfl (hrs a m) a hlm ha.1 rfl rfl) ?_
        have KR := hp1_0 wr (.cells (irow .u8 (hrs a m ++ a)) 23)
        have hb_ : Below wr.heap.size wr (wr.alloc (.cells (irow .u8 (hrs a m ++ a)) 23)) := (Below.refl _ _).alloc (Nat.le_refl _) _
        have l_RA_x2 := lt_of_row RA
        have l_HB_x2 := lt_of_row HB
        replace RA := keep hb_ RA
        replace HB := keep hb_ HB
        replace hS := hS.below hb_
        replace hKo := hKo.below hb_
        have sz_x2 := hb_.size
        replace hbg := hbg.trans (hb_.mono (by omega))
        clear hb_
        try simp only [Act.put, List.setIfInBounds_toArray, List.set_cons_succ, List.set_cons_zero]
        generalize wr.alloc (.cells (irow .u8 (hrs a m ++ a)) 23) = x2 at *
        generalize wr.heap.size = gK at *
        go_wp2_with (fail)
        refine (l_join14 [hrs a m, a] (by simp [hlm, ha.1]) (by simp) (by simp) gK _ x2 (own_bk2 hlm ha.1 KR)).mono ?_
        rintro e_ x3 ⟨u_, rfl, hC, hb_⟩
        have l_RA_x3 := lt_of_row RA
        have l_HB_x3 := lt_of_row HB
        replace RA := keep hb_ RA
        replace HB := keep hb_ HB
        replace hS := hS.below hb_
        replace hKo := hKo.below hb_
        have sz_x3 := hb_.size
        replace hbg := hbg.trans (hb_.mono (by omega))
        clear hb_ KR
        simp only [List.flatten_cons, List.flatten_nil, List.append_nil] at hC
        obtain ⟨hB1, hB2⟩ := (Sec.bys (.inl hC)) (by rw [List.length_append, ha.1, hlm]; decide) (fun z hz => (List.mem_append.1 hz).elim (hrs_bd a m z) (ha.2 z))
        go_wp2_with (fail)
        refine (a_sum (hrs a m ++ a) x3 _ hS hKo hB1 hB2 (by rw [List.length_append, ha.1, hlm]; decide)).mono ?_
        rintro e_ x4 ⟨rfl, hb_⟩
        have l_RA_x4 := lt_of_row RA
        have l_HB_x4 := lt_of_row HB
        replace RA := keep hb_ RA
        replace HB := keep hb_ HB
        replace hS := hS.below hb_
        replace hKo := hKo.below hb_
        have sz_x4 := hb_.size
        replace hbg := hbg.trans (hb_.mono (by omega))
        clear hb_ hC hB1 hB2
        rw [show sumL (hrs a m ++ a) = hrs a (m + 1) from rfl]
        go_wp2_with (first | (refine wpList_store_row rfl 23 _ _ rfl gH (irow .u8 (hrs a (m + 1))) rfl rfl 23 _ HB (infoKy _ hl1) (by rw [irow_size, irow_size, hl1, hlm]) (irow_one _ _) ?_; refine wpList_stay ?_) | fail)
        unfold WpStay
        try simp only [Act.put, List.setIfInBounds_toArray, List.set_cons_succ, List.set_cons_zero]
        replace HB := setRow_heap x4 gH _ (irow .u8 (hrs a (m + 1))) _ _ HB
        replace hbg := below_setRow hbg (Nat.le_refl gH) (irow .u8 (hrs a (m + 1)))
        generalize x4.setRow gH (irow .u8 (hrs a (m + 1))) = x5 at *
        clear hS hKo RA
        go_wp2_with (fail)
        refine ⟨⟨m + 1, by omega, by go_num, HB, hbg⟩, ?_⟩
        simp [intOf]; omega
      · obtain rfl : m = n - 1 := by omega
        have hd : decide (((n - 1 + 1 : Nat) : Int) < (n : Int)) = false := by simp; omega
        replace RB := (hbg.block (w.heap.size + 1) (by omega)).trans RB
        replace RC := (hbg.block (w.heap.size + 1 + 1) (by omega)).trans RC
        replace hw := hw.trans (hbg.mono (by omega))
        have hlh := hrs_len a (n - 1)
        have hzh := hrs_bd a (n - 1)
        generalize hG : hrs a (n - 1) = h at *
        replace hG := hide hG
        have lHy := lt_of_row HB
        have lRy := lt_of_row RC
        clear hbg hS hKo
        generalize wr = y at *
        go_wp2_with (fail)
        go_loopw [15, 16] (fun o i wr => ∃ j : Nat, j ≤ 6 ∧ i = .int .i64 ((5 * j : Nat) : Int) ∧ o = .string ⟨(hlf h j).toArray⟩ ∧ Below y.heap.size y wr) (fun _ i _ => 30 - (intOf i).toNat)
        case atStart => exact ⟨0, by omega, rfl, rfl, Below.refl _ _⟩
        case round =>
          obtain ⟨j, hj, rfl, rfl, hby⟩ := hrel
          by_cases hj6 : j < 6
          · have hdj : decide (((5 * j : Nat) : Int) < 30) = true := by simp; omega
            have szy := hby.size
            replace HB := (hby.block gH lHy).trans HB
            obtain ⟨g1, g2, g3⟩ := grp_cells hlh hzh HB j hj6
            generalize hq : ((h.drop (5 * j)).take 5).map Int.toNat = q at *
            have hq' := hide hq
            clear hq
            go_wp2_with (fail)
            go_loopw [17, 18] (fun n i wx => ∃ m : Nat, m ≤ 5 ∧ i = .int .i64 m ∧ n = .int .i64 ((be5 (q.take m) : Nat) : Int) ∧ wx = wr) (fun _ i _ => 5 - (intOf i).toNat)
            case atStart => exact ⟨0, by omega, rfl, rfl, rfl⟩
            case round =>
              obtain ⟨m, hm, rfl, rfl, rfl⟩ := hrel
              by_cases hm5 : m < 5
              · have hdm : decide ((m : Int) < 5) = true := by simp; omega
                have hmq : m < q.length := by omega
                have hcell := g3 m q[m] (List.getElem?_eq_getElem hmq)
                have hx := g2 q[m] (List.getElem_mem hmq)
                have hn := be5_lt q g2 m (by omega)
                have hp : 256 ^ m ≤ 256 ^ 4 := Nat.pow_le_pow_right (by omega) (by omega)
                have e1 : ((be5 (q.take m) : Nat) * 256 + (q[m] : Int)) = ((be5 (q.take (m + 1)) : Nat) : Int) := by
                  rw [be5_take q m hmq]
                  omega
                replace e1 := hide e1
                go_wp2_with (fail)
                refine ⟨⟨m + 1, by omega, by go_num, by rw [e1.out], trivial⟩, ?_⟩
                simp [intOf]; omega
              · obtain rfl : m = 5 := by omega
                have hdm : decide (((5 : Nat) : Int) < 5) = false := by simp
                rw [List.take_of_length_le (by omega : q.length ≤ 5)]
                have hz5 : be5 q % 100000 < 100000 := Nat.mod_lt _ (by omega)
                obtain ⟨N, hN⟩ : ∃ N : Nat, N = be5 q % 100000 := ⟨_, rfl⟩
                have hNi : ((be5 q : Nat) : Int) % 100000 = (N : Int) := by omega
                rw [← hN] at hz5
                replace hN := hide hN
                replace hz5 := hide hz5
                clear g1 g2 g3
                go_wp2_with (fail)
                rw [hNi]
                clear hNi
                generalize wr = y1 at *
                have hc0 := hlf_len h j
                have hfin : hlf h (j + 1) = hlf h j ++ dig5 N ++ [32] := by
                  rw [hlf_succ, grp, hq'.out, ← hN.out]
                generalize hlf h j = E0 at *
                replace hfin := hide hfin
                go_loopw [15, 19] (fun o p wx => ∃ m : Nat, m ≤ 5 ∧ p = .int .i64 ((pwd m : Nat) : Int) ∧ o = .string ⟨(E0 ++ (dig5 N).take m).toArray⟩ ∧ Below y1.heap.size y1 wx) (fun _ p _ => (intOf p).toNat)
                case atStart => exact ⟨0, by omega, rfl, by simp, Below.refl _ _⟩
                case round =>
                  obtain ⟨m, hm, rfl, rfl, hbx⟩ := hrel
                  have szx := hbx.size
                  by_cases hm5 : m < 5
                  · have hpw := pwd_at m hm5
                    have hp0 : 0 < pwd m := by rw [hpw]; exact Nat.pow_pos (by decide)
                    have hst := dg_str N (4 - m)
                    rw [← hpw] at hst
                    have hnx := pwd_next m
                    have hPl : pwd m ≤ 10000 := Nat.div_le_self _ _
                    have hPs : pwd (m + 1) < pwd m := by rw [← hnx]; omega
                    have e3 : Hid ((pwd m : Int) / 10 = ((pwd (m + 1) : Nat) : Int)) := hide (by rw [← hnx]; omega)
                    replace hPs := hide hPs
                    have hdc := dig_take N m hm5
                    have hdl : (E0 ++ (dig5 N).take m).length ≤ 100 := by rw [List.length_append, hc0, List.length_take]; simp [dig5]; omega
                    generalize (dig5 N).take m = L0 at *
                    generalize Lib.dg N (4 - m) = dc at *
                    generalize pwd m = P at *
                    obtain ⟨D, hD⟩ : ∃ D : Nat, D = N / P := ⟨_, rfl⟩
                    have hDi : (N : Int) / (P : Int) = (D : Int) := by rw [hD]; exact (Int.natCast_ediv N P).symm
                    rw [← hD] at hst
                    have hDl : D < 100000 := by rw [hD]; exact Nat.lt_of_le_of_lt (Nat.div_le_self _ _) hz5.out
                    rw [show ((D % 10 : Nat) : Int) = (D : Int) % 10 by omega] at hst
                    have e2 : IntKind.u8.wrap (48 + (D : Int) % 10) = 48 + (D : Int) % 10 := by rw [IntKind.wrap_u8]; omega
                    have hd0 : decide ((0 : Int) < (P : Int)) = true := by simpa using hp0
                    have hP1 : ¬ (P : Int) = 0 := by omega
                    have hP2 : ¬ P = 0 := by omega
                    replace hD := hide hD
                    replace hst := hide hst
                    replace hdc := hide hdc
                    replace hdl := hide hdl
                    replace hnx := hide hnx
                    replace hpw := hide hpw
                    have hca : ¬ 9223372036854775807 < E0.length + L0.length + 1 := by have := hdl.out; rw [List.length_append] at this; omega
                    repeat ((fail_if_success (refine wpList_wop rfl (.slice (some ⟨wr.heap.size, 0, none⟩) 1 1) (wr.alloc (.cells #[.int .u8 (48 + (D : Int) % 10)] 5)) (op_bs1 _ rfl (48 + (D : Int) % 10) rfl) ?_)); first | go_skip | go_step)
                    refine wpList_wop rfl (.slice (some ⟨wr.heap.size, 0, none⟩) 1 1) (wr.alloc (.cells #[.int .u8 (48 + (D : Int) % 10)] 5)) (op_bs1 _ rfl (48 + (D : Int) % 10) rfl) ?_
                    have HX := hp1_0 wr (.cells #[.int .u8 (48 + (D : Int) % 10)] 5)
                    replace hbx := hbx.trans (((Below.refl _ _).alloc (Nat.le_refl _) (.cells #[.int .u8 (48 + (D : Int) % 10)] 5)).mono szx)
                    try simp only [Act.put, List.setIfInBounds_toArray, List.set_cons_succ, List.set_cons_zero]
                    generalize wr.alloc (.cells #[.int .u8 (48 + (D : Int) % 10)] 5) = x2 at *
                    generalize wr.heap.size = gX at *
                    repeat ((fail_if_success (refine wpList_wop rfl (.string ⟨#[dc]⟩) x2 (by rw [← hst.out]; exact op_str1 _ rfl gX 1 rfl _ HX) ?_)); first | go_skip | go_step)
                    refine wpList_wop rfl (.string ⟨#[dc]⟩) x2 (by rw [← hst.out]; exact op_str1 _ rfl gX 1 rfl _ HX) ?_
                    try simp only [Act.put, List.setIfInBounds_toArray, List.set_cons_succ, List.set_cons_zero]
                    clear HX
                    go_wp2_with (fail)
                    refine ⟨⟨m + 1, by omega, by rw [e3.out], by rw [hdc.out, ← List.append_assoc]; exact congrArg Value.string (cat_bytes (E0 ++ L0) [dc]), hbx⟩, ?_⟩
                    rw [e3.out]
                    have := hPs.out
                    simp only [intOf]; omega
                  · obtain rfl : m = 5 := by omega
                    have hdm : decide ((0 : Int) < ((pwd 5 : Nat) : Int)) = false := by decide
                    have htk : (dig5 N).take 5 = dig5 N := rfl
                    rw [htk]
                    have hc1 : ¬ 9223372036854775807 < E0.length + (dig5 N).length + 1 := by rw [hc0]; simp [dig5]; omega
                    generalize dig5 N = E5 at *
                    clear htk
                    go_wp2_with (fail)
                    refine ⟨⟨j + 1, by omega, by go_num, by rw [hfin.out]; exact congrArg Value.string (cat_bytes (E0 ++ E5) [32]), hby.trans (hbx.mono (by omega))⟩, ?_⟩
                    simp [intOf]; omega
          · obtain rfl : j = 6 := by omega
            have hd6 : decide (((5 * 6 : Nat) : Int) < 30) = false := by simp
            have hf := sl_half h
            replace RA := keep hby RA
            replace RB := keep hby RB
            replace RC := keep hby RC
            replace hw := Below.after hw hby
            clear hby HB
            generalize (hlf h 6).toArray = HL at *
            go_upto_region 28 with (fail)
            go_wp2_with (first | (refine wpList_load_want rfl 23 _ rfl (w.heap.size + 1 + 1) rfl 23 (irow .u8 c) (0, 0) _ RC Tryd.underlying23 rfl (infoKy _ hc.1) ?_) | (refine wpList_load_want rfl 23 _ rfl (w.heap.size + 1) rfl 23 (irow .u8 b) (0, 0) _ RB Tryd.underlying23 rfl (infoKy _ hb.1) ?_) | (refine wpList_load_want rfl 23 _ rfl (w.heap.size) rfl 23 (irow .u8 a) (0, 0) _ RA Tryd.underlying23 rfl (infoKy _ ha.1) ?_) | fail)
            refine (lsA.out wr).mono ?_
            rintro e_ y3 ⟨_, rfl, rfl, hb_⟩
            replace RA := keep hb_ RA
            replace RB := keep hb_ RB
            replace RC := keep hb_ RC
            replace hw := Below.after hw hb_
            clear hb_
            go_wp2_with (first | (refine wpList_load_want rfl 23 _ rfl (w.heap.size + 1 + 1) rfl 23 (irow .u8 c) (0, 0) _ RC Tryd.underlying23 rfl (infoKy _ hc.1) ?_) | (refine wpList_load_want rfl 23 _ rfl (w.heap.size + 1) rfl 23 (irow .u8 b) (0, 0) _ RB Tryd.underlying23 rfl (infoKy _ hb.1) ?_) | (refine wpList_load_want rfl 23 _ rfl (w.heap.size) rfl 23 (irow .u8 a) (0, 0) _ RA Tryd.underlying23 rfl (infoKy _ ha.1) ?_) | fail)
            refine (lsB.out y3).mono ?_
            rintro e_ y4 ⟨_, rfl, rfl, hb_⟩
            replace hw := Below.after hw hb_
            clear hb_
            go_wp2_with (fail)
            go_ret
            exact ⟨by simp, hw⟩

end Go.Proofs.YtdlillgkgbfheaaDoor
