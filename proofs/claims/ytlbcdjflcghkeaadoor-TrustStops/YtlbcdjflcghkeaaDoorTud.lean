import Derived.Test.YtlbcdjflcghkeaaDoorProg
import Derived.WalkKit
import Derived.WalkSpells
import Derived.WalkLawsBesides
import Derived.Lib.QuietBelow
import Derived.BigQuiet
import Derived.OrdersHeld
import Derived.OwnWalk
import Derived.Deep.RegionHeld3
import Derived.Deep.Cut
import Derived.Deep.CutRange
import Derived.Maps.Own
import Derived.Test.YtlbcdjflcghkeaaDoorTuc
namespace Go.Proofs.YtlbcdjflcghkeaaDoor
set_option maxRecDepth 100000
open Go Go.RowKit Go.Sort
attribute [local go_sem] setCell_drewN alloc_drewN
/-- All blocks stay but those of X. -/
structure Fr (X : Nat → Prop) (w w' : World) : Prop where
  os : w'.os = w.os
  tape : w'.tape = w.tape
  output : w'.output = w.output
  size : w.heap.size ≤ w'.heap.size
  block : ∀ k, k < w.heap.size → ¬ X k → w'.heap[k]? = w.heap[k]?
theorem Fr.refl (X : Nat → Prop) (w : World) : Fr X w w := ⟨rfl, rfl, rfl, Nat.le_refl _, fun _ _ _ => rfl⟩
theorem Fr.trans {X : Nat → Prop} {a b c : World} (h : Fr X a b) (k : Fr X b c) : Fr X a c := ⟨k.os.trans h.os, k.tape.trans h.tape, k.output.trans h.output, Nat.le_trans h.size k.size, fun j hj hx => (k.block j (Nat.lt_of_lt_of_le hj h.size) hx).trans (h.block j hj hx)⟩
theorem Fr.of {X : Nat → Prop} {w w' : World} (h : Below w.heap.size w w') : Fr X w w' := ⟨h.os, h.tape, h.output, h.size, fun k hk _ => h.block k hk⟩
theorem Fr.grown {X : Nat → Prop} {g : Nat} {w w' : World} (h : w.grownBy w' (some g)) (hg : X g) : Fr X w w' := ⟨h.os, h.tape, h.output, h.size, fun k hk hx => h.block k hk (fun e => hx (by cases e; exact hg))⟩
theorem Fr.row {X : Nat → Prop} {w w' : World} (h : Fr X w w') {k : Nat} {o : Obj} (hk : w.heap[k]? = some o) (hx : ¬ X k) : w'.heap[k]? = some o := (h.block k (lt_of_row hk) hx).trans hk
theorem Fr.below {X : Nat → Prop} {w w' : World} {B : Nat} (h : Fr X w w') (hX : ∀ k, X k → B ≤ k) (hB : B ≤ w.heap.size) : Below B w w' := ⟨h.os, h.tape, h.output, h.size, fun k hk => h.block k (by omega) (fun hx => by have := hX k hx; omega)⟩
theorem Fr.mono {X Y : Nat → Prop} {w w' : World} (h : Fr X w w') (hXY : ∀ k, k < w.heap.size → X k → Y k) : Fr Y w w' := ⟨h.os, h.tape, h.output, h.size, fun k hk hx => h.block k hk (fun e => hx (hXY k hk e))⟩
theorem Fr.step {X Y : Nat → Prop} {a b c : World} (h : Fr X a b) (k : Fr Y b c) (hXY : ∀ j, j < a.heap.size → Y j → X j) : Fr X a c := ⟨k.os.trans h.os, k.tape.trans h.tape, k.output.trans h.output, Nat.le_trans h.size k.size, fun j hj hx => (k.block j (Nat.lt_of_lt_of_le hj h.size) (fun e => hx (hXY j hj e))).trans (h.block j hj hx)⟩
theorem Fr.setCell {X : Nat → Prop} {w w' : World} (h : Fr X w w') {b o : Nat} (hb : X b) (v : Value) : Fr X w (w'.setCell ⟨b, o, none⟩ v) := ⟨h.os, h.tape, h.output, by simpa using h.size, fun k hk hx => by
  rw [← h.block k hk hx]
  exact heap_setCell_other _ _ _ _ (fun e => hx (e ▸ hb))⟩
theorem Fr.setRow {X : Nat → Prop} {w w' : World} (h : Fr X w w') {b : Nat} (hb : X b) (cs : Array Value) : Fr X w (w'.setRow b cs) := ⟨h.os, h.tape, h.output, by rw [size_setRow]; exact h.size, fun k hk hx => by
  rw [← h.block k hk hx]
  exact setRow_other _ _ _ _ (fun e => hx (e ▸ hb))⟩
/-- v' lies where v lay, or in a new block. -/
def Nx (w : World) (v v' : Value) : Prop := v'.ownBlock = v.ownBlock ∨ ∃ k, v'.ownBlock = some k ∧ w.heap.size ≤ k
theorem Nx.refl (w : World) (v : Value) : Nx w v v := .inl rfl
theorem Nx.trans {w W : World} {v s s' : Value} (h : Nx w v s) (hs : w.heap.size ≤ W.heap.size) (h2 : Nx W s s') : Nx w v s' := by
  rcases h2 with e | ⟨k, e, hk⟩
  · rcases h with e2 | ⟨k, e2, hk⟩
    · exact .inl (e.trans e2)
    · exact .inr ⟨k, e.trans e2, hk⟩
  · exact .inr ⟨k, e, by omega⟩
theorem Nx.unalloc {W : World} {o : Obj} {s s' : Value} (h : Nx (W.alloc o) s s') : Nx W s s' := by
  rcases h with e | ⟨k, e, hk⟩
  · exact .inl e
  · exact .inr ⟨k, e, by rw [size_alloc1] at hk; omega⟩
theorem Nx.ne {w : World} {v s : Value} (h : Nx w v s) {k : Nat} (hk : k < w.heap.size) (hv : v.ownBlock ≠ some k) : s.ownBlock ≠ some k := by
  rcases h with e | ⟨k', e, hk'⟩
  · rw [e]; exact hv
  · rw [e]; intro e2; cases e2; omega
theorem wp_append_nx {P : Program} {w : World} {o : Oper} {a : Act} {K : Act → World → Prop} {Q : Exit → Act → World → Prop} (s x : Operand) (t : TypeId)
    (ho : o.op = .call { callee := .builtin .append, args := #[s, x], argTypes := #[t, t] })
    (base : Nat) (e : TypeId) (i : TypeInfo) (z : Value) (size bytes : Nat) (ht : P.underlying t = some (.slice e)) (hi : P.info? e = some i) (hz : i.zero = some z)
    (hsize : i.size = size) (hby : i.bytes = bytes) (hzs : z.cells.size = size) (hsz : 0 < size)
    (v : Value) (n : Nat) (xs : List Value) (hs : a.eval s = v) (hown : w.ownsRow base e size v n xs)
    (ad : Addr) (m c : Nat) (news : List Value) (hx : a.eval x = .slice (some ad) m c) (hl : news.length = m * size) (hnews : ∀ j u, news[j]? = some u → w.cell? (ad.add j) = some u) (h1 : ∀ u ∈ news, u.oneCell' = true)
    (h63 : n + m ≤ maxLen) (hbytes : (n + m) * bytes ≤ 140737488355328) (hbase : base ≤ w.heap.size)
    (h : ∀ v' w', w'.ownsRow base e size v' (n + m) (xs ++ news) → w.grownBy w' v.ownBlock → Nx w v v' → K (a.put o.dst v') w') : o.wp P a w K Q := by
  obtain ⟨v', w', hr, h2, h3, h4⟩ := run_append_own (P := P) w base t o.type e i z size bytes ht hi hz hsize hby hzs hsz _ n xs hown ad m c news hl hnews h1 h63 hbytes hbase
  have key : Nx w v v' := by
    rcases hown.2 with ⟨rfl, hn0⟩ | ⟨g1, cap1, cur, rfl, hbg, hg, hnc, hcm, hcs, htake⟩
    · have hown2 : w.ownsRow w.heap.size e size (.slice none 0 0) n xs := ⟨hown.1, .inl ⟨rfl, hn0⟩⟩
      obtain ⟨v2, w2, hr2, g2, _, g4⟩ := run_append_own (P := P) w w.heap.size t o.type e i z size bytes ht hi hz hsize hby hzs hsz _ n xs hown2 ad m c news hl hnews h1 h63 hbytes (Nat.le_refl _)
      have he := hr.symm.trans hr2
      injection he with e1 e2
      subst e1
      rcases g2.2 with ⟨hv, _⟩ | ⟨g, cap, _, hv, hbg, _⟩
      · exact .inl (by rw [hv])
      · exact .inr ⟨g, by rw [hv]; rfl, hbg⟩
    · by_cases hroom : n + m ≤ cap1
      · have hr2 := run_append_room (P := P) w t o.type e i ht hi g1 n cap1 cur hg ad m c news (by rw [hsize]; exact hl) hnews h1 hroom (by rw [hsize, hl, hcs, ← Nat.add_mul]; exact Nat.mul_le_mul_right _ hroom)
        have he := hr.symm.trans hr2
        injection he with e1 e2
        exact .inl (by rw [e1]; rfl)
      · have holds : ∀ j u, xs[j]? = some u → w.cell? ((⟨g1, 0, none⟩ : Addr).add j) = some u := hown.cells (g := g1) rfl
        have hr2 := run_append_grow (P := P) w t o.type e i z ht hi hz ⟨g1, 0, none⟩ n cap1 xs (by rw [hsize]; exact hown.1) holds ad m c news (by rw [hsize]; exact hl) hnews (by omega) (by simp only [maxLen] at h63; omega) (growslice_fits (by omega) (by rw [hby]; exact hbytes))
        have he := hr.symm.trans hr2
        injection he with e1 e2
        exact .inr ⟨w.heap.size, by rw [e1]; rfl, Nat.le_refl _⟩
  unfold Oper.wp execOp
  simp only [ho, resolve, invoke, builtin, Sem.run_bind, Sem.run_pure, Result.andThen_ok, List.map_toArray, List.map_cons, List.map_nil, hs, hx, hr]
  exact h v' w' h2 h3 key
theorem tovw_list (cs : Array Value) (o : Nat) (vs : List Value) (h : o + vs.length ≤ cs.size) : (ovw cs o vs).toList = cs.toList.take o ++ (vs ++ cs.toList.drop (o + vs.length)) := by
  have e : cs = (cs.toList.take o ++ ((cs.toList.drop o).take vs.length ++ cs.toList.drop (o + vs.length))).toArray := by
    apply Array.ext'
    rw [← List.drop_drop, List.take_append_drop, List.take_append_drop]
  have hl : (cs.toList.take o).length = o := by rw [List.length_take, Array.length_toList]; omega
  conv => lhs; rw [e]
  have := ovw_app vs (cs.toList.take o) ((cs.toList.drop o).take vs.length) (cs.toList.drop (o + vs.length)) (by have hc := Array.length_toList (xs := cs); simp only [List.length_take, List.length_drop]; omega)
  rw [hl] at this
  rw [this]
/-- A part of a row of one's own written anew. -/
theorem own_splice {W : World} {b g cap m : Nat} {T : TypeId} {z : Nat} {xs : List Value} {cur : Array Value} (h : W.ownsRow b T z (.slice (some ⟨g, 0, none⟩) m cap) m xs) (hg : W.heap[g]? = some (.cells cur T (0, 0))) (off : Nat) (ys : List Value) (hf : off + ys.length ≤ m * z) :
    (W.setRow g (ovw cur off ys)).ownsRow b T z (.slice (some ⟨g, 0, none⟩) m cap) m (xs.take off ++ (ys ++ xs.drop (off + ys.length))) := by
  obtain ⟨h1, ⟨e, _⟩ | ⟨g2, cap2, cur2, e, hb, hg2, hn, hm, hs, ht⟩⟩ := h
  · cases e
  · cases e
    rw [hg] at hg2
    cases hg2
    have hle : m * z ≤ cap * z := Nat.mul_le_mul_right z hn
    have hov := tovw_list cur off ys (by omega)
    refine ⟨?_, .inr ⟨g, cap, ovw cur off ys, rfl, hb, setRow_heap _ _ _ _ _ _ hg, hn, hm, ?_, ?_⟩⟩
    · rw [List.length_append, List.length_append, List.length_take, List.length_drop, h1]; omega
    · rw [← Array.length_toList, hov, List.length_append, List.length_append, List.length_take, List.length_drop, Array.length_toList]; omega
    · rw [hov, ← ht]
      rw [List.take_append, List.take_append, List.length_take, Array.length_toList, List.take_take, List.take_take, List.drop_take]
      rw [Nat.min_eq_left (show off ≤ cur.size by omega), Nat.min_eq_right (show off ≤ m * z by omega), Nat.min_eq_left (show off ≤ m * z by omega)]
      rw [List.take_of_length_le (show ys.length ≤ m * z - off by omega)]
      congr 3
      omega
/-- What may be used. -/
def clm (c : Ct) : Bool := c.s == 1 || c.s == 2
def lat (c : Ct) : List Int := if c.s = 3 then c.x else c.k
theorem lat_ok {c : Ct} (h : c.ok) : K32 (lat c) := by unfold lat; split; exact h.2; exact h.1
set_option maxRecDepth 100000 in
set_option maxHeartbeats 8000000 in
theorem a_full (cs : List Ct) (b : Nat) (v : Value) (w : World) (hO : OwnC w b v cs) : Calls Tryd.prog 19 #[v] w fun e w' => e = .returned (.bool (decide (64 ≤ cs.length))) ∧ Below w.heap.size w w' := by
  obtain ⟨ao, cap, rfl, hc1, hc2, _, _⟩ := hO.sl
  have hd : decide ((cs.length : Int) ≥ 64) = decide (64 ≤ cs.length) := by
    by_cases h : 64 ≤ cs.length
    · simp only [h, decide_true, decide_eq_true_eq]; omega
    · simp only [h, decide_false, decide_eq_false_iff_not]; omega
  go_enter Tryd.func19, Tryd.ntmps19
  go_wp2_with (fail)
  go_ret
  exact ⟨by first | rfl | rw [hd], Below.refl _ _⟩
set_option maxRecDepth 100000 in
set_option maxHeartbeats 8000000 in
theorem a_calm (c : Ct) (hc : c.ok) (w : World) : Calls Tryd.prog 21 #[.agg (ctr c)] w fun e w' => e = .returned (.bool (clm c)) ∧ Below w.heap.size w w' := by
  have rp0 := hp1_0 w (.cells (ctr c) 45)
  have hw : Below w.heap.size w (w.alloc (.cells (ctr c) 45)) := ((Below.refl _ _).alloc (Nat.le_refl _) _)
  go_enter Tryd.func21, Tryd.ntmps21
  go_upto_region 1 with (first | (refine wpList_box rfl 45 _ rfl _ rfl (ct_box _) ?_) | fail)
  try simp only [size_alloc1]
  generalize (w.alloc (.cells (ctr c) 45)) = w0 at *
  have hf : Hid (clm c = (c.s == 1 || c.s == 2)) := hide rfl
  generalize d1 : (c.s == 1) = x1 at *
  generalize d2 : (c.s == 2) = x2 at *
  cases x1
  · skip
    have fc1 := cell_at rp0 (ct_n c)
    have fc2 := cell_at rp0 (ct_s c hc.1.1 hc.2.1)
    go_wp2_with (first | (refine wpList_load_part rfl 45 _ rfl (w.heap.size) 0 rfl 45 (ctr c) (0, 0) (ctr c) _ rp0 (all_rowe _) Tryd.underlying45 rfl (ct_info _ hc.1.1 hc.2.1) ?_) | (refine wpList_load_part rfl 23 _ rfl (w.heap.size) 1 rfl 45 (ctr c) (0, 0) (irow .u8 c.k) _ rp0 (ct_k c hc.1.1) Tryd.underlying23 rfl (infoKy _ hc.1.1) ?_) | (refine wpList_load_part rfl 23 _ rfl (w.heap.size) 33 rfl 45 (ctr c) (0, 0) (irow .u8 c.x) _ rp0 (ct_x c hc.1.1 hc.2.1) Tryd.underlying23 rfl (infoKy _ hc.2.1) ?_) | fail)
    go_ret
    exact ⟨by rw [hf.out]; rfl, hw⟩
  · skip
    have fc3 := cell_at rp0 (ct_n c)
    have fc4 := cell_at rp0 (ct_s c hc.1.1 hc.2.1)
    go_wp2_with (first | (refine wpList_load_part rfl 45 _ rfl (w.heap.size) 0 rfl 45 (ctr c) (0, 0) (ctr c) _ rp0 (all_rowe _) Tryd.underlying45 rfl (ct_info _ hc.1.1 hc.2.1) ?_) | (refine wpList_load_part rfl 23 _ rfl (w.heap.size) 1 rfl 45 (ctr c) (0, 0) (irow .u8 c.k) _ rp0 (ct_k c hc.1.1) Tryd.underlying23 rfl (infoKy _ hc.1.1) ?_) | (refine wpList_load_part rfl 23 _ rfl (w.heap.size) 33 rfl 45 (ctr c) (0, 0) (irow .u8 c.x) _ rp0 (ct_x c hc.1.1 hc.2.1) Tryd.underlying23 rfl (infoKy _ hc.2.1) ?_) | fail)
    go_ret
    exact ⟨by rw [hf.out]; rfl, hw⟩
set_option maxRecDepth 100000 in
set_option maxHeartbeats 8000000 in
theorem a_latest (c : Ct) (hc : c.ok) (w : World) : Calls Tryd.prog 25 #[.agg (ctr c)] w fun e w' => e = .returned (.agg (irow .u8 (lat c))) ∧ Below w.heap.size w w' := by
  have rp0 := hp2_0 w (.cells (ctr c) 45) (.cells (irow .u8 (zr 32)) 23)
  have rp1 := hp2_1 w (.cells (ctr c) 45) (.cells (irow .u8 (zr 32)) 23)
  have hw : Below w.heap.size w ((w.alloc (.cells (ctr c) 45)).alloc (.cells (irow .u8 (zr 32)) 23)) := (((Below.refl _ _).alloc (Nat.le_refl _) _).alloc (by simp) _)
  go_enter Tryd.func25, Tryd.ntmps25
  go_upto_region 1 with (first | (refine wpList_box rfl 45 _ rfl _ rfl (ct_box _) ?_) | (refine wpList_alloc rfl 23 rfl (irow .u8 (zr 32)) zkey ?_) | fail)
  try simp only [size_alloc1]
  generalize ((w.alloc (.cells (ctr c) 45)).alloc (.cells (irow .u8 (zr 32)) 23)) = w0 at *
  by_cases h1 : c.s = 3
  · have hf : Hid (lat c = c.x) := hide (by simp [lat, h1])
    have d1 : (c.s == 3) = true := by simp [h1]
    clear h1
    have fc5 := cell_at rp0 (ct_n c)
    have fc6 := cell_at rp0 (ct_s c hc.1.1 hc.2.1)
    go_wp2_with (first | (refine wpList_load_part rfl 45 _ rfl (w.heap.size) 0 rfl 45 (ctr c) (0, 0) (ctr c) _ rp0 (all_rowe _) Tryd.underlying45 rfl (ct_info _ hc.1.1 hc.2.1) ?_) | (refine wpList_load_part rfl 23 _ rfl (w.heap.size) 1 rfl 45 (ctr c) (0, 0) (irow .u8 c.k) _ rp0 (ct_k c hc.1.1) Tryd.underlying23 rfl (infoKy _ hc.1.1) ?_) | (refine wpList_load_part rfl 23 _ rfl (w.heap.size) 33 rfl 45 (ctr c) (0, 0) (irow .u8 c.x) _ rp0 (ct_x c hc.1.1 hc.2.1) Tryd.underlying23 rfl (infoKy _ hc.2.1) ?_) | (refine wpList_load_part rfl 23 _ rfl (w.heap.size + 1) 0 rfl 23 (irow .u8 (zr 32)) (0, 0) (irow .u8 (zr 32)) _ rp1 (all_rowe _) Tryd.underlying23 rfl (infoKy _ (zr_len 32)) ?_) | (refine wpList_store_row rfl 23 _ _ rfl (w.heap.size + 1) (irow .u8 c.x) rfl rfl 23 _ rp1 (infoKy _ hc.2.1) (((irow_size _ _).trans (zr_len 32)).trans ((irow_size _ _).trans hc.2.1).symm) (irow_one _ _) ?_) | fail)
    exact bodyPost_ret (v := .agg (irow .u8 c.x)) (results_cell_row Tryd.results25 _ _ (w.heap.size + 1) _ (irow .u8 c.x) _ _ rfl (setRow_heap _ _ _ _ _ _ rp1) Tryd.underlying23 rfl (infoKy _ hc.2.1)) rfl ⟨by rw [hf.out], below_setRow hw (by omega) _⟩
  · have hf : Hid (lat c = c.k) := hide (by simp [lat, h1])
    have d1 : (c.s == 3) = false := by simp [h1]
    clear h1
    have fc7 := cell_at rp0 (ct_n c)
    have fc8 := cell_at rp0 (ct_s c hc.1.1 hc.2.1)
    go_wp2_with (first | (refine wpList_load_part rfl 45 _ rfl (w.heap.size) 0 rfl 45 (ctr c) (0, 0) (ctr c) _ rp0 (all_rowe _) Tryd.underlying45 rfl (ct_info _ hc.1.1 hc.2.1) ?_) | (refine wpList_load_part rfl 23 _ rfl (w.heap.size) 1 rfl 45 (ctr c) (0, 0) (irow .u8 c.k) _ rp0 (ct_k c hc.1.1) Tryd.underlying23 rfl (infoKy _ hc.1.1) ?_) | (refine wpList_load_part rfl 23 _ rfl (w.heap.size) 33 rfl 45 (ctr c) (0, 0) (irow .u8 c.x) _ rp0 (ct_x c hc.1.1 hc.2.1) Tryd.underlying23 rfl (infoKy _ hc.2.1) ?_) | (refine wpList_load_part rfl 23 _ rfl (w.heap.size + 1) 0 rfl 23 (irow .u8 (zr 32)) (0, 0) (irow .u8 (zr 32)) _ rp1 (all_rowe _) Tryd.underlying23 rfl (infoKy _ (zr_len 32)) ?_) | (refine wpList_store_row rfl 23 _ _ rfl (w.heap.size + 1) (irow .u8 c.k) rfl rfl 23 _ rp1 (infoKy _ hc.1.1) (((irow_size _ _).trans (zr_len 32)).trans ((irow_size _ _).trans hc.1.1).symm) (irow_one _ _) ?_) | fail)
    exact bodyPost_ret (v := .agg (irow .u8 c.k)) (results_cell_row Tryd.results25 _ _ (w.heap.size + 1) _ (irow .u8 c.k) _ _ rfl (setRow_heap _ _ _ _ _ _ rp1) Tryd.underlying23 rfl (infoKy _ hc.1.1)) rfl ⟨by rw [hf.out], below_setRow hw (by omega) _⟩
theorem cts_split (l : List Ct) (k : Nat) : cts l = cts (l.take k) ++ cts (l.drop k) := by rw [← cts_app, List.take_append_drop]
theorem cts_take {l : List Ct} (h : AllC l) (k : Nat) (hk : k ≤ l.length) : (cts l).take (k * 66) = cts (l.take k) := by
  rw [cts_split l k, List.take_left' (by rw [cts_len (h.take k), List.length_take, Nat.min_eq_left hk])]
theorem cts_drop {l : List Ct} (h : AllC l) (k : Nat) (hk : k ≤ l.length) : (cts l).drop (k * 66) = cts (l.drop k) := by
  rw [cts_split l k, List.drop_left' (by rw [cts_len (h.take k), List.length_take, Nat.min_eq_left hk])]
set_option maxRecDepth 100000 in
set_option maxHeartbeats 8000000 in
theorem a_put (cs : List Ct) (c : Ct) (hc : c.ok) (b : Nat) (v : Value) (w : World) (hO : OwnC w b v cs) (hs : Srt cs) (hl : cs.length ≤ 4096) (ht : th cs c.n = true) : Calls Tryd.prog 64 #[v, .agg (ctr c)] w fun e w' => e = .returned (.tuple #[]) ∧ OwnC w' b v (putC cs c) ∧ Fr (fun k => v.ownBlock = some k) w w' := by
  have hgl : ∀ k, v.ownBlock = some k → k < w.heap.size := fun k e => (hO.lt k e).2
  obtain ⟨ao, cap, rfl, hc1, hc2, _, _⟩ := hO.sl
  have rp0 := hp1_0 w (.cells (ctr c) 45)
  have hw : Below w.heap.size w (w.alloc (.cells (ctr c) 45)) := ((Below.refl _ _).alloc (Nat.le_refl _) _)
  replace hO := hO.keep hw
  go_enter Tryd.func64, Tryd.ntmps64
  go_upto_region 1 with (first | (refine wpList_box rfl 45 _ rfl _ rfl (ct_box _) ?_) | fail)
  try simp only [size_alloc1]
  generalize (w.alloc (.cells (ctr c) 45)) = w0 at *
  have fc9 := cell_at rp0 (ct_n c)
  have fc10 := cell_at rp0 (ct_s c hc.1.1 hc.2.1)
  go_wp2_with (first | (refine wpList_load_part rfl 45 _ rfl (w.heap.size) 0 rfl 45 (ctr c) (0, 0) (ctr c) _ rp0 (all_rowe _) Tryd.underlying45 rfl (ct_info _ hc.1.1 hc.2.1) ?_) | (refine wpList_load_part rfl 23 _ rfl (w.heap.size) 1 rfl 45 (ctr c) (0, 0) (irow .u8 c.k) _ rp0 (ct_k c hc.1.1) Tryd.underlying23 rfl (infoKy _ hc.1.1) ?_) | (refine wpList_load_part rfl 23 _ rfl (w.heap.size) 33 rfl 45 (ctr c) (0, 0) (irow .u8 c.x) _ rp0 (ct_x c hc.1.1 hc.2.1) Tryd.underlying23 rfl (infoKy _ hc.2.1) ?_) | fail)
  clear fc9 fc10
  refine (a_place cs c.n b _ _ hO hs hl).mono ?_
  rintro e_ w1 ⟨rfl, hb⟩
  replace rp0 := keep hb rp0
  replace hO := hO.keep hb
  replace hw := Below.after hw hb
  clear hb
  have hlt := ((th_iff hs c.n).1 ht).1
  have h0 := hO.1
  obtain ⟨h01, ⟨e, h3⟩ | ⟨g, cap2, cur, e, hb0, hg, hn, hm, hz, htk⟩⟩ := h0
  · omega
  cases e
  have hlb := hO.lt g rfl
  have hwg : g < w.heap.size := hgl g rfl
  have h3 : 0 ≤ ((ps cs c.n : Nat) : Int) ∧ ((ps cs c.n : Nat) : Int) < (cs.length : Int) := by omega
  have hlen := ctl_len c hc.1.1 hc.2.1
  have hfit : ps cs c.n * 66 + (ctl c).length ≤ cs.length * 66 := by rw [hlen]; omega
  have hsp := own_splice hO.1 hg (ps cs c.n * 66) (ctl c) hfit
  have hcur : ps cs c.n * 66 + (ctr c).size ≤ cur.size := by rw [ctr_size c hc.1.1 hc.2.1, hz]; have := Nat.mul_le_mul_right 66 hn; omega
  have hnew : (cts cs).take (ps cs c.n * 66) ++ (ctl c ++ (cts cs).drop (ps cs c.n * 66 + (ctl c).length)) = cts (putC cs c) := by
    unfold putC
    rw [List.set_eq_take_append_cons_drop, if_pos hlt, cts_app, cts_take hO.2 _ (by omega), hlen, show ps cs c.n * 66 + 66 = (ps cs c.n + 1) * 66 by omega, cts_drop hO.2 _ (by omega)]
    congr 1
  have hres : OwnC (w1.setRow g (ovw cur (ps cs c.n * 66) (ctl c))) b (.slice (some ⟨g, 0, none⟩) cs.length cap) (putC cs c) := ⟨by rw [hnew] at hsp; rw [show (putC cs c).length = cs.length from List.length_set]; exact hsp, fun d hd => by rcases mem_put hd with rfl | q; exact hc; exact hO.2 d q⟩
  have hfr : Fr (fun k => k = g) w (w1.setRow g (ovw cur (ps cs c.n * 66) (ctl c))) := Fr.setRow (X := fun k => k = g) (Fr.of hw) rfl _
  clear hsp hnew htk h01
  generalize ps cs c.n = i at *
  go_wp2_with (first | (refine wpList_load_part rfl 45 _ rfl (w.heap.size) 0 rfl 45 (ctr c) (0, 0) (ctr c) _ rp0 (all_rowe _) Tryd.underlying45 rfl (ct_info _ hc.1.1 hc.2.1) ?_) | (refine wpList_load_part rfl 23 _ rfl (w.heap.size) 1 rfl 45 (ctr c) (0, 0) (irow .u8 c.k) _ rp0 (ct_k c hc.1.1) Tryd.underlying23 rfl (infoKy _ hc.1.1) ?_) | (refine wpList_load_part rfl 23 _ rfl (w.heap.size) 33 rfl 45 (ctr c) (0, 0) (irow .u8 c.x) _ rp0 (ct_x c hc.1.1 hc.2.1) Tryd.underlying23 rfl (infoKy _ hc.2.1) ?_) | (refine wpList_store_part rfl 45 _ _ rfl g (i * 66) (ctr c) rfl rfl 45 cur (ovw cur (i * 66) (ctl c)) hg hcur rfl (ct_info _ hc.1.1 hc.2.1) (ctr_one _) ?_) | fail)
  refine bodyPost_end (results_none rfl _ _ _) rfl ?_
  exact ⟨rfl, hres, hfr.mono (fun k _ e => by rw [e]; rfl)⟩
end Go.Proofs.YtlbcdjflcghkeaaDoor
