import Derived.Test.YtlbcdjflcghkeaaDoorProg
import Derived.WalkKit
import Derived.WalkSpells
import Derived.WalkLawsBesides
import Derived.Lib.QuietBelow
import Derived.BigQuiet
import Derived.OrdersHeld
import Derived.OwnWalk
import Derived.Deep.RegionHeld3
import Derived.Deep.Cut
import Derived.Deep.CutRange
import Derived.Laws.CopyOwn
import Derived.Lib.AppendZeros
import Derived.Test.YtlbcdjflcghkeaaDoorTug
namespace Go.Proofs.YtlbcdjflcghkeaaDoor
set_option maxRecDepth 100000
open Go Go.RowKit Go.Sort
attribute [local go_sem] setCell_drewN alloc_drewN
theorem run_ovl (w : World) (g1 g2 o2 : Nat) (cs1 cs2 : Array Value) (t1 t2 : TypeId) (h1 : w.heap[g1]? = some (.cells cs1 t1 (0, 0))) (h2 : w.heap[g2]? = some (.cells cs2 t2 (0, 0))) (hne : g1 ≠ g2) (n1 c1 n2 c2 : Nat) : (callFunc 75 #[.slice (some ⟨g1, 0, none⟩) n1 c1, .slice (some ⟨g2, o2, none⟩) n2 c2]).run Tryd.prog w = .ok (.value (.bool false)) w := by
  rw [run_callFunc_extern Tryd.func75 (by kernel_rfl) (by kernel_rfl) (by kernel_rfl) (e := Extern.SlicesOverlaps.overlaps #[42, 42] #[4]) (by kernel_rfl)]
  have e : Extern.SlicesOverlaps.overlaps #[42, 42] #[4] #[.slice (some ⟨g1, 0, none⟩) n1 c1, .slice (some ⟨g2, o2, none⟩) n2 c2] = (do
      let .slice elem ← underlying 42 | stuck "slices.overlaps: slice type expected"
      let size ← sizeOf elem
      if n1 = 0 ∨ n2 = 0 ∨ size = 0 then pure (.bool false)
      else if (⟨g1, 0, none⟩ : Addr).block != (⟨g2, o2, none⟩ : Addr).block && (← frozen ⟨g1, 0, none⟩) && (← frozen ⟨g2, o2, none⟩) then unsupported .addressObserved
      else do
        if (⟨g1, 0, none⟩ : Addr).block != (⟨g2, o2, none⟩ : Addr).block then do
          noView ⟨g1, 0, none⟩; noView ⟨g2, o2, none⟩
          if ← mayBeOne ⟨g1, 0, none⟩ ⟨g2, o2, none⟩ then return .bool ((← choose (.extern "sameAddr.stringBytes" 2)) == 1)
        pure (.bool ((⟨g1, 0, none⟩ : Addr).block == (⟨g2, o2, none⟩ : Addr).block && (⟨g1, 0, none⟩ : Addr).off < (⟨g2, o2, none⟩ : Addr).off + n2 * size && (⟨g2, o2, none⟩ : Addr).off < (⟨g1, 0, none⟩ : Addr).off + n1 * size))) := rfl
  rw [e]
  have hb : (g1 == g2) = false := by simpa using hne
  have f1 := row_frozen h1
  have f2 := row_frozen h2
  have s1 : w.shape? g1 = some (t1, cs1.size) := by simp [World.shape?, h1]
  have s2 : w.shape? g2 = some (t2, cs2.size) := by simp [World.shape?, h2]
  obtain ⟨i, hq, _, hi, _⟩ := infoCtz
  by_cases h0 : n1 = 0 ∨ n2 = 0
  · have h0' : n1 = 0 ∨ n2 = 0 ∨ i.size = 0 := h0.elim .inl (fun h => .inr (.inl h))
    simp [run_underlying Tryd.underlying42, sizeOf, typeInfo, hq, h0', Result.andThen]
  · have h0' : ¬ (n1 = 0 ∨ n2 = 0 ∨ i.size = 0) := by rw [hi]; omega
    simp [run_underlying Tryd.underlying42, sizeOf, typeInfo, hq, h0', hne, f1, f2, s1, s2, noView, viewAt, mayBeOne, stringish, Result.andThen]
theorem wp_append_nxx {P : Program} {w : World} {o : Oper} {a : Act} {K : Act → World → Prop} {Q : Exit → Act → World → Prop} (s x : Operand) (t tx e2 : TypeId) (htx : P.underlying tx = some (.slice e2))
    (ho : o.op = .call { callee := .builtin .append, args := #[s, x], argTypes := #[t, tx] })
    (base : Nat) (e : TypeId) (i : TypeInfo) (z : Value) (size bytes : Nat) (ht : P.underlying t = some (.slice e)) (hi : P.info? e = some i) (hz : i.zero = some z)
    (hsize : i.size = size) (hby : i.bytes = bytes) (hzs : z.cells.size = size) (hsz : 0 < size)
    (v : Value) (n : Nat) (xs : List Value) (hs : a.eval s = v) (hown : w.ownsRow base e size v n xs)
    (ad : Addr) (m c : Nat) (news : List Value) (hx : a.eval x = .slice (some ad) m c) (hl : news.length = m * size) (hnews : ∀ j u, news[j]? = some u → w.cell? (ad.add j) = some u) (h1 : ∀ u ∈ news, u.oneCell' = true)
    (h63 : n + m ≤ maxLen) (hbytes : (n + m) * bytes ≤ 140737488355328) (hbase : base ≤ w.heap.size)
    (h : ∀ v' w', w'.ownsRow base e size v' (n + m) (xs ++ news) → w.grownBy w' v.ownBlock → Nx w v v' → K (a.put o.dst v') w') : o.wp P a w K Q := by
  obtain ⟨v', w', hr, h2, h3, h4⟩ := run_append_own (P := P) w base t o.type e i z size bytes ht hi hz hsize hby hzs hsz _ n xs hown ad m c news hl hnews h1 h63 hbytes hbase
  have key : Nx w v v' := by
    rcases hown.2 with ⟨rfl, hn0⟩ | ⟨g1, cap1, cur, rfl, hbg, hg, hnc, hcm, hcs, htake⟩
    · have hown2 : w.ownsRow w.heap.size e size (.slice none 0 0) n xs := ⟨hown.1, .inl ⟨rfl, hn0⟩⟩
      obtain ⟨v2, w2, hr2, g2, _, g4⟩ := run_append_own (P := P) w w.heap.size t o.type e i z size bytes ht hi hz hsize hby hzs hsz _ n xs hown2 ad m c news hl hnews h1 h63 hbytes (Nat.le_refl _)
      have he := hr.symm.trans hr2
      injection he with e1 e2
      subst e1
      rcases g2.2 with ⟨hv, _⟩ | ⟨g, cap, _, hv, hbg, _⟩
      · exact .inl (by rw [hv])
      · exact .inr ⟨g, by rw [hv]; rfl, hbg⟩
    · by_cases hroom : n + m ≤ cap1
      · have hr2 := run_append_room (P := P) w t o.type e i ht hi g1 n cap1 cur hg ad m c news (by rw [hsize]; exact hl) hnews h1 hroom (by rw [hsize, hl, hcs, ← Nat.add_mul]; exact Nat.mul_le_mul_right _ hroom)
        have he := hr.symm.trans hr2
        injection he with e1 e2
        exact .inl (by rw [e1]; rfl)
      · have holds : ∀ j u, xs[j]? = some u → w.cell? ((⟨g1, 0, none⟩ : Addr).add j) = some u := hown.cells (g := g1) rfl
        have hr2 := run_append_grow (P := P) w t o.type e i z ht hi hz ⟨g1, 0, none⟩ n cap1 xs (by rw [hsize]; exact hown.1) holds ad m c news (by rw [hsize]; exact hl) hnews (by omega) (by simp only [maxLen] at h63; omega) (growslice_fits (by omega) (by rw [hby]; exact hbytes))
        have he := hr.symm.trans hr2
        injection he with e1 e2
        exact .inr ⟨w.heap.size, by rw [e1]; rfl, Nat.le_refl _⟩
  obtain ⟨ao_, cc_, hvv, _⟩ := own_sl hown
  rw [hvv, ← app_tx w t tx o.type e e2 ht htx i hi ao_ n cc_ (.slice (some ad) m c), ← hvv] at hr
  unfold Oper.wp execOp
  simp only [ho, resolve, invoke, builtin, Sem.run_bind, Sem.run_pure, Result.andThen_ok, List.map_toArray, List.map_cons, List.map_nil, hs, hx, hr]
  exact h v' w' h2 h3 key
theorem wpList_append_Cx {w : World} {ops : Array Oper} {rest : List Oper} {o : Oper} {a : Act} {Q : Exit → Act → World → Prop} (hgd : o.guard = none) (s x : Operand) (t tx : TypeId) (ht : Tryd.prog.underlying t = some (.slice 45)) (htx : Tryd.prog.underlying tx = some (.slice 45)) (ho : o.op = .call { callee := .builtin .append, args := #[s, x], argTypes := #[t, tx] })
    (base : Nat) (v : Value) (l : List Ct) (hs : a.eval s = v) (hI : OwnC w base v l) (ad : Addr) (r : List Ct) (c : Nat) (hr : AllC r) (hx : a.eval x = .slice (some ad) r.length c) (hM : ∀ j u, (cts r)[j]? = some u → w.cell? (ad.add j) = some u) (hlen : l.length + r.length ≤ 1000000) (hbase : base ≤ w.heap.size)
    (h : ∀ v' w', OwnC w' base v' (l ++ r) → w.grownBy w' v.ownBlock → Nx w v v' → wpList Tryd.prog ops Q rest (a.put o.dst v') w') : wpList Tryd.prog ops Q (o :: rest) a w := by
  refine wpList_plain hgd fun _ hK => ?_
  obtain ⟨i0, hi, hz0, hz1, hz2⟩ := infoCtz
  refine wp_append_nxx s x t tx 45 htx ho base 45 i0 (.agg (ctr zct)) 66 88 ht hi hz0 hz1 hz2 rfl (by decide) v l.length (cts l) hs hI.1 ad r.length c (cts r) hx (cts_len hr) hM (cts_ones _) (by unfold maxLen; omega) (by omega) hbase (fun v' w' h1 h2 h3 => hK _ _ (h v' w' ⟨?_, hI.2.app hr⟩ h2 h3))
  rw [List.length_append, cts_app]
  exact h1
theorem wp_copy_run {o : Oper} {a : Act} {w : World} {K : Act → World → Prop} {Q : Exit → Act → World → Prop} (d s : Operand) (dT sT : TypeId) (ho : o.op = .call { callee := .builtin .copy, args := #[d, s], argTypes := #[dT, sT] }) (x y : Value) (hd : a.eval d = x) (hs : a.eval s = y) (v : Value) (w' : World) (hrun : (Builtin.copy_ #[dT, sT] o.type #[x, y]).run Tryd.prog w = .ok v w') (h : K (a.put o.dst v) w') : o.wp Tryd.prog a w K Q := by
  unfold Oper.wp execOp
  simp only [ho, resolve, invoke, builtin, Sem.run_bind, Sem.run_pure, Result.andThen_ok, List.map_toArray, List.map_cons, List.map_nil, hd, hs, hrun]
  exact h
theorem wpList_copy_run {w : World} {ops : Array Oper} {rest : List Oper} {o : Oper} {a : Act} {Q : Exit → Act → World → Prop} (hgd : o.guard = none) (d s : Operand) (dT sT : TypeId) (ho : o.op = .call { callee := .builtin .copy, args := #[d, s], argTypes := #[dT, sT] }) (x y : Value) (hd : a.eval d = x) (hs : a.eval s = y) (v : Value) (w' : World) (hrun : ∀ ty, (Builtin.copy_ #[dT, sT] ty #[x, y]).run Tryd.prog w = .ok v w') (h : wpList Tryd.prog ops Q rest (a.put o.dst v) w') : wpList Tryd.prog ops Q (o :: rest) a w :=
  wpList_plain hgd fun _ hK => wp_copy_run d s dT sT ho x y hd hs v w' (hrun _) (hK _ _ h)
theorem ins_list (cur : Array Value) (a : Nat) (X Y : List Value) (h : a + X.length + Y.length ≤ cur.size) : (ovw (ovw cur a X) (a + X.length) Y).toList = cur.toList.take a ++ (X ++ (Y ++ cur.toList.drop (a + X.length + Y.length))) := by
  have h1 := tovw_list cur a X (by omega)
  have hz : (ovw cur a X).size = cur.size := by
    rw [← Array.length_toList, h1, List.length_append, List.length_append, List.length_take, List.length_drop, Array.length_toList (xs := cur)]; omega
  have hl : (cur.toList.take a).length = a := by rw [List.length_take, Array.length_toList (xs := cur)]; omega
  rw [tovw_list _ _ _ (by rw [hz]; exact h), h1]
  rw [show a + X.length = (cur.toList.take a ++ X).length by rw [List.length_append, hl]]
  rw [← List.append_assoc (cur.toList.take a) X, List.take_left, List.append_assoc, List.append_assoc]
  congr 3
  rw [← List.append_assoc, ← List.drop_drop, List.drop_left, List.drop_drop, List.length_append, hl]
theorem ins_list2 (cur : Array Value) (a : Nat) (X Y : List Value) (h : a + X.length + Y.length ≤ cur.size) : (ovw (ovw cur (a + X.length) Y) a X).toList = cur.toList.take a ++ (X ++ (Y ++ cur.toList.drop (a + X.length + Y.length))) := by
  have h1 := tovw_list cur (a + X.length) Y (by omega)
  have hz : (ovw cur (a + X.length) Y).size = cur.size := by
    rw [← Array.length_toList, h1, List.length_append, List.length_append, List.length_take, List.length_drop, Array.length_toList (xs := cur)]; omega
  have hl : (cur.toList.take (a + X.length)).length = a + X.length := by rw [List.length_take, Array.length_toList (xs := cur)]; omega
  rw [tovw_list _ _ _ (by rw [hz]; omega), h1]
  rw [List.take_append_of_le_length (by rw [hl]; omega), List.take_take, Nat.min_eq_left (by omega)]
  rw [List.drop_left' hl]
theorem tovw_size (cur : Array Value) (a : Nat) (X : List Value) (h : a + X.length ≤ cur.size) : (ovw cur a X).size = cur.size := by
  rw [← Array.length_toList, tovw_list cur a X h, List.length_append, List.length_append, List.length_take, List.length_drop, Array.length_toList (xs := cur)]; omega
theorem cts_cons (c : Ct) (l : List Ct) : cts (c :: l) = ctl c ++ cts l := by simp [cts]
theorem ins_all {cs : List Ct} {c : Ct} (h : AllC cs) (hc : c.ok) (i : Nat) : AllC (cs.take i ++ c :: cs.drop i) := (h.take i).app (fun s hs => by rcases List.mem_cons.1 hs with rfl | q; exact hc; exact h.drop i s q)
/-- A row that holds the list with one more in it. -/
theorem own_ins {W : World} {b g cap i : Nat} {cs : List Ct} {c : Ct} (hok : AllC cs) (hc : c.ok) (hi : i ≤ cs.length) (hb : b ≤ g) (cur : Array Value) (hg : W.heap[g]? = some (.cells cur 45 (0, 0))) (hn : cs.length + 1 ≤ cap) (hm : cap ≤ maxLen) (hs : cur.size = cap * 66) (R : List Value) (ht : cur.toList = cts (cs.take i) ++ (ctl c ++ (cts (cs.drop i) ++ R))) : OwnC W b (.slice (some ⟨g, 0, none⟩) (cs.length + 1) cap) (cs.take i ++ c :: cs.drop i) := by
  have hl : (cs.take i ++ c :: cs.drop i).length = cs.length + 1 := by rw [List.length_append, List.length_take, List.length_cons, List.length_drop]; omega
  have hx := ins_all hok hc i
  refine ⟨⟨by rw [cts_len hx], .inr ⟨g, cap, cur, by rw [hl], hb, hg, by rw [hl]; exact hn, hm, hs, ?_⟩⟩, hx⟩
  have e : cur.toList = cts (cs.take i ++ c :: cs.drop i) ++ R := by rw [ht, cts_app, cts_cons]; simp only [List.append_assoc]
  rw [e]
  exact List.take_left' (by rw [cts_len hx])
theorem ctr_cells {W : World} {g : Nat} {c : Ct} (h : W.heap[g]? = some (.cells (ctr c) 45 (0, 0))) : ∀ j u, (ctl c)[j]? = some u → W.cell? ((⟨g, 0, none⟩ : Addr).add j) = some u := by
  intro j u hu
  rw [addr_add, Nat.zero_add, cell_of_row _ _ _ _ _ _ h, ctr, List.getElem?_toArray]
  exact hu
set_option maxRecDepth 100000 in
set_option maxHeartbeats 8000000 in
theorem a_InsA (cs : List Ct) (c : Ct) (hc : c.ok) (i b : Nat) (v : Value) (w : World) (hO : OwnC w b v cs) (hl : cs.length ≤ 4096) (gx : Nat) (hgx : w.heap[gx]? = some (.cells (ctr c) 45 (0, 0))) (hne : v.ownBlock ≠ some gx) (hbw : b ≤ w.heap.size) (hi : i = cs.length) : Calls Tryd.prog 63 #[v, .int .i64 (i : Int), .slice (some ⟨gx, 0, none⟩) 1 1] w fun e w' => ∃ v', e = .returned v' ∧ (OwnC w' b v' (cs.take i ++ c :: cs.drop i) ∧ Nx w v v') ∧ Fr (fun k => v.ownBlock = some k) w w' := by
  subst hi
  obtain ⟨ao, cap, rfl, hc1, hc2, hz, hgo⟩ := hO.sl
  obtain ⟨u1, s1⟩ : ∃ u, ∀ W, (Instr.sliceAt 49 (.slice ao cs.length cap) (some (.int .i64 (cs.length : Int))) none none).run Tryd.prog W = .ok u W := ⟨_, slC_tail ao cs.length cap cs.length (Nat.le_refl _)⟩
  have d1 : ((cs.length : Int) == (cs.length : Int)) = true := by simp
  have hM : ∀ j u, (cts [c])[j]? = some u → w.cell? ((⟨gx, 0, none⟩ : Addr).add j) = some u := by rw [cts_one]; exact ctr_cells hgx
  go_enter Tryd.func63, Tryd.ntmps63
  go_wp2_with (at_builtin; refine wpList_append_Cx rfl _ _ 49 42 Tryd.underlying49 Tryd.underlying42 rfl b _ cs rfl hO ⟨gx, 0, none⟩ [c] 1 (AllC.one hc) rfl hM (by simp only [List.length_singleton]; omega) hbw ?_)
  intro v1 w1 hO1 hgr hNx
  go_wp2_with (fail)
  go_ret
  refine ⟨_, rfl, ⟨?_, hNx⟩, ⟨hgr.os, hgr.tape, hgr.output, hgr.size, fun k hk hx => hgr.block k hk (fun e => hx e.symm)⟩⟩
  rw [List.take_length, List.drop_length]
  exact hO1
theorem e_slice {o : Oper} {a : Act} {w : World} (t : TypeId) (x : Operand) (lo hi : Option Operand) (ho : o.op = .slice t x lo hi none) (v : Value) (hr : (Instr.sliceAt t (a.eval x) (lo.map a.eval) (hi.map a.eval) none).run Tryd.prog w = .ok v w) : (execOp a.eval o).run Tryd.prog w = .ok (.value v) w := by
  unfold execOp
  simp only [ho]
  simp [hr, Result.andThen]
set_option maxRecDepth 100000 in
set_option maxHeartbeats 8000000 in
theorem a_InsB (cs : List Ct) (c : Ct) (hc : c.ok) (i b : Nat) (v : Value) (w : World) (hO : OwnC w b v cs) (hl : cs.length ≤ 4096) (gx : Nat) (hgx : w.heap[gx]? = some (.cells (ctr c) 45 (0, 0))) (hne : v.ownBlock ≠ some gx) (hbw : b ≤ w.heap.size) (hi : i < cs.length) (hcap : ∀ ao n cap, v = .slice ao n cap → cap < cs.length + 1) : Calls Tryd.prog 63 #[v, .int .i64 (i : Int), .slice (some ⟨gx, 0, none⟩) 1 1] w fun e w' => ∃ v', e = .returned v' ∧ (OwnC w' b v' (cs.take i ++ c :: cs.drop i) ∧ Nx w v v') ∧ Fr (fun k => v.ownBlock = some k) w w' := by
  obtain ⟨ao, cap, rfl, hc1, hc2, hz, hgo⟩ := hO.sl
  have hcl := hcap _ _ _ rfl
  have h0 := hO.1
  obtain ⟨h01, ⟨e, h3⟩ | ⟨g, cap2, cur, e, hb0, hg, hn, hm, hcs, htk⟩⟩ := h0
  · omega
  cases e
  have hgg : gx ≠ g := fun e => hne (by rw [e]; rfl)
  have hcm : (cap : Int) ≤ 9223372036854775807 := by unfold maxLen at hc2; omega
  have hsz := hide hcs
  have htH := hide htk
  have hok := hO.2
  have hlc := ctl_len c hc.1.1 hc.2.1
  have hld : (cts (cs.drop i)).length = (cs.length - i) * 66 := by rw [cts_len (hok.drop i), List.length_drop]
  have hlcH := hide hlc
  have hldH := hide hld
  have htA : Hid (cur.toList.take (i * 66) = cts (cs.take i)) := hide (by rw [← cts_take hok i (by omega), ← htk, List.take_take, Nat.min_eq_left (by omega)])
  have hsrc : ∀ j u, (cts (cs.drop i))[j]? = some u → w.cell? ((⟨g, i * 66, none⟩ : Addr).add j) = some u := by
    intro j u hu
    rw [← cts_drop hok i (by omega), List.getElem?_drop] at hu
    have := hO.cells (g := g) (i * 66 + j) u hu
    rw [addr_add, Nat.zero_add] at this
    rw [addr_add]
    exact this
  clear htk hcs h01 hlc hld
  obtain ⟨u1, s1⟩ : ∃ u, ∀ W, (Instr.sliceAt 49 (.slice (some ⟨g, 0, none⟩) cs.length cap) (some (.int .i64 (i : Int))) none none).run Tryd.prog W = .ok u W := ⟨_, slC_tail (some ⟨g, 0, none⟩) cs.length cap i (by omega)⟩
  have d1 : ((i : Int) == (cs.length : Int)) = false := by rw [beq_eq_false_iff_ne]; omega
  have d8 : decide ((cap : Int) < (cs.length : Int) + 1) = true := by simp; omega
  have s2 := slC_head (some ⟨g, 0, none⟩) cs.length cap i (by omega) (by intro e; cases e)
  obtain ⟨k9, hk9⟩ : ∃ k : Nat, Hid (k = cs.length + 1 - i) := ⟨_, hide rfl⟩
  have e9 : (cs.length : Int) + 1 - (i : Int) = (k9 : Int) := by rw [hk9.out]; omega
  have hks : i + k9 = cs.length + 1 := by rw [hk9.out]; omega
  obtain ⟨i0, hi0, hz0, hz1, hz2⟩ := infoCtz
  have hlA : (cts (cs.take i)).length = i * i0.size := by rw [cts_len (hok.take i), List.length_take, Nat.min_eq_left (by omega), hz1]
  have hcA : ∀ j u, (cts (cs.take i))[j]? = some u → w.cell? ((⟨g, 0, none⟩ : Addr).add j) = some u := by
    intro j u hu
    rw [← cts_take hok i (by omega)] at hu
    have hj : j < i * 66 := by have := (List.getElem?_eq_some_iff.1 hu).1; rw [List.length_take] at this; omega
    rw [List.getElem?_take_of_lt hj] at hu
    exact hO.cells j u hu
  have hr9 : ∀ ty, _ := fun ty => run_append_zgrow w 49 3 ty 45 i0 (.agg (ctr zct)) .i64 .i64 Tryd.underlying49 Tryd.underlying3 hi0 hz0 ⟨g, 0, none⟩ i cap (cts (cs.take i)) hlA hcA k9 (by omega) (by rw [hz1]; decide) (by omega) (by omega) (by rw [hz2]; omega)
  rw [hks] at hr9
  have hge := grownCap_ge w (cs.length + 1) cap 45
  have hgm := grownCap_le_maxLen w (cs.length + 1) cap 45 (by unfold maxLen; omega)
  obtain ⟨cur2, hcur2⟩ : ∃ q, q = (cts (cs.take i)).toArray ++ Builtin.zeroCells (Value.agg (ctr zct)).cells k9 ++ Builtin.zeroCells (Value.agg (ctr zct)).cells (grownCap w (cs.length + 1) cap 45 - (cs.length + 1)) := ⟨_, rfl⟩
  rw [← hcur2] at hr9
  have hs2 : cur2.size = grownCap w (cs.length + 1) cap 45 * 66 := by
    rw [hcur2, Array.size_append, Array.size_append, size_zeroCells, size_zeroCells, List.size_toArray, hlA, hz1]
    show i * 66 + k9 * (ctr zct).size + _ * (ctr zct).size = _
    rw [ctr_size zct rfl rfl, ← Nat.add_mul, ← Nat.add_mul]
    congr 1
    omega
  have ht2 : cur2.toList.take (i * 66) = cts (cs.take i) := by
    rw [hcur2, Array.toList_append, Array.toList_append, List.append_assoc]
    exact List.take_left' (by rw [hlA, hz1])
  have hs2H := hide hs2
  have ht2H := hide ht2
  clear hs2 ht2 hcur2 hlA hcA hi0 hz0 hz1 hz2
  have hwN : Below w.heap.size w (w.alloc (.cells cur2 45)).drew := below_drN ((Below.refl _ _).alloc (Nat.le_refl _) _) 1
  have r2 : (w.alloc (.cells cur2 45)).drew.heap[w.heap.size]? = some (.cells cur2 45 (0, 0)) := heap_alloc_new w _
  generalize grownCap w (cs.length + 1) cap 45 = gc_ at *
  have hx2 := Go.Proofs.YtlbcdjflcghkeaaDoor.keep hwN hgx
  have hsrc2 : ∀ j u, (cts (cs.drop i))[j]? = some u → (w.alloc (.cells cur2 45)).drew.cell? ((⟨g, i * 66, none⟩ : Addr).add j) = some u := fun j u hu => by
    have := hsrc j u hu
    rw [addr_add] at this ⊢
    simp only [World.cell?] at this ⊢
    rw [hwN.block g (lt_of_row hg)]
    exact this
  have s3 := slC_tail (some ⟨w.heap.size, 0, none⟩) (cs.length + 1) gc_ i (by omega)
  rw [if_neg (show ¬ gc_ = i by omega)] at s3
  simp only [Option.map_some, addr_add, Nat.zero_add] at s3
  have hN1 : cs.length + 1 - i = k9 := by omega
  rw [hN1] at s3
  have hfX : i * 66 + (ctl c).length ≤ cur2.size := by rw [hlcH.out, hs2H.out]; have := Nat.mul_le_mul_right 66 hge; omega
  go_enter Tryd.func63, Tryd.ntmps63
  go_upto_region 10 with (first | (at_builtin; refine Lib.wpList_append_run w rfl _ _ 49 3 rfl _ _ rfl rfl _ _ (hr9 _) ?_) | fail)
  generalize (w.alloc (.cells cur2 45)).drew = w2 at *
  have cp1 : ∀ ty, (Builtin.copy_ #[49, 42] ty #[.slice (some ⟨w.heap.size, i * 66, none⟩) k9 (gc_ - i), .slice (some ⟨gx, 0, none⟩) 1 1]).run Tryd.prog w2 = .ok (goInt 1) (w2.setRow w.heap.size (ovw cur2 (i * 66) (ctl c))) := fun ty => run_copyC w2 49 42 ty w.heap.size (i * 66) k9 (gc_ - i) ⟨gx, 0, none⟩ 1 1 cur2 45 (ctl c) 1 (Nat.min_eq_left (show 1 ≤ k9 by omega)).symm Tryd.underlying49 r2 (by rw [hlcH.out]) (ctr_cells hx2) hfX (ctl_one c)
  go_upto_region 11 with (fail)
  have r3 := setRow_heap w2 w.heap.size _ (ovw cur2 (i * 66) (ctl c)) _ _ r2
  have hw3 := below_setRow hwN (Nat.le_refl _) (ovw cur2 (i * 66) (ctl c))
  have hsrc3 : ∀ j u, (cts (cs.drop i))[j]? = some u → (w2.setRow w.heap.size (ovw cur2 (i * 66) (ctl c))).cell? ((⟨g, i * 66, none⟩ : Addr).add j) = some u := fun j u hu => by
    have := hsrc2 j u hu
    rw [addr_add] at this ⊢
    simp only [World.cell?] at this ⊢
    rw [setRow_other w2 w.heap.size g _ (by have := lt_of_row hg; omega)]
    exact this
  have hz3 := tovw_size cur2 (i * 66) (ctl c) hfX
  have hfY : (i + 1) * 66 + (cts (cs.drop i)).length ≤ (ovw cur2 (i * 66) (ctl c)).size := by rw [hz3, hldH.out, hs2H.out]; have := Nat.mul_le_mul_right 66 hge; omega
  have hfin : Hid ((ovw (ovw cur2 (i * 66) (ctl c)) ((i + 1) * 66) (cts (cs.drop i))).toList = cts (cs.take i) ++ (ctl c ++ (cts (cs.drop i) ++ cur2.toList.drop (i * 66 + (ctl c).length + (cts (cs.drop i)).length))) ∧ (ovw (ovw cur2 (i * 66) (ctl c)) ((i + 1) * 66) (cts (cs.drop i))).size = gc_ * 66) := hide (by
    refine ⟨?_, by rw [tovw_size _ _ _ hfY, hz3, hs2H.out]⟩
    have := ins_list cur2 (i * 66) (ctl c) (cts (cs.drop i)) (by rw [hlcH.out, hldH.out, hs2H.out]; have := Nat.mul_le_mul_right 66 hge; omega)
    rw [ht2H.out, hlcH.out, show i * 66 + 66 = (i + 1) * 66 by omega] at this
    rw [this, hlcH.out, show i * 66 + 66 = (i + 1) * 66 by omega])
  have hN5 : cs.length + 1 - (i + 1) = cs.length - i := by omega
  have wr5 : IntKind.i64.wrap ((i : Int) + 1) = (i : Int) + 1 := by rw [IntKind.wrap_i64]; omega
  have s5 := slC_tail (some ⟨w.heap.size, 0, none⟩) (cs.length + 1) gc_ (i + 1) (by omega)
  rw [if_neg (show ¬ gc_ = i + 1 by omega), hN5] at s5
  simp only [Option.map_some, addr_add, Nat.zero_add, Int.natCast_add, Int.natCast_one] at s5
  have s6 : ∀ W, (Instr.sliceAt 49 (.slice (some ⟨g, 0, none⟩) cs.length cap) (some (.int .i64 (i : Int))) none none).run Tryd.prog W = .ok (.slice (some ⟨g, i * 66, none⟩) (cs.length - i) (cap - i)) W := fun W => by
    have := slC_tail (some ⟨g, 0, none⟩) cs.length cap i (by omega) W
    rw [if_neg (show ¬ cap = i by omega)] at this
    simpa only [Option.map_some, addr_add, Nat.zero_add] using this
  clear r2 hsrc hsrc2 hz3 hx2 hwN s3
  generalize w2.setRow w.heap.size (ovw cur2 (i * 66) (ctl c)) = w3 at *
  generalize ovw cur2 (i * 66) (ctl c) = cur3 at *
  replace r3 : w3.drew.heap[w.heap.size]? = some (.cells cur3 45 (0, 0)) := r3
  replace hw3 : Below w.heap.size w w3.drew := below_drN hw3 1
  replace hsrc3 : ∀ j u, (cts (cs.drop i))[j]? = some u → w3.drew.cell? ((⟨g, i * 66, none⟩ : Addr).add j) = some u := hsrc3
  refine wp_region_noPanic ?_
  refine wp_region_held (S := fun _ => True) (by kernel_rfl) ?_
  change wpAnyH _ _ _ _ _ _ _ _ (World.drew _)
  generalize w3.drew = w4 at *
  refine wpAnyH_take (i := 0) (v := ?v1) rfl (by kernel_rfl) (by kernel_rfl) (by kernel_rfl) (fun _ _ _ h => h) (Or.inl ⟨by rfl, ?y1⟩) (trivial) ?r1
  case y1 =>
    intro w_ hS_
    go_simp
    try with_reducible rfl
  simp only [Act.put, List.getElem_toArray, List.getElem_cons_zero, List.setIfInBounds_toArray, List.set_cons_succ, List.set_cons_zero]
  refine wpAnyH_take (i := 1) (v := ?v2) rfl (by kernel_rfl) (by kernel_rfl) (by kernel_rfl) (fun _ _ _ h => h) (Or.inl ⟨by rfl, ?y2⟩) (trivial) ?r2
  case y2 =>
    intro w_ hS_
    go_simp
    try with_reducible rfl
  simp only [Act.put, List.getElem_toArray, List.getElem_cons_succ, List.getElem_cons_zero, List.setIfInBounds_toArray, List.set_cons_succ, List.set_cons_zero]
  refine wpAnyH_take (i := 2) (v := ?v3) rfl (by kernel_rfl) (by kernel_rfl) (by kernel_rfl) (fun _ _ _ h => h) (Or.inl ⟨by rfl, ?y3⟩) (trivial) ?r3
  case y3 =>
    intro w_ hS_
    go_simp
    try with_reducible rfl
  simp only [Act.put, List.getElem_toArray, List.getElem_cons_succ, List.getElem_cons_zero, List.setIfInBounds_toArray, List.set_cons_succ, List.set_cons_zero]
  refine wpAnyH_take (i := 3) (v := .int .i64 ((i : Int) + 1)) rfl (by kernel_rfl) (by kernel_rfl) (by kernel_rfl) (fun _ _ _ h => h) (Or.inl ⟨by rfl, ?y4⟩) (trivial) ?r4
  case y4 =>
    intro w_ hS_
    go_simp
    try exact wr5
  simp only [Act.put, List.getElem_toArray, List.getElem_cons_succ, List.getElem_cons_zero, List.setIfInBounds_toArray, List.set_cons_succ, List.set_cons_zero]
  refine wpAnyH_take (i := 4) (v := .slice (some ⟨w.heap.size, (i + 1) * 66, none⟩) (cs.length - i) (gc_ - (i + 1))) rfl (by kernel_rfl) (by kernel_rfl) (by kernel_rfl) (fun _ _ _ h => h) (Or.inl ⟨by rfl, ?y5⟩) (trivial) ?r5
  case y5 =>
    intro w_ hS_
    simp only [List.getElem_toArray, List.getElem_cons_succ, List.getElem_cons_zero]
    exact e_slice _ _ _ _ rfl _ (s5 _)
  simp only [Act.put, List.getElem_toArray, List.getElem_cons_succ, List.getElem_cons_zero, List.setIfInBounds_toArray, List.set_cons_succ, List.set_cons_zero]
  refine wpAnyH_take (i := 5) (v := ?v6) rfl (by kernel_rfl) (by kernel_rfl) (by kernel_rfl) (fun _ _ _ h => h) (Or.inl ⟨by rfl, ?y6⟩) (trivial) ?r6
  case y6 =>
    intro w_ hS_
    go_simp
    try with_reducible rfl
  simp only [Act.put, List.getElem_toArray, List.getElem_cons_succ, List.getElem_cons_zero, List.setIfInBounds_toArray, List.set_cons_succ, List.set_cons_zero]
  refine wpAnyH_take (i := 6) (v := ?v7) rfl (by kernel_rfl) (by kernel_rfl) (by kernel_rfl) (fun _ _ _ h => h) (Or.inl ⟨by rfl, ?y7⟩) (trivial) ?r7
  case y7 =>
    intro w_ hS_
    go_simp
    try with_reducible rfl
  simp only [Act.put, List.getElem_toArray, List.getElem_cons_succ, List.getElem_cons_zero, List.setIfInBounds_toArray, List.set_cons_succ, List.set_cons_zero]
  refine wpAnyH_take (i := 7) (v := .slice (some ⟨g, i * 66, none⟩) (cs.length - i) (cap - i)) rfl (by kernel_rfl) (by kernel_rfl) (by kernel_rfl) (fun _ _ _ h => h) (Or.inl ⟨by rfl, ?y8⟩) (trivial) ?r8
  case y8 =>
    intro w_ hS_
    simp only [List.getElem_toArray, List.getElem_cons_succ, List.getElem_cons_zero]
    exact e_slice _ _ _ _ rfl _ (s6 _)
  simp only [Act.put, List.getElem_toArray, List.getElem_cons_succ, List.getElem_cons_zero, List.setIfInBounds_toArray, List.set_cons_succ, List.set_cons_zero]
  refine eH_one (k := 8) (fuel := 0) (by kernel_rfl) rfl (by kernel_rfl) (fun K_ hK_ => ?_)
  refine wp_copy_run (.tmp 50) (.tmp 53) 49 49 rfl _ _ rfl rfl _ _ (run_copyC w4 _ _ _ w.heap.size ((i + 1) * 66) (cs.length - i) (gc_ - (i + 1)) ⟨g, i * 66, none⟩ (cs.length - i) (cap - i) cur3 _ (cts (cs.drop i)) (cs.length - i) (Nat.min_self _).symm Tryd.underlying49 r3 (by rw [hldH.out]) hsrc3 hfY (cts_ones _)) ?_
  refine hK_ _ _ (trivial) ?_
  simp only [Act.put, List.getElem_toArray, List.getElem_cons_succ, List.getElem_cons_zero, List.setIfInBounds_toArray, List.set_cons_succ, List.set_cons_zero]
  clear hK_
  refine wpAnyH_done (by kernel_rfl) ?_ _
  refine NoPanic.normal ?_
  have r4 := setRow_heap w4 w.heap.size _ (ovw cur3 ((i + 1) * 66) (cts (cs.drop i))) _ _ r3
  have hw4 := below_setRow hw3 (Nat.le_refl _) (ovw cur3 ((i + 1) * 66) (cts (cs.drop i)))
  generalize w4.setRow w.heap.size (ovw cur3 ((i + 1) * 66) (cts (cs.drop i))) = w5 at *
  go_wp2_with (fail)
  go_ret
  exact ⟨_, rfl, ⟨own_ins hok hc (by omega) hbw _ r4 hge hgm hfin.out.2 _ hfin.out.1, .inr ⟨w.heap.size, rfl, Nat.le_refl _⟩⟩, Fr.of hw4⟩
set_option maxRecDepth 100000 in
set_option maxHeartbeats 8000000 in
theorem a_InsC (cs : List Ct) (c : Ct) (hc : c.ok) (i b : Nat) (v : Value) (w : World) (hO : OwnC w b v cs) (hl : cs.length ≤ 4096) (gx : Nat) (hgx : w.heap[gx]? = some (.cells (ctr c) 45 (0, 0))) (hne : v.ownBlock ≠ some gx) (_hbw : b ≤ w.heap.size) (hi : i < cs.length) (hcap : ∀ ao n cap, v = .slice ao n cap → cs.length + 1 ≤ cap) : Calls Tryd.prog 63 #[v, .int .i64 (i : Int), .slice (some ⟨gx, 0, none⟩) 1 1] w fun e w' => ∃ v', e = .returned v' ∧ (OwnC w' b v' (cs.take i ++ c :: cs.drop i) ∧ Nx w v v') ∧ Fr (fun k => v.ownBlock = some k) w w' := by
  obtain ⟨ao, cap, rfl, hc1, hc2, hz, hgo⟩ := hO.sl
  have hcl := hcap _ _ _ rfl
  have h0 := hO.1
  obtain ⟨h01, ⟨e, h3⟩ | ⟨g, cap2, cur, e, hb0, hg, hn, hm, hcs, htk⟩⟩ := h0
  · omega
  cases e
  have hgg : gx ≠ g := fun e => hne (by rw [e]; rfl)
  have hcm : (cap : Int) ≤ 9223372036854775807 := by unfold maxLen at hc2; omega
  have hsz := hide hcs
  have htH := hide htk
  have hok := hO.2
  have hlc := ctl_len c hc.1.1 hc.2.1
  have hld : (cts (cs.drop i)).length = (cs.length - i) * 66 := by rw [cts_len (hok.drop i), List.length_drop]
  have hlcH := hide hlc
  have hldH := hide hld
  have htA : Hid (cur.toList.take (i * 66) = cts (cs.take i)) := hide (by rw [← cts_take hok i (by omega), ← htk, List.take_take, Nat.min_eq_left (by omega)])
  have hsrc : ∀ j u, (cts (cs.drop i))[j]? = some u → w.cell? ((⟨g, i * 66, none⟩ : Addr).add j) = some u := by
    intro j u hu
    rw [← cts_drop hok i (by omega), List.getElem?_drop] at hu
    have := hO.cells (g := g) (i * 66 + j) u hu
    rw [addr_add, Nat.zero_add] at this
    rw [addr_add]
    exact this
  clear htk hcs h01 hlc hld
  obtain ⟨u1, s1⟩ : ∃ u, ∀ W, (Instr.sliceAt 49 (.slice (some ⟨g, 0, none⟩) cs.length cap) (some (.int .i64 (i : Int))) none none).run Tryd.prog W = .ok u W := ⟨_, slC_tail (some ⟨g, 0, none⟩) cs.length cap i (by omega)⟩
  have d1 : ((i : Int) == (cs.length : Int)) = false := by rw [beq_eq_false_iff_ne]; omega
  have d8 : decide ((cap : Int) < (cs.length : Int) + 1) = false := by simp; omega
  have s2 := slC_head (some ⟨g, 0, none⟩) cs.length cap (cs.length + 1) (by omega) (by intro e; cases e)
  simp only [Int.natCast_add, Int.natCast_one] at s2
  have wr5 : IntKind.i64.wrap ((i : Int) + 1) = (i : Int) + 1 := by rw [IntKind.wrap_i64]; omega
  have hN5 : cs.length + 1 - (i + 1) = cs.length - i := by omega
  have s5 := slC_tail (some ⟨g, 0, none⟩) (cs.length + 1) cap (i + 1) (by omega)
  rw [if_neg (show ¬ cap = i + 1 by omega), hN5] at s5
  simp only [Option.map_some, addr_add, Nat.zero_add, Int.natCast_add, Int.natCast_one] at s5
  have s6 := slC_tail (some ⟨g, 0, none⟩) (cs.length + 1) cap i (by omega)
  rw [if_neg (show ¬ cap = i by omega)] at s6
  simp only [Option.map_some, addr_add, Nat.zero_add] at s6
  have ov := run_ovl w gx g ((i + 1) * 66) _ _ _ _ hgx hg hgg 1 1 (cs.length - i) (cap - (i + 1))
  have hbig := Nat.mul_le_mul_right 66 hcl
  have hfY : (i + 1) * 66 + (cts (cs.drop i)).length ≤ cur.size := by rw [hldH.out, hsz.out]; omega
  have hz3 : Hid ((ovw cur ((i + 1) * 66) (cts (cs.drop i))).size = cap * 66) := hide (by rw [tovw_size _ _ _ hfY, hsz.out])
  have hfX : i * 66 + (ctl c).length ≤ (ovw cur ((i + 1) * 66) (cts (cs.drop i))).size := by rw [hz3.out, hlcH.out]; omega
  have hfin : Hid ((ovw (ovw cur ((i + 1) * 66) (cts (cs.drop i))) (i * 66) (ctl c)).toList = cts (cs.take i) ++ (ctl c ++ (cts (cs.drop i) ++ cur.toList.drop (i * 66 + (ctl c).length + (cts (cs.drop i)).length))) ∧ (ovw (ovw cur ((i + 1) * 66) (cts (cs.drop i))) (i * 66) (ctl c)).size = cap * 66) := hide (by
    refine ⟨?_, by rw [tovw_size _ _ _ hfX, hz3.out]⟩
    have := ins_list2 cur (i * 66) (ctl c) (cts (cs.drop i)) (by rw [hlcH.out, hldH.out, hsz.out]; omega)
    rw [htA.out, hlcH.out, show i * 66 + 66 = (i + 1) * 66 by omega] at this
    rw [this, hlcH.out, show i * 66 + 66 = (i + 1) * 66 by omega])
  have hfr : Fr (fun k => some g = some k) w w.drew := Fr.of (below_drN (Below.refl _ _) 1)
  go_enter Tryd.func63, Tryd.ntmps63
  go_upto_region 15 with (fail)
  replace hg : w.drew.heap[g]? = some (.cells cur 45 (0, 0)) := hg
  replace hgx : w.drew.heap[gx]? = some (.cells (ctr c) 45 (0, 0)) := hgx
  replace hsrc : ∀ j u, (cts (cs.drop i))[j]? = some u → w.drew.cell? ((⟨g, i * 66, none⟩ : Addr).add j) = some u := hsrc
  clear ov
  refine wp_region_noPanic ?_
  refine wp_region_held (S := fun _ => True) (by kernel_rfl) ?_
  change wpAnyH _ _ _ _ _ _ _ _ (World.drew _)
  generalize w.drew = w4 at *
  refine wpAnyH_take (i := 0) (v := ?v9) rfl (by kernel_rfl) (by kernel_rfl) (by kernel_rfl) (fun _ _ _ h => h) (Or.inl ⟨by rfl, ?y9⟩) (trivial) ?r9
  case y9 =>
    intro w_ hS_
    go_simp
    try with_reducible rfl
  simp only [Act.put, List.getElem_toArray, List.getElem_cons_zero, List.setIfInBounds_toArray, List.set_cons_succ, List.set_cons_zero]
  refine wpAnyH_take (i := 1) (v := ?v10) rfl (by kernel_rfl) (by kernel_rfl) (by kernel_rfl) (fun _ _ _ h => h) (Or.inl ⟨by rfl, ?y10⟩) (trivial) ?r10
  case y10 =>
    intro w_ hS_
    go_simp
    try with_reducible rfl
  simp only [Act.put, List.getElem_toArray, List.getElem_cons_succ, List.getElem_cons_zero, List.setIfInBounds_toArray, List.set_cons_succ, List.set_cons_zero]
  refine wpAnyH_take (i := 2) (v := ?v11) rfl (by kernel_rfl) (by kernel_rfl) (by kernel_rfl) (fun _ _ _ h => h) (Or.inl ⟨by rfl, ?y11⟩) (trivial) ?r11
  case y11 =>
    intro w_ hS_
    go_simp
    try with_reducible rfl
  simp only [Act.put, List.getElem_toArray, List.getElem_cons_succ, List.getElem_cons_zero, List.setIfInBounds_toArray, List.set_cons_succ, List.set_cons_zero]
  refine wpAnyH_take (i := 3) (v := .int .i64 ((i : Int) + 1)) rfl (by kernel_rfl) (by kernel_rfl) (by kernel_rfl) (fun _ _ _ h => h) (Or.inl ⟨by rfl, ?y12⟩) (trivial) ?r12
  case y12 =>
    intro w_ hS_
    go_simp
    try exact wr5
  simp only [Act.put, List.getElem_toArray, List.getElem_cons_succ, List.getElem_cons_zero, List.setIfInBounds_toArray, List.set_cons_succ, List.set_cons_zero]
  refine wpAnyH_take (i := 4) (v := .slice (some ⟨g, (i + 1) * 66, none⟩) (cs.length - i) (cap - (i + 1))) rfl (by kernel_rfl) (by kernel_rfl) (by kernel_rfl) (fun _ _ _ h => h) (Or.inl ⟨by rfl, ?y13⟩) (trivial) ?r13
  case y13 =>
    intro w_ hS_
    simp only [List.getElem_toArray, List.getElem_cons_succ, List.getElem_cons_zero]
    exact e_slice _ _ _ _ rfl _ (s5 _)
  simp only [Act.put, List.getElem_toArray, List.getElem_cons_succ, List.getElem_cons_zero, List.setIfInBounds_toArray, List.set_cons_succ, List.set_cons_zero]
  refine wpAnyH_take (i := 5) (v := ?v14) rfl (by kernel_rfl) (by kernel_rfl) (by kernel_rfl) (fun _ _ _ h => h) (Or.inl ⟨by rfl, ?y14⟩) (trivial) ?r14
  case y14 =>
    intro w_ hS_
    go_simp
    try with_reducible rfl
  simp only [Act.put, List.getElem_toArray, List.getElem_cons_succ, List.getElem_cons_zero, List.setIfInBounds_toArray, List.set_cons_succ, List.set_cons_zero]
  refine wpAnyH_take (i := 6) (v := ?v15) rfl (by kernel_rfl) (by kernel_rfl) (by kernel_rfl) (fun _ _ _ h => h) (Or.inl ⟨by rfl, ?y15⟩) (trivial) ?r15
  case y15 =>
    intro w_ hS_
    go_simp
    try with_reducible rfl
  simp only [Act.put, List.getElem_toArray, List.getElem_cons_succ, List.getElem_cons_zero, List.setIfInBounds_toArray, List.set_cons_succ, List.set_cons_zero]
  refine wpAnyH_take (i := 7) (v := .slice (some ⟨g, i * 66, none⟩) (cs.length + 1 - i) (cap - i)) rfl (by kernel_rfl) (by kernel_rfl) (by kernel_rfl) (fun _ _ _ h => h) (Or.inl ⟨by rfl, ?y16⟩) (trivial) ?r16
  case y16 =>
    intro w_ hS_
    simp only [List.getElem_toArray, List.getElem_cons_succ, List.getElem_cons_zero]
    exact e_slice _ _ _ _ rfl _ (s6 _)
  simp only [Act.put, List.getElem_toArray, List.getElem_cons_succ, List.getElem_cons_zero, List.setIfInBounds_toArray, List.set_cons_succ, List.set_cons_zero]
  refine eH_one (k := 8) (fuel := 0) (by kernel_rfl) rfl (by kernel_rfl) (fun K_ hK_ => ?_)
  refine wp_copy_run (.tmp 73) (.tmp 76) 49 49 rfl _ _ rfl rfl _ _ (run_copyC w4 _ _ _ g ((i + 1) * 66) (cs.length - i) (cap - (i + 1)) ⟨g, i * 66, none⟩ (cs.length + 1 - i) (cap - i) cur _ (cts (cs.drop i)) (cs.length - i) (Nat.min_eq_right (by omega)).symm Tryd.underlying49 hg (by rw [hldH.out]) hsrc hfY (cts_ones _)) ?_
  refine hK_ _ _ (trivial) ?_
  simp only [Act.put, List.getElem_toArray, List.getElem_cons_succ, List.getElem_cons_zero, List.setIfInBounds_toArray, List.set_cons_succ, List.set_cons_zero]
  clear hK_
  refine wpAnyH_done (by kernel_rfl) ?_ _
  refine NoPanic.normal ?_
  have r4 := setRow_heap w4 g _ (ovw cur ((i + 1) * 66) (cts (cs.drop i))) _ _ hg
  have hx4 := (setRow_other w4 g gx (ovw cur ((i + 1) * 66) (cts (cs.drop i))) hgg).trans hgx
  replace hfr := hfr.setRow (b := g) rfl (ovw cur ((i + 1) * 66) (cts (cs.drop i)))
  generalize w4.setRow g (ovw cur ((i + 1) * 66) (cts (cs.drop i))) = w5 at *
  generalize ovw cur ((i + 1) * 66) (cts (cs.drop i)) = cur3 at *
  have cp1 : ∀ ty, (Builtin.copy_ #[49, 42] ty #[.slice (some ⟨g, i * 66, none⟩) (cs.length + 1 - i) (cap - i), .slice (some ⟨gx, 0, none⟩) 1 1]).run Tryd.prog w5 = .ok (goInt 1) (w5.setRow g (ovw cur3 (i * 66) (ctl c))) := fun ty => run_copyC w5 49 42 ty g (i * 66) (cs.length + 1 - i) (cap - i) ⟨gx, 0, none⟩ 1 1 cur3 45 (ctl c) 1 (Nat.min_eq_left (show 1 ≤ cs.length + 1 - i by omega)).symm Tryd.underlying49 r4 (by rw [hlcH.out]) (ctr_cells hx4) hfX (ctl_one c)
  have r5 := setRow_heap w5 g _ (ovw cur3 (i * 66) (ctl c)) _ _ r4
  replace hfr := hfr.setRow (b := g) rfl (ovw cur3 (i * 66) (ctl c))
  clear hfX
  generalize w5.setRow g (ovw cur3 (i * 66) (ctl c)) = w6 at *
  go_wp2_with (fail)
  go_ret
  exact ⟨_, rfl, ⟨own_ins hok hc (by omega) hb0 _ r5 (by omega) hm hfin.out.2 _ hfin.out.1, .inl rfl⟩, hfr⟩
theorem a_Insert (cs : List Ct) (c : Ct) (hc : c.ok) (i b : Nat) (v : Value) (w : World) (hO : OwnC w b v cs) (hl : cs.length ≤ 4096) (gx : Nat) (hgx : w.heap[gx]? = some (.cells (ctr c) 45 (0, 0))) (hne : v.ownBlock ≠ some gx) (hbw : b ≤ w.heap.size) (hi : i ≤ cs.length) : Calls Tryd.prog 63 #[v, .int .i64 (i : Int), .slice (some ⟨gx, 0, none⟩) 1 1] w fun e w' => ∃ v', e = .returned v' ∧ (OwnC w' b v' (cs.take i ++ c :: cs.drop i) ∧ Nx w v v') ∧ Fr (fun k => v.ownBlock = some k) w w' := by
  by_cases h : i = cs.length
  · exact a_InsA cs c hc i b v w hO hl gx hgx hne hbw h
  · obtain ⟨ao, cap, e, _⟩ := hO.sl
    by_cases hk : cs.length + 1 ≤ cap
    · exact a_InsC cs c hc i b v w hO hl gx hgx hne hbw (by omega) (fun a n k q => by rw [e] at q; cases q; exact hk)
    · exact a_InsB cs c hc i b v w hO hl gx hgx hne hbw (by omega) (fun a n k q => by rw [e] at q; cases q; omega)
end Go.Proofs.YtlbcdjflcghkeaaDoor
