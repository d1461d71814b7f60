import Derived.Test.YtlbcdjflcghkeaaDoorProg
import Derived.WalkKit
import Derived.WalkSpells
import Derived.WalkLawsBesides
import Derived.Lib.QuietBelow
import Derived.BigQuiet
import Derived.OrdersHeld
import Derived.OwnWalk
import Derived.Deep.RegionHeld3
import Derived.Deep.Cut
import Derived.Deep.CutRange
import Derived.Deep.CutBlock
import Derived.Maps.Own
import Derived.Test.YtlbcdjflcghkeaaDoorTuy
namespace Go.Proofs.YtlbcdjflcghkeaaDoor
set_option maxRecDepth 100000
open Go Go.RowKit Go.Sort
attribute [local go_sem] setCell_drewN alloc_drewN
theorem zOp (W : World) : (Instr.alloc 30 true (.tuple #[])).run Tryd.prog W = .ok (.pointer (some ⟨W.heap.size, 0, none⟩)) (W.alloc (.cells (opr zop) 30)) := by kernel_rfl
theorem kn_o' (a : Kn) (h : a.k.length = 32) : (knl a)[33]? = some (.bool a.o) := by have := kn_o a h; rwa [knr, List.getElem?_toArray] at this
theorem kn_s' (a : Kn) (h : a.k.length = 32) : (knl a)[34]? = some (.bool a.s) := by have := kn_s a h; rwa [knr, List.getElem?_toArray] at this
theorem knl_key {W : World} {g o : Nat} {a : Kn} (h : W.rangeAt g o (knl a)) : W.rangeAt g (o + 1) (k8 a.k) := by
 intro j v hj
 have := h (1 + j) v (by
  show ([Value.string a.n] ++ (k8 a.k ++ ([Value.bool a.o] ++ ([Value.bool a.s] ++ []))))[1 + j]? = some v
  rw [List.getElem?_append_right (by simp)]
  have hl : j < (k8 a.k).length := (List.getElem?_eq_some_iff.1 hj).1
  rw [List.getElem?_append_left (by simpa using hl)]
  simpa using hj)
 rw [show o + 1 + j = o + (1 + j) by omega]
 exact this
theorem kn_n' (a : Kn) : (knl a)[0]? = some (.string a.n) := rfl
/-- The book and what is known, in the midst of a script. -/
structure Sp (w W : World) (b g : Nat) (ve vc : Value) (y : List Int) (es : List Ev) (cs : List Ct) (vl : Value) (l : List Kn) (i : Nat) : Prop where
 bk : Bk W b g ve vc y es cs
 own : OwnN W b vl l
 rl : Rl l cs
 el : es.length ≤ i
 ll : l.length ≤ i
 hw : Below w.heap.size w W
 wb : w.heap.size ≤ b
theorem Bk.notin {W : World} {b g : Nat} {ve vc : Value} {y : List Int} {es : List Ev} {cs : List Ct} (h : Bk W b g ve vc y es cs) {k : Nat} {ds : Array Value} {t : TypeId} {fr : Nat × Nat} (hk : W.heap[k]? = some (.cells ds t fr)) (h1 : 51 ≠ t) (h2 : 57 ≠ t) (h3 : 45 ≠ t) : ¬ ownB g ve vc k := by
 rintro (rfl | e | e)
 ·have := h.row.symm.trans hk
  injection this with this
  injection this with _ this
  exact h1 this
 ·exact own_type h.evs.1 hk h2 e
 ·exact own_type h.cts.1 hk h3 e
theorem OwnN.row {W : World} {b : Nat} {v : Value} {l : List Kn} (h : OwnN W b v l) {k : Nat} (e : v.ownBlock = some k) : ∃ cur, W.heap[k]? = some (.cells cur 32 (0, 0)) := by
 obtain ⟨_, ⟨rfl, _⟩ | ⟨g1, cap, cur, rfl, _, hg1, _⟩⟩ := h.1
 ·cases e
 ·cases e
  exact ⟨cur, hg1⟩
/-- Behind a call of the book. -/
theorem Sp.book {w W V : World} {b g : Nat} {ve vc : Value} {y : List Int} {es : List Ev} {cs : List Ct} {vl : Value} {l : List Kn} {i : Nat} (h : Sp w W b g ve vc y es cs vl l i) {ve' vc' : Value} {fs : List Ev} {ds : List Ct} (hB : Bk V b g ve' vc' y fs ds) (hF : Fr (ownB g ve vc) W V) (hl : fs.length ≤ i + 1) : Bk V b g ve' vc' y fs ds ∧ OwnN V b vl l ∧ fs.length ≤ i + 1 ∧ l.length ≤ i ∧ Below w.heap.size w V ∧ w.heap.size ≤ b :=
 ⟨hB, h.own.move (fun k e => by obtain ⟨cur, hc⟩ := h.own.row e; exact hF.block k (h.own.lt k e).2 (h.bk.notin hc (by decide) (by decide) (by decide))), hl, h.ll, Bk.step h.bk hF h.hw h.wb, h.wb⟩
theorem Sp.keep {w W V : World} {b g : Nat} {ve vc : Value} {y : List Int} {es : List Ev} {cs : List Ct} {vl : Value} {l : List Kn} {i : Nat} (h : Sp w W b g ve vc y es cs vl l i) (hb : Below W.heap.size W V) : Sp w V b g ve vc y es cs vl l i := ⟨h.bk.keep hb, h.own.keep hb, h.rl, h.el, h.ll, Below.after h.hw hb, h.wb⟩
/-- Behind a change of what is known. -/
theorem Bk.known {W V : World} {b g : Nat} {ve vc : Value} {y : List Int} {es : List Ev} {cs : List Ct} (h : Bk W b g ve vc y es cs) {vl : Value} {l : List Kn} (hO : OwnN W b vl l) (hm : ∀ k, k < W.heap.size → vl.ownBlock ≠ some k → V.heap[k]? = W.heap[k]?) : Bk V b g ve vc y es cs := h.move (fun k e => hm k (h.low k e).2 (fun q => by
 obtain ⟨cur, hc⟩ := hO.row q
 exact h.notin hc (by decide) (by decide) (by decide) e))
theorem run_bslN (c : Kn) (hc : c.k.length = 32) (W : World) : (Instr.buildSlice 28 1 #[(0, .agg (knr c))]).run Tryd.prog W = .ok (.slice (some ⟨W.heap.size, 0, none⟩) 1 1) (W.alloc (.cells (knr c) 32)) := by
 obtain ⟨n, k, o, s⟩ := c
 obtain ⟨x0, x1, x2, x3, x4, x5, x6, x7, x8, x9, x10, x11, x12, x13, x14, x15, x16, x17, x18, x19, x20, x21, x22, x23, x24, x25, x26, x27, x28, x29, x30, x31, rfl⟩ := len32 k hc
 kernel_rfl
theorem wpList_bslN {ops : Array Oper} {Q : Exit → Act → World → Prop} {w : World} {rest : List Oper} {o : Oper} {a : Act} (hw : Region.wanted o (yielded ops a.tmps) = true) (c : Kn) (hc : c.k.length = 32) (x : Operand) (ho : o.op = .buildSlice 28 1 #[(0, x)]) (hx : a.eval x = .agg (knr c)) (h : wpList Tryd.prog ops Q rest (a.put o.dst (.slice (some ⟨w.heap.size, 0, none⟩) 1 1)) (w.alloc (.cells (knr c) 32))) : wpList Tryd.prog ops Q (o :: rest) a w :=
 BigFrame.wpList_want hw fun _ hK => wp_world_op _ _ (by simp [execOp, ho, hx, run_bslN c hc, Result.andThen]) (hK _ _ h)
theorem knr_cells {W : World} {g : Nat} {c : Kn} (h : W.heap[g]? = some (.cells (knr c) 32 (0, 0))) : ∀ j u, (kns [c])[j]? = some u → W.cell? ((⟨g, 0, none⟩ : Addr).add j) = some u := by
 intro j u hu
 rw [kns_one] at hu
 rw [addr_add, Nat.zero_add, cell_of_row _ _ _ _ _ _ h, knr, List.getElem?_toArray]
 exact hu
theorem wp_append_roomN {w : World} {o : Oper} {a : Act} {K : Act → World → Prop} {Q : Exit → Act → World → Prop} (s x : Operand) (ho : o.op = .call { callee := .builtin .append, args := #[s, x], argTypes := #[28, 28] })
 (g sLen sCap : Nat) (cur : Array Value) (hg : w.heap[g]? = some (.cells cur 32 (0, 0))) (ad : Addr) (m c : Nat) (news : List Value) (hl : news.length = m * 35) (hnews : ∀ j u, news[j]? = some u → w.cell? (ad.add j) = some u) (h1 : ∀ u ∈ news, u.oneCell' = true) (hroom : sLen + m ≤ sCap) (hfit : sLen * 35 + news.length ≤ cur.size)
 (hs : a.eval s = .slice (some ⟨g, 0, none⟩) sLen sCap) (hx : a.eval x = .slice (some ad) m c)
 (h : K (a.put o.dst (.slice (some ⟨g, 0, none⟩) (sLen + m) sCap)) (w.setRow g (cur.toList.take (sLen * 35) ++ news ++ cur.toList.drop (sLen * 35 + news.length)).toArray)) : o.wp Tryd.prog a w K Q := by
 obtain ⟨i0, hi, hz0, hz1, hz2⟩ := infoKnz
 have hr := run_append_room (P := Tryd.prog) w 28 o.type 32 i0 Tryd.underlying28 hi g sLen sCap cur hg ad m c news (by rw [hz1]; exact hl) hnews h1 hroom (by rw [hz1]; exact hfit)
 rw [hz1] at hr
 unfold Oper.wp execOp
 simp only [ho, resolve, invoke, builtin, Sem.run_bind, Sem.run_pure, Result.andThen_ok, List.map_toArray, List.map_cons, List.map_nil, hs, hx, hr]
 exact h
theorem elemN : Tryd.prog.underlying 28 = some (.slice (Tryd.prog.elem 28)) := by kernel_rfl
theorem sizeN (W : World) : (sizeOf (Tryd.prog.elem 28)).run Tryd.prog W = .ok 35 W := by kernel_rfl
theorem slN_tail (ao : Option Addr) (len cap k : Nat) (h : k ≤ len) (W : World) : (Instr.sliceAt 28 (.slice ao len cap) (some (.int .i64 (k : Int))) none none).run Tryd.prog W = .ok (.slice (if cap = k then ao else ao.map (·.add (k * 35))) (len - k) (cap - k)) W := by
 rw [run_sliceAt_slice _ _ _ _ _ _ elemN, run_slice_l W 28 ao len cap elemN .i64 _ (by omega) (by omega), sizeN]
 show Result.ok (sliced _ _ _ _ 35) W = _
 rw [Int.toNat_natCast, sliced]
theorem slN_head (ao : Option Addr) (len cap k : Nat) (h : k ≤ cap) (hz : ao = none → cap = 0) (W : World) : (Instr.sliceAt 28 (.slice ao len cap) none (some (.int .i64 (k : Int))) none).run Tryd.prog W = .ok (.slice ao k cap) W := by
 rw [run_sliceAt_slice _ _ _ _ _ _ elemN, run_slice_h W 28 ao len cap elemN .i64 _ (by omega) (by omega), sizeN]
 show Result.ok (sliced _ _ _ _ 35) W = _
 rw [Int.toNat_natCast, sliced]
 cases ao with
 | none => simp
 | some a => obtain ⟨b, o, s⟩ := a; cases s <;> simp [Addr.add]
theorem OwnN.cut {W : World} {b g cap : Nat} {l : List Kn} {cur : Array Value} (h : OwnN W b (.slice (some ⟨g, 0, none⟩) l.length cap) l) (hg : W.heap[g]? = some (.cells cur 32 (0, 0))) {k : Nat} (hk : k < l.length) : OwnN (W.setRow g (cur.toList.take (k * 35) ++ kns (l.drop (k + 1)) ++ cur.toList.drop (k * 35 + (kns (l.drop (k + 1))).length)).toArray) b (.slice (some ⟨g, 0, none⟩) (k + (l.length - (k + 1))) cap) (l.take k ++ l.drop (k + 1)) := by
 obtain ⟨cur2, hc, hs, hn, _, ht, hb, hm⟩ := h.cur
 rw [hg] at hc
 cases hc
 have hle := Nat.mul_le_mul_right 35 hn
 have hld : (kns (l.drop (k + 1))).length = (l.length - (k + 1)) * 35 := by rw [kns_len (h.2.drop _), List.length_drop]
 have hlt : (kns (l.take k)).length = k * 35 := by rw [kns_len (h.2.take _), List.length_take, Nat.min_eq_left (by omega)]
 have hct : cur.toList.take (k * 35) = kns (l.take k) := by rw [← kns_take h.2 k (by omega), ← ht, List.take_take, Nat.min_eq_left (by omega)]
 have hl : (l.take k ++ l.drop (k + 1)).length = k + (l.length - (k + 1)) := by rw [List.length_append, List.length_take, List.length_drop]; omega
 have hx : AllN (l.take k ++ l.drop (k + 1)) := (h.2.take k).app (h.2.drop (k + 1))
 refine ⟨⟨by rw [kns_len hx], .inr ⟨g, cap, _, by rw [hl], hb, setRow_heap _ _ _ _ _ _ hg, by rw [hl]; omega, hm, ?_, ?_⟩⟩, hx⟩
 ·rw [List.size_toArray, List.length_append, List.length_append, List.length_take, List.length_drop, Array.length_toList (xs := cur), hld, hs]
  omega
 ·show (cur.toList.take (k * 35) ++ kns (l.drop (k + 1)) ++ _).take _ = _
  rw [hct, kns_app, hl, List.take_append_of_le_length (by rw [List.length_append, hlt, hld]; omega)]
  exact List.take_of_length_le (by rw [List.length_append, hlt, hld]; omega)
theorem wp_store_partR {P : Program} {o : Oper} {a : Act} {w : World} {K : Act → World → Prop} {Q : Exit → Act → World → Prop} (ty : TypeId) (x y : Operand) (ho : o.op = .store ty x y)
 (g off : Nat) (cells : Array Value) (hx : a.eval x = .pointer (some ⟨g, off, none⟩)) (hy : a.eval y = .agg cells) (t : TypeId) (old new : Array Value) (hg : w.heap[g]? = some (.cells old t (0, 0))) (hle : off + cells.size ≤ old.size) (hnew : ovw old off cells.toList = new) (hi : (P.info? ty).map (·.size) = some cells.size)
 (h1 : cells.all (·.oneCell') = true) (h : K (a.put o.dst undef) (w.setRow g new)) : o.wp P a w K Q := by
 refine wp_store_mid ty x y ho g off cells hx hy (there_row hg hle) hi h1 ?_
 rw [setCells_eq cells.toList off w old hg, hnew]
 exact h
theorem dcK_ok {a : Kn} (ha : a.ok) {es fs : List Ev} (h : ∀ e ∈ fs, e.ok) : (dcK a es fs).ok := by
 have hz : (fs.getD es.length zev).ok := by
  rw [List.getD_eq_getElem?_getD]
  cases q : fs[es.length]? with
  | none => exact k32_zero
  | some e => exact h e (List.mem_of_getElem? q)
 unfold dcK dcE
 split
 ·exact ha
 ·generalize fs.getD es.length zev = e at *
  split
  ·exact hz
  ·split
   ·exact ha
   ·split <;> exact ha
theorem dec_ex {P : Program} {f : FuncId} {args : Array Value} {b g : Nat} {ve vc : Value} {y : List Int} {es : List Ev} {cs : List Ct} {a : Kn} {oe : Option Ev} {w : World} (h : Calls P f args w (DcR b g ve vc y es cs a oe w)) : Calls P f args w fun e w' => ∃ v, e = .returned v ∧ (v = .agg (knr (dcK a es (nxt es cs oe).1)) ∧ ∃ ve' vc', Bk w' b g ve' vc' y (nxt es cs oe).1 (nxt es cs oe).2 ∧ Fr (ownB g ve vc) w w') :=
 h.mono fun _ _ ⟨ve', vc', he, h1, _, _, h2⟩ => ⟨_, he, rfl, ve', vc', h1, h2⟩
set_option maxRecDepth 100000 in
set_option maxHeartbeats 8000000 in
theorem stops_any (y : List Int) (hy : K32 y) (sc : List Opn) (w : World) (v : Value) (hSc : Scr w v sc) (hSt : Sta w) (hKo : Kon w) (hPo : Pow w) : Calls Tryd.prog 3 #[.agg (irow .u8 y), v] w fun e w' => e = .returned (.bool true) ∧ Below w.heap.size w w' := by
 have hScO : ∀ i, i < sc.length → OkO (gop sc i) := fun i hi => by obtain ⟨_, _, _, _, q⟩ := hSc; exact (q i hi).1
 have hsl : sc.length ≤ 9223372036854775806 := by obtain ⟨_, _, _, q, _⟩ := hSc; exact q
 obtain ⟨aS, cS, rfl⟩ : ∃ a c, v = .slice a sc.length c := by obtain ⟨a, c, q, _⟩ := hSc; exact ⟨a, c, q⟩
 have rp0 := hp1_0 w (.cells (irow .u8 y) 23)
 have hw : Below w.heap.size w (w.alloc (.cells (irow .u8 y) 23)) := ((Below.refl _ _).alloc (Nat.le_refl _) _)
 go_enter Tryd.func3, Tryd.ntmps3
 go_upto_region 1 with (first | (refine wpList_box rfl 23 _ rfl _ rfl (bKy _) ?_) | fail)
 try simp only [size_alloc1]
 generalize (w.alloc (.cells (irow .u8 y) 23)) = w0 at *
 go_wp2_with (first | (refine wpList_load_part rfl 23 _ rfl (w.heap.size) 0 rfl 23 (irow .u8 y) (0, 0) (irow .u8 y) _ rp0 (all_rowe _) Tryd.underlying23 rfl (infoKy _ hy.1) ?_) | fail)
 refine (a_lives _ (hSt.below hw) (hKo.below hw) (hPo.below hw)).mono ?_
 rintro e_ w1 ⟨rfl, hb⟩
 replace rp0 := keep hb rp0
 replace hw := Below.after hw hb
 clear hb
 go_wp2_with (first | (refine wpList_load_part rfl 23 _ rfl (w.heap.size) 0 rfl 23 (irow .u8 y) (0, 0) (irow .u8 y) _ rp0 (all_rowe _) Tryd.underlying23 rfl (infoKy _ hy.1) ?_) | fail)
 have hs1 := hw.size
 have hrl := lt_of_row rp0
 refine (a_New y hy _).mono ?_
 rintro e_ w2 ⟨g, rfl, hB, hb⟩
 replace rp0 := keep hb rp0
 replace hw := Below.after hw hb
 clear hb
 have hwb := hs1
 obtain ⟨b, hbE⟩ : ∃ b, Hid (b = w1.heap.size) := ⟨_, hide rfl⟩
 rw [← hbE.out] at hB hwb
 have hwb2 : w.heap.size < b := by rw [hbE.out]; exact hrl
 clear hbE hs1 hrl
 go_wp2_with (first | (refine wpList_load_part rfl 23 _ rfl (w.heap.size) 0 rfl 23 (irow .u8 y) (0, 0) (irow .u8 y) _ rp0 (all_rowe _) Tryd.underlying23 rfl (infoKy _ hy.1) ?_) | fail)
 go_loopw [6, 7] (fun ul ui wr => ∃ (i : Nat) (es : List Ev) (cs : List Ct) (l : List Kn) (ve vc : Value), ui = .int .i64 i ∧ i ≤ sc.length ∧ i ≤ 1024 ∧ Sp w wr b g ve vc y es cs ul l i ∧ wr.heap[w.heap.size]? = some (.cells (irow .u8 y) 23 (0, 0))) (fun _ ui _ => 1024 - (intOf ui).toNat)
 case atStart => exact ⟨0, [], [], [], _, _, rfl, by omega, by omega, ⟨hB, OwnN.nil _ _, Rl.nil, by simp, by simp, hw, hwb⟩, rp0⟩
 case round =>
  clear hB hw rp0
  obtain ⟨i, es, cs, l, ve, vc, rfl, hi1, hi2, hSp, rp0⟩ := hrel
  obtain ⟨ao, cap, rfl, hc1, hc2, hz1, hz2⟩ := hSp.own.sl
  by_cases hlt : i < sc.length ∧ i < 1024
  ·have d1 : decide ((i : Int) < (sc.length : Int)) = true := by simp; omega
   have d2 : decide ((i : Int) < 1024) = true := by simp; omega
   obtain ⟨bS, oS, rfl, hbS, hrS⟩ := hSc.at hSp.hw hlt.1
   have hxo := hScO i hlt.1
   have h3 : 0 ≤ (i : Int) ∧ (i : Int) < (sc.length : Int) := by omega
   generalize hxE : gop sc i = x at *
   clear hxE
   go_wp2_with (first | (refine wpList_store_row rfl 30 _ _ rfl (wr.heap.size) (opr x) rfl rfl 30 (opr zop) (hp1_0 wr _) (op_info _ hxo.1.1) ((opr_size _ (zr_len 32)).trans (opr_size _ hxo.1.1).symm) (opr_one _) ?_; rw [setRow_alloc_new _ _ _ _ _ _ (by simp)]; refine wpList_stay ?_) | (refine wpList_alloc rfl 30 rfl (opr zop) zOp ?_) | (refine wpList_load_rng rfl 30 _ rfl bS (oS + i * 37) rfl (opl x) _ hrS Tryd.underlying30 rfl (by rw [opl_len _ hxo.1.1]; kernel_rfl) ?_) | fail)
   unfold WpStay
   try simp only [Act.put]
   have rl8 := hp1_0 wr (.cells (opr x) 30)
   have hb : Below wr.heap.size wr (wr.alloc (.cells (opr x) 30)) := (Below.refl _ _).alloc (Nat.le_refl _) _
   generalize (wr.alloc (.cells (opr x) 30)) = w3 at *
   have lt_go_0 := lt_of_row rp0
   have sz_go := hSp.hw.size
   replace rp0 := keep hb rp0
   replace hrS := rangeAt_keep hrS (hb.block _ (Nat.lt_of_lt_of_le hbS hSp.hw.size))
   replace hSp := hSp.keep hb
   clear hb
   generalize wr.heap.size = go at *
   clear wr
   clear hrS
   go_wp2_with (first | (refine wpList_load_part rfl 23 _ rfl (w.heap.size) 0 rfl 23 (irow .u8 y) (0, 0) (irow .u8 y) _ rp0 (all_rowe _) Tryd.underlying23 rfl (infoKy _ hy.1) ?_) | (refine wpList_load_part rfl 23 _ rfl (go) 3 rfl 30 (opr x) (0, 0) (irow .u8 x.k) _ rl8 (op_k x hxo.1.1) Tryd.underlying23 rfl (infoKy _ hxo.1.1) ?_) | (refine wpList_load_part rfl 30 _ rfl (go) 0 rfl 30 (opr x) (0, 0) (opr x) _ rl8 (all_rowe _) Tryd.underlying30 rfl (op_info _ hxo.1.1) ?_) | fail)
   clear hSc hScO
   go_loopw [9] (fun uk wq => ∃ k : Nat, uk = .int .i64 k ∧ k ≤ l.length ∧ Hid (∀ t, t < k → (gk l t).n ≠ x.n) ∧ Sp w wq b g ve vc y es cs (.slice ao l.length cap) l i ∧ wq.heap[w.heap.size]? = some (.cells (irow .u8 y) 23 (0, 0)) ∧ wq.heap[go]? = some (.cells (opr x) 30 (0, 0))) (fun uk _ => l.length - (intOf uk).toNat)
   case atStart => exact ⟨0, rfl, by omega, hide (fun t ht => by omega), hSp, rp0, rl8⟩
   case round =>
    clear hSp rp0 rl8
    obtain ⟨k, rfl, hk, hkn, hSp, rp0, rl8⟩ := hrel
    have hll := hSp.ll
    have hel := hSp.el
    by_cases hkl : k < l.length
    ·have dk : decide ((k : Int) < (l.length : Int)) = true := by simp; omega
     have hk3 : 0 ≤ (k : Int) ∧ (k : Int) < (l.length : Int) := by omega
     obtain ⟨gl, rfl, hgl, hrl⟩ := hSp.own.at hkl
     have cnm := range_at hrl (kn_n' (gk l k))
     rw [Nat.add_zero] at cnm
     have eB := ba_dec (gk l k).n x.n
     clear hrl
     generalize hak : gk l k = a at *
     generalize dN : decide (a.n = x.n) = xN at *
     go_wp2_with (fail)
     have hb : Below wr.heap.size wr wr.drew := below_drN (Below.refl _ _) 1
     replace rp0 := keep hb rp0
     replace rl8 := keep hb rl8
     replace cnm := (World.cell?_of_block (hb.block _ hgl)).trans cnm
     replace hgl := Nat.lt_of_lt_of_le hgl hb.size
     replace hSp := hSp.keep hb
     clear hb
     refine wp_region_noPanic ?_
     refine wp_region_held (S := fun W_ => W_.heap[go]? = some (.cells (opr x) 30 (0, 0)) ∧ W_.cell? ⟨gl, k * 35, none⟩ = some (.string a.n)) (by kernel_rfl) ?_
     change wpAnyH _ _ _ _ _ _ _ _ (World.drew _)
     generalize wr.drew = wd50 at *
     refine wpAnyH_take (i := 0) (v := ?v51) rfl (by kernel_rfl) (by kernel_rfl) (by kernel_rfl) (fun _ _ _ h => h) (Or.inl ⟨by rfl, ?y51⟩) (⟨rl8, cnm⟩) ?r51
     case y51 =>
      intro w_ hS_
      go_simp
      try with_reducible rfl
     simp only [Act.put, List.getElem_toArray, List.getElem_cons_zero, List.setIfInBounds_toArray, List.set_cons_succ, List.set_cons_zero]
     refine wpAnyH_take (i := 1) (v := ?v52) rfl (by kernel_rfl) (by kernel_rfl) (by kernel_rfl) (fun _ _ _ h => h) (Or.inl ⟨by rfl, ?y52⟩) (⟨rl8, cnm⟩) ?r52
     case y52 =>
      intro w_ hS_
      go_simp
      try with_reducible rfl
     simp only [Act.put, List.getElem_toArray, List.getElem_cons_succ, List.getElem_cons_zero, List.setIfInBounds_toArray, List.set_cons_succ, List.set_cons_zero]
     refine wpAnyH_take (i := 2) (v := ?v53) rfl (by kernel_rfl) (by kernel_rfl) (by kernel_rfl) (fun _ _ _ h => h) (Or.inl ⟨by rfl, ?y53⟩) (⟨rl8, cnm⟩) ?r53
     case y53 =>
      intro w_ hS_
      go_simp
      try with_reducible rfl
     simp only [Act.put, List.getElem_toArray, List.getElem_cons_succ, List.getElem_cons_zero, List.setIfInBounds_toArray, List.set_cons_succ, List.set_cons_zero]
     refine wpAnyH_take (i := 3) (v := .bool true) rfl (by kernel_rfl) (by kernel_rfl) (by kernel_rfl) (fun _ _ _ h => h) (Or.inl ⟨by rfl, ?y54⟩) (⟨rl8, cnm⟩) ?r54
     case y54 =>
      intro w_ hS_
      go_simp
      try with_reducible rfl
     simp only [Act.put, List.getElem_toArray, List.getElem_cons_succ, List.getElem_cons_zero, List.setIfInBounds_toArray, List.set_cons_succ, List.set_cons_zero]
     refine wpAnyH_take (i := 4) (v := .bool true) rfl (by kernel_rfl) (by kernel_rfl) (by kernel_rfl) (fun _ _ _ h => h) (Or.inl ⟨by rfl, ?y55⟩) (⟨rl8, cnm⟩) ?r55
     case y55 =>
      intro w_ hS_
      go_simp
      try with_reducible rfl
     simp only [Act.put, List.getElem_toArray, List.getElem_cons_succ, List.getElem_cons_zero, List.setIfInBounds_toArray, List.set_cons_succ, List.set_cons_zero]
     refine wpAnyH_take (i := 5) (v := ?v56) rfl (by kernel_rfl) (by kernel_rfl) (by kernel_rfl) (fun _ _ _ h => h) (Or.inl ⟨by rfl, ?y56⟩) (⟨rl8, cnm⟩) ?r56
     case y56 =>
      intro w_ hS_
      go_simp
      try with_reducible rfl
     simp only [Act.put, List.getElem_toArray, List.getElem_cons_succ, List.getElem_cons_zero, List.setIfInBounds_toArray, List.set_cons_succ, List.set_cons_zero]
     refine wpAnyH_take (i := 6) (v := ?v57) rfl (by kernel_rfl) (by kernel_rfl) (by kernel_rfl) (fun _ _ _ h => h) (Or.inl ⟨by rfl, ?y57⟩) (⟨rl8, cnm⟩) ?r57
     case y57 =>
      intro w_ hS_
      go_simp
      try with_reducible rfl
     simp only [Act.put, List.getElem_toArray, List.getElem_cons_succ, List.getElem_cons_zero, List.setIfInBounds_toArray, List.set_cons_succ, List.set_cons_zero]
     refine wpAnyH_take (i := 7) (v := .pointer (some ⟨gl, k * 35, none⟩)) rfl (by kernel_rfl) (by kernel_rfl) (by kernel_rfl) (fun _ _ _ h => h) (Or.inl ⟨by rfl, ?y58⟩) (⟨rl8, cnm⟩) ?r58
     case y58 =>
      intro w_ hS_
      go_simp
      try with_reducible rfl
     simp only [Act.put, List.getElem_toArray, List.getElem_cons_succ, List.getElem_cons_zero, List.setIfInBounds_toArray, List.set_cons_succ, List.set_cons_zero]
     refine wpAnyH_take (i := 8) (v := .pointer (some ⟨gl, k * 35, none⟩)) rfl (by kernel_rfl) (by kernel_rfl) (by kernel_rfl) (fun _ _ _ h => h) (Or.inl ⟨by rfl, ?y59⟩) (⟨rl8, cnm⟩) ?r59
     case y59 =>
      intro w_ hS_
      go_simp
      try with_reducible rfl
     simp only [Act.put, List.getElem_toArray, List.getElem_cons_succ, List.getElem_cons_zero, List.setIfInBounds_toArray, List.set_cons_succ, List.set_cons_zero]
     refine wpAnyH_take (i := 9) (v := .string a.n) rfl (by kernel_rfl) (by kernel_rfl) (by kernel_rfl) (fun _ _ _ h => h) (Or.inl ⟨by rfl, ?y60⟩) (⟨rl8, cnm⟩) ?r60
     case y60 =>
      intro w_ hS_
      have c_ := hS_.2
      go_simp
      try with_reducible rfl
     simp only [Act.put, List.getElem_toArray, List.getElem_cons_succ, List.getElem_cons_zero, List.setIfInBounds_toArray, List.set_cons_succ, List.set_cons_zero]
     refine wpAnyH_take (i := 10) (v := ?v61) rfl (by kernel_rfl) (by kernel_rfl) (by kernel_rfl) (fun _ _ _ h => h) (Or.inl ⟨by rfl, ?y61⟩) (⟨rl8, cnm⟩) ?r61
     case y61 =>
      intro w_ hS_
      go_simp
      try with_reducible rfl
     simp only [Act.put, List.getElem_toArray, List.getElem_cons_succ, List.getElem_cons_zero, List.setIfInBounds_toArray, List.set_cons_succ, List.set_cons_zero]
     refine wpAnyH_take (i := 11) (v := .string x.n) rfl (by kernel_rfl) (by kernel_rfl) (by kernel_rfl) (fun _ _ _ h => h) (Or.inl ⟨by rfl, ?y62⟩) (⟨rl8, cnm⟩) ?r62
     case y62 =>
      intro w_ hS_
      have c_ := cell_at (hS_.1) (op_n x)
      go_simp
      try with_reducible rfl
     simp only [Act.put, List.getElem_toArray, List.getElem_cons_succ, List.getElem_cons_zero, List.setIfInBounds_toArray, List.set_cons_succ, List.set_cons_zero]
     refine wpAnyH_take (i := 12) (v := .bool (!xN)) rfl (by kernel_rfl) (by kernel_rfl) (by kernel_rfl) (fun _ _ _ h => h) (Or.inl ⟨by rfl, ?y63⟩) (⟨rl8, cnm⟩) ?r63
     case y63 =>
      intro w_ hS_
      go_simp
      try with_reducible rfl
     simp only [Act.put, List.getElem_toArray, List.getElem_cons_succ, List.getElem_cons_zero, List.setIfInBounds_toArray, List.set_cons_succ, List.set_cons_zero]
     refine wpAnyH_take (i := 13) (v := .bool (!xN)) rfl (by kernel_rfl) (by kernel_rfl) (by kernel_rfl) (fun _ _ _ h => h) (Or.inl ⟨by rfl, ?y64⟩) (⟨rl8, cnm⟩) ?r64
     case y64 =>
      intro w_ hS_
      go_simp
      try with_reducible rfl
     simp only [Act.put, List.getElem_toArray, List.getElem_cons_succ, List.getElem_cons_zero, List.setIfInBounds_toArray, List.set_cons_succ, List.set_cons_zero]
     refine wpAnyH_done (by kernel_rfl) ?_ _
     refine NoPanic.normal ?_
     cases xN
     ·have hne : ¬ a.n = x.n := by simpa using dN
      go_wp2_with (first | (refine wpList_load_part rfl 23 _ rfl (w.heap.size) 0 rfl 23 (irow .u8 y) (0, 0) (irow .u8 y) _ rp0 (all_rowe _) Tryd.underlying23 rfl (infoKy _ hy.1) ?_) | (refine wpList_load_part rfl 23 _ rfl (go) 3 rfl 30 (opr x) (0, 0) (irow .u8 x.k) _ rl8 (op_k x hxo.1.1) Tryd.underlying23 rfl (infoKy _ hxo.1.1) ?_) | (refine wpList_load_part rfl 30 _ rfl (go) 0 rfl 30 (opr x) (0, 0) (opr x) _ rl8 (all_rowe _) Tryd.underlying30 rfl (op_info _ hxo.1.1) ?_) | fail)
      refine ⟨⟨k + 1, by go_num, by omega, hide (fun t ht => ?_), hSp, rp0, rl8⟩, ?_⟩
      ·by_cases q : t = k
       ·rw [q, hak]; exact hne
       ·exact hkn.out t (by omega)
      ·simp [intOf]; omega
     ·have heq : a.n = x.n := by simpa using dN
      have hpk := pk_of (Nat.le_of_lt hkl) hkn.out (fun _ => by rw [hak]; exact heq)
      have hkl2 : pk l x.n < l.length := by rw [hpk]; exact hkl
      clear heq dN
      generalize dk1 : (x.d == 1) = xd1 at *
      generalize dk2 : (x.d == 2) = xd2 at *
      generalize dk7 : (x.d == 7) = xd7 at *
      cases xd1
      ·skip
       have n1 : ¬ x.d = 1 := by simpa using dk1
       cases xd2
       ·skip
        cases xd7
        ·have n7 : ¬ x.d = 7 := by simpa using dk7
         as_aux_lemma =>
          have hp := hkl2
          have hdy := dec_yes (es := es) hSp.rl hSp.bk.srt hSp.bk.sta (by omega) y y x hp n1 n7
          rw [hpk, hak] at hdy
          obtain ⟨oe, hoe⟩ : ∃ oe, Hid (oe = stE y y es cs x) := ⟨_, hide rfl⟩
          rw [← hoe.out] at hdy
          obtain ⟨gl2, e_gl, hgl2, hrl⟩ := hSp.own.at hkl
          cases e_gl
          rw [hak] at hrl
          have haok : a.ok := by have := hSp.own.2.at hkl; rw [show l.getD k zkn = a from hak] at this; exact this
          have fc55 := cell_at rl8 (op_d x)
          have fc56 := cell_at rl8 (op_n x)
          have fc57 := cell_at rl8 (op_r x hxo.1.1)
          have fc58 := cell_at rl8 (op_x x hxo.1.1)
          go_wp2_with (first | (refine wpList_load_part rfl 23 _ rfl (w.heap.size) 0 rfl 23 (irow .u8 y) (0, 0) (irow .u8 y) _ rp0 (all_rowe _) Tryd.underlying23 rfl (infoKy _ hy.1) ?_) | (refine wpList_load_part rfl 23 _ rfl (go) 3 rfl 30 (opr x) (0, 0) (irow .u8 x.k) _ rl8 (op_k x hxo.1.1) Tryd.underlying23 rfl (infoKy _ hxo.1.1) ?_) | (refine wpList_load_part rfl 30 _ rfl (go) 0 rfl 30 (opr x) (0, 0) (opr x) _ rl8 (all_rowe _) Tryd.underlying30 rfl (op_info _ hxo.1.1) ?_) | fail)
          clear fc55 fc56 fc57 fc58
          have hb : Below wd50.heap.size wd50 wd50.drew := below_drN (Below.refl _ _) 1
          replace rp0 := keep hb rp0
          replace rl8 := keep hb rl8
          replace hrl := rangeAt_keep hrl (hb.block _ hgl2)
          replace hSp := hSp.keep hb
          clear hb hgl2
          refine wp_region_noPanic ?_
          refine wp_region_held (S := fun W_ => W_.heap[w.heap.size]? = some (.cells (irow .u8 y) 23 (0, 0)) ∧ W_.heap[go]? = some (.cells (opr x) 30 (0, 0))) (by kernel_rfl) ?_
          change wpAnyH _ _ _ _ _ _ _ _ (World.drew _)
          generalize wd50.drew = wd65 at *
          refine wpAnyH_take (i := 0) (v := ?v66) rfl (by kernel_rfl) (by kernel_rfl) (by kernel_rfl) (fun _ _ _ h => h) (Or.inl ⟨by rfl, ?y66⟩) (⟨rp0, rl8⟩) ?r66
          case y66 =>
           intro w_ hS_
           go_simp
           try with_reducible rfl
          simp only [Act.put, List.getElem_toArray, List.getElem_cons_zero, List.setIfInBounds_toArray, List.set_cons_succ, List.set_cons_zero]
          refine wpAnyH_take (i := 1) (v := ?v67) rfl (by kernel_rfl) (by kernel_rfl) (by kernel_rfl) (fun _ _ _ h => h) (Or.inl ⟨by rfl, ?y67⟩) (⟨rp0, rl8⟩) ?r67
          case y67 =>
           intro w_ hS_
           go_simp
           try with_reducible rfl
          simp only [Act.put, List.getElem_toArray, List.getElem_cons_succ, List.getElem_cons_zero, List.setIfInBounds_toArray, List.set_cons_succ, List.set_cons_zero]
          refine wpAnyH_take (i := 2) (v := ?v68) rfl (by kernel_rfl) (by kernel_rfl) (by kernel_rfl) (fun _ _ _ h => h) (Or.inl ⟨by rfl, ?y68⟩) (⟨rp0, rl8⟩) ?r68
          case y68 =>
           intro w_ hS_
           go_simp
           try with_reducible rfl
          simp only [Act.put, List.getElem_toArray, List.getElem_cons_succ, List.getElem_cons_zero, List.setIfInBounds_toArray, List.set_cons_succ, List.set_cons_zero]
          refine wpAnyH_take (i := 3) (v := .agg (irow .u8 y)) rfl (by kernel_rfl) (by kernel_rfl) (by kernel_rfl) (fun _ _ _ h => h) (Or.inl ⟨by rfl, ?y69⟩) (⟨rp0, rl8⟩) ?r69
          case y69 =>
           intro w_ hS_
           simp only [List.getElem_toArray, List.getElem_cons_succ, List.getElem_cons_zero]
           exact e_load_part 23 _ (by rfl) (w.heap.size) 0 (by rfl) 23 (irow .u8 y) (0, 0) (irow .u8 y) _ (hS_.1) (all_rowe _) Tryd.underlying23 rfl (infoKy _ hy.1)
          simp only [Act.put, List.getElem_toArray, List.getElem_cons_succ, List.getElem_cons_zero, List.setIfInBounds_toArray, List.set_cons_succ, List.set_cons_zero]
          refine wpAnyH_take (i := 4) (v := .agg (opr x)) rfl (by kernel_rfl) (by kernel_rfl) (by kernel_rfl) (fun _ _ _ h => h) (Or.inl ⟨by rfl, ?y70⟩) (⟨rp0, rl8⟩) ?r70
          case y70 =>
           intro w_ hS_
           simp only [List.getElem_toArray, List.getElem_cons_succ, List.getElem_cons_zero]
           exact e_load_part 30 _ (by rfl) (go) 0 (by rfl) 30 (opr x) (0, 0) (opr x) _ (hS_.2) (all_rowe _) Tryd.underlying30 rfl (op_info _ hxo.1.1)
          simp only [Act.put, List.getElem_toArray, List.getElem_cons_succ, List.getElem_cons_zero, List.setIfInBounds_toArray, List.set_cons_succ, List.set_cons_zero]
          refine wpAnyH_take (i := 5) (v := ?v71) rfl (by kernel_rfl) (by kernel_rfl) (by kernel_rfl) (fun _ _ _ h => h) (Or.inl ⟨by rfl, ?y71⟩) (⟨rp0, rl8⟩) ?r71
          case y71 =>
           intro w_ hS_
           go_simp
           try with_reducible rfl
          simp only [Act.put, List.getElem_toArray, List.getElem_cons_succ, List.getElem_cons_zero, List.setIfInBounds_toArray, List.set_cons_succ, List.set_cons_zero]
          refine wpAnyH_take (i := 6) (v := ?v72) rfl (by kernel_rfl) (by kernel_rfl) (by kernel_rfl) (fun _ _ _ h => h) (Or.inl ⟨by rfl, ?y72⟩) (⟨rp0, rl8⟩) ?r72
          case y72 =>
           intro w_ hS_
           go_simp
           try with_reducible rfl
          simp only [Act.put, List.getElem_toArray, List.getElem_cons_succ, List.getElem_cons_zero, List.setIfInBounds_toArray, List.set_cons_succ, List.set_cons_zero]
          refine wpAnyH_take (i := 7) (v := .pointer (some ⟨gl, k * 35, none⟩)) rfl (by kernel_rfl) (by kernel_rfl) (by kernel_rfl) (fun _ _ _ h => h) (Or.inl ⟨by rfl, ?y73⟩) (⟨rp0, rl8⟩) ?r73
          case y73 =>
           intro w_ hS_
           go_simp
           try with_reducible rfl
          simp only [Act.put, List.getElem_toArray, List.getElem_cons_succ, List.getElem_cons_zero, List.setIfInBounds_toArray, List.set_cons_succ, List.set_cons_zero]
          refine eH_one (k := 8) (fuel := 3) (by kernel_rfl) rfl (by kernel_rfl) (fun K_ hK_ => ?_)
          refine wp_load_mid 32 _ rfl gl (k * 35) rfl (knl a) _ hrl Tryd.underlying32 rfl (by rw [knl_len a haok.1]; kernel_rfl) ?_
          rw [show (knl a).toArray = knr a from rfl]
          refine hK_ _ _ (⟨rp0, rl8⟩) ?_
          simp only [Act.put, List.getElem_toArray, List.getElem_cons_succ, List.getElem_cons_zero, List.setIfInBounds_toArray, List.set_cons_succ, List.set_cons_zero]
          clear hK_ hrl
          refine eH_one (k := 9) (fuel := 2) (by kernel_rfl) rfl (by kernel_rfl) (fun K_ hK_ => ?_)
          refine wp_call_ex (f := 11) (by kernel_rfl) (dec_ex (a_decided y hy x hxo.1 hxo.2 a haok b g _ _ y es cs _ hSp.bk (hSt.below hSp.hw) (hKo.below hSp.hw) (hPo.below hSp.hw) oe hoe)) (fun v_ wD74 hX_ => ?_)
          obtain ⟨rfl, ve2, vc2, hB2, hF⟩ := hX_
          obtain ⟨hB3, hO3, hfl, hl3, hw3, -⟩ := hSp.book hB2 hF (Nat.le_trans (nxt_len es cs _) (by omega))
          replace rp0 := hF.row rp0 (hSp.bk.notin rp0 (by decide) (by decide) (by decide))
          replace rl8 := hF.row rl8 (hSp.bk.notin rl8 (by decide) (by decide) (by decide))
          refine hK_ _ _ (⟨rp0, rl8⟩) ?_
          simp only [Act.put, List.getElem_toArray, List.getElem_cons_succ, List.getElem_cons_zero, List.setIfInBounds_toArray, List.set_cons_succ, List.set_cons_zero]
          clear hK_ hSp hB2 hF
          have haok2 := dcK_ok haok (es := es) hB3.evs.2
          generalize dcK a es (nxt es cs oe).1 = a2 at *
          refine wpAnyH_take (i := 10) (v := .pointer (some ⟨gl, k * 35, none⟩)) rfl (by kernel_rfl) (by kernel_rfl) (by kernel_rfl) (fun _ _ _ h => h) (Or.inl ⟨by rfl, ?y75⟩) (⟨rp0, rl8⟩) ?r75
          case y75 =>
           intro w_ hS_
           go_simp
           try with_reducible rfl
          simp only [Act.put, List.getElem_toArray, List.getElem_cons_succ, List.getElem_cons_zero, List.setIfInBounds_toArray, List.set_cons_succ, List.set_cons_zero]
          refine eH_one (k := 11) (fuel := 0) (by kernel_rfl) rfl (by kernel_rfl) (fun K_ hK_ => ?_)
          obtain ⟨cur, hcur, hcsz, hcl_, -, -, hbg_, -⟩ := hO3.cur
          have hle2 : k * 35 + (knr a2).size ≤ cur.size := by rw [knr_size a2 haok2.1, hcsz]; omega
          refine wp_store_partR 32 _ _ rfl gl (k * 35) (knr a2) rfl rfl 32 cur (ovw cur (k * 35) (knl a2)) hcur hle2 rfl (kn_info _ haok2.1) (knr_one _) ?_
          have hO4 := hO3.put hcur hkl (a := a2) haok2
          have hB4 := hB3.known (V := (wD74.setRow gl (ovw cur (k * 35) (knl a2)))) hO3 (fun k_ _ hne => setRow_other wD74 gl k_ (ovw cur (k * 35) (knl a2)) (fun e => hne (by rw [e]; rfl)))
          have hw4 := below_setRow hw3 (Nat.le_trans hwb hbg_) (ovw cur (k * 35) (knl a2))
          have rp4 := (setRow_other wD74 gl w.heap.size (ovw cur (k * 35) (knl a2)) (fun e => own_type hO3.1 rp0 (by decide) (by rw [← e]; rfl))).trans rp0
          have rl4 := (setRow_other wD74 gl go (ovw cur (k * 35) (knl a2)) (fun e => own_type hO3.1 rl8 (by decide) (by rw [← e]; rfl))).trans rl8
          refine hK_ _ _ ⟨rp4, rl4⟩ ?_
          simp only [Act.put]
          clear hK_ hB3 hO3 hw3 rp0 rl8 hcur hle2
          generalize (wD74.setRow gl (ovw cur (k * 35) (knl a2))) = wZ at *
          refine wpAnyH_done (by kernel_rfl) ?_ _
          refine NoPanic.normal ?_
          have hll4 : (l.set k a2).length ≤ i + 1 := by rw [List.length_set]; omega
          have hOl : OwnN wZ b (.slice (some ⟨gl, 0, none⟩) l.length cap) (l.set k a2) := hO4
          go_wp2_with (fail)
          refine ⟨⟨i + 1, _, _, _, _, _, by go_num, by omega, by omega, ⟨hB4, hOl, hdy, hfl, hll4, hw4, hwb⟩, rp4⟩, ?_⟩
          simp [intOf]; omega
        ·clear n1
         as_aux_lemma =>
          have hp := hkl2
          obtain ⟨hfo1, hfo2⟩ := forget_yes (es := es) hSp.rl hSp.bk.srt hSp.bk.sta (by omega) hp
          rw [hpk] at hfo2
          have fc59 := cell_at rl8 (op_d x)
          have fc60 := cell_at rl8 (op_n x)
          have fc61 := cell_at rl8 (op_r x hxo.1.1)
          have fc62 := cell_at rl8 (op_x x hxo.1.1)
          go_wp2_with (first | (refine wpList_load_part rfl 23 _ rfl (w.heap.size) 0 rfl 23 (irow .u8 y) (0, 0) (irow .u8 y) _ rp0 (all_rowe _) Tryd.underlying23 rfl (infoKy _ hy.1) ?_) | (refine wpList_load_part rfl 23 _ rfl (go) 3 rfl 30 (opr x) (0, 0) (irow .u8 x.k) _ rl8 (op_k x hxo.1.1) Tryd.underlying23 rfl (infoKy _ hxo.1.1) ?_) | (refine wpList_load_part rfl 30 _ rfl (go) 0 rfl 30 (opr x) (0, 0) (opr x) _ rl8 (all_rowe _) Tryd.underlying30 rfl (op_info _ hxo.1.1) ?_) | fail)
          clear fc59 fc60 fc61 fc62
          refine (a_Forget x.n hxo.2 b g _ _ y es cs _ hSp.bk).mono ?_
          rintro e_ wF76 ⟨ve2, vc2, rfl, hB2, -, -, hF⟩
          obtain ⟨hB3, hO3, hfl, hl3, hw3, -⟩ := hSp.book hB2 hF (Nat.le_trans (nxt_len es cs _) (by omega))
          replace rp0 := hF.row rp0 (hSp.bk.notin rp0 (by decide) (by decide) (by decide))
          replace rl8 := hF.row rl8 (hSp.bk.notin rl8 (by decide) (by decide) (by decide))
          clear hSp hB2 hF
          have dz : ((foR es cs x.n).1 == 0) = true := by rw [hfo1]; rfl
          clear hfo1
          generalize foR es cs x.n = z at *
          obtain ⟨gl2, e_gl, hgl2, hrl⟩ := hO3.at hkl
          cases e_gl
          clear hrl
          obtain ⟨cur, hcur, hcsz, hcl_, -, hct_, hbg_, hcm_⟩ := hO3.cur
          have hsN := slN_head (some ⟨gl, 0, none⟩) l.length cap k (by omega) (by intro e; cases e)
          have hsT := slN_tail (some ⟨gl, 0, none⟩) l.length cap (k + 1) (by omega)
          simp only [Int.natCast_add, Int.natCast_one] at hsT
          obtain ⟨ad, had⟩ : ∃ ad : Addr, Hid ((if cap = k + 1 then some (⟨gl, 0, none⟩ : Addr) else (some (⟨gl, 0, none⟩ : Addr)).map (·.add ((k + 1) * 35))) = some ad) := by
           split
           ·exact ⟨_, hide rfl⟩
           ·exact ⟨_, hide rfl⟩
          rw [had.out] at hsT
          have hld : (kns (l.drop (k + 1))).length = (l.length - (k + 1)) * 35 := by rw [kns_len (hO3.2.drop _), List.length_drop]
          have hldH := hide hld
          clear hld
          have hsrc : ∀ t u, (kns (l.drop (k + 1)))[t]? = some u → wF76.cell? (ad.add t) = some u := by
           intro t u hu
           have hjc : cap ≠ k + 1 := fun e => by
            have := (List.getElem?_eq_some_iff.1 hu).1
            rw [hldH.out] at this
            omega
           have e := had.out
           rw [if_neg hjc] at e
           injection e with e
           rw [← e]
           show _ = some u
           dsimp only
           rw [addr_add, Nat.zero_add, addr_add]
           rw [← kns_drop hO3.2 (k + 1) (by omega), List.getElem?_drop] at hu
           have := hO3.1.cells (g := gl) rfl ((k + 1) * 35 + t) u hu
           rw [addr_add, Nat.zero_add] at this
           exact this
          have wr5 : IntKind.i64.wrap ((k : Int) + 1) = (k : Int) + 1 := by rw [IntKind.wrap_i64]; omega
          go_wp2_with (first | (refine wpList_load_part rfl 23 _ rfl (w.heap.size) 0 rfl 23 (irow .u8 y) (0, 0) (irow .u8 y) _ rp0 (all_rowe _) Tryd.underlying23 rfl (infoKy _ hy.1) ?_) | (refine wpList_load_part rfl 23 _ rfl (go) 3 rfl 30 (opr x) (0, 0) (irow .u8 x.k) _ rl8 (op_k x hxo.1.1) Tryd.underlying23 rfl (infoKy _ hxo.1.1) ?_) | (refine wpList_load_part rfl 30 _ rfl (go) 0 rfl 30 (opr x) (0, 0) (opr x) _ rl8 (all_rowe _) Tryd.underlying30 rfl (op_info _ hxo.1.1) ?_) | fail)
          replace hsrc : ∀ t u, (kns (l.drop (k + 1)))[t]? = some u → wF76.drew.cell? (ad.add t) = some u := hsrc
          replace hcur : wF76.drew.heap[gl]? = some (.cells cur 32 (0, 0)) := hcur
          have hb : Below wF76.heap.size wF76 wF76.drew := below_drN (Below.refl _ _) 1
          replace rp0 := keep hb rp0
          replace rl8 := keep hb rl8
          replace hB3 := hB3.keep hb
          replace hO3 := hO3.keep hb
          replace hw3 := Below.after hw3 hb
          clear hb
          refine wp_region_noPanic ?_
          refine wp_region_held (S := fun W_ => W_.heap[go]? = some (.cells (opr x) 30 (0, 0))) (by kernel_rfl) ?_
          change wpAnyH _ _ _ _ _ _ _ _ (World.drew _)
          generalize wF76.drew = wd77 at *
          refine wpAnyH_take (i := 0) (v := ?v78) rfl (by kernel_rfl) (by kernel_rfl) (by kernel_rfl) (fun _ _ _ h => h) (Or.inl ⟨by rfl, ?y78⟩) (rl8) ?r78
          case y78 =>
           intro w_ hS_
           go_simp
           try with_reducible rfl
          simp only [Act.put, List.getElem_toArray, List.getElem_cons_zero, List.setIfInBounds_toArray, List.set_cons_succ, List.set_cons_zero]
          refine wpAnyH_take (i := 1) (v := ?v79) rfl (by kernel_rfl) (by kernel_rfl) (by kernel_rfl) (fun _ _ _ h => h) (Or.inl ⟨by rfl, ?y79⟩) (rl8) ?r79
          case y79 =>
           intro w_ hS_
           go_simp
           try with_reducible rfl
          simp only [Act.put, List.getElem_toArray, List.getElem_cons_succ, List.getElem_cons_zero, List.setIfInBounds_toArray, List.set_cons_succ, List.set_cons_zero]
          refine wpAnyH_take (i := 2) (v := .slice (some ⟨gl, 0, none⟩) k cap) rfl (by kernel_rfl) (by kernel_rfl) (by kernel_rfl) (fun _ _ _ h => h) (Or.inl ⟨by rfl, ?y80⟩) (rl8) ?r80
          case y80 =>
           intro w_ hS_
           simp only [List.getElem_toArray, List.getElem_cons_succ, List.getElem_cons_zero]
           exact e_slice _ _ _ _ rfl _ (hsN _)
          simp only [Act.put, List.getElem_toArray, List.getElem_cons_succ, List.getElem_cons_zero, List.setIfInBounds_toArray, List.set_cons_succ, List.set_cons_zero]
          refine wpAnyH_take (i := 3) (v := ?v81) rfl (by kernel_rfl) (by kernel_rfl) (by kernel_rfl) (fun _ _ _ h => h) (Or.inl ⟨by rfl, ?y81⟩) (rl8) ?r81
          case y81 =>
           intro w_ hS_
           go_simp
           try with_reducible rfl
          simp only [Act.put, List.getElem_toArray, List.getElem_cons_succ, List.getElem_cons_zero, List.setIfInBounds_toArray, List.set_cons_succ, List.set_cons_zero]
          refine wpAnyH_take (i := 4) (v := ?v82) rfl (by kernel_rfl) (by kernel_rfl) (by kernel_rfl) (fun _ _ _ h => h) (Or.inl ⟨by rfl, ?y82⟩) (rl8) ?r82
          case y82 =>
           intro w_ hS_
           go_simp
           try with_reducible rfl
          simp only [Act.put, List.getElem_toArray, List.getElem_cons_succ, List.getElem_cons_zero, List.setIfInBounds_toArray, List.set_cons_succ, List.set_cons_zero]
          refine wpAnyH_take (i := 5) (v := .int .i64 ((k : Int) + 1)) rfl (by kernel_rfl) (by kernel_rfl) (by kernel_rfl) (fun _ _ _ h => h) (Or.inl ⟨by rfl, ?y83⟩) (rl8) ?r83
          case y83 =>
           intro w_ hS_
           go_simp
           try exact wr5
          simp only [Act.put, List.getElem_toArray, List.getElem_cons_succ, List.getElem_cons_zero, List.setIfInBounds_toArray, List.set_cons_succ, List.set_cons_zero]
          refine wpAnyH_take (i := 6) (v := .slice (some ad) (l.length - (k + 1)) (cap - (k + 1))) rfl (by kernel_rfl) (by kernel_rfl) (by kernel_rfl) (fun _ _ _ h => h) (Or.inl ⟨by rfl, ?y84⟩) (rl8) ?r84
          case y84 =>
           intro w_ hS_
           simp only [List.getElem_toArray, List.getElem_cons_succ, List.getElem_cons_zero]
           exact e_slice _ _ _ _ rfl _ (hsT _)
          simp only [Act.put, List.getElem_toArray, List.getElem_cons_succ, List.getElem_cons_zero, List.setIfInBounds_toArray, List.set_cons_succ, List.set_cons_zero]
          refine eH_one (k := 7) (fuel := 1) (by kernel_rfl) rfl (by kernel_rfl) (fun K_ hK_ => ?_)
          refine wp_append_roomN (.tmp 200) (.tmp 204) rfl gl k cap cur hcur ad (l.length - (k + 1)) (cap - (k + 1)) (kns (l.drop (k + 1))) hldH.out hsrc (kns_ones _) (by omega) (by rw [hldH.out, hcsz]; omega) rfl rfl ?_
          have hO4 := hO3.cut hcur hkl
          have hB4 := hB3.known (V := wd77.setRow gl (cur.toList.take (k * 35) ++ kns (l.drop (k + 1)) ++ cur.toList.drop (k * 35 + (kns (l.drop (k + 1))).length)).toArray) hO3 (fun k_ _ hne => setRow_other wd77 gl k_ (cur.toList.take (k * 35) ++ kns (l.drop (k + 1)) ++ cur.toList.drop (k * 35 + (kns (l.drop (k + 1))).length)).toArray (fun e => hne (by rw [e]; rfl)))
          have hw4 := below_setRow hw3 (Nat.le_trans hwb hbg_) (cur.toList.take (k * 35) ++ kns (l.drop (k + 1)) ++ cur.toList.drop (k * 35 + (kns (l.drop (k + 1))).length)).toArray
          have rp4 := (setRow_other wd77 gl w.heap.size (cur.toList.take (k * 35) ++ kns (l.drop (k + 1)) ++ cur.toList.drop (k * 35 + (kns (l.drop (k + 1))).length)).toArray (fun e => own_type hO3.1 rp0 (by decide) (by rw [← e]; rfl))).trans rp0
          have rl4 := (setRow_other wd77 gl go (cur.toList.take (k * 35) ++ kns (l.drop (k + 1)) ++ cur.toList.drop (k * 35 + (kns (l.drop (k + 1))).length)).toArray (fun e => own_type hO3.1 rl8 (by decide) (by rw [← e]; rfl))).trans rl8
          refine hK_ _ _ rl4 ?_
          simp only [Act.put, List.getElem_toArray, List.getElem_cons_succ, List.getElem_cons_zero, List.setIfInBounds_toArray, List.set_cons_succ, List.set_cons_zero]
          clear hK_ hB3 hO3 hw3 rp0 rl8 hsrc hcur hct_
          generalize wd77.setRow gl (cur.toList.take (k * 35) ++ kns (l.drop (k + 1)) ++ cur.toList.drop (k * 35 + (kns (l.drop (k + 1))).length)).toArray = wZ at *
          refine wpAnyH_take (i := 8) (v := ?v85) rfl (by kernel_rfl) (by kernel_rfl) (by kernel_rfl) (fun _ _ _ h => h) (Or.inl ⟨by rfl, ?y85⟩) (rl4) ?r85
          case y85 =>
           intro w_ hS_
           go_simp
           try with_reducible rfl
          simp only [Act.put, List.getElem_toArray, List.getElem_cons_succ, List.getElem_cons_zero, List.setIfInBounds_toArray, List.set_cons_succ, List.set_cons_zero]
          refine wpAnyH_done (by kernel_rfl) ?_ _
          refine NoPanic.normal ?_
          have hln : (l.take k ++ l.drop (k + 1)).length ≤ i + 1 := by rw [List.length_append, List.length_take, List.length_drop]; omega
          generalize l.take k ++ l.drop (k + 1) = l2 at *
          generalize k + (l.length - (k + 1)) = m2 at *
          go_wp2_with (fail)
          refine ⟨⟨i + 1, _, _, _, _, _, by go_num, by omega, by omega, ⟨hB4, hO4, hfo2, hfl, hln, hw4, hwb⟩, rp4⟩, ?_⟩
          simp [intOf]; omega
       ·clear n1
        as_aux_lemma =>
         have hp := hkl2
         have fc63 := cell_at rl8 (op_d x)
         have fc64 := cell_at rl8 (op_n x)
         have fc65 := cell_at rl8 (op_r x hxo.1.1)
         have fc66 := cell_at rl8 (op_x x hxo.1.1)
         have hmy : (clm (fnC cs x.n) && decide (x.k = (fnC cs x.n).k)) = thr a x.k := by
          obtain ⟨c, q1, q2⟩ := hSp.rl.yes hp
          rw [hpk, hak] at q2
          rw [fnC_of q1]
          exact thr_may q2 (hSp.bk.sta c (fd_some q1).1) x.k
         unfold thr at hmy
         go_wp2_with (first | (refine wpList_load_part rfl 23 _ rfl (w.heap.size) 0 rfl 23 (irow .u8 y) (0, 0) (irow .u8 y) _ rp0 (all_rowe _) Tryd.underlying23 rfl (infoKy _ hy.1) ?_) | (refine wpList_load_part rfl 23 _ rfl (go) 3 rfl 30 (opr x) (0, 0) (irow .u8 x.k) _ rl8 (op_k x hxo.1.1) Tryd.underlying23 rfl (infoKy _ hxo.1.1) ?_) | (refine wpList_load_part rfl 30 _ rfl (go) 0 rfl 30 (opr x) (0, 0) (opr x) _ rl8 (all_rowe _) Tryd.underlying30 rfl (op_info _ hxo.1.1) ?_) | fail)
         clear fc63 fc64 fc65 fc66
         obtain ⟨gl2, e_gl, hgl2, hrl⟩ := hSp.own.at hkl
         cases e_gl
         rw [hak] at hrl
         have haok : a.ok := by have := hSp.own.2.at hkl; rw [show l.getD k zkn = a from hak] at this; exact this
         have co := range_at hrl (kn_o' a haok.1)
         have csh := range_at hrl (kn_s' a haok.1)
         have crk := knl_key hrl
         clear hrl
         have eQ := eq_k a.k x.k haok.1 hxo.1.1
         generalize dQ : decide (a.k = x.k) = xQ at *
         generalize dO : a.o = xO at *
         generalize dS : a.s = xS at *
         cases xO
         ·skip
          cases xS
          ·as_aux_lemma =>
            have hb : Below wd50.heap.size wd50 wd50.drew := below_drN (Below.refl _ _) 1
            replace rp0 := keep hb rp0
            replace rl8 := keep hb rl8
            replace co := (World.cell?_of_block (hb.block _ hgl2)).trans co
            replace csh := (World.cell?_of_block (hb.block _ hgl2)).trans csh
            replace crk := rangeAt_keep crk (hb.block _ hgl2)
            replace hgl2 := Nat.lt_of_lt_of_le hgl2 hb.size
            replace hSp := hSp.keep hb
            clear hb
            refine wp_region_noPanic ?_
            refine wp_region_held (S := fun W_ => W_.heap[go]? = some (.cells (opr x) 30 (0, 0)) ∧ W_.cell? ⟨gl, k * 35 + 33, none⟩ = some (.bool false) ∧ W_.cell? ⟨gl, k * 35 + 34, none⟩ = some (.bool false) ∧ W_.rangeAt gl (k * 35 + 1) (k8 a.k)) (by kernel_rfl) ?_
            change wpAnyH _ _ _ _ _ _ _ _ (World.drew _)
            generalize wd50.drew = wd86 at *
            refine wpAnyH_take (i := 0) (v := ?v87) rfl (by kernel_rfl) (by kernel_rfl) (by kernel_rfl) (fun _ _ _ h => h) (Or.inl ⟨by rfl, ?y87⟩) (⟨rl8, co, csh, crk⟩) ?r87
            case y87 =>
             intro w_ hS_
             go_simp
             try with_reducible rfl
            simp only [Act.put, List.getElem_toArray, List.getElem_cons_zero, List.setIfInBounds_toArray, List.set_cons_succ, List.set_cons_zero]
            refine wpAnyH_take (i := 1) (v := ?v88) rfl (by kernel_rfl) (by kernel_rfl) (by kernel_rfl) (fun _ _ _ h => h) (Or.inl ⟨by rfl, ?y88⟩) (⟨rl8, co, csh, crk⟩) ?r88
            case y88 =>
             intro w_ hS_
             go_simp
             try with_reducible rfl
            simp only [Act.put, List.getElem_toArray, List.getElem_cons_succ, List.getElem_cons_zero, List.setIfInBounds_toArray, List.set_cons_succ, List.set_cons_zero]
            refine wpAnyH_take (i := 2) (v := ?v89) rfl (by kernel_rfl) (by kernel_rfl) (by kernel_rfl) (fun _ _ _ h => h) (Or.inl ⟨by rfl, ?y89⟩) (⟨rl8, co, csh, crk⟩) ?r89
            case y89 =>
             intro w_ hS_
             go_simp
             try with_reducible rfl
            simp only [Act.put, List.getElem_toArray, List.getElem_cons_succ, List.getElem_cons_zero, List.setIfInBounds_toArray, List.set_cons_succ, List.set_cons_zero]
            refine wpAnyH_take (i := 3) (v := ?v90) rfl (by kernel_rfl) (by kernel_rfl) (by kernel_rfl) (fun _ _ _ h => h) (Or.inl ⟨by rfl, ?y90⟩) (⟨rl8, co, csh, crk⟩) ?r90
            case y90 =>
             intro w_ hS_
             go_simp
             try with_reducible rfl
            simp only [Act.put, List.getElem_toArray, List.getElem_cons_succ, List.getElem_cons_zero, List.setIfInBounds_toArray, List.set_cons_succ, List.set_cons_zero]
            refine wpAnyH_take (i := 4) (v := .pointer (some ⟨gl, k * 35, none⟩)) rfl (by kernel_rfl) (by kernel_rfl) (by kernel_rfl) (fun _ _ _ h => h) (Or.inl ⟨by rfl, ?y91⟩) (⟨rl8, co, csh, crk⟩) ?r91
            case y91 =>
             intro w_ hS_
             go_simp
             try with_reducible rfl
            simp only [Act.put, List.getElem_toArray, List.getElem_cons_succ, List.getElem_cons_zero, List.setIfInBounds_toArray, List.set_cons_succ, List.set_cons_zero]
            refine wpAnyH_take (i := 5) (v := .pointer (some ⟨gl, k * 35 + 33, none⟩)) rfl (by kernel_rfl) (by kernel_rfl) (by kernel_rfl) (fun _ _ _ h => h) (Or.inl ⟨by rfl, ?y92⟩) (⟨rl8, co, csh, crk⟩) ?r92
            case y92 =>
             intro w_ hS_
             go_simp
             try with_reducible rfl
            simp only [Act.put, List.getElem_toArray, List.getElem_cons_succ, List.getElem_cons_zero, List.setIfInBounds_toArray, List.set_cons_succ, List.set_cons_zero]
            refine wpAnyH_take (i := 6) (v := .bool false) rfl (by kernel_rfl) (by kernel_rfl) (by kernel_rfl) (fun _ _ _ h => h) (Or.inl ⟨by rfl, ?y93⟩) (⟨rl8, co, csh, crk⟩) ?r93
            case y93 =>
             intro w_ hS_
             have c_ := hS_.2.1
             go_simp
             try with_reducible rfl
            simp only [Act.put, List.getElem_toArray, List.getElem_cons_succ, List.getElem_cons_zero, List.setIfInBounds_toArray, List.set_cons_succ, List.set_cons_zero]
            refine wpAnyH_take (i := 7) (v := .bool true) rfl (by kernel_rfl) (by kernel_rfl) (by kernel_rfl) (fun _ _ _ h => h) (Or.inl ⟨by rfl, ?y94⟩) (⟨rl8, co, csh, crk⟩) ?r94
            case y94 =>
             intro w_ hS_
             go_simp
             try with_reducible rfl
            simp only [Act.put, List.getElem_toArray, List.getElem_cons_succ, List.getElem_cons_zero, List.setIfInBounds_toArray, List.set_cons_succ, List.set_cons_zero]
            refine wpAnyH_take (i := 8) (v := .bool true) rfl (by kernel_rfl) (by kernel_rfl) (by kernel_rfl) (fun _ _ _ h => h) (Or.inl ⟨by rfl, ?y95⟩) (⟨rl8, co, csh, crk⟩) ?r95
            case y95 =>
             intro w_ hS_
             go_simp
             try with_reducible rfl
            simp only [Act.put, List.getElem_toArray, List.getElem_cons_succ, List.getElem_cons_zero, List.setIfInBounds_toArray, List.set_cons_succ, List.set_cons_zero]
            refine wpAnyH_take (i := 9) (v := .bool true) rfl (by kernel_rfl) (by kernel_rfl) (by kernel_rfl) (fun _ _ _ h => h) (Or.inl ⟨by rfl, ?y96⟩) (⟨rl8, co, csh, crk⟩) ?r96
            case y96 =>
             intro w_ hS_
             go_simp
             try with_reducible rfl
            simp only [Act.put, List.getElem_toArray, List.getElem_cons_succ, List.getElem_cons_zero, List.setIfInBounds_toArray, List.set_cons_succ, List.set_cons_zero]
            refine wpAnyH_take (i := 10) (v := ?v97) rfl (by kernel_rfl) (by kernel_rfl) (by kernel_rfl) (fun _ _ _ h => h) (Or.inl ⟨by rfl, ?y97⟩) (⟨rl8, co, csh, crk⟩) ?r97
            case y97 =>
             intro w_ hS_
             go_simp
             try with_reducible rfl
            simp only [Act.put, List.getElem_toArray, List.getElem_cons_succ, List.getElem_cons_zero, List.setIfInBounds_toArray, List.set_cons_succ, List.set_cons_zero]
            refine wpAnyH_take (i := 11) (v := ?v98) rfl (by kernel_rfl) (by kernel_rfl) (by kernel_rfl) (fun _ _ _ h => h) (Or.inl ⟨by rfl, ?y98⟩) (⟨rl8, co, csh, crk⟩) ?r98
            case y98 =>
             intro w_ hS_
             go_simp
             try with_reducible rfl
            simp only [Act.put, List.getElem_toArray, List.getElem_cons_succ, List.getElem_cons_zero, List.setIfInBounds_toArray, List.set_cons_succ, List.set_cons_zero]
            refine wpAnyH_take (i := 12) (v := .pointer (some ⟨gl, k * 35, none⟩)) rfl (by kernel_rfl) (by kernel_rfl) (by kernel_rfl) (fun _ _ _ h => h) (Or.inl ⟨by rfl, ?y99⟩) (⟨rl8, co, csh, crk⟩) ?r99
            case y99 =>
             intro w_ hS_
             go_simp
             try with_reducible rfl
            simp only [Act.put, List.getElem_toArray, List.getElem_cons_succ, List.getElem_cons_zero, List.setIfInBounds_toArray, List.set_cons_succ, List.set_cons_zero]
            refine wpAnyH_take (i := 13) (v := .pointer (some ⟨gl, k * 35 + 34, none⟩)) rfl (by kernel_rfl) (by kernel_rfl) (by kernel_rfl) (fun _ _ _ h => h) (Or.inl ⟨by rfl, ?y100⟩) (⟨rl8, co, csh, crk⟩) ?r100
            case y100 =>
             intro w_ hS_
             go_simp
             try with_reducible rfl
            simp only [Act.put, List.getElem_toArray, List.getElem_cons_succ, List.getElem_cons_zero, List.setIfInBounds_toArray, List.set_cons_succ, List.set_cons_zero]
            refine wpAnyH_take (i := 14) (v := .bool false) rfl (by kernel_rfl) (by kernel_rfl) (by kernel_rfl) (fun _ _ _ h => h) (Or.inl ⟨by rfl, ?y101⟩) (⟨rl8, co, csh, crk⟩) ?r101
            case y101 =>
             intro w_ hS_
             have c_ := hS_.2.2.1
             go_simp
             try with_reducible rfl
            simp only [Act.put, List.getElem_toArray, List.getElem_cons_succ, List.getElem_cons_zero, List.setIfInBounds_toArray, List.set_cons_succ, List.set_cons_zero]
            refine wpAnyH_take (i := 15) (v := .bool true) rfl (by kernel_rfl) (by kernel_rfl) (by kernel_rfl) (fun _ _ _ h => h) (Or.inl ⟨by rfl, ?y102⟩) (⟨rl8, co, csh, crk⟩) ?r102
            case y102 =>
             intro w_ hS_
             go_simp
             try with_reducible rfl
            simp only [Act.put, List.getElem_toArray, List.getElem_cons_succ, List.getElem_cons_zero, List.setIfInBounds_toArray, List.set_cons_succ, List.set_cons_zero]
            refine wpAnyH_take (i := 16) (v := .bool true) rfl (by kernel_rfl) (by kernel_rfl) (by kernel_rfl) (fun _ _ _ h => h) (Or.inl ⟨by rfl, ?y103⟩) (⟨rl8, co, csh, crk⟩) ?r103
            case y103 =>
             intro w_ hS_
             go_simp
             try with_reducible rfl
            simp only [Act.put, List.getElem_toArray, List.getElem_cons_succ, List.getElem_cons_zero, List.setIfInBounds_toArray, List.set_cons_succ, List.set_cons_zero]
            refine wpAnyH_take (i := 17) (v := .bool true) rfl (by kernel_rfl) (by kernel_rfl) (by kernel_rfl) (fun _ _ _ h => h) (Or.inl ⟨by rfl, ?y104⟩) (⟨rl8, co, csh, crk⟩) ?r104
            case y104 =>
             intro w_ hS_
             go_simp
             try with_reducible rfl
            simp only [Act.put, List.getElem_toArray, List.getElem_cons_succ, List.getElem_cons_zero, List.setIfInBounds_toArray, List.set_cons_succ, List.set_cons_zero]
            refine wpAnyH_take (i := 18) (v := ?v105) rfl (by kernel_rfl) (by kernel_rfl) (by kernel_rfl) (fun _ _ _ h => h) (Or.inl ⟨by rfl, ?y105⟩) (⟨rl8, co, csh, crk⟩) ?r105
            case y105 =>
             intro w_ hS_
             go_simp
             try with_reducible rfl
            simp only [Act.put, List.getElem_toArray, List.getElem_cons_succ, List.getElem_cons_zero, List.setIfInBounds_toArray, List.set_cons_succ, List.set_cons_zero]
            refine wpAnyH_take (i := 19) (v := ?v106) rfl (by kernel_rfl) (by kernel_rfl) (by kernel_rfl) (fun _ _ _ h => h) (Or.inl ⟨by rfl, ?y106⟩) (⟨rl8, co, csh, crk⟩) ?r106
            case y106 =>
             intro w_ hS_
             go_simp
             try with_reducible rfl
            simp only [Act.put, List.getElem_toArray, List.getElem_cons_succ, List.getElem_cons_zero, List.setIfInBounds_toArray, List.set_cons_succ, List.set_cons_zero]
            refine wpAnyH_take (i := 20) (v := .pointer (some ⟨gl, k * 35, none⟩)) rfl (by kernel_rfl) (by kernel_rfl) (by kernel_rfl) (fun _ _ _ h => h) (Or.inl ⟨by rfl, ?y107⟩) (⟨rl8, co, csh, crk⟩) ?r107
            case y107 =>
             intro w_ hS_
             go_simp
             try with_reducible rfl
            simp only [Act.put, List.getElem_toArray, List.getElem_cons_succ, List.getElem_cons_zero, List.setIfInBounds_toArray, List.set_cons_succ, List.set_cons_zero]
            refine wpAnyH_take (i := 21) (v := .pointer (some ⟨gl, k * 35 + 1, none⟩)) rfl (by kernel_rfl) (by kernel_rfl) (by kernel_rfl) (fun _ _ _ h => h) (Or.inl ⟨by rfl, ?y108⟩) (⟨rl8, co, csh, crk⟩) ?r108
            case y108 =>
             intro w_ hS_
             go_simp
             try with_reducible rfl
            simp only [Act.put, List.getElem_toArray, List.getElem_cons_succ, List.getElem_cons_zero, List.setIfInBounds_toArray, List.set_cons_succ, List.set_cons_zero]
            refine wpAnyH_take (i := 22) (v := .agg (irow .u8 a.k)) rfl (by kernel_rfl) (by kernel_rfl) (by kernel_rfl) (fun _ _ _ h => h) (Or.inl ⟨by rfl, ?y109⟩) (⟨rl8, co, csh, crk⟩) ?r109
            case y109 =>
             intro w_ hS_
             simp only [List.getElem_toArray, List.getElem_cons_succ, List.getElem_cons_zero]
             exact run_load_range 23 _ (by rfl) gl (k * 35 + 1) (by rfl) (k8 a.k) _ (hS_.2.2.2) Tryd.underlying23 rfl (by rw [k8_len, haok.1]; kernel_rfl)
            simp only [Act.put, List.getElem_toArray, List.getElem_cons_succ, List.getElem_cons_zero, List.setIfInBounds_toArray, List.set_cons_succ, List.set_cons_zero]
            refine wpAnyH_take (i := 23) (v := ?v110) rfl (by kernel_rfl) (by kernel_rfl) (by kernel_rfl) (fun _ _ _ h => h) (Or.inl ⟨by rfl, ?y110⟩) (⟨rl8, co, csh, crk⟩) ?r110
            case y110 =>
             intro w_ hS_
             go_simp
             try with_reducible rfl
            simp only [Act.put, List.getElem_toArray, List.getElem_cons_succ, List.getElem_cons_zero, List.setIfInBounds_toArray, List.set_cons_succ, List.set_cons_zero]
            refine wpAnyH_take (i := 24) (v := .agg (irow .u8 x.k)) rfl (by kernel_rfl) (by kernel_rfl) (by kernel_rfl) (fun _ _ _ h => h) (Or.inl ⟨by rfl, ?y111⟩) (⟨rl8, co, csh, crk⟩) ?r111
            case y111 =>
             intro w_ hS_
             simp only [List.getElem_toArray, List.getElem_cons_succ, List.getElem_cons_zero]
             exact e_load_part 23 _ (by rfl) (go) 3 (by rfl) 30 (opr x) (0, 0) (irow .u8 x.k) _ (hS_.1) (op_k x hxo.1.1) Tryd.underlying23 rfl (infoKy _ hxo.1.1)
            simp only [Act.put, List.getElem_toArray, List.getElem_cons_succ, List.getElem_cons_zero, List.setIfInBounds_toArray, List.set_cons_succ, List.set_cons_zero]
            refine wpAnyH_take (i := 25) (v := .bool xQ) rfl (by kernel_rfl) (by kernel_rfl) (by kernel_rfl) (fun _ _ _ h => h) (Or.inl ⟨by rfl, ?y112⟩) (⟨rl8, co, csh, crk⟩) ?r112
            case y112 =>
             intro w_ hS_
             go_simp
             try with_reducible rfl
            simp only [Act.put, List.getElem_toArray, List.getElem_cons_succ, List.getElem_cons_zero, List.setIfInBounds_toArray, List.set_cons_succ, List.set_cons_zero]
            refine wpAnyH_take (i := 26) (v := .bool xQ) rfl (by kernel_rfl) (by kernel_rfl) (by kernel_rfl) (fun _ _ _ h => h) (Or.inl ⟨by rfl, ?y113⟩) (⟨rl8, co, csh, crk⟩) ?r113
            case y113 =>
             intro w_ hS_
             go_simp
             try with_reducible rfl
            simp only [Act.put, List.getElem_toArray, List.getElem_cons_succ, List.getElem_cons_zero, List.setIfInBounds_toArray, List.set_cons_succ, List.set_cons_zero]
            refine wpAnyH_take (i := 27) (v := .bool xQ) rfl (by kernel_rfl) (by kernel_rfl) (by kernel_rfl) (fun _ _ _ h => h) (Or.inl ⟨by rfl, ?y114⟩) (⟨rl8, co, csh, crk⟩) ?r114
            case y114 =>
             intro w_ hS_
             go_simp
             try with_reducible rfl
            simp only [Act.put, List.getElem_toArray, List.getElem_cons_succ, List.getElem_cons_zero, List.setIfInBounds_toArray, List.set_cons_succ, List.set_cons_zero]
            refine wpAnyH_done (by kernel_rfl) ?_ _
            refine NoPanic.normal ?_
            have fc67 := cell_at rl8 (op_d x)
            have fc68 := cell_at rl8 (op_n x)
            have fc69 := cell_at rl8 (op_r x hxo.1.1)
            have fc70 := cell_at rl8 (op_x x hxo.1.1)
            go_wp2_with (first | (refine wpList_load_part rfl 23 _ rfl (w.heap.size) 0 rfl 23 (irow .u8 y) (0, 0) (irow .u8 y) _ rp0 (all_rowe _) Tryd.underlying23 rfl (infoKy _ hy.1) ?_) | (refine wpList_load_part rfl 23 _ rfl (go) 3 rfl 30 (opr x) (0, 0) (irow .u8 x.k) _ rl8 (op_k x hxo.1.1) Tryd.underlying23 rfl (infoKy _ hxo.1.1) ?_) | (refine wpList_load_part rfl 30 _ rfl (go) 0 rfl 30 (opr x) (0, 0) (opr x) _ rl8 (all_rowe _) Tryd.underlying30 rfl (op_info _ hxo.1.1) ?_) | fail)
            clear fc67 fc68 fc69 fc70
            have cM := a_May x.n hxo.2 x.k hxo.1 b g _ _ y es cs _ hSp.bk
            rw [hmy] at cM
            refine cM.mono ?_
            rintro e_ wM115 ⟨rfl, hb⟩
            clear cM
            replace rp0 := keep hb rp0
            replace rl8 := keep hb rl8
            replace hSp := hSp.keep hb
            clear hb
            cases xQ
            ·skip
             go_wp2_with (first | (refine wpList_load_part rfl 23 _ rfl (w.heap.size) 0 rfl 23 (irow .u8 y) (0, 0) (irow .u8 y) _ rp0 (all_rowe _) Tryd.underlying23 rfl (infoKy _ hy.1) ?_) | (refine wpList_load_part rfl 23 _ rfl (go) 3 rfl 30 (opr x) (0, 0) (irow .u8 x.k) _ rl8 (op_k x hxo.1.1) Tryd.underlying23 rfl (infoKy _ hxo.1.1) ?_) | (refine wpList_load_part rfl 30 _ rfl (go) 0 rfl 30 (opr x) (0, 0) (opr x) _ rl8 (all_rowe _) Tryd.underlying30 rfl (op_info _ hxo.1.1) ?_) | fail)
             refine ⟨⟨i + 1, _, _, _, _, _, by go_num, by omega, by omega, ⟨hSp.bk, hSp.own, hSp.rl, by omega, by omega, hSp.hw, hSp.wb⟩, rp0⟩, ?_⟩
             simp [intOf]; omega
            ·skip
             go_wp2_with (first | (refine wpList_load_part rfl 23 _ rfl (w.heap.size) 0 rfl 23 (irow .u8 y) (0, 0) (irow .u8 y) _ rp0 (all_rowe _) Tryd.underlying23 rfl (infoKy _ hy.1) ?_) | (refine wpList_load_part rfl 23 _ rfl (go) 3 rfl 30 (opr x) (0, 0) (irow .u8 x.k) _ rl8 (op_k x hxo.1.1) Tryd.underlying23 rfl (infoKy _ hxo.1.1) ?_) | (refine wpList_load_part rfl 30 _ rfl (go) 0 rfl 30 (opr x) (0, 0) (opr x) _ rl8 (all_rowe _) Tryd.underlying30 rfl (op_info _ hxo.1.1) ?_) | fail)
             refine ⟨⟨i + 1, _, _, _, _, _, by go_num, by omega, by omega, ⟨hSp.bk, hSp.own, hSp.rl, by omega, by omega, hSp.hw, hSp.wb⟩, rp0⟩, ?_⟩
             simp [intOf]; omega
          ·as_aux_lemma =>
            have hb : Below wd50.heap.size wd50 wd50.drew := below_drN (Below.refl _ _) 1
            replace rp0 := keep hb rp0
            replace rl8 := keep hb rl8
            replace co := (World.cell?_of_block (hb.block _ hgl2)).trans co
            replace csh := (World.cell?_of_block (hb.block _ hgl2)).trans csh
            replace crk := rangeAt_keep crk (hb.block _ hgl2)
            replace hgl2 := Nat.lt_of_lt_of_le hgl2 hb.size
            replace hSp := hSp.keep hb
            clear hb
            refine wp_region_noPanic ?_
            refine wp_region_held (S := fun W_ => W_.heap[go]? = some (.cells (opr x) 30 (0, 0)) ∧ W_.cell? ⟨gl, k * 35 + 33, none⟩ = some (.bool false) ∧ W_.cell? ⟨gl, k * 35 + 34, none⟩ = some (.bool true) ∧ W_.rangeAt gl (k * 35 + 1) (k8 a.k)) (by kernel_rfl) ?_
            change wpAnyH _ _ _ _ _ _ _ _ (World.drew _)
            generalize wd50.drew = wd116 at *
            refine wpAnyH_take (i := 0) (v := ?v117) rfl (by kernel_rfl) (by kernel_rfl) (by kernel_rfl) (fun _ _ _ h => h) (Or.inl ⟨by rfl, ?y117⟩) (⟨rl8, co, csh, crk⟩) ?r117
            case y117 =>
             intro w_ hS_
             go_simp
             try with_reducible rfl
            simp only [Act.put, List.getElem_toArray, List.getElem_cons_zero, List.setIfInBounds_toArray, List.set_cons_succ, List.set_cons_zero]
            refine wpAnyH_take (i := 1) (v := ?v118) rfl (by kernel_rfl) (by kernel_rfl) (by kernel_rfl) (fun _ _ _ h => h) (Or.inl ⟨by rfl, ?y118⟩) (⟨rl8, co, csh, crk⟩) ?r118
            case y118 =>
             intro w_ hS_
             go_simp
             try with_reducible rfl
            simp only [Act.put, List.getElem_toArray, List.getElem_cons_succ, List.getElem_cons_zero, List.setIfInBounds_toArray, List.set_cons_succ, List.set_cons_zero]
            refine wpAnyH_take (i := 2) (v := ?v119) rfl (by kernel_rfl) (by kernel_rfl) (by kernel_rfl) (fun _ _ _ h => h) (Or.inl ⟨by rfl, ?y119⟩) (⟨rl8, co, csh, crk⟩) ?r119
            case y119 =>
             intro w_ hS_
             go_simp
             try with_reducible rfl
            simp only [Act.put, List.getElem_toArray, List.getElem_cons_succ, List.getElem_cons_zero, List.setIfInBounds_toArray, List.set_cons_succ, List.set_cons_zero]
            refine wpAnyH_take (i := 3) (v := ?v120) rfl (by kernel_rfl) (by kernel_rfl) (by kernel_rfl) (fun _ _ _ h => h) (Or.inl ⟨by rfl, ?y120⟩) (⟨rl8, co, csh, crk⟩) ?r120
            case y120 =>
             intro w_ hS_
             go_simp
             try with_reducible rfl
            simp only [Act.put, List.getElem_toArray, List.getElem_cons_succ, List.getElem_cons_zero, List.setIfInBounds_toArray, List.set_cons_succ, List.set_cons_zero]
            refine wpAnyH_take (i := 4) (v := .pointer (some ⟨gl, k * 35, none⟩)) rfl (by kernel_rfl) (by kernel_rfl) (by kernel_rfl) (fun _ _ _ h => h) (Or.inl ⟨by rfl, ?y121⟩) (⟨rl8, co, csh, crk⟩) ?r121
            case y121 =>
             intro w_ hS_
             go_simp
             try with_reducible rfl
            simp only [Act.put, List.getElem_toArray, List.getElem_cons_succ, List.getElem_cons_zero, List.setIfInBounds_toArray, List.set_cons_succ, List.set_cons_zero]
            refine wpAnyH_take (i := 5) (v := .pointer (some ⟨gl, k * 35 + 33, none⟩)) rfl (by kernel_rfl) (by kernel_rfl) (by kernel_rfl) (fun _ _ _ h => h) (Or.inl ⟨by rfl, ?y122⟩) (⟨rl8, co, csh, crk⟩) ?r122
            case y122 =>
             intro w_ hS_
             go_simp
             try with_reducible rfl
            simp only [Act.put, List.getElem_toArray, List.getElem_cons_succ, List.getElem_cons_zero, List.setIfInBounds_toArray, List.set_cons_succ, List.set_cons_zero]
            refine wpAnyH_take (i := 6) (v := .bool false) rfl (by kernel_rfl) (by kernel_rfl) (by kernel_rfl) (fun _ _ _ h => h) (Or.inl ⟨by rfl, ?y123⟩) (⟨rl8, co, csh, crk⟩) ?r123
            case y123 =>
             intro w_ hS_
             have c_ := hS_.2.1
             go_simp
             try with_reducible rfl
            simp only [Act.put, List.getElem_toArray, List.getElem_cons_succ, List.getElem_cons_zero, List.setIfInBounds_toArray, List.set_cons_succ, List.set_cons_zero]
            refine wpAnyH_take (i := 7) (v := .bool true) rfl (by kernel_rfl) (by kernel_rfl) (by kernel_rfl) (fun _ _ _ h => h) (Or.inl ⟨by rfl, ?y124⟩) (⟨rl8, co, csh, crk⟩) ?r124
            case y124 =>
             intro w_ hS_
             go_simp
             try with_reducible rfl
            simp only [Act.put, List.getElem_toArray, List.getElem_cons_succ, List.getElem_cons_zero, List.setIfInBounds_toArray, List.set_cons_succ, List.set_cons_zero]
            refine wpAnyH_take (i := 8) (v := .bool true) rfl (by kernel_rfl) (by kernel_rfl) (by kernel_rfl) (fun _ _ _ h => h) (Or.inl ⟨by rfl, ?y125⟩) (⟨rl8, co, csh, crk⟩) ?r125
            case y125 =>
             intro w_ hS_
             go_simp
             try with_reducible rfl
            simp only [Act.put, List.getElem_toArray, List.getElem_cons_succ, List.getElem_cons_zero, List.setIfInBounds_toArray, List.set_cons_succ, List.set_cons_zero]
            refine wpAnyH_take (i := 9) (v := .bool true) rfl (by kernel_rfl) (by kernel_rfl) (by kernel_rfl) (fun _ _ _ h => h) (Or.inl ⟨by rfl, ?y126⟩) (⟨rl8, co, csh, crk⟩) ?r126
            case y126 =>
             intro w_ hS_
             go_simp
             try with_reducible rfl
            simp only [Act.put, List.getElem_toArray, List.getElem_cons_succ, List.getElem_cons_zero, List.setIfInBounds_toArray, List.set_cons_succ, List.set_cons_zero]
            refine wpAnyH_take (i := 10) (v := ?v127) rfl (by kernel_rfl) (by kernel_rfl) (by kernel_rfl) (fun _ _ _ h => h) (Or.inl ⟨by rfl, ?y127⟩) (⟨rl8, co, csh, crk⟩) ?r127
            case y127 =>
             intro w_ hS_
             go_simp
             try with_reducible rfl
            simp only [Act.put, List.getElem_toArray, List.getElem_cons_succ, List.getElem_cons_zero, List.setIfInBounds_toArray, List.set_cons_succ, List.set_cons_zero]
            refine wpAnyH_take (i := 11) (v := ?v128) rfl (by kernel_rfl) (by kernel_rfl) (by kernel_rfl) (fun _ _ _ h => h) (Or.inl ⟨by rfl, ?y128⟩) (⟨rl8, co, csh, crk⟩) ?r128
            case y128 =>
             intro w_ hS_
             go_simp
             try with_reducible rfl
            simp only [Act.put, List.getElem_toArray, List.getElem_cons_succ, List.getElem_cons_zero, List.setIfInBounds_toArray, List.set_cons_succ, List.set_cons_zero]
            refine wpAnyH_take (i := 12) (v := .pointer (some ⟨gl, k * 35, none⟩)) rfl (by kernel_rfl) (by kernel_rfl) (by kernel_rfl) (fun _ _ _ h => h) (Or.inl ⟨by rfl, ?y129⟩) (⟨rl8, co, csh, crk⟩) ?r129
            case y129 =>
             intro w_ hS_
             go_simp
             try with_reducible rfl
            simp only [Act.put, List.getElem_toArray, List.getElem_cons_succ, List.getElem_cons_zero, List.setIfInBounds_toArray, List.set_cons_succ, List.set_cons_zero]
            refine wpAnyH_take (i := 13) (v := .pointer (some ⟨gl, k * 35 + 34, none⟩)) rfl (by kernel_rfl) (by kernel_rfl) (by kernel_rfl) (fun _ _ _ h => h) (Or.inl ⟨by rfl, ?y130⟩) (⟨rl8, co, csh, crk⟩) ?r130
            case y130 =>
             intro w_ hS_
             go_simp
             try with_reducible rfl
            simp only [Act.put, List.getElem_toArray, List.getElem_cons_succ, List.getElem_cons_zero, List.setIfInBounds_toArray, List.set_cons_succ, List.set_cons_zero]
            refine wpAnyH_take (i := 14) (v := .bool true) rfl (by kernel_rfl) (by kernel_rfl) (by kernel_rfl) (fun _ _ _ h => h) (Or.inl ⟨by rfl, ?y131⟩) (⟨rl8, co, csh, crk⟩) ?r131
            case y131 =>
             intro w_ hS_
             have c_ := hS_.2.2.1
             go_simp
             try with_reducible rfl
            simp only [Act.put, List.getElem_toArray, List.getElem_cons_succ, List.getElem_cons_zero, List.setIfInBounds_toArray, List.set_cons_succ, List.set_cons_zero]
            refine wpAnyH_take (i := 15) (v := .bool false) rfl (by kernel_rfl) (by kernel_rfl) (by kernel_rfl) (fun _ _ _ h => h) (Or.inl ⟨by rfl, ?y132⟩) (⟨rl8, co, csh, crk⟩) ?r132
            case y132 =>
             intro w_ hS_
             go_simp
             try with_reducible rfl
            simp only [Act.put, List.getElem_toArray, List.getElem_cons_succ, List.getElem_cons_zero, List.setIfInBounds_toArray, List.set_cons_succ, List.set_cons_zero]
            refine wpAnyH_take (i := 16) (v := .bool false) rfl (by kernel_rfl) (by kernel_rfl) (by kernel_rfl) (fun _ _ _ h => h) (Or.inl ⟨by rfl, ?y133⟩) (⟨rl8, co, csh, crk⟩) ?r133
            case y133 =>
             intro w_ hS_
             go_simp
             try with_reducible rfl
            simp only [Act.put, List.getElem_toArray, List.getElem_cons_succ, List.getElem_cons_zero, List.setIfInBounds_toArray, List.set_cons_succ, List.set_cons_zero]
            refine wpAnyH_take (i := 17) (v := .bool false) rfl (by kernel_rfl) (by kernel_rfl) (by kernel_rfl) (fun _ _ _ h => h) (Or.inl ⟨by rfl, ?y134⟩) (⟨rl8, co, csh, crk⟩) ?r134
            case y134 =>
             intro w_ hS_
             go_simp
             try with_reducible rfl
            simp only [Act.put, List.getElem_toArray, List.getElem_cons_succ, List.getElem_cons_zero, List.setIfInBounds_toArray, List.set_cons_succ, List.set_cons_zero]
            refine wpAnyH_take (i := 18) (v := undef) rfl (by kernel_rfl) (by kernel_rfl) (by kernel_rfl) (fun _ _ _ h => h) (Or.inr ⟨by rfl, rfl⟩) (⟨rl8, co, csh, crk⟩) ?_
            simp only [Act.put, List.getElem_toArray, List.getElem_cons_succ, List.getElem_cons_zero, List.setIfInBounds_toArray, List.set_cons_succ, List.set_cons_zero]
            refine wpAnyH_take (i := 19) (v := undef) rfl (by kernel_rfl) (by kernel_rfl) (by kernel_rfl) (fun _ _ _ h => h) (Or.inr ⟨by rfl, rfl⟩) (⟨rl8, co, csh, crk⟩) ?_
            simp only [Act.put, List.getElem_toArray, List.getElem_cons_succ, List.getElem_cons_zero, List.setIfInBounds_toArray, List.set_cons_succ, List.set_cons_zero]
            refine wpAnyH_take (i := 20) (v := undef) rfl (by kernel_rfl) (by kernel_rfl) (by kernel_rfl) (fun _ _ _ h => h) (Or.inr ⟨by rfl, rfl⟩) (⟨rl8, co, csh, crk⟩) ?_
            simp only [Act.put, List.getElem_toArray, List.getElem_cons_succ, List.getElem_cons_zero, List.setIfInBounds_toArray, List.set_cons_succ, List.set_cons_zero]
            refine wpAnyH_take (i := 21) (v := undef) rfl (by kernel_rfl) (by kernel_rfl) (by kernel_rfl) (fun _ _ _ h => h) (Or.inr ⟨by rfl, rfl⟩) (⟨rl8, co, csh, crk⟩) ?_
            simp only [Act.put, List.getElem_toArray, List.getElem_cons_succ, List.getElem_cons_zero, List.setIfInBounds_toArray, List.set_cons_succ, List.set_cons_zero]
            refine wpAnyH_take (i := 22) (v := undef) rfl (by kernel_rfl) (by kernel_rfl) (by kernel_rfl) (fun _ _ _ h => h) (Or.inr ⟨by rfl, rfl⟩) (⟨rl8, co, csh, crk⟩) ?_
            simp only [Act.put, List.getElem_toArray, List.getElem_cons_succ, List.getElem_cons_zero, List.setIfInBounds_toArray, List.set_cons_succ, List.set_cons_zero]
            refine wpAnyH_take (i := 23) (v := undef) rfl (by kernel_rfl) (by kernel_rfl) (by kernel_rfl) (fun _ _ _ h => h) (Or.inr ⟨by rfl, rfl⟩) (⟨rl8, co, csh, crk⟩) ?_
            simp only [Act.put, List.getElem_toArray, List.getElem_cons_succ, List.getElem_cons_zero, List.setIfInBounds_toArray, List.set_cons_succ, List.set_cons_zero]
            refine wpAnyH_take (i := 24) (v := undef) rfl (by kernel_rfl) (by kernel_rfl) (by kernel_rfl) (fun _ _ _ h => h) (Or.inr ⟨by rfl, rfl⟩) (⟨rl8, co, csh, crk⟩) ?_
            simp only [Act.put, List.getElem_toArray, List.getElem_cons_succ, List.getElem_cons_zero, List.setIfInBounds_toArray, List.set_cons_succ, List.set_cons_zero]
            refine wpAnyH_take (i := 25) (v := undef) rfl (by kernel_rfl) (by kernel_rfl) (by kernel_rfl) (fun _ _ _ h => h) (Or.inr ⟨by rfl, rfl⟩) (⟨rl8, co, csh, crk⟩) ?_
            simp only [Act.put, List.getElem_toArray, List.getElem_cons_succ, List.getElem_cons_zero, List.setIfInBounds_toArray, List.set_cons_succ, List.set_cons_zero]
            refine wpAnyH_take (i := 26) (v := .bool false) rfl (by kernel_rfl) (by kernel_rfl) (by kernel_rfl) (fun _ _ _ h => h) (Or.inl ⟨by rfl, ?y143⟩) (⟨rl8, co, csh, crk⟩) ?r143
            case y143 =>
             intro w_ hS_
             go_simp
             try with_reducible rfl
            simp only [Act.put, List.getElem_toArray, List.getElem_cons_succ, List.getElem_cons_zero, List.setIfInBounds_toArray, List.set_cons_succ, List.set_cons_zero]
            refine wpAnyH_take (i := 27) (v := .bool false) rfl (by kernel_rfl) (by kernel_rfl) (by kernel_rfl) (fun _ _ _ h => h) (Or.inl ⟨by rfl, ?y144⟩) (⟨rl8, co, csh, crk⟩) ?r144
            case y144 =>
             intro w_ hS_
             go_simp
             try with_reducible rfl
            simp only [Act.put, List.getElem_toArray, List.getElem_cons_succ, List.getElem_cons_zero, List.setIfInBounds_toArray, List.set_cons_succ, List.set_cons_zero]
            refine wpAnyH_done (by kernel_rfl) ?_ _
            refine NoPanic.normal ?_
            have fc71 := cell_at rl8 (op_d x)
            have fc72 := cell_at rl8 (op_n x)
            have fc73 := cell_at rl8 (op_r x hxo.1.1)
            have fc74 := cell_at rl8 (op_x x hxo.1.1)
            go_wp2_with (first | (refine wpList_load_part rfl 23 _ rfl (w.heap.size) 0 rfl 23 (irow .u8 y) (0, 0) (irow .u8 y) _ rp0 (all_rowe _) Tryd.underlying23 rfl (infoKy _ hy.1) ?_) | (refine wpList_load_part rfl 23 _ rfl (go) 3 rfl 30 (opr x) (0, 0) (irow .u8 x.k) _ rl8 (op_k x hxo.1.1) Tryd.underlying23 rfl (infoKy _ hxo.1.1) ?_) | (refine wpList_load_part rfl 30 _ rfl (go) 0 rfl 30 (opr x) (0, 0) (opr x) _ rl8 (all_rowe _) Tryd.underlying30 rfl (op_info _ hxo.1.1) ?_) | fail)
            clear fc71 fc72 fc73 fc74
            have cM := a_May x.n hxo.2 x.k hxo.1 b g _ _ y es cs _ hSp.bk
            rw [hmy] at cM
            refine cM.mono ?_
            rintro e_ wM145 ⟨rfl, hb⟩
            clear cM
            replace rp0 := keep hb rp0
            replace rl8 := keep hb rl8
            replace hSp := hSp.keep hb
            clear hb
            go_wp2_with (first | (refine wpList_load_part rfl 23 _ rfl (w.heap.size) 0 rfl 23 (irow .u8 y) (0, 0) (irow .u8 y) _ rp0 (all_rowe _) Tryd.underlying23 rfl (infoKy _ hy.1) ?_) | (refine wpList_load_part rfl 23 _ rfl (go) 3 rfl 30 (opr x) (0, 0) (irow .u8 x.k) _ rl8 (op_k x hxo.1.1) Tryd.underlying23 rfl (infoKy _ hxo.1.1) ?_) | (refine wpList_load_part rfl 30 _ rfl (go) 0 rfl 30 (opr x) (0, 0) (opr x) _ rl8 (all_rowe _) Tryd.underlying30 rfl (op_info _ hxo.1.1) ?_) | fail)
            refine ⟨⟨i + 1, _, _, _, _, _, by go_num, by omega, by omega, ⟨hSp.bk, hSp.own, hSp.rl, by omega, by omega, hSp.hw, hSp.wb⟩, rp0⟩, ?_⟩
            simp [intOf]; omega
         ·skip
          cases xS
          ·as_aux_lemma =>
            have hb : Below wd50.heap.size wd50 wd50.drew := below_drN (Below.refl _ _) 1
            replace rp0 := keep hb rp0
            replace rl8 := keep hb rl8
            replace co := (World.cell?_of_block (hb.block _ hgl2)).trans co
            replace csh := (World.cell?_of_block (hb.block _ hgl2)).trans csh
            replace crk := rangeAt_keep crk (hb.block _ hgl2)
            replace hgl2 := Nat.lt_of_lt_of_le hgl2 hb.size
            replace hSp := hSp.keep hb
            clear hb
            refine wp_region_noPanic ?_
            refine wp_region_held (S := fun W_ => W_.heap[go]? = some (.cells (opr x) 30 (0, 0)) ∧ W_.cell? ⟨gl, k * 35 + 33, none⟩ = some (.bool true) ∧ W_.cell? ⟨gl, k * 35 + 34, none⟩ = some (.bool false) ∧ W_.rangeAt gl (k * 35 + 1) (k8 a.k)) (by kernel_rfl) ?_
            change wpAnyH _ _ _ _ _ _ _ _ (World.drew _)
            generalize wd50.drew = wd146 at *
            refine wpAnyH_take (i := 0) (v := ?v147) rfl (by kernel_rfl) (by kernel_rfl) (by kernel_rfl) (fun _ _ _ h => h) (Or.inl ⟨by rfl, ?y147⟩) (⟨rl8, co, csh, crk⟩) ?r147
            case y147 =>
             intro w_ hS_
             go_simp
             try with_reducible rfl
            simp only [Act.put, List.getElem_toArray, List.getElem_cons_zero, List.setIfInBounds_toArray, List.set_cons_succ, List.set_cons_zero]
            refine wpAnyH_take (i := 1) (v := ?v148) rfl (by kernel_rfl) (by kernel_rfl) (by kernel_rfl) (fun _ _ _ h => h) (Or.inl ⟨by rfl, ?y148⟩) (⟨rl8, co, csh, crk⟩) ?r148
            case y148 =>
             intro w_ hS_
             go_simp
             try with_reducible rfl
            simp only [Act.put, List.getElem_toArray, List.getElem_cons_succ, List.getElem_cons_zero, List.setIfInBounds_toArray, List.set_cons_succ, List.set_cons_zero]
            refine wpAnyH_take (i := 2) (v := ?v149) rfl (by kernel_rfl) (by kernel_rfl) (by kernel_rfl) (fun _ _ _ h => h) (Or.inl ⟨by rfl, ?y149⟩) (⟨rl8, co, csh, crk⟩) ?r149
            case y149 =>
             intro w_ hS_
             go_simp
             try with_reducible rfl
            simp only [Act.put, List.getElem_toArray, List.getElem_cons_succ, List.getElem_cons_zero, List.setIfInBounds_toArray, List.set_cons_succ, List.set_cons_zero]
            refine wpAnyH_take (i := 3) (v := ?v150) rfl (by kernel_rfl) (by kernel_rfl) (by kernel_rfl) (fun _ _ _ h => h) (Or.inl ⟨by rfl, ?y150⟩) (⟨rl8, co, csh, crk⟩) ?r150
            case y150 =>
             intro w_ hS_
             go_simp
             try with_reducible rfl
            simp only [Act.put, List.getElem_toArray, List.getElem_cons_succ, List.getElem_cons_zero, List.setIfInBounds_toArray, List.set_cons_succ, List.set_cons_zero]
            refine wpAnyH_take (i := 4) (v := .pointer (some ⟨gl, k * 35, none⟩)) rfl (by kernel_rfl) (by kernel_rfl) (by kernel_rfl) (fun _ _ _ h => h) (Or.inl ⟨by rfl, ?y151⟩) (⟨rl8, co, csh, crk⟩) ?r151
            case y151 =>
             intro w_ hS_
             go_simp
             try with_reducible rfl
            simp only [Act.put, List.getElem_toArray, List.getElem_cons_succ, List.getElem_cons_zero, List.setIfInBounds_toArray, List.set_cons_succ, List.set_cons_zero]
            refine wpAnyH_take (i := 5) (v := .pointer (some ⟨gl, k * 35 + 33, none⟩)) rfl (by kernel_rfl) (by kernel_rfl) (by kernel_rfl) (fun _ _ _ h => h) (Or.inl ⟨by rfl, ?y152⟩) (⟨rl8, co, csh, crk⟩) ?r152
            case y152 =>
             intro w_ hS_
             go_simp
             try with_reducible rfl
            simp only [Act.put, List.getElem_toArray, List.getElem_cons_succ, List.getElem_cons_zero, List.setIfInBounds_toArray, List.set_cons_succ, List.set_cons_zero]
            refine wpAnyH_take (i := 6) (v := .bool true) rfl (by kernel_rfl) (by kernel_rfl) (by kernel_rfl) (fun _ _ _ h => h) (Or.inl ⟨by rfl, ?y153⟩) (⟨rl8, co, csh, crk⟩) ?r153
            case y153 =>
             intro w_ hS_
             have c_ := hS_.2.1
             go_simp
             try with_reducible rfl
            simp only [Act.put, List.getElem_toArray, List.getElem_cons_succ, List.getElem_cons_zero, List.setIfInBounds_toArray, List.set_cons_succ, List.set_cons_zero]
            refine wpAnyH_take (i := 7) (v := .bool false) rfl (by kernel_rfl) (by kernel_rfl) (by kernel_rfl) (fun _ _ _ h => h) (Or.inl ⟨by rfl, ?y154⟩) (⟨rl8, co, csh, crk⟩) ?r154
            case y154 =>
             intro w_ hS_
             go_simp
             try with_reducible rfl
            simp only [Act.put, List.getElem_toArray, List.getElem_cons_succ, List.getElem_cons_zero, List.setIfInBounds_toArray, List.set_cons_succ, List.set_cons_zero]
            refine wpAnyH_take (i := 8) (v := .bool false) rfl (by kernel_rfl) (by kernel_rfl) (by kernel_rfl) (fun _ _ _ h => h) (Or.inl ⟨by rfl, ?y155⟩) (⟨rl8, co, csh, crk⟩) ?r155
            case y155 =>
             intro w_ hS_
             go_simp
             try with_reducible rfl
            simp only [Act.put, List.getElem_toArray, List.getElem_cons_succ, List.getElem_cons_zero, List.setIfInBounds_toArray, List.set_cons_succ, List.set_cons_zero]
            refine wpAnyH_take (i := 9) (v := .bool false) rfl (by kernel_rfl) (by kernel_rfl) (by kernel_rfl) (fun _ _ _ h => h) (Or.inl ⟨by rfl, ?y156⟩) (⟨rl8, co, csh, crk⟩) ?r156
            case y156 =>
             intro w_ hS_
             go_simp
             try with_reducible rfl
            simp only [Act.put, List.getElem_toArray, List.getElem_cons_succ, List.getElem_cons_zero, List.setIfInBounds_toArray, List.set_cons_succ, List.set_cons_zero]
            refine wpAnyH_take (i := 10) (v := undef) rfl (by kernel_rfl) (by kernel_rfl) (by kernel_rfl) (fun _ _ _ h => h) (Or.inr ⟨by rfl, rfl⟩) (⟨rl8, co, csh, crk⟩) ?_
            simp only [Act.put, List.getElem_toArray, List.getElem_cons_succ, List.getElem_cons_zero, List.setIfInBounds_toArray, List.set_cons_succ, List.set_cons_zero]
            refine wpAnyH_take (i := 11) (v := undef) rfl (by kernel_rfl) (by kernel_rfl) (by kernel_rfl) (fun _ _ _ h => h) (Or.inr ⟨by rfl, rfl⟩) (⟨rl8, co, csh, crk⟩) ?_
            simp only [Act.put, List.getElem_toArray, List.getElem_cons_succ, List.getElem_cons_zero, List.setIfInBounds_toArray, List.set_cons_succ, List.set_cons_zero]
            refine wpAnyH_take (i := 12) (v := undef) rfl (by kernel_rfl) (by kernel_rfl) (by kernel_rfl) (fun _ _ _ h => h) (Or.inr ⟨by rfl, rfl⟩) (⟨rl8, co, csh, crk⟩) ?_
            simp only [Act.put, List.getElem_toArray, List.getElem_cons_succ, List.getElem_cons_zero, List.setIfInBounds_toArray, List.set_cons_succ, List.set_cons_zero]
            refine wpAnyH_take (i := 13) (v := undef) rfl (by kernel_rfl) (by kernel_rfl) (by kernel_rfl) (fun _ _ _ h => h) (Or.inr ⟨by rfl, rfl⟩) (⟨rl8, co, csh, crk⟩) ?_
            simp only [Act.put, List.getElem_toArray, List.getElem_cons_succ, List.getElem_cons_zero, List.setIfInBounds_toArray, List.set_cons_succ, List.set_cons_zero]
            refine wpAnyH_take (i := 14) (v := undef) rfl (by kernel_rfl) (by kernel_rfl) (by kernel_rfl) (fun _ _ _ h => h) (Or.inr ⟨by rfl, rfl⟩) (⟨rl8, co, csh, crk⟩) ?_
            simp only [Act.put, List.getElem_toArray, List.getElem_cons_succ, List.getElem_cons_zero, List.setIfInBounds_toArray, List.set_cons_succ, List.set_cons_zero]
            refine wpAnyH_take (i := 15) (v := undef) rfl (by kernel_rfl) (by kernel_rfl) (by kernel_rfl) (fun _ _ _ h => h) (Or.inr ⟨by rfl, rfl⟩) (⟨rl8, co, csh, crk⟩) ?_
            simp only [Act.put, List.getElem_toArray, List.getElem_cons_succ, List.getElem_cons_zero, List.setIfInBounds_toArray, List.set_cons_succ, List.set_cons_zero]
            refine wpAnyH_take (i := 16) (v := .bool false) rfl (by kernel_rfl) (by kernel_rfl) (by kernel_rfl) (fun _ _ _ h => h) (Or.inl ⟨by rfl, ?y163⟩) (⟨rl8, co, csh, crk⟩) ?r163
            case y163 =>
             intro w_ hS_
             go_simp
             try with_reducible rfl
            simp only [Act.put, List.getElem_toArray, List.getElem_cons_succ, List.getElem_cons_zero, List.setIfInBounds_toArray, List.set_cons_succ, List.set_cons_zero]
            refine wpAnyH_take (i := 17) (v := .bool false) rfl (by kernel_rfl) (by kernel_rfl) (by kernel_rfl) (fun _ _ _ h => h) (Or.inl ⟨by rfl, ?y164⟩) (⟨rl8, co, csh, crk⟩) ?r164
            case y164 =>
             intro w_ hS_
             go_simp
             try with_reducible rfl
            simp only [Act.put, List.getElem_toArray, List.getElem_cons_succ, List.getElem_cons_zero, List.setIfInBounds_toArray, List.set_cons_succ, List.set_cons_zero]
            refine wpAnyH_take (i := 18) (v := undef) rfl (by kernel_rfl) (by kernel_rfl) (by kernel_rfl) (fun _ _ _ h => h) (Or.inr ⟨by rfl, rfl⟩) (⟨rl8, co, csh, crk⟩) ?_
            simp only [Act.put, List.getElem_toArray, List.getElem_cons_succ, List.getElem_cons_zero, List.setIfInBounds_toArray, List.set_cons_succ, List.set_cons_zero]
            refine wpAnyH_take (i := 19) (v := undef) rfl (by kernel_rfl) (by kernel_rfl) (by kernel_rfl) (fun _ _ _ h => h) (Or.inr ⟨by rfl, rfl⟩) (⟨rl8, co, csh, crk⟩) ?_
            simp only [Act.put, List.getElem_toArray, List.getElem_cons_succ, List.getElem_cons_zero, List.setIfInBounds_toArray, List.set_cons_succ, List.set_cons_zero]
            refine wpAnyH_take (i := 20) (v := undef) rfl (by kernel_rfl) (by kernel_rfl) (by kernel_rfl) (fun _ _ _ h => h) (Or.inr ⟨by rfl, rfl⟩) (⟨rl8, co, csh, crk⟩) ?_
            simp only [Act.put, List.getElem_toArray, List.getElem_cons_succ, List.getElem_cons_zero, List.setIfInBounds_toArray, List.set_cons_succ, List.set_cons_zero]
            refine wpAnyH_take (i := 21) (v := undef) rfl (by kernel_rfl) (by kernel_rfl) (by kernel_rfl) (fun _ _ _ h => h) (Or.inr ⟨by rfl, rfl⟩) (⟨rl8, co, csh, crk⟩) ?_
            simp only [Act.put, List.getElem_toArray, List.getElem_cons_succ, List.getElem_cons_zero, List.setIfInBounds_toArray, List.set_cons_succ, List.set_cons_zero]
            refine wpAnyH_take (i := 22) (v := undef) rfl (by kernel_rfl) (by kernel_rfl) (by kernel_rfl) (fun _ _ _ h => h) (Or.inr ⟨by rfl, rfl⟩) (⟨rl8, co, csh, crk⟩) ?_
            simp only [Act.put, List.getElem_toArray, List.getElem_cons_succ, List.getElem_cons_zero, List.setIfInBounds_toArray, List.set_cons_succ, List.set_cons_zero]
            refine wpAnyH_take (i := 23) (v := undef) rfl (by kernel_rfl) (by kernel_rfl) (by kernel_rfl) (fun _ _ _ h => h) (Or.inr ⟨by rfl, rfl⟩) (⟨rl8, co, csh, crk⟩) ?_
            simp only [Act.put, List.getElem_toArray, List.getElem_cons_succ, List.getElem_cons_zero, List.setIfInBounds_toArray, List.set_cons_succ, List.set_cons_zero]
            refine wpAnyH_take (i := 24) (v := undef) rfl (by kernel_rfl) (by kernel_rfl) (by kernel_rfl) (fun _ _ _ h => h) (Or.inr ⟨by rfl, rfl⟩) (⟨rl8, co, csh, crk⟩) ?_
            simp only [Act.put, List.getElem_toArray, List.getElem_cons_succ, List.getElem_cons_zero, List.setIfInBounds_toArray, List.set_cons_succ, List.set_cons_zero]
            refine wpAnyH_take (i := 25) (v := undef) rfl (by kernel_rfl) (by kernel_rfl) (by kernel_rfl) (fun _ _ _ h => h) (Or.inr ⟨by rfl, rfl⟩) (⟨rl8, co, csh, crk⟩) ?_
            simp only [Act.put, List.getElem_toArray, List.getElem_cons_succ, List.getElem_cons_zero, List.setIfInBounds_toArray, List.set_cons_succ, List.set_cons_zero]
            refine wpAnyH_take (i := 26) (v := .bool false) rfl (by kernel_rfl) (by kernel_rfl) (by kernel_rfl) (fun _ _ _ h => h) (Or.inl ⟨by rfl, ?y173⟩) (⟨rl8, co, csh, crk⟩) ?r173
            case y173 =>
             intro w_ hS_
             go_simp
             try with_reducible rfl
            simp only [Act.put, List.getElem_toArray, List.getElem_cons_succ, List.getElem_cons_zero, List.setIfInBounds_toArray, List.set_cons_succ, List.set_cons_zero]
            refine wpAnyH_take (i := 27) (v := .bool false) rfl (by kernel_rfl) (by kernel_rfl) (by kernel_rfl) (fun _ _ _ h => h) (Or.inl ⟨by rfl, ?y174⟩) (⟨rl8, co, csh, crk⟩) ?r174
            case y174 =>
             intro w_ hS_
             go_simp
             try with_reducible rfl
            simp only [Act.put, List.getElem_toArray, List.getElem_cons_succ, List.getElem_cons_zero, List.setIfInBounds_toArray, List.set_cons_succ, List.set_cons_zero]
            refine wpAnyH_done (by kernel_rfl) ?_ _
            refine NoPanic.normal ?_
            have fc75 := cell_at rl8 (op_d x)
            have fc76 := cell_at rl8 (op_n x)
            have fc77 := cell_at rl8 (op_r x hxo.1.1)
            have fc78 := cell_at rl8 (op_x x hxo.1.1)
            go_wp2_with (first | (refine wpList_load_part rfl 23 _ rfl (w.heap.size) 0 rfl 23 (irow .u8 y) (0, 0) (irow .u8 y) _ rp0 (all_rowe _) Tryd.underlying23 rfl (infoKy _ hy.1) ?_) | (refine wpList_load_part rfl 23 _ rfl (go) 3 rfl 30 (opr x) (0, 0) (irow .u8 x.k) _ rl8 (op_k x hxo.1.1) Tryd.underlying23 rfl (infoKy _ hxo.1.1) ?_) | (refine wpList_load_part rfl 30 _ rfl (go) 0 rfl 30 (opr x) (0, 0) (opr x) _ rl8 (all_rowe _) Tryd.underlying30 rfl (op_info _ hxo.1.1) ?_) | fail)
            clear fc75 fc76 fc77 fc78
            have cM := a_May x.n hxo.2 x.k hxo.1 b g _ _ y es cs _ hSp.bk
            rw [hmy] at cM
            refine cM.mono ?_
            rintro e_ wM175 ⟨rfl, hb⟩
            clear cM
            replace rp0 := keep hb rp0
            replace rl8 := keep hb rl8
            replace hSp := hSp.keep hb
            clear hb
            go_wp2_with (first | (refine wpList_load_part rfl 23 _ rfl (w.heap.size) 0 rfl 23 (irow .u8 y) (0, 0) (irow .u8 y) _ rp0 (all_rowe _) Tryd.underlying23 rfl (infoKy _ hy.1) ?_) | (refine wpList_load_part rfl 23 _ rfl (go) 3 rfl 30 (opr x) (0, 0) (irow .u8 x.k) _ rl8 (op_k x hxo.1.1) Tryd.underlying23 rfl (infoKy _ hxo.1.1) ?_) | (refine wpList_load_part rfl 30 _ rfl (go) 0 rfl 30 (opr x) (0, 0) (opr x) _ rl8 (all_rowe _) Tryd.underlying30 rfl (op_info _ hxo.1.1) ?_) | fail)
            refine ⟨⟨i + 1, _, _, _, _, _, by go_num, by omega, by omega, ⟨hSp.bk, hSp.own, hSp.rl, by omega, by omega, hSp.hw, hSp.wb⟩, rp0⟩, ?_⟩
            simp [intOf]; omega
          ·as_aux_lemma =>
            have hb : Below wd50.heap.size wd50 wd50.drew := below_drN (Below.refl _ _) 1
            replace rp0 := keep hb rp0
            replace rl8 := keep hb rl8
            replace co := (World.cell?_of_block (hb.block _ hgl2)).trans co
            replace csh := (World.cell?_of_block (hb.block _ hgl2)).trans csh
            replace crk := rangeAt_keep crk (hb.block _ hgl2)
            replace hgl2 := Nat.lt_of_lt_of_le hgl2 hb.size
            replace hSp := hSp.keep hb
            clear hb
            refine wp_region_noPanic ?_
            refine wp_region_held (S := fun W_ => W_.heap[go]? = some (.cells (opr x) 30 (0, 0)) ∧ W_.cell? ⟨gl, k * 35 + 33, none⟩ = some (.bool true) ∧ W_.cell? ⟨gl, k * 35 + 34, none⟩ = some (.bool true) ∧ W_.rangeAt gl (k * 35 + 1) (k8 a.k)) (by kernel_rfl) ?_
            change wpAnyH _ _ _ _ _ _ _ _ (World.drew _)
            generalize wd50.drew = wd176 at *
            refine wpAnyH_take (i := 0) (v := ?v177) rfl (by kernel_rfl) (by kernel_rfl) (by kernel_rfl) (fun _ _ _ h => h) (Or.inl ⟨by rfl, ?y177⟩) (⟨rl8, co, csh, crk⟩) ?r177
            case y177 =>
             intro w_ hS_
             go_simp
             try with_reducible rfl
            simp only [Act.put, List.getElem_toArray, List.getElem_cons_zero, List.setIfInBounds_toArray, List.set_cons_succ, List.set_cons_zero]
            refine wpAnyH_take (i := 1) (v := ?v178) rfl (by kernel_rfl) (by kernel_rfl) (by kernel_rfl) (fun _ _ _ h => h) (Or.inl ⟨by rfl, ?y178⟩) (⟨rl8, co, csh, crk⟩) ?r178
            case y178 =>
             intro w_ hS_
             go_simp
             try with_reducible rfl
            simp only [Act.put, List.getElem_toArray, List.getElem_cons_succ, List.getElem_cons_zero, List.setIfInBounds_toArray, List.set_cons_succ, List.set_cons_zero]
            refine wpAnyH_take (i := 2) (v := ?v179) rfl (by kernel_rfl) (by kernel_rfl) (by kernel_rfl) (fun _ _ _ h => h) (Or.inl ⟨by rfl, ?y179⟩) (⟨rl8, co, csh, crk⟩) ?r179
            case y179 =>
             intro w_ hS_
             go_simp
             try with_reducible rfl
            simp only [Act.put, List.getElem_toArray, List.getElem_cons_succ, List.getElem_cons_zero, List.setIfInBounds_toArray, List.set_cons_succ, List.set_cons_zero]
            refine wpAnyH_take (i := 3) (v := ?v180) rfl (by kernel_rfl) (by kernel_rfl) (by kernel_rfl) (fun _ _ _ h => h) (Or.inl ⟨by rfl, ?y180⟩) (⟨rl8, co, csh, crk⟩) ?r180
            case y180 =>
             intro w_ hS_
             go_simp
             try with_reducible rfl
            simp only [Act.put, List.getElem_toArray, List.getElem_cons_succ, List.getElem_cons_zero, List.setIfInBounds_toArray, List.set_cons_succ, List.set_cons_zero]
            refine wpAnyH_take (i := 4) (v := .pointer (some ⟨gl, k * 35, none⟩)) rfl (by kernel_rfl) (by kernel_rfl) (by kernel_rfl) (fun _ _ _ h => h) (Or.inl ⟨by rfl, ?y181⟩) (⟨rl8, co, csh, crk⟩) ?r181
            case y181 =>
             intro w_ hS_
             go_simp
             try with_reducible rfl
            simp only [Act.put, List.getElem_toArray, List.getElem_cons_succ, List.getElem_cons_zero, List.setIfInBounds_toArray, List.set_cons_succ, List.set_cons_zero]
            refine wpAnyH_take (i := 5) (v := .pointer (some ⟨gl, k * 35 + 33, none⟩)) rfl (by kernel_rfl) (by kernel_rfl) (by kernel_rfl) (fun _ _ _ h => h) (Or.inl ⟨by rfl, ?y182⟩) (⟨rl8, co, csh, crk⟩) ?r182
            case y182 =>
             intro w_ hS_
             go_simp
             try with_reducible rfl
            simp only [Act.put, List.getElem_toArray, List.getElem_cons_succ, List.getElem_cons_zero, List.setIfInBounds_toArray, List.set_cons_succ, List.set_cons_zero]
            refine wpAnyH_take (i := 6) (v := .bool true) rfl (by kernel_rfl) (by kernel_rfl) (by kernel_rfl) (fun _ _ _ h => h) (Or.inl ⟨by rfl, ?y183⟩) (⟨rl8, co, csh, crk⟩) ?r183
            case y183 =>
             intro w_ hS_
             have c_ := hS_.2.1
             go_simp
             try with_reducible rfl
            simp only [Act.put, List.getElem_toArray, List.getElem_cons_succ, List.getElem_cons_zero, List.setIfInBounds_toArray, List.set_cons_succ, List.set_cons_zero]
            refine wpAnyH_take (i := 7) (v := .bool false) rfl (by kernel_rfl) (by kernel_rfl) (by kernel_rfl) (fun _ _ _ h => h) (Or.inl ⟨by rfl, ?y184⟩) (⟨rl8, co, csh, crk⟩) ?r184
            case y184 =>
             intro w_ hS_
             go_simp
             try with_reducible rfl
            simp only [Act.put, List.getElem_toArray, List.getElem_cons_succ, List.getElem_cons_zero, List.setIfInBounds_toArray, List.set_cons_succ, List.set_cons_zero]
            refine wpAnyH_take (i := 8) (v := .bool false) rfl (by kernel_rfl) (by kernel_rfl) (by kernel_rfl) (fun _ _ _ h => h) (Or.inl ⟨by rfl, ?y185⟩) (⟨rl8, co, csh, crk⟩) ?r185
            case y185 =>
             intro w_ hS_
             go_simp
             try with_reducible rfl
            simp only [Act.put, List.getElem_toArray, List.getElem_cons_succ, List.getElem_cons_zero, List.setIfInBounds_toArray, List.set_cons_succ, List.set_cons_zero]
            refine wpAnyH_take (i := 9) (v := .bool false) rfl (by kernel_rfl) (by kernel_rfl) (by kernel_rfl) (fun _ _ _ h => h) (Or.inl ⟨by rfl, ?y186⟩) (⟨rl8, co, csh, crk⟩) ?r186
            case y186 =>
             intro w_ hS_
             go_simp
             try with_reducible rfl
            simp only [Act.put, List.getElem_toArray, List.getElem_cons_succ, List.getElem_cons_zero, List.setIfInBounds_toArray, List.set_cons_succ, List.set_cons_zero]
            refine wpAnyH_take (i := 10) (v := undef) rfl (by kernel_rfl) (by kernel_rfl) (by kernel_rfl) (fun _ _ _ h => h) (Or.inr ⟨by rfl, rfl⟩) (⟨rl8, co, csh, crk⟩) ?_
            simp only [Act.put, List.getElem_toArray, List.getElem_cons_succ, List.getElem_cons_zero, List.setIfInBounds_toArray, List.set_cons_succ, List.set_cons_zero]
            refine wpAnyH_take (i := 11) (v := undef) rfl (by kernel_rfl) (by kernel_rfl) (by kernel_rfl) (fun _ _ _ h => h) (Or.inr ⟨by rfl, rfl⟩) (⟨rl8, co, csh, crk⟩) ?_
            simp only [Act.put, List.getElem_toArray, List.getElem_cons_succ, List.getElem_cons_zero, List.setIfInBounds_toArray, List.set_cons_succ, List.set_cons_zero]
            refine wpAnyH_take (i := 12) (v := undef) rfl (by kernel_rfl) (by kernel_rfl) (by kernel_rfl) (fun _ _ _ h => h) (Or.inr ⟨by rfl, rfl⟩) (⟨rl8, co, csh, crk⟩) ?_
            simp only [Act.put, List.getElem_toArray, List.getElem_cons_succ, List.getElem_cons_zero, List.setIfInBounds_toArray, List.set_cons_succ, List.set_cons_zero]
            refine wpAnyH_take (i := 13) (v := undef) rfl (by kernel_rfl) (by kernel_rfl) (by kernel_rfl) (fun _ _ _ h => h) (Or.inr ⟨by rfl, rfl⟩) (⟨rl8, co, csh, crk⟩) ?_
            simp only [Act.put, List.getElem_toArray, List.getElem_cons_succ, List.getElem_cons_zero, List.setIfInBounds_toArray, List.set_cons_succ, List.set_cons_zero]
            refine wpAnyH_take (i := 14) (v := undef) rfl (by kernel_rfl) (by kernel_rfl) (by kernel_rfl) (fun _ _ _ h => h) (Or.inr ⟨by rfl, rfl⟩) (⟨rl8, co, csh, crk⟩) ?_
            simp only [Act.put, List.getElem_toArray, List.getElem_cons_succ, List.getElem_cons_zero, List.setIfInBounds_toArray, List.set_cons_succ, List.set_cons_zero]
            refine wpAnyH_take (i := 15) (v := undef) rfl (by kernel_rfl) (by kernel_rfl) (by kernel_rfl) (fun _ _ _ h => h) (Or.inr ⟨by rfl, rfl⟩) (⟨rl8, co, csh, crk⟩) ?_
            simp only [Act.put, List.getElem_toArray, List.getElem_cons_succ, List.getElem_cons_zero, List.setIfInBounds_toArray, List.set_cons_succ, List.set_cons_zero]
            refine wpAnyH_take (i := 16) (v := .bool false) rfl (by kernel_rfl) (by kernel_rfl) (by kernel_rfl) (fun _ _ _ h => h) (Or.inl ⟨by rfl, ?y193⟩) (⟨rl8, co, csh, crk⟩) ?r193
            case y193 =>
             intro w_ hS_
             go_simp
             try with_reducible rfl
            simp only [Act.put, List.getElem_toArray, List.getElem_cons_succ, List.getElem_cons_zero, List.setIfInBounds_toArray, List.set_cons_succ, List.set_cons_zero]
            refine wpAnyH_take (i := 17) (v := .bool false) rfl (by kernel_rfl) (by kernel_rfl) (by kernel_rfl) (fun _ _ _ h => h) (Or.inl ⟨by rfl, ?y194⟩) (⟨rl8, co, csh, crk⟩) ?r194
            case y194 =>
             intro w_ hS_
             go_simp
             try with_reducible rfl
            simp only [Act.put, List.getElem_toArray, List.getElem_cons_succ, List.getElem_cons_zero, List.setIfInBounds_toArray, List.set_cons_succ, List.set_cons_zero]
            refine wpAnyH_take (i := 18) (v := undef) rfl (by kernel_rfl) (by kernel_rfl) (by kernel_rfl) (fun _ _ _ h => h) (Or.inr ⟨by rfl, rfl⟩) (⟨rl8, co, csh, crk⟩) ?_
            simp only [Act.put, List.getElem_toArray, List.getElem_cons_succ, List.getElem_cons_zero, List.setIfInBounds_toArray, List.set_cons_succ, List.set_cons_zero]
            refine wpAnyH_take (i := 19) (v := undef) rfl (by kernel_rfl) (by kernel_rfl) (by kernel_rfl) (fun _ _ _ h => h) (Or.inr ⟨by rfl, rfl⟩) (⟨rl8, co, csh, crk⟩) ?_
            simp only [Act.put, List.getElem_toArray, List.getElem_cons_succ, List.getElem_cons_zero, List.setIfInBounds_toArray, List.set_cons_succ, List.set_cons_zero]
            refine wpAnyH_take (i := 20) (v := undef) rfl (by kernel_rfl) (by kernel_rfl) (by kernel_rfl) (fun _ _ _ h => h) (Or.inr ⟨by rfl, rfl⟩) (⟨rl8, co, csh, crk⟩) ?_
            simp only [Act.put, List.getElem_toArray, List.getElem_cons_succ, List.getElem_cons_zero, List.setIfInBounds_toArray, List.set_cons_succ, List.set_cons_zero]
            refine wpAnyH_take (i := 21) (v := undef) rfl (by kernel_rfl) (by kernel_rfl) (by kernel_rfl) (fun _ _ _ h => h) (Or.inr ⟨by rfl, rfl⟩) (⟨rl8, co, csh, crk⟩) ?_
            simp only [Act.put, List.getElem_toArray, List.getElem_cons_succ, List.getElem_cons_zero, List.setIfInBounds_toArray, List.set_cons_succ, List.set_cons_zero]
            refine wpAnyH_take (i := 22) (v := undef) rfl (by kernel_rfl) (by kernel_rfl) (by kernel_rfl) (fun _ _ _ h => h) (Or.inr ⟨by rfl, rfl⟩) (⟨rl8, co, csh, crk⟩) ?_
            simp only [Act.put, List.getElem_toArray, List.getElem_cons_succ, List.getElem_cons_zero, List.setIfInBounds_toArray, List.set_cons_succ, List.set_cons_zero]
            refine wpAnyH_take (i := 23) (v := undef) rfl (by kernel_rfl) (by kernel_rfl) (by kernel_rfl) (fun _ _ _ h => h) (Or.inr ⟨by rfl, rfl⟩) (⟨rl8, co, csh, crk⟩) ?_
            simp only [Act.put, List.getElem_toArray, List.getElem_cons_succ, List.getElem_cons_zero, List.setIfInBounds_toArray, List.set_cons_succ, List.set_cons_zero]
            refine wpAnyH_take (i := 24) (v := undef) rfl (by kernel_rfl) (by kernel_rfl) (by kernel_rfl) (fun _ _ _ h => h) (Or.inr ⟨by rfl, rfl⟩) (⟨rl8, co, csh, crk⟩) ?_
            simp only [Act.put, List.getElem_toArray, List.getElem_cons_succ, List.getElem_cons_zero, List.setIfInBounds_toArray, List.set_cons_succ, List.set_cons_zero]
            refine wpAnyH_take (i := 25) (v := undef) rfl (by kernel_rfl) (by kernel_rfl) (by kernel_rfl) (fun _ _ _ h => h) (Or.inr ⟨by rfl, rfl⟩) (⟨rl8, co, csh, crk⟩) ?_
            simp only [Act.put, List.getElem_toArray, List.getElem_cons_succ, List.getElem_cons_zero, List.setIfInBounds_toArray, List.set_cons_succ, List.set_cons_zero]
            refine wpAnyH_take (i := 26) (v := .bool false) rfl (by kernel_rfl) (by kernel_rfl) (by kernel_rfl) (fun _ _ _ h => h) (Or.inl ⟨by rfl, ?y203⟩) (⟨rl8, co, csh, crk⟩) ?r203
            case y203 =>
             intro w_ hS_
             go_simp
             try with_reducible rfl
            simp only [Act.put, List.getElem_toArray, List.getElem_cons_succ, List.getElem_cons_zero, List.setIfInBounds_toArray, List.set_cons_succ, List.set_cons_zero]
            refine wpAnyH_take (i := 27) (v := .bool false) rfl (by kernel_rfl) (by kernel_rfl) (by kernel_rfl) (fun _ _ _ h => h) (Or.inl ⟨by rfl, ?y204⟩) (⟨rl8, co, csh, crk⟩) ?r204
            case y204 =>
             intro w_ hS_
             go_simp
             try with_reducible rfl
            simp only [Act.put, List.getElem_toArray, List.getElem_cons_succ, List.getElem_cons_zero, List.setIfInBounds_toArray, List.set_cons_succ, List.set_cons_zero]
            refine wpAnyH_done (by kernel_rfl) ?_ _
            refine NoPanic.normal ?_
            have fc79 := cell_at rl8 (op_d x)
            have fc80 := cell_at rl8 (op_n x)
            have fc81 := cell_at rl8 (op_r x hxo.1.1)
            have fc82 := cell_at rl8 (op_x x hxo.1.1)
            go_wp2_with (first | (refine wpList_load_part rfl 23 _ rfl (w.heap.size) 0 rfl 23 (irow .u8 y) (0, 0) (irow .u8 y) _ rp0 (all_rowe _) Tryd.underlying23 rfl (infoKy _ hy.1) ?_) | (refine wpList_load_part rfl 23 _ rfl (go) 3 rfl 30 (opr x) (0, 0) (irow .u8 x.k) _ rl8 (op_k x hxo.1.1) Tryd.underlying23 rfl (infoKy _ hxo.1.1) ?_) | (refine wpList_load_part rfl 30 _ rfl (go) 0 rfl 30 (opr x) (0, 0) (opr x) _ rl8 (all_rowe _) Tryd.underlying30 rfl (op_info _ hxo.1.1) ?_) | fail)
            clear fc79 fc80 fc81 fc82
            have cM := a_May x.n hxo.2 x.k hxo.1 b g _ _ y es cs _ hSp.bk
            rw [hmy] at cM
            refine cM.mono ?_
            rintro e_ wM205 ⟨rfl, hb⟩
            clear cM
            replace rp0 := keep hb rp0
            replace rl8 := keep hb rl8
            replace hSp := hSp.keep hb
            clear hb
            go_wp2_with (first | (refine wpList_load_part rfl 23 _ rfl (w.heap.size) 0 rfl 23 (irow .u8 y) (0, 0) (irow .u8 y) _ rp0 (all_rowe _) Tryd.underlying23 rfl (infoKy _ hy.1) ?_) | (refine wpList_load_part rfl 23 _ rfl (go) 3 rfl 30 (opr x) (0, 0) (irow .u8 x.k) _ rl8 (op_k x hxo.1.1) Tryd.underlying23 rfl (infoKy _ hxo.1.1) ?_) | (refine wpList_load_part rfl 30 _ rfl (go) 0 rfl 30 (opr x) (0, 0) (opr x) _ rl8 (all_rowe _) Tryd.underlying30 rfl (op_info _ hxo.1.1) ?_) | fail)
            refine ⟨⟨i + 1, _, _, _, _, _, by go_num, by omega, by omega, ⟨hSp.bk, hSp.own, hSp.rl, by omega, by omega, hSp.hw, hSp.wb⟩, rp0⟩, ?_⟩
            simp [intOf]; omega
      ·as_aux_lemma =>
        have hp := hkl2
        have hsee := see_yes (es := es) hSp.rl hSp.bk.srt hSp.bk.sta (by omega) hp x.k
        rw [hpk, hak] at hsee
        have fc83 := cell_at rl8 (op_d x)
        have fc84 := cell_at rl8 (op_n x)
        have fc85 := cell_at rl8 (op_r x hxo.1.1)
        have fc86 := cell_at rl8 (op_x x hxo.1.1)
        go_wp2_with (first | (refine wpList_load_part rfl 23 _ rfl (w.heap.size) 0 rfl 23 (irow .u8 y) (0, 0) (irow .u8 y) _ rp0 (all_rowe _) Tryd.underlying23 rfl (infoKy _ hy.1) ?_) | (refine wpList_load_part rfl 23 _ rfl (go) 3 rfl 30 (opr x) (0, 0) (irow .u8 x.k) _ rl8 (op_k x hxo.1.1) Tryd.underlying23 rfl (infoKy _ hxo.1.1) ?_) | (refine wpList_load_part rfl 30 _ rfl (go) 0 rfl 30 (opr x) (0, 0) (opr x) _ rl8 (all_rowe _) Tryd.underlying30 rfl (op_info _ hxo.1.1) ?_) | fail)
        clear fc83 fc84 fc85 fc86
        refine (a_See x.n hxo.2 x.k hxo.1 b g _ _ y es cs _ hSp.bk).mono ?_
        rintro e_ wS206 ⟨ve2, vc2, rfl, hB2, -, -, hF⟩
        obtain ⟨hB3, hO3, hfl, hl3, hw3, -⟩ := hSp.book hB2 hF (Nat.le_trans (nxt_len es cs _) (by omega))
        replace rp0 := hF.row rp0 (hSp.bk.notin rp0 (by decide) (by decide) (by decide))
        replace rl8 := hF.row rl8 (hSp.bk.notin rl8 (by decide) (by decide) (by decide))
        clear hSp hB2 hF
        generalize hz : seR es cs x.n x.k = z at *
        clear hz
        have hw := hw3
        clear hw3
        obtain ⟨hse1, hse2⟩ := hsee
        obtain ⟨gl2, e_gl, hgl2, hrl⟩ := hO3.at hkl
        cases e_gl
        rw [hak] at hrl
        have haok : a.ok := by have := hO3.2.at hkl; rw [show l.getD k zkn = a from hak] at this; exact this
        have co := range_at hrl (kn_o' a haok.1)
        have csh := range_at hrl (kn_s' a haok.1)
        have crk := knl_key hrl
        clear hrl
        have eQ := eq_k a.k x.k haok.1 hxo.1.1
        generalize dQ : decide (a.k = x.k) = xQ at *
        go_wp2_with (fail)
        generalize dO : a.o = xO at *
        generalize dS : a.s = xS at *
        cases xO
        ·skip
         cases xS
         ·as_aux_lemma =>
           have hb : Below wS206.heap.size wS206 wS206.drew := below_drN (Below.refl _ _) 1
           replace rp0 := keep hb rp0
           replace rl8 := keep hb rl8
           replace co := (World.cell?_of_block (hb.block _ hgl2)).trans co
           replace csh := (World.cell?_of_block (hb.block _ hgl2)).trans csh
           replace crk := rangeAt_keep crk (hb.block _ hgl2)
           replace hgl2 := Nat.lt_of_lt_of_le hgl2 hb.size
           replace hB3 := hB3.keep hb
           replace hO3 := hO3.keep hb
           replace hw := Below.after hw hb
           clear hb
           refine wp_region_noPanic ?_
           refine wp_region_held (S := fun W_ => W_.heap[go]? = some (.cells (opr x) 30 (0, 0)) ∧ W_.cell? ⟨gl, k * 35 + 33, none⟩ = some (.bool false) ∧ W_.cell? ⟨gl, k * 35 + 34, none⟩ = some (.bool false) ∧ W_.rangeAt gl (k * 35 + 1) (k8 a.k)) (by kernel_rfl) ?_
           change wpAnyH _ _ _ _ _ _ _ _ (World.drew _)
           generalize wS206.drew = wd207 at *
           refine wpAnyH_take (i := 0) (v := ?v208) rfl (by kernel_rfl) (by kernel_rfl) (by kernel_rfl) (fun _ _ _ h => h) (Or.inl ⟨by rfl, ?y208⟩) (⟨rl8, co, csh, crk⟩) ?r208
           case y208 =>
            intro w_ hS_
            go_simp
            try with_reducible rfl
           simp only [Act.put, List.getElem_toArray, List.getElem_cons_zero, List.setIfInBounds_toArray, List.set_cons_succ, List.set_cons_zero]
           refine wpAnyH_take (i := 1) (v := ?v209) rfl (by kernel_rfl) (by kernel_rfl) (by kernel_rfl) (fun _ _ _ h => h) (Or.inl ⟨by rfl, ?y209⟩) (⟨rl8, co, csh, crk⟩) ?r209
           case y209 =>
            intro w_ hS_
            go_simp
            try with_reducible rfl
           simp only [Act.put, List.getElem_toArray, List.getElem_cons_succ, List.getElem_cons_zero, List.setIfInBounds_toArray, List.set_cons_succ, List.set_cons_zero]
           refine wpAnyH_take (i := 2) (v := ?v210) rfl (by kernel_rfl) (by kernel_rfl) (by kernel_rfl) (fun _ _ _ h => h) (Or.inl ⟨by rfl, ?y210⟩) (⟨rl8, co, csh, crk⟩) ?r210
           case y210 =>
            intro w_ hS_
            go_simp
            try with_reducible rfl
           simp only [Act.put, List.getElem_toArray, List.getElem_cons_succ, List.getElem_cons_zero, List.setIfInBounds_toArray, List.set_cons_succ, List.set_cons_zero]
           refine wpAnyH_take (i := 3) (v := ?v211) rfl (by kernel_rfl) (by kernel_rfl) (by kernel_rfl) (fun _ _ _ h => h) (Or.inl ⟨by rfl, ?y211⟩) (⟨rl8, co, csh, crk⟩) ?r211
           case y211 =>
            intro w_ hS_
            go_simp
            try with_reducible rfl
           simp only [Act.put, List.getElem_toArray, List.getElem_cons_succ, List.getElem_cons_zero, List.setIfInBounds_toArray, List.set_cons_succ, List.set_cons_zero]
           refine wpAnyH_take (i := 4) (v := .pointer (some ⟨gl, k * 35, none⟩)) rfl (by kernel_rfl) (by kernel_rfl) (by kernel_rfl) (fun _ _ _ h => h) (Or.inl ⟨by rfl, ?y212⟩) (⟨rl8, co, csh, crk⟩) ?r212
           case y212 =>
            intro w_ hS_
            go_simp
            try with_reducible rfl
           simp only [Act.put, List.getElem_toArray, List.getElem_cons_succ, List.getElem_cons_zero, List.setIfInBounds_toArray, List.set_cons_succ, List.set_cons_zero]
           refine wpAnyH_take (i := 5) (v := .pointer (some ⟨gl, k * 35 + 33, none⟩)) rfl (by kernel_rfl) (by kernel_rfl) (by kernel_rfl) (fun _ _ _ h => h) (Or.inl ⟨by rfl, ?y213⟩) (⟨rl8, co, csh, crk⟩) ?r213
           case y213 =>
            intro w_ hS_
            go_simp
            try with_reducible rfl
           simp only [Act.put, List.getElem_toArray, List.getElem_cons_succ, List.getElem_cons_zero, List.setIfInBounds_toArray, List.set_cons_succ, List.set_cons_zero]
           refine wpAnyH_take (i := 6) (v := .bool false) rfl (by kernel_rfl) (by kernel_rfl) (by kernel_rfl) (fun _ _ _ h => h) (Or.inl ⟨by rfl, ?y214⟩) (⟨rl8, co, csh, crk⟩) ?r214
           case y214 =>
            intro w_ hS_
            have c_ := hS_.2.1
            go_simp
            try with_reducible rfl
           simp only [Act.put, List.getElem_toArray, List.getElem_cons_succ, List.getElem_cons_zero, List.setIfInBounds_toArray, List.set_cons_succ, List.set_cons_zero]
           refine wpAnyH_take (i := 7) (v := .bool true) rfl (by kernel_rfl) (by kernel_rfl) (by kernel_rfl) (fun _ _ _ h => h) (Or.inl ⟨by rfl, ?y215⟩) (⟨rl8, co, csh, crk⟩) ?r215
           case y215 =>
            intro w_ hS_
            go_simp
            try with_reducible rfl
           simp only [Act.put, List.getElem_toArray, List.getElem_cons_succ, List.getElem_cons_zero, List.setIfInBounds_toArray, List.set_cons_succ, List.set_cons_zero]
           refine wpAnyH_take (i := 8) (v := .bool true) rfl (by kernel_rfl) (by kernel_rfl) (by kernel_rfl) (fun _ _ _ h => h) (Or.inl ⟨by rfl, ?y216⟩) (⟨rl8, co, csh, crk⟩) ?r216
           case y216 =>
            intro w_ hS_
            go_simp
            try with_reducible rfl
           simp only [Act.put, List.getElem_toArray, List.getElem_cons_succ, List.getElem_cons_zero, List.setIfInBounds_toArray, List.set_cons_succ, List.set_cons_zero]
           refine wpAnyH_take (i := 9) (v := .bool true) rfl (by kernel_rfl) (by kernel_rfl) (by kernel_rfl) (fun _ _ _ h => h) (Or.inl ⟨by rfl, ?y217⟩) (⟨rl8, co, csh, crk⟩) ?r217
           case y217 =>
            intro w_ hS_
            go_simp
            try with_reducible rfl
           simp only [Act.put, List.getElem_toArray, List.getElem_cons_succ, List.getElem_cons_zero, List.setIfInBounds_toArray, List.set_cons_succ, List.set_cons_zero]
           refine wpAnyH_take (i := 10) (v := ?v218) rfl (by kernel_rfl) (by kernel_rfl) (by kernel_rfl) (fun _ _ _ h => h) (Or.inl ⟨by rfl, ?y218⟩) (⟨rl8, co, csh, crk⟩) ?r218
           case y218 =>
            intro w_ hS_
            go_simp
            try with_reducible rfl
           simp only [Act.put, List.getElem_toArray, List.getElem_cons_succ, List.getElem_cons_zero, List.setIfInBounds_toArray, List.set_cons_succ, List.set_cons_zero]
           refine wpAnyH_take (i := 11) (v := ?v219) rfl (by kernel_rfl) (by kernel_rfl) (by kernel_rfl) (fun _ _ _ h => h) (Or.inl ⟨by rfl, ?y219⟩) (⟨rl8, co, csh, crk⟩) ?r219
           case y219 =>
            intro w_ hS_
            go_simp
            try with_reducible rfl
           simp only [Act.put, List.getElem_toArray, List.getElem_cons_succ, List.getElem_cons_zero, List.setIfInBounds_toArray, List.set_cons_succ, List.set_cons_zero]
           refine wpAnyH_take (i := 12) (v := .pointer (some ⟨gl, k * 35, none⟩)) rfl (by kernel_rfl) (by kernel_rfl) (by kernel_rfl) (fun _ _ _ h => h) (Or.inl ⟨by rfl, ?y220⟩) (⟨rl8, co, csh, crk⟩) ?r220
           case y220 =>
            intro w_ hS_
            go_simp
            try with_reducible rfl
           simp only [Act.put, List.getElem_toArray, List.getElem_cons_succ, List.getElem_cons_zero, List.setIfInBounds_toArray, List.set_cons_succ, List.set_cons_zero]
           refine wpAnyH_take (i := 13) (v := .pointer (some ⟨gl, k * 35 + 34, none⟩)) rfl (by kernel_rfl) (by kernel_rfl) (by kernel_rfl) (fun _ _ _ h => h) (Or.inl ⟨by rfl, ?y221⟩) (⟨rl8, co, csh, crk⟩) ?r221
           case y221 =>
            intro w_ hS_
            go_simp
            try with_reducible rfl
           simp only [Act.put, List.getElem_toArray, List.getElem_cons_succ, List.getElem_cons_zero, List.setIfInBounds_toArray, List.set_cons_succ, List.set_cons_zero]
           refine wpAnyH_take (i := 14) (v := .bool false) rfl (by kernel_rfl) (by kernel_rfl) (by kernel_rfl) (fun _ _ _ h => h) (Or.inl ⟨by rfl, ?y222⟩) (⟨rl8, co, csh, crk⟩) ?r222
           case y222 =>
            intro w_ hS_
            have c_ := hS_.2.2.1
            go_simp
            try with_reducible rfl
           simp only [Act.put, List.getElem_toArray, List.getElem_cons_succ, List.getElem_cons_zero, List.setIfInBounds_toArray, List.set_cons_succ, List.set_cons_zero]
           refine wpAnyH_take (i := 15) (v := .bool true) rfl (by kernel_rfl) (by kernel_rfl) (by kernel_rfl) (fun _ _ _ h => h) (Or.inl ⟨by rfl, ?y223⟩) (⟨rl8, co, csh, crk⟩) ?r223
           case y223 =>
            intro w_ hS_
            go_simp
            try with_reducible rfl
           simp only [Act.put, List.getElem_toArray, List.getElem_cons_succ, List.getElem_cons_zero, List.setIfInBounds_toArray, List.set_cons_succ, List.set_cons_zero]
           refine wpAnyH_take (i := 16) (v := .bool true) rfl (by kernel_rfl) (by kernel_rfl) (by kernel_rfl) (fun _ _ _ h => h) (Or.inl ⟨by rfl, ?y224⟩) (⟨rl8, co, csh, crk⟩) ?r224
           case y224 =>
            intro w_ hS_
            go_simp
            try with_reducible rfl
           simp only [Act.put, List.getElem_toArray, List.getElem_cons_succ, List.getElem_cons_zero, List.setIfInBounds_toArray, List.set_cons_succ, List.set_cons_zero]
           refine wpAnyH_take (i := 17) (v := .bool true) rfl (by kernel_rfl) (by kernel_rfl) (by kernel_rfl) (fun _ _ _ h => h) (Or.inl ⟨by rfl, ?y225⟩) (⟨rl8, co, csh, crk⟩) ?r225
           case y225 =>
            intro w_ hS_
            go_simp
            try with_reducible rfl
           simp only [Act.put, List.getElem_toArray, List.getElem_cons_succ, List.getElem_cons_zero, List.setIfInBounds_toArray, List.set_cons_succ, List.set_cons_zero]
           refine wpAnyH_take (i := 18) (v := ?v226) rfl (by kernel_rfl) (by kernel_rfl) (by kernel_rfl) (fun _ _ _ h => h) (Or.inl ⟨by rfl, ?y226⟩) (⟨rl8, co, csh, crk⟩) ?r226
           case y226 =>
            intro w_ hS_
            go_simp
            try with_reducible rfl
           simp only [Act.put, List.getElem_toArray, List.getElem_cons_succ, List.getElem_cons_zero, List.setIfInBounds_toArray, List.set_cons_succ, List.set_cons_zero]
           refine wpAnyH_take (i := 19) (v := ?v227) rfl (by kernel_rfl) (by kernel_rfl) (by kernel_rfl) (fun _ _ _ h => h) (Or.inl ⟨by rfl, ?y227⟩) (⟨rl8, co, csh, crk⟩) ?r227
           case y227 =>
            intro w_ hS_
            go_simp
            try with_reducible rfl
           simp only [Act.put, List.getElem_toArray, List.getElem_cons_succ, List.getElem_cons_zero, List.setIfInBounds_toArray, List.set_cons_succ, List.set_cons_zero]
           refine wpAnyH_take (i := 20) (v := .pointer (some ⟨gl, k * 35, none⟩)) rfl (by kernel_rfl) (by kernel_rfl) (by kernel_rfl) (fun _ _ _ h => h) (Or.inl ⟨by rfl, ?y228⟩) (⟨rl8, co, csh, crk⟩) ?r228
           case y228 =>
            intro w_ hS_
            go_simp
            try with_reducible rfl
           simp only [Act.put, List.getElem_toArray, List.getElem_cons_succ, List.getElem_cons_zero, List.setIfInBounds_toArray, List.set_cons_succ, List.set_cons_zero]
           refine wpAnyH_take (i := 21) (v := .pointer (some ⟨gl, k * 35 + 1, none⟩)) rfl (by kernel_rfl) (by kernel_rfl) (by kernel_rfl) (fun _ _ _ h => h) (Or.inl ⟨by rfl, ?y229⟩) (⟨rl8, co, csh, crk⟩) ?r229
           case y229 =>
            intro w_ hS_
            go_simp
            try with_reducible rfl
           simp only [Act.put, List.getElem_toArray, List.getElem_cons_succ, List.getElem_cons_zero, List.setIfInBounds_toArray, List.set_cons_succ, List.set_cons_zero]
           refine wpAnyH_take (i := 22) (v := .agg (irow .u8 a.k)) rfl (by kernel_rfl) (by kernel_rfl) (by kernel_rfl) (fun _ _ _ h => h) (Or.inl ⟨by rfl, ?y230⟩) (⟨rl8, co, csh, crk⟩) ?r230
           case y230 =>
            intro w_ hS_
            simp only [List.getElem_toArray, List.getElem_cons_succ, List.getElem_cons_zero]
            exact run_load_range 23 _ (by rfl) gl (k * 35 + 1) (by rfl) (k8 a.k) _ (hS_.2.2.2) Tryd.underlying23 rfl (by rw [k8_len, haok.1]; kernel_rfl)
           simp only [Act.put, List.getElem_toArray, List.getElem_cons_succ, List.getElem_cons_zero, List.setIfInBounds_toArray, List.set_cons_succ, List.set_cons_zero]
           refine wpAnyH_take (i := 23) (v := ?v231) rfl (by kernel_rfl) (by kernel_rfl) (by kernel_rfl) (fun _ _ _ h => h) (Or.inl ⟨by rfl, ?y231⟩) (⟨rl8, co, csh, crk⟩) ?r231
           case y231 =>
            intro w_ hS_
            go_simp
            try with_reducible rfl
           simp only [Act.put, List.getElem_toArray, List.getElem_cons_succ, List.getElem_cons_zero, List.setIfInBounds_toArray, List.set_cons_succ, List.set_cons_zero]
           refine wpAnyH_take (i := 24) (v := .agg (irow .u8 x.k)) rfl (by kernel_rfl) (by kernel_rfl) (by kernel_rfl) (fun _ _ _ h => h) (Or.inl ⟨by rfl, ?y232⟩) (⟨rl8, co, csh, crk⟩) ?r232
           case y232 =>
            intro w_ hS_
            simp only [List.getElem_toArray, List.getElem_cons_succ, List.getElem_cons_zero]
            exact e_load_part 23 _ (by rfl) (go) 3 (by rfl) 30 (opr x) (0, 0) (irow .u8 x.k) _ (hS_.1) (op_k x hxo.1.1) Tryd.underlying23 rfl (infoKy _ hxo.1.1)
           simp only [Act.put, List.getElem_toArray, List.getElem_cons_succ, List.getElem_cons_zero, List.setIfInBounds_toArray, List.set_cons_succ, List.set_cons_zero]
           refine wpAnyH_take (i := 25) (v := .bool xQ) rfl (by kernel_rfl) (by kernel_rfl) (by kernel_rfl) (fun _ _ _ h => h) (Or.inl ⟨by rfl, ?y233⟩) (⟨rl8, co, csh, crk⟩) ?r233
           case y233 =>
            intro w_ hS_
            go_simp
            try with_reducible rfl
           simp only [Act.put, List.getElem_toArray, List.getElem_cons_succ, List.getElem_cons_zero, List.setIfInBounds_toArray, List.set_cons_succ, List.set_cons_zero]
           refine wpAnyH_take (i := 26) (v := .bool xQ) rfl (by kernel_rfl) (by kernel_rfl) (by kernel_rfl) (fun _ _ _ h => h) (Or.inl ⟨by rfl, ?y234⟩) (⟨rl8, co, csh, crk⟩) ?r234
           case y234 =>
            intro w_ hS_
            go_simp
            try with_reducible rfl
           simp only [Act.put, List.getElem_toArray, List.getElem_cons_succ, List.getElem_cons_zero, List.setIfInBounds_toArray, List.set_cons_succ, List.set_cons_zero]
           refine wpAnyH_take (i := 27) (v := .bool xQ) rfl (by kernel_rfl) (by kernel_rfl) (by kernel_rfl) (fun _ _ _ h => h) (Or.inl ⟨by rfl, ?y235⟩) (⟨rl8, co, csh, crk⟩) ?r235
           case y235 =>
            intro w_ hS_
            go_simp
            try with_reducible rfl
           simp only [Act.put, List.getElem_toArray, List.getElem_cons_succ, List.getElem_cons_zero, List.setIfInBounds_toArray, List.set_cons_succ, List.set_cons_zero]
           refine wpAnyH_done (by kernel_rfl) ?_ _
           refine NoPanic.normal ?_
           have dz : (z.1 == 0) = xQ := by
            have e : (z.1 == 0) = decide (z.1 = 0) := by by_cases h : z.1 = 0 <;> simp [h]
            rw [e, hse1]
            unfold thr
            rw [dO, dS, dQ]
            rfl
           clear hse1
           cases xQ
           ·skip
            go_wp2_with (fail)
            have hb : Below wd207.heap.size wd207 wd207.drew := below_drN (Below.refl _ _) 1
            replace rp0 := keep hb rp0
            replace rl8 := keep hb rl8
            replace co := (World.cell?_of_block (hb.block _ hgl2)).trans co
            replace csh := (World.cell?_of_block (hb.block _ hgl2)).trans csh
            replace crk := rangeAt_keep crk (hb.block _ hgl2)
            replace hgl2 := Nat.lt_of_lt_of_le hgl2 hb.size
            replace hB3 := hB3.keep hb
            replace hO3 := hO3.keep hb
            replace hw := Below.after hw hb
            clear hb
            refine wp_region_noPanic ?_
            refine wp_region_held (S := fun W_ => W_.heap[go]? = some (.cells (opr x) 30 (0, 0)) ∧ W_.cell? ⟨gl, k * 35 + 33, none⟩ = some (.bool false) ∧ W_.cell? ⟨gl, k * 35 + 34, none⟩ = some (.bool false) ∧ W_.rangeAt gl (k * 35 + 1) (k8 a.k)) (by kernel_rfl) ?_
            change wpAnyH _ _ _ _ _ _ _ _ (World.drew _)
            generalize wd207.drew = wd236 at *
            refine wpAnyH_take (i := 0) (v := ?v237) rfl (by kernel_rfl) (by kernel_rfl) (by kernel_rfl) (fun _ _ _ h => h) (Or.inl ⟨by rfl, ?y237⟩) (⟨rl8, co, csh, crk⟩) ?r237
            case y237 =>
             intro w_ hS_
             go_simp
             try with_reducible rfl
            simp only [Act.put, List.getElem_toArray, List.getElem_cons_zero, List.setIfInBounds_toArray, List.set_cons_succ, List.set_cons_zero]
            refine wpAnyH_take (i := 1) (v := ?v238) rfl (by kernel_rfl) (by kernel_rfl) (by kernel_rfl) (fun _ _ _ h => h) (Or.inl ⟨by rfl, ?y238⟩) (⟨rl8, co, csh, crk⟩) ?r238
            case y238 =>
             intro w_ hS_
             go_simp
             try with_reducible rfl
            simp only [Act.put, List.getElem_toArray, List.getElem_cons_succ, List.getElem_cons_zero, List.setIfInBounds_toArray, List.set_cons_succ, List.set_cons_zero]
            refine wpAnyH_take (i := 2) (v := ?v239) rfl (by kernel_rfl) (by kernel_rfl) (by kernel_rfl) (fun _ _ _ h => h) (Or.inl ⟨by rfl, ?y239⟩) (⟨rl8, co, csh, crk⟩) ?r239
            case y239 =>
             intro w_ hS_
             go_simp
             try with_reducible rfl
            simp only [Act.put, List.getElem_toArray, List.getElem_cons_succ, List.getElem_cons_zero, List.setIfInBounds_toArray, List.set_cons_succ, List.set_cons_zero]
            refine wpAnyH_take (i := 3) (v := ?v240) rfl (by kernel_rfl) (by kernel_rfl) (by kernel_rfl) (fun _ _ _ h => h) (Or.inl ⟨by rfl, ?y240⟩) (⟨rl8, co, csh, crk⟩) ?r240
            case y240 =>
             intro w_ hS_
             go_simp
             try with_reducible rfl
            simp only [Act.put, List.getElem_toArray, List.getElem_cons_succ, List.getElem_cons_zero, List.setIfInBounds_toArray, List.set_cons_succ, List.set_cons_zero]
            refine wpAnyH_take (i := 4) (v := .pointer (some ⟨gl, k * 35, none⟩)) rfl (by kernel_rfl) (by kernel_rfl) (by kernel_rfl) (fun _ _ _ h => h) (Or.inl ⟨by rfl, ?y241⟩) (⟨rl8, co, csh, crk⟩) ?r241
            case y241 =>
             intro w_ hS_
             go_simp
             try with_reducible rfl
            simp only [Act.put, List.getElem_toArray, List.getElem_cons_succ, List.getElem_cons_zero, List.setIfInBounds_toArray, List.set_cons_succ, List.set_cons_zero]
            refine wpAnyH_take (i := 5) (v := .pointer (some ⟨gl, k * 35 + 34, none⟩)) rfl (by kernel_rfl) (by kernel_rfl) (by kernel_rfl) (fun _ _ _ h => h) (Or.inl ⟨by rfl, ?y242⟩) (⟨rl8, co, csh, crk⟩) ?r242
            case y242 =>
             intro w_ hS_
             go_simp
             try with_reducible rfl
            simp only [Act.put, List.getElem_toArray, List.getElem_cons_succ, List.getElem_cons_zero, List.setIfInBounds_toArray, List.set_cons_succ, List.set_cons_zero]
            refine wpAnyH_take (i := 6) (v := .bool false) rfl (by kernel_rfl) (by kernel_rfl) (by kernel_rfl) (fun _ _ _ h => h) (Or.inl ⟨by rfl, ?y243⟩) (⟨rl8, co, csh, crk⟩) ?r243
            case y243 =>
             intro w_ hS_
             have c_ := hS_.2.2.1
             go_simp
             try with_reducible rfl
            simp only [Act.put, List.getElem_toArray, List.getElem_cons_succ, List.getElem_cons_zero, List.setIfInBounds_toArray, List.set_cons_succ, List.set_cons_zero]
            refine wpAnyH_take (i := 7) (v := .bool true) rfl (by kernel_rfl) (by kernel_rfl) (by kernel_rfl) (fun _ _ _ h => h) (Or.inl ⟨by rfl, ?y244⟩) (⟨rl8, co, csh, crk⟩) ?r244
            case y244 =>
             intro w_ hS_
             go_simp
             try with_reducible rfl
            simp only [Act.put, List.getElem_toArray, List.getElem_cons_succ, List.getElem_cons_zero, List.setIfInBounds_toArray, List.set_cons_succ, List.set_cons_zero]
            refine wpAnyH_take (i := 8) (v := .bool true) rfl (by kernel_rfl) (by kernel_rfl) (by kernel_rfl) (fun _ _ _ h => h) (Or.inl ⟨by rfl, ?y245⟩) (⟨rl8, co, csh, crk⟩) ?r245
            case y245 =>
             intro w_ hS_
             go_simp
             try with_reducible rfl
            simp only [Act.put, List.getElem_toArray, List.getElem_cons_succ, List.getElem_cons_zero, List.setIfInBounds_toArray, List.set_cons_succ, List.set_cons_zero]
            refine wpAnyH_take (i := 9) (v := .bool true) rfl (by kernel_rfl) (by kernel_rfl) (by kernel_rfl) (fun _ _ _ h => h) (Or.inl ⟨by rfl, ?y246⟩) (⟨rl8, co, csh, crk⟩) ?r246
            case y246 =>
             intro w_ hS_
             go_simp
             try with_reducible rfl
            simp only [Act.put, List.getElem_toArray, List.getElem_cons_succ, List.getElem_cons_zero, List.setIfInBounds_toArray, List.set_cons_succ, List.set_cons_zero]
            refine wpAnyH_take (i := 10) (v := ?v247) rfl (by kernel_rfl) (by kernel_rfl) (by kernel_rfl) (fun _ _ _ h => h) (Or.inl ⟨by rfl, ?y247⟩) (⟨rl8, co, csh, crk⟩) ?r247
            case y247 =>
             intro w_ hS_
             go_simp
             try with_reducible rfl
            simp only [Act.put, List.getElem_toArray, List.getElem_cons_succ, List.getElem_cons_zero, List.setIfInBounds_toArray, List.set_cons_succ, List.set_cons_zero]
            refine wpAnyH_take (i := 11) (v := ?v248) rfl (by kernel_rfl) (by kernel_rfl) (by kernel_rfl) (fun _ _ _ h => h) (Or.inl ⟨by rfl, ?y248⟩) (⟨rl8, co, csh, crk⟩) ?r248
            case y248 =>
             intro w_ hS_
             go_simp
             try with_reducible rfl
            simp only [Act.put, List.getElem_toArray, List.getElem_cons_succ, List.getElem_cons_zero, List.setIfInBounds_toArray, List.set_cons_succ, List.set_cons_zero]
            refine wpAnyH_take (i := 12) (v := .pointer (some ⟨gl, k * 35, none⟩)) rfl (by kernel_rfl) (by kernel_rfl) (by kernel_rfl) (fun _ _ _ h => h) (Or.inl ⟨by rfl, ?y249⟩) (⟨rl8, co, csh, crk⟩) ?r249
            case y249 =>
             intro w_ hS_
             go_simp
             try with_reducible rfl
            simp only [Act.put, List.getElem_toArray, List.getElem_cons_succ, List.getElem_cons_zero, List.setIfInBounds_toArray, List.set_cons_succ, List.set_cons_zero]
            refine wpAnyH_take (i := 13) (v := .pointer (some ⟨gl, k * 35 + 1, none⟩)) rfl (by kernel_rfl) (by kernel_rfl) (by kernel_rfl) (fun _ _ _ h => h) (Or.inl ⟨by rfl, ?y250⟩) (⟨rl8, co, csh, crk⟩) ?r250
            case y250 =>
             intro w_ hS_
             go_simp
             try with_reducible rfl
            simp only [Act.put, List.getElem_toArray, List.getElem_cons_succ, List.getElem_cons_zero, List.setIfInBounds_toArray, List.set_cons_succ, List.set_cons_zero]
            refine wpAnyH_take (i := 14) (v := .agg (irow .u8 a.k)) rfl (by kernel_rfl) (by kernel_rfl) (by kernel_rfl) (fun _ _ _ h => h) (Or.inl ⟨by rfl, ?y251⟩) (⟨rl8, co, csh, crk⟩) ?r251
            case y251 =>
             intro w_ hS_
             simp only [List.getElem_toArray, List.getElem_cons_succ, List.getElem_cons_zero]
             exact run_load_range 23 _ (by rfl) gl (k * 35 + 1) (by rfl) (k8 a.k) _ (hS_.2.2.2) Tryd.underlying23 rfl (by rw [k8_len, haok.1]; kernel_rfl)
            simp only [Act.put, List.getElem_toArray, List.getElem_cons_succ, List.getElem_cons_zero, List.setIfInBounds_toArray, List.set_cons_succ, List.set_cons_zero]
            refine wpAnyH_take (i := 15) (v := ?v252) rfl (by kernel_rfl) (by kernel_rfl) (by kernel_rfl) (fun _ _ _ h => h) (Or.inl ⟨by rfl, ?y252⟩) (⟨rl8, co, csh, crk⟩) ?r252
            case y252 =>
             intro w_ hS_
             go_simp
             try with_reducible rfl
            simp only [Act.put, List.getElem_toArray, List.getElem_cons_succ, List.getElem_cons_zero, List.setIfInBounds_toArray, List.set_cons_succ, List.set_cons_zero]
            refine wpAnyH_take (i := 16) (v := .agg (irow .u8 x.k)) rfl (by kernel_rfl) (by kernel_rfl) (by kernel_rfl) (fun _ _ _ h => h) (Or.inl ⟨by rfl, ?y253⟩) (⟨rl8, co, csh, crk⟩) ?r253
            case y253 =>
             intro w_ hS_
             simp only [List.getElem_toArray, List.getElem_cons_succ, List.getElem_cons_zero]
             exact e_load_part 23 _ (by rfl) (go) 3 (by rfl) 30 (opr x) (0, 0) (irow .u8 x.k) _ (hS_.1) (op_k x hxo.1.1) Tryd.underlying23 rfl (infoKy _ hxo.1.1)
            simp only [Act.put, List.getElem_toArray, List.getElem_cons_succ, List.getElem_cons_zero, List.setIfInBounds_toArray, List.set_cons_succ, List.set_cons_zero]
            refine wpAnyH_take (i := 17) (v := .bool true) rfl (by kernel_rfl) (by kernel_rfl) (by kernel_rfl) (fun _ _ _ h => h) (Or.inl ⟨by rfl, ?y254⟩) (⟨rl8, co, csh, crk⟩) ?r254
            case y254 =>
             intro w_ hS_
             go_simp
             try with_reducible rfl
            simp only [Act.put, List.getElem_toArray, List.getElem_cons_succ, List.getElem_cons_zero, List.setIfInBounds_toArray, List.set_cons_succ, List.set_cons_zero]
            refine wpAnyH_take (i := 18) (v := .bool true) rfl (by kernel_rfl) (by kernel_rfl) (by kernel_rfl) (fun _ _ _ h => h) (Or.inl ⟨by rfl, ?y255⟩) (⟨rl8, co, csh, crk⟩) ?r255
            case y255 =>
             intro w_ hS_
             go_simp
             try with_reducible rfl
            simp only [Act.put, List.getElem_toArray, List.getElem_cons_succ, List.getElem_cons_zero, List.setIfInBounds_toArray, List.set_cons_succ, List.set_cons_zero]
            refine wpAnyH_done (by kernel_rfl) ?_ _
            refine NoPanic.normal ?_
            rw [if_pos (by first | exact ⟨rfl, (by simpa using dQ : ¬ a.k = x.k)⟩ | exact ⟨trivial, (by simpa using dQ : ¬ a.k = x.k)⟩)] at hse2
            obtain ⟨cur, hcur, hcsz, hcl_, -, -, hbg_, -⟩ := hO3.cur
            have hpt := hO3.part hcur hkl
            rw [hak] at hpt
            have hset : cur.setIfInBounds (k * 35 + 33) (.bool true) = (ovw cur (k * 35) (knl (⟨a.n, a.k, true, false⟩ : Kn))) := by
             rw [set_one (.bool true) hpt (by rw [knl_len a haok.1]; decide), knl_seto a haok.1, dS]
            have hlt3 : k * 35 + 33 < cur.size := by rw [hcsz]; omega
            have hO4 := hO3.put hcur hkl (a := (⟨a.n, a.k, true, false⟩ : Kn)) haok
            have hB4 : Bk (wd236.setRow gl (ovw cur (k * 35) (knl (⟨a.n, a.k, true, false⟩ : Kn)))) b g ve2 vc2 y _ _ := hB3.known hO3 (fun k_ _ hne => setRow_other wd236 gl k_ (ovw cur (k * 35) (knl (⟨a.n, a.k, true, false⟩ : Kn))) (fun e => hne (by rw [e]; rfl)))
            have hw4 := below_setRow hw (Nat.le_trans hwb hbg_) (ovw cur (k * 35) (knl (⟨a.n, a.k, true, false⟩ : Kn)))
            have rp4 := (setRow_other wd236 gl w.heap.size (ovw cur (k * 35) (knl (⟨a.n, a.k, true, false⟩ : Kn))) (fun e => own_type hO3.1 rp0 (by decide) (by rw [← e]; rfl))).trans rp0
            have hll4 : (l.set k (⟨a.n, a.k, true, false⟩ : Kn)).length ≤ i + 1 := by rw [List.length_set]; omega
            have hOl : OwnN (wd236.setRow gl (ovw cur (k * 35) (knl (⟨a.n, a.k, true, false⟩ : Kn)))) b (.slice (some ⟨gl, 0, none⟩) (l.set k (⟨a.n, a.k, true, false⟩ : Kn)).length cap) (l.set k (⟨a.n, a.k, true, false⟩ : Kn)) := by rw [List.length_set]; exact hO4
            clear hpt
            go_wp2_with (first | (refine wpList_load_part rfl 23 _ rfl (w.heap.size) 0 rfl 23 (irow .u8 y) (0, 0) (irow .u8 y) _ rp0 (all_rowe _) Tryd.underlying23 rfl (infoKy _ hy.1) ?_) | (refine wpList_load_part rfl 23 _ rfl (go) 3 rfl 30 (opr x) (0, 0) (irow .u8 x.k) _ rl8 (op_k x hxo.1.1) Tryd.underlying23 rfl (infoKy _ hxo.1.1) ?_) | (refine wpList_load_part rfl 30 _ rfl (go) 0 rfl 30 (opr x) (0, 0) (opr x) _ rl8 (all_rowe _) Tryd.underlying30 rfl (op_info _ hxo.1.1) ?_) | (refine wpList_store_cell rfl 4 _ _ rfl gl (k * 35 + 33) (.bool true) rfl rfl 32 cur (ovw cur (k * 35) (knl (⟨a.n, a.k, true, false⟩ : Kn))) hcur hlt3 hset (by kernel_rfl) rfl ?_) | fail)
            refine ⟨⟨i + 1, _, _, _, _, _, by go_num, by omega, by omega, ⟨hB4, hO4, hse2, hfl, hll4, hw4, hwb⟩, rp4⟩, ?_⟩
            simp [intOf]; omega
           ·skip
            go_wp2_with (fail)
            have hb : Below wd207.heap.size wd207 wd207.drew := below_drN (Below.refl _ _) 1
            replace rp0 := keep hb rp0
            replace rl8 := keep hb rl8
            replace co := (World.cell?_of_block (hb.block _ hgl2)).trans co
            replace csh := (World.cell?_of_block (hb.block _ hgl2)).trans csh
            replace crk := rangeAt_keep crk (hb.block _ hgl2)
            replace hgl2 := Nat.lt_of_lt_of_le hgl2 hb.size
            replace hB3 := hB3.keep hb
            replace hO3 := hO3.keep hb
            replace hw := Below.after hw hb
            clear hb
            refine wp_region_noPanic ?_
            refine wp_region_held (S := fun W_ => W_.heap[go]? = some (.cells (opr x) 30 (0, 0)) ∧ W_.cell? ⟨gl, k * 35 + 33, none⟩ = some (.bool false) ∧ W_.cell? ⟨gl, k * 35 + 34, none⟩ = some (.bool false) ∧ W_.rangeAt gl (k * 35 + 1) (k8 a.k)) (by kernel_rfl) ?_
            change wpAnyH _ _ _ _ _ _ _ _ (World.drew _)
            generalize wd207.drew = wd256 at *
            refine wpAnyH_take (i := 0) (v := ?v257) rfl (by kernel_rfl) (by kernel_rfl) (by kernel_rfl) (fun _ _ _ h => h) (Or.inl ⟨by rfl, ?y257⟩) (⟨rl8, co, csh, crk⟩) ?r257
            case y257 =>
             intro w_ hS_
             go_simp
             try with_reducible rfl
            simp only [Act.put, List.getElem_toArray, List.getElem_cons_zero, List.setIfInBounds_toArray, List.set_cons_succ, List.set_cons_zero]
            refine wpAnyH_take (i := 1) (v := ?v258) rfl (by kernel_rfl) (by kernel_rfl) (by kernel_rfl) (fun _ _ _ h => h) (Or.inl ⟨by rfl, ?y258⟩) (⟨rl8, co, csh, crk⟩) ?r258
            case y258 =>
             intro w_ hS_
             go_simp
             try with_reducible rfl
            simp only [Act.put, List.getElem_toArray, List.getElem_cons_succ, List.getElem_cons_zero, List.setIfInBounds_toArray, List.set_cons_succ, List.set_cons_zero]
            refine wpAnyH_take (i := 2) (v := ?v259) rfl (by kernel_rfl) (by kernel_rfl) (by kernel_rfl) (fun _ _ _ h => h) (Or.inl ⟨by rfl, ?y259⟩) (⟨rl8, co, csh, crk⟩) ?r259
            case y259 =>
             intro w_ hS_
             go_simp
             try with_reducible rfl
            simp only [Act.put, List.getElem_toArray, List.getElem_cons_succ, List.getElem_cons_zero, List.setIfInBounds_toArray, List.set_cons_succ, List.set_cons_zero]
            refine wpAnyH_take (i := 3) (v := ?v260) rfl (by kernel_rfl) (by kernel_rfl) (by kernel_rfl) (fun _ _ _ h => h) (Or.inl ⟨by rfl, ?y260⟩) (⟨rl8, co, csh, crk⟩) ?r260
            case y260 =>
             intro w_ hS_
             go_simp
             try with_reducible rfl
            simp only [Act.put, List.getElem_toArray, List.getElem_cons_succ, List.getElem_cons_zero, List.setIfInBounds_toArray, List.set_cons_succ, List.set_cons_zero]
            refine wpAnyH_take (i := 4) (v := .pointer (some ⟨gl, k * 35, none⟩)) rfl (by kernel_rfl) (by kernel_rfl) (by kernel_rfl) (fun _ _ _ h => h) (Or.inl ⟨by rfl, ?y261⟩) (⟨rl8, co, csh, crk⟩) ?r261
            case y261 =>
             intro w_ hS_
             go_simp
             try with_reducible rfl
            simp only [Act.put, List.getElem_toArray, List.getElem_cons_succ, List.getElem_cons_zero, List.setIfInBounds_toArray, List.set_cons_succ, List.set_cons_zero]
            refine wpAnyH_take (i := 5) (v := .pointer (some ⟨gl, k * 35 + 34, none⟩)) rfl (by kernel_rfl) (by kernel_rfl) (by kernel_rfl) (fun _ _ _ h => h) (Or.inl ⟨by rfl, ?y262⟩) (⟨rl8, co, csh, crk⟩) ?r262
            case y262 =>
             intro w_ hS_
             go_simp
             try with_reducible rfl
            simp only [Act.put, List.getElem_toArray, List.getElem_cons_succ, List.getElem_cons_zero, List.setIfInBounds_toArray, List.set_cons_succ, List.set_cons_zero]
            refine wpAnyH_take (i := 6) (v := .bool false) rfl (by kernel_rfl) (by kernel_rfl) (by kernel_rfl) (fun _ _ _ h => h) (Or.inl ⟨by rfl, ?y263⟩) (⟨rl8, co, csh, crk⟩) ?r263
            case y263 =>
             intro w_ hS_
             have c_ := hS_.2.2.1
             go_simp
             try with_reducible rfl
            simp only [Act.put, List.getElem_toArray, List.getElem_cons_succ, List.getElem_cons_zero, List.setIfInBounds_toArray, List.set_cons_succ, List.set_cons_zero]
            refine wpAnyH_take (i := 7) (v := .bool true) rfl (by kernel_rfl) (by kernel_rfl) (by kernel_rfl) (fun _ _ _ h => h) (Or.inl ⟨by rfl, ?y264⟩) (⟨rl8, co, csh, crk⟩) ?r264
            case y264 =>
             intro w_ hS_
             go_simp
             try with_reducible rfl
            simp only [Act.put, List.getElem_toArray, List.getElem_cons_succ, List.getElem_cons_zero, List.setIfInBounds_toArray, List.set_cons_succ, List.set_cons_zero]
            refine wpAnyH_take (i := 8) (v := .bool true) rfl (by kernel_rfl) (by kernel_rfl) (by kernel_rfl) (fun _ _ _ h => h) (Or.inl ⟨by rfl, ?y265⟩) (⟨rl8, co, csh, crk⟩) ?r265
            case y265 =>
             intro w_ hS_
             go_simp
             try with_reducible rfl
            simp only [Act.put, List.getElem_toArray, List.getElem_cons_succ, List.getElem_cons_zero, List.setIfInBounds_toArray, List.set_cons_succ, List.set_cons_zero]
            refine wpAnyH_take (i := 9) (v := .bool true) rfl (by kernel_rfl) (by kernel_rfl) (by kernel_rfl) (fun _ _ _ h => h) (Or.inl ⟨by rfl, ?y266⟩) (⟨rl8, co, csh, crk⟩) ?r266
            case y266 =>
             intro w_ hS_
             go_simp
             try with_reducible rfl
            simp only [Act.put, List.getElem_toArray, List.getElem_cons_succ, List.getElem_cons_zero, List.setIfInBounds_toArray, List.set_cons_succ, List.set_cons_zero]
            refine wpAnyH_take (i := 10) (v := ?v267) rfl (by kernel_rfl) (by kernel_rfl) (by kernel_rfl) (fun _ _ _ h => h) (Or.inl ⟨by rfl, ?y267⟩) (⟨rl8, co, csh, crk⟩) ?r267
            case y267 =>
             intro w_ hS_
             go_simp
             try with_reducible rfl
            simp only [Act.put, List.getElem_toArray, List.getElem_cons_succ, List.getElem_cons_zero, List.setIfInBounds_toArray, List.set_cons_succ, List.set_cons_zero]
            refine wpAnyH_take (i := 11) (v := ?v268) rfl (by kernel_rfl) (by kernel_rfl) (by kernel_rfl) (fun _ _ _ h => h) (Or.inl ⟨by rfl, ?y268⟩) (⟨rl8, co, csh, crk⟩) ?r268
            case y268 =>
             intro w_ hS_
             go_simp
             try with_reducible rfl
            simp only [Act.put, List.getElem_toArray, List.getElem_cons_succ, List.getElem_cons_zero, List.setIfInBounds_toArray, List.set_cons_succ, List.set_cons_zero]
            refine wpAnyH_take (i := 12) (v := .pointer (some ⟨gl, k * 35, none⟩)) rfl (by kernel_rfl) (by kernel_rfl) (by kernel_rfl) (fun _ _ _ h => h) (Or.inl ⟨by rfl, ?y269⟩) (⟨rl8, co, csh, crk⟩) ?r269
            case y269 =>
             intro w_ hS_
             go_simp
             try with_reducible rfl
            simp only [Act.put, List.getElem_toArray, List.getElem_cons_succ, List.getElem_cons_zero, List.setIfInBounds_toArray, List.set_cons_succ, List.set_cons_zero]
            refine wpAnyH_take (i := 13) (v := .pointer (some ⟨gl, k * 35 + 1, none⟩)) rfl (by kernel_rfl) (by kernel_rfl) (by kernel_rfl) (fun _ _ _ h => h) (Or.inl ⟨by rfl, ?y270⟩) (⟨rl8, co, csh, crk⟩) ?r270
            case y270 =>
             intro w_ hS_
             go_simp
             try with_reducible rfl
            simp only [Act.put, List.getElem_toArray, List.getElem_cons_succ, List.getElem_cons_zero, List.setIfInBounds_toArray, List.set_cons_succ, List.set_cons_zero]
            refine wpAnyH_take (i := 14) (v := .agg (irow .u8 a.k)) rfl (by kernel_rfl) (by kernel_rfl) (by kernel_rfl) (fun _ _ _ h => h) (Or.inl ⟨by rfl, ?y271⟩) (⟨rl8, co, csh, crk⟩) ?r271
            case y271 =>
             intro w_ hS_
             simp only [List.getElem_toArray, List.getElem_cons_succ, List.getElem_cons_zero]
             exact run_load_range 23 _ (by rfl) gl (k * 35 + 1) (by rfl) (k8 a.k) _ (hS_.2.2.2) Tryd.underlying23 rfl (by rw [k8_len, haok.1]; kernel_rfl)
            simp only [Act.put, List.getElem_toArray, List.getElem_cons_succ, List.getElem_cons_zero, List.setIfInBounds_toArray, List.set_cons_succ, List.set_cons_zero]
            refine wpAnyH_take (i := 15) (v := ?v272) rfl (by kernel_rfl) (by kernel_rfl) (by kernel_rfl) (fun _ _ _ h => h) (Or.inl ⟨by rfl, ?y272⟩) (⟨rl8, co, csh, crk⟩) ?r272
            case y272 =>
             intro w_ hS_
             go_simp
             try with_reducible rfl
            simp only [Act.put, List.getElem_toArray, List.getElem_cons_succ, List.getElem_cons_zero, List.setIfInBounds_toArray, List.set_cons_succ, List.set_cons_zero]
            refine wpAnyH_take (i := 16) (v := .agg (irow .u8 x.k)) rfl (by kernel_rfl) (by kernel_rfl) (by kernel_rfl) (fun _ _ _ h => h) (Or.inl ⟨by rfl, ?y273⟩) (⟨rl8, co, csh, crk⟩) ?r273
            case y273 =>
             intro w_ hS_
             simp only [List.getElem_toArray, List.getElem_cons_succ, List.getElem_cons_zero]
             exact e_load_part 23 _ (by rfl) (go) 3 (by rfl) 30 (opr x) (0, 0) (irow .u8 x.k) _ (hS_.1) (op_k x hxo.1.1) Tryd.underlying23 rfl (infoKy _ hxo.1.1)
            simp only [Act.put, List.getElem_toArray, List.getElem_cons_succ, List.getElem_cons_zero, List.setIfInBounds_toArray, List.set_cons_succ, List.set_cons_zero]
            refine wpAnyH_take (i := 17) (v := .bool false) rfl (by kernel_rfl) (by kernel_rfl) (by kernel_rfl) (fun _ _ _ h => h) (Or.inl ⟨by rfl, ?y274⟩) (⟨rl8, co, csh, crk⟩) ?r274
            case y274 =>
             intro w_ hS_
             go_simp
             try with_reducible rfl
            simp only [Act.put, List.getElem_toArray, List.getElem_cons_succ, List.getElem_cons_zero, List.setIfInBounds_toArray, List.set_cons_succ, List.set_cons_zero]
            refine wpAnyH_take (i := 18) (v := .bool false) rfl (by kernel_rfl) (by kernel_rfl) (by kernel_rfl) (fun _ _ _ h => h) (Or.inl ⟨by rfl, ?y275⟩) (⟨rl8, co, csh, crk⟩) ?r275
            case y275 =>
             intro w_ hS_
             go_simp
             try with_reducible rfl
            simp only [Act.put, List.getElem_toArray, List.getElem_cons_succ, List.getElem_cons_zero, List.setIfInBounds_toArray, List.set_cons_succ, List.set_cons_zero]
            refine wpAnyH_done (by kernel_rfl) ?_ _
            refine NoPanic.normal ?_
            rw [if_neg (fun h => h.2 (by simpa using dQ))] at hse2
            go_wp2_with (first | (refine wpList_load_part rfl 23 _ rfl (w.heap.size) 0 rfl 23 (irow .u8 y) (0, 0) (irow .u8 y) _ rp0 (all_rowe _) Tryd.underlying23 rfl (infoKy _ hy.1) ?_) | (refine wpList_load_part rfl 23 _ rfl (go) 3 rfl 30 (opr x) (0, 0) (irow .u8 x.k) _ rl8 (op_k x hxo.1.1) Tryd.underlying23 rfl (infoKy _ hxo.1.1) ?_) | (refine wpList_load_part rfl 30 _ rfl (go) 0 rfl 30 (opr x) (0, 0) (opr x) _ rl8 (all_rowe _) Tryd.underlying30 rfl (op_info _ hxo.1.1) ?_) | fail)
            refine ⟨⟨i + 1, _, _, _, _, _, by go_num, by omega, by omega, ⟨hB3, hO3, hse2, hfl, by omega, hw, hwb⟩, rp0⟩, ?_⟩
            simp [intOf]; omega
         ·as_aux_lemma =>
           have hb : Below wS206.heap.size wS206 wS206.drew := below_drN (Below.refl _ _) 1
           replace rp0 := keep hb rp0
           replace rl8 := keep hb rl8
           replace co := (World.cell?_of_block (hb.block _ hgl2)).trans co
           replace csh := (World.cell?_of_block (hb.block _ hgl2)).trans csh
           replace crk := rangeAt_keep crk (hb.block _ hgl2)
           replace hgl2 := Nat.lt_of_lt_of_le hgl2 hb.size
           replace hB3 := hB3.keep hb
           replace hO3 := hO3.keep hb
           replace hw := Below.after hw hb
           clear hb
           refine wp_region_noPanic ?_
           refine wp_region_held (S := fun W_ => W_.heap[go]? = some (.cells (opr x) 30 (0, 0)) ∧ W_.cell? ⟨gl, k * 35 + 33, none⟩ = some (.bool false) ∧ W_.cell? ⟨gl, k * 35 + 34, none⟩ = some (.bool true) ∧ W_.rangeAt gl (k * 35 + 1) (k8 a.k)) (by kernel_rfl) ?_
           change wpAnyH _ _ _ _ _ _ _ _ (World.drew _)
           generalize wS206.drew = wd276 at *
           refine wpAnyH_take (i := 0) (v := ?v277) rfl (by kernel_rfl) (by kernel_rfl) (by kernel_rfl) (fun _ _ _ h => h) (Or.inl ⟨by rfl, ?y277⟩) (⟨rl8, co, csh, crk⟩) ?r277
           case y277 =>
            intro w_ hS_
            go_simp
            try with_reducible rfl
           simp only [Act.put, List.getElem_toArray, List.getElem_cons_zero, List.setIfInBounds_toArray, List.set_cons_succ, List.set_cons_zero]
           refine wpAnyH_take (i := 1) (v := ?v278) rfl (by kernel_rfl) (by kernel_rfl) (by kernel_rfl) (fun _ _ _ h => h) (Or.inl ⟨by rfl, ?y278⟩) (⟨rl8, co, csh, crk⟩) ?r278
           case y278 =>
            intro w_ hS_
            go_simp
            try with_reducible rfl
           simp only [Act.put, List.getElem_toArray, List.getElem_cons_succ, List.getElem_cons_zero, List.setIfInBounds_toArray, List.set_cons_succ, List.set_cons_zero]
           refine wpAnyH_take (i := 2) (v := ?v279) rfl (by kernel_rfl) (by kernel_rfl) (by kernel_rfl) (fun _ _ _ h => h) (Or.inl ⟨by rfl, ?y279⟩) (⟨rl8, co, csh, crk⟩) ?r279
           case y279 =>
            intro w_ hS_
            go_simp
            try with_reducible rfl
           simp only [Act.put, List.getElem_toArray, List.getElem_cons_succ, List.getElem_cons_zero, List.setIfInBounds_toArray, List.set_cons_succ, List.set_cons_zero]
           refine wpAnyH_take (i := 3) (v := ?v280) rfl (by kernel_rfl) (by kernel_rfl) (by kernel_rfl) (fun _ _ _ h => h) (Or.inl ⟨by rfl, ?y280⟩) (⟨rl8, co, csh, crk⟩) ?r280
           case y280 =>
            intro w_ hS_
            go_simp
            try with_reducible rfl
           simp only [Act.put, List.getElem_toArray, List.getElem_cons_succ, List.getElem_cons_zero, List.setIfInBounds_toArray, List.set_cons_succ, List.set_cons_zero]
           refine wpAnyH_take (i := 4) (v := .pointer (some ⟨gl, k * 35, none⟩)) rfl (by kernel_rfl) (by kernel_rfl) (by kernel_rfl) (fun _ _ _ h => h) (Or.inl ⟨by rfl, ?y281⟩) (⟨rl8, co, csh, crk⟩) ?r281
           case y281 =>
            intro w_ hS_
            go_simp
            try with_reducible rfl
           simp only [Act.put, List.getElem_toArray, List.getElem_cons_succ, List.getElem_cons_zero, List.setIfInBounds_toArray, List.set_cons_succ, List.set_cons_zero]
           refine wpAnyH_take (i := 5) (v := .pointer (some ⟨gl, k * 35 + 33, none⟩)) rfl (by kernel_rfl) (by kernel_rfl) (by kernel_rfl) (fun _ _ _ h => h) (Or.inl ⟨by rfl, ?y282⟩) (⟨rl8, co, csh, crk⟩) ?r282
           case y282 =>
            intro w_ hS_
            go_simp
            try with_reducible rfl
           simp only [Act.put, List.getElem_toArray, List.getElem_cons_succ, List.getElem_cons_zero, List.setIfInBounds_toArray, List.set_cons_succ, List.set_cons_zero]
           refine wpAnyH_take (i := 6) (v := .bool false) rfl (by kernel_rfl) (by kernel_rfl) (by kernel_rfl) (fun _ _ _ h => h) (Or.inl ⟨by rfl, ?y283⟩) (⟨rl8, co, csh, crk⟩) ?r283
           case y283 =>
            intro w_ hS_
            have c_ := hS_.2.1
            go_simp
            try with_reducible rfl
           simp only [Act.put, List.getElem_toArray, List.getElem_cons_succ, List.getElem_cons_zero, List.setIfInBounds_toArray, List.set_cons_succ, List.set_cons_zero]
           refine wpAnyH_take (i := 7) (v := .bool true) rfl (by kernel_rfl) (by kernel_rfl) (by kernel_rfl) (fun _ _ _ h => h) (Or.inl ⟨by rfl, ?y284⟩) (⟨rl8, co, csh, crk⟩) ?r284
           case y284 =>
            intro w_ hS_
            go_simp
            try with_reducible rfl
           simp only [Act.put, List.getElem_toArray, List.getElem_cons_succ, List.getElem_cons_zero, List.setIfInBounds_toArray, List.set_cons_succ, List.set_cons_zero]
           refine wpAnyH_take (i := 8) (v := .bool true) rfl (by kernel_rfl) (by kernel_rfl) (by kernel_rfl) (fun _ _ _ h => h) (Or.inl ⟨by rfl, ?y285⟩) (⟨rl8, co, csh, crk⟩) ?r285
           case y285 =>
            intro w_ hS_
            go_simp
            try with_reducible rfl
           simp only [Act.put, List.getElem_toArray, List.getElem_cons_succ, List.getElem_cons_zero, List.setIfInBounds_toArray, List.set_cons_succ, List.set_cons_zero]
           refine wpAnyH_take (i := 9) (v := .bool true) rfl (by kernel_rfl) (by kernel_rfl) (by kernel_rfl) (fun _ _ _ h => h) (Or.inl ⟨by rfl, ?y286⟩) (⟨rl8, co, csh, crk⟩) ?r286
           case y286 =>
            intro w_ hS_
            go_simp
            try with_reducible rfl
           simp only [Act.put, List.getElem_toArray, List.getElem_cons_succ, List.getElem_cons_zero, List.setIfInBounds_toArray, List.set_cons_succ, List.set_cons_zero]
           refine wpAnyH_take (i := 10) (v := ?v287) rfl (by kernel_rfl) (by kernel_rfl) (by kernel_rfl) (fun _ _ _ h => h) (Or.inl ⟨by rfl, ?y287⟩) (⟨rl8, co, csh, crk⟩) ?r287
           case y287 =>
            intro w_ hS_
            go_simp
            try with_reducible rfl
           simp only [Act.put, List.getElem_toArray, List.getElem_cons_succ, List.getElem_cons_zero, List.setIfInBounds_toArray, List.set_cons_succ, List.set_cons_zero]
           refine wpAnyH_take (i := 11) (v := ?v288) rfl (by kernel_rfl) (by kernel_rfl) (by kernel_rfl) (fun _ _ _ h => h) (Or.inl ⟨by rfl, ?y288⟩) (⟨rl8, co, csh, crk⟩) ?r288
           case y288 =>
            intro w_ hS_
            go_simp
            try with_reducible rfl
           simp only [Act.put, List.getElem_toArray, List.getElem_cons_succ, List.getElem_cons_zero, List.setIfInBounds_toArray, List.set_cons_succ, List.set_cons_zero]
           refine wpAnyH_take (i := 12) (v := .pointer (some ⟨gl, k * 35, none⟩)) rfl (by kernel_rfl) (by kernel_rfl) (by kernel_rfl) (fun _ _ _ h => h) (Or.inl ⟨by rfl, ?y289⟩) (⟨rl8, co, csh, crk⟩) ?r289
           case y289 =>
            intro w_ hS_
            go_simp
            try with_reducible rfl
           simp only [Act.put, List.getElem_toArray, List.getElem_cons_succ, List.getElem_cons_zero, List.setIfInBounds_toArray, List.set_cons_succ, List.set_cons_zero]
           refine wpAnyH_take (i := 13) (v := .pointer (some ⟨gl, k * 35 + 34, none⟩)) rfl (by kernel_rfl) (by kernel_rfl) (by kernel_rfl) (fun _ _ _ h => h) (Or.inl ⟨by rfl, ?y290⟩) (⟨rl8, co, csh, crk⟩) ?r290
           case y290 =>
            intro w_ hS_
            go_simp
            try with_reducible rfl
           simp only [Act.put, List.getElem_toArray, List.getElem_cons_succ, List.getElem_cons_zero, List.setIfInBounds_toArray, List.set_cons_succ, List.set_cons_zero]
           refine wpAnyH_take (i := 14) (v := .bool true) rfl (by kernel_rfl) (by kernel_rfl) (by kernel_rfl) (fun _ _ _ h => h) (Or.inl ⟨by rfl, ?y291⟩) (⟨rl8, co, csh, crk⟩) ?r291
           case y291 =>
            intro w_ hS_
            have c_ := hS_.2.2.1
            go_simp
            try with_reducible rfl
           simp only [Act.put, List.getElem_toArray, List.getElem_cons_succ, List.getElem_cons_zero, List.setIfInBounds_toArray, List.set_cons_succ, List.set_cons_zero]
           refine wpAnyH_take (i := 15) (v := .bool false) rfl (by kernel_rfl) (by kernel_rfl) (by kernel_rfl) (fun _ _ _ h => h) (Or.inl ⟨by rfl, ?y292⟩) (⟨rl8, co, csh, crk⟩) ?r292
           case y292 =>
            intro w_ hS_
            go_simp
            try with_reducible rfl
           simp only [Act.put, List.getElem_toArray, List.getElem_cons_succ, List.getElem_cons_zero, List.setIfInBounds_toArray, List.set_cons_succ, List.set_cons_zero]
           refine wpAnyH_take (i := 16) (v := .bool false) rfl (by kernel_rfl) (by kernel_rfl) (by kernel_rfl) (fun _ _ _ h => h) (Or.inl ⟨by rfl, ?y293⟩) (⟨rl8, co, csh, crk⟩) ?r293
           case y293 =>
            intro w_ hS_
            go_simp
            try with_reducible rfl
           simp only [Act.put, List.getElem_toArray, List.getElem_cons_succ, List.getElem_cons_zero, List.setIfInBounds_toArray, List.set_cons_succ, List.set_cons_zero]
           refine wpAnyH_take (i := 17) (v := .bool false) rfl (by kernel_rfl) (by kernel_rfl) (by kernel_rfl) (fun _ _ _ h => h) (Or.inl ⟨by rfl, ?y294⟩) (⟨rl8, co, csh, crk⟩) ?r294
           case y294 =>
            intro w_ hS_
            go_simp
            try with_reducible rfl
           simp only [Act.put, List.getElem_toArray, List.getElem_cons_succ, List.getElem_cons_zero, List.setIfInBounds_toArray, List.set_cons_succ, List.set_cons_zero]
           refine wpAnyH_take (i := 18) (v := undef) rfl (by kernel_rfl) (by kernel_rfl) (by kernel_rfl) (fun _ _ _ h => h) (Or.inr ⟨by rfl, rfl⟩) (⟨rl8, co, csh, crk⟩) ?_
           simp only [Act.put, List.getElem_toArray, List.getElem_cons_succ, List.getElem_cons_zero, List.setIfInBounds_toArray, List.set_cons_succ, List.set_cons_zero]
           refine wpAnyH_take (i := 19) (v := undef) rfl (by kernel_rfl) (by kernel_rfl) (by kernel_rfl) (fun _ _ _ h => h) (Or.inr ⟨by rfl, rfl⟩) (⟨rl8, co, csh, crk⟩) ?_
           simp only [Act.put, List.getElem_toArray, List.getElem_cons_succ, List.getElem_cons_zero, List.setIfInBounds_toArray, List.set_cons_succ, List.set_cons_zero]
           refine wpAnyH_take (i := 20) (v := undef) rfl (by kernel_rfl) (by kernel_rfl) (by kernel_rfl) (fun _ _ _ h => h) (Or.inr ⟨by rfl, rfl⟩) (⟨rl8, co, csh, crk⟩) ?_
           simp only [Act.put, List.getElem_toArray, List.getElem_cons_succ, List.getElem_cons_zero, List.setIfInBounds_toArray, List.set_cons_succ, List.set_cons_zero]
           refine wpAnyH_take (i := 21) (v := undef) rfl (by kernel_rfl) (by kernel_rfl) (by kernel_rfl) (fun _ _ _ h => h) (Or.inr ⟨by rfl, rfl⟩) (⟨rl8, co, csh, crk⟩) ?_
           simp only [Act.put, List.getElem_toArray, List.getElem_cons_succ, List.getElem_cons_zero, List.setIfInBounds_toArray, List.set_cons_succ, List.set_cons_zero]
           refine wpAnyH_take (i := 22) (v := undef) rfl (by kernel_rfl) (by kernel_rfl) (by kernel_rfl) (fun _ _ _ h => h) (Or.inr ⟨by rfl, rfl⟩) (⟨rl8, co, csh, crk⟩) ?_
           simp only [Act.put, List.getElem_toArray, List.getElem_cons_succ, List.getElem_cons_zero, List.setIfInBounds_toArray, List.set_cons_succ, List.set_cons_zero]
           refine wpAnyH_take (i := 23) (v := undef) rfl (by kernel_rfl) (by kernel_rfl) (by kernel_rfl) (fun _ _ _ h => h) (Or.inr ⟨by rfl, rfl⟩) (⟨rl8, co, csh, crk⟩) ?_
           simp only [Act.put, List.getElem_toArray, List.getElem_cons_succ, List.getElem_cons_zero, List.setIfInBounds_toArray, List.set_cons_succ, List.set_cons_zero]
           refine wpAnyH_take (i := 24) (v := undef) rfl (by kernel_rfl) (by kernel_rfl) (by kernel_rfl) (fun _ _ _ h => h) (Or.inr ⟨by rfl, rfl⟩) (⟨rl8, co, csh, crk⟩) ?_
           simp only [Act.put, List.getElem_toArray, List.getElem_cons_succ, List.getElem_cons_zero, List.setIfInBounds_toArray, List.set_cons_succ, List.set_cons_zero]
           refine wpAnyH_take (i := 25) (v := undef) rfl (by kernel_rfl) (by kernel_rfl) (by kernel_rfl) (fun _ _ _ h => h) (Or.inr ⟨by rfl, rfl⟩) (⟨rl8, co, csh, crk⟩) ?_
           simp only [Act.put, List.getElem_toArray, List.getElem_cons_succ, List.getElem_cons_zero, List.setIfInBounds_toArray, List.set_cons_succ, List.set_cons_zero]
           refine wpAnyH_take (i := 26) (v := .bool false) rfl (by kernel_rfl) (by kernel_rfl) (by kernel_rfl) (fun _ _ _ h => h) (Or.inl ⟨by rfl, ?y303⟩) (⟨rl8, co, csh, crk⟩) ?r303
           case y303 =>
            intro w_ hS_
            go_simp
            try with_reducible rfl
           simp only [Act.put, List.getElem_toArray, List.getElem_cons_succ, List.getElem_cons_zero, List.setIfInBounds_toArray, List.set_cons_succ, List.set_cons_zero]
           refine wpAnyH_take (i := 27) (v := .bool false) rfl (by kernel_rfl) (by kernel_rfl) (by kernel_rfl) (fun _ _ _ h => h) (Or.inl ⟨by rfl, ?y304⟩) (⟨rl8, co, csh, crk⟩) ?r304
           case y304 =>
            intro w_ hS_
            go_simp
            try with_reducible rfl
           simp only [Act.put, List.getElem_toArray, List.getElem_cons_succ, List.getElem_cons_zero, List.setIfInBounds_toArray, List.set_cons_succ, List.set_cons_zero]
           refine wpAnyH_done (by kernel_rfl) ?_ _
           refine NoPanic.normal ?_
           have dz : (z.1 == 0) = false := by
            have e : (z.1 == 0) = decide (z.1 = 0) := by by_cases h : z.1 = 0 <;> simp [h]
            rw [e, hse1]
            unfold thr
            rw [dO, dS, dQ]
            rfl
           clear hse1
           go_wp2_with (fail)
           have hb : Below wd276.heap.size wd276 wd276.drew := below_drN (Below.refl _ _) 1
           replace rp0 := keep hb rp0
           replace rl8 := keep hb rl8
           replace co := (World.cell?_of_block (hb.block _ hgl2)).trans co
           replace csh := (World.cell?_of_block (hb.block _ hgl2)).trans csh
           replace crk := rangeAt_keep crk (hb.block _ hgl2)
           replace hgl2 := Nat.lt_of_lt_of_le hgl2 hb.size
           replace hB3 := hB3.keep hb
           replace hO3 := hO3.keep hb
           replace hw := Below.after hw hb
           clear hb
           refine wp_region_noPanic ?_
           refine wp_region_held (S := fun W_ => W_.heap[go]? = some (.cells (opr x) 30 (0, 0)) ∧ W_.cell? ⟨gl, k * 35 + 33, none⟩ = some (.bool false) ∧ W_.cell? ⟨gl, k * 35 + 34, none⟩ = some (.bool true) ∧ W_.rangeAt gl (k * 35 + 1) (k8 a.k)) (by kernel_rfl) ?_
           change wpAnyH _ _ _ _ _ _ _ _ (World.drew _)
           generalize wd276.drew = wd305 at *
           refine wpAnyH_take (i := 0) (v := ?v306) rfl (by kernel_rfl) (by kernel_rfl) (by kernel_rfl) (fun _ _ _ h => h) (Or.inl ⟨by rfl, ?y306⟩) (⟨rl8, co, csh, crk⟩) ?r306
           case y306 =>
            intro w_ hS_
            go_simp
            try with_reducible rfl
           simp only [Act.put, List.getElem_toArray, List.getElem_cons_zero, List.setIfInBounds_toArray, List.set_cons_succ, List.set_cons_zero]
           refine wpAnyH_take (i := 1) (v := ?v307) rfl (by kernel_rfl) (by kernel_rfl) (by kernel_rfl) (fun _ _ _ h => h) (Or.inl ⟨by rfl, ?y307⟩) (⟨rl8, co, csh, crk⟩) ?r307
           case y307 =>
            intro w_ hS_
            go_simp
            try with_reducible rfl
           simp only [Act.put, List.getElem_toArray, List.getElem_cons_succ, List.getElem_cons_zero, List.setIfInBounds_toArray, List.set_cons_succ, List.set_cons_zero]
           refine wpAnyH_take (i := 2) (v := ?v308) rfl (by kernel_rfl) (by kernel_rfl) (by kernel_rfl) (fun _ _ _ h => h) (Or.inl ⟨by rfl, ?y308⟩) (⟨rl8, co, csh, crk⟩) ?r308
           case y308 =>
            intro w_ hS_
            go_simp
            try with_reducible rfl
           simp only [Act.put, List.getElem_toArray, List.getElem_cons_succ, List.getElem_cons_zero, List.setIfInBounds_toArray, List.set_cons_succ, List.set_cons_zero]
           refine wpAnyH_take (i := 3) (v := ?v309) rfl (by kernel_rfl) (by kernel_rfl) (by kernel_rfl) (fun _ _ _ h => h) (Or.inl ⟨by rfl, ?y309⟩) (⟨rl8, co, csh, crk⟩) ?r309
           case y309 =>
            intro w_ hS_
            go_simp
            try with_reducible rfl
           simp only [Act.put, List.getElem_toArray, List.getElem_cons_succ, List.getElem_cons_zero, List.setIfInBounds_toArray, List.set_cons_succ, List.set_cons_zero]
           refine wpAnyH_take (i := 4) (v := .pointer (some ⟨gl, k * 35, none⟩)) rfl (by kernel_rfl) (by kernel_rfl) (by kernel_rfl) (fun _ _ _ h => h) (Or.inl ⟨by rfl, ?y310⟩) (⟨rl8, co, csh, crk⟩) ?r310
           case y310 =>
            intro w_ hS_
            go_simp
            try with_reducible rfl
           simp only [Act.put, List.getElem_toArray, List.getElem_cons_succ, List.getElem_cons_zero, List.setIfInBounds_toArray, List.set_cons_succ, List.set_cons_zero]
           refine wpAnyH_take (i := 5) (v := .pointer (some ⟨gl, k * 35 + 34, none⟩)) rfl (by kernel_rfl) (by kernel_rfl) (by kernel_rfl) (fun _ _ _ h => h) (Or.inl ⟨by rfl, ?y311⟩) (⟨rl8, co, csh, crk⟩) ?r311
           case y311 =>
            intro w_ hS_
            go_simp
            try with_reducible rfl
           simp only [Act.put, List.getElem_toArray, List.getElem_cons_succ, List.getElem_cons_zero, List.setIfInBounds_toArray, List.set_cons_succ, List.set_cons_zero]
           refine wpAnyH_take (i := 6) (v := .bool true) rfl (by kernel_rfl) (by kernel_rfl) (by kernel_rfl) (fun _ _ _ h => h) (Or.inl ⟨by rfl, ?y312⟩) (⟨rl8, co, csh, crk⟩) ?r312
           case y312 =>
            intro w_ hS_
            have c_ := hS_.2.2.1
            go_simp
            try with_reducible rfl
           simp only [Act.put, List.getElem_toArray, List.getElem_cons_succ, List.getElem_cons_zero, List.setIfInBounds_toArray, List.set_cons_succ, List.set_cons_zero]
           refine wpAnyH_take (i := 7) (v := .bool false) rfl (by kernel_rfl) (by kernel_rfl) (by kernel_rfl) (fun _ _ _ h => h) (Or.inl ⟨by rfl, ?y313⟩) (⟨rl8, co, csh, crk⟩) ?r313
           case y313 =>
            intro w_ hS_
            go_simp
            try with_reducible rfl
           simp only [Act.put, List.getElem_toArray, List.getElem_cons_succ, List.getElem_cons_zero, List.setIfInBounds_toArray, List.set_cons_succ, List.set_cons_zero]
           refine wpAnyH_take (i := 8) (v := .bool false) rfl (by kernel_rfl) (by kernel_rfl) (by kernel_rfl) (fun _ _ _ h => h) (Or.inl ⟨by rfl, ?y314⟩) (⟨rl8, co, csh, crk⟩) ?r314
           case y314 =>
            intro w_ hS_
            go_simp
            try with_reducible rfl
           simp only [Act.put, List.getElem_toArray, List.getElem_cons_succ, List.getElem_cons_zero, List.setIfInBounds_toArray, List.set_cons_succ, List.set_cons_zero]
           refine wpAnyH_take (i := 9) (v := .bool false) rfl (by kernel_rfl) (by kernel_rfl) (by kernel_rfl) (fun _ _ _ h => h) (Or.inl ⟨by rfl, ?y315⟩) (⟨rl8, co, csh, crk⟩) ?r315
           case y315 =>
            intro w_ hS_
            go_simp
            try with_reducible rfl
           simp only [Act.put, List.getElem_toArray, List.getElem_cons_succ, List.getElem_cons_zero, List.setIfInBounds_toArray, List.set_cons_succ, List.set_cons_zero]
           refine wpAnyH_take (i := 10) (v := undef) rfl (by kernel_rfl) (by kernel_rfl) (by kernel_rfl) (fun _ _ _ h => h) (Or.inr ⟨by rfl, rfl⟩) (⟨rl8, co, csh, crk⟩) ?_
           simp only [Act.put, List.getElem_toArray, List.getElem_cons_succ, List.getElem_cons_zero, List.setIfInBounds_toArray, List.set_cons_succ, List.set_cons_zero]
           refine wpAnyH_take (i := 11) (v := undef) rfl (by kernel_rfl) (by kernel_rfl) (by kernel_rfl) (fun _ _ _ h => h) (Or.inr ⟨by rfl, rfl⟩) (⟨rl8, co, csh, crk⟩) ?_
           simp only [Act.put, List.getElem_toArray, List.getElem_cons_succ, List.getElem_cons_zero, List.setIfInBounds_toArray, List.set_cons_succ, List.set_cons_zero]
           refine wpAnyH_take (i := 12) (v := undef) rfl (by kernel_rfl) (by kernel_rfl) (by kernel_rfl) (fun _ _ _ h => h) (Or.inr ⟨by rfl, rfl⟩) (⟨rl8, co, csh, crk⟩) ?_
           simp only [Act.put, List.getElem_toArray, List.getElem_cons_succ, List.getElem_cons_zero, List.setIfInBounds_toArray, List.set_cons_succ, List.set_cons_zero]
           refine wpAnyH_take (i := 13) (v := undef) rfl (by kernel_rfl) (by kernel_rfl) (by kernel_rfl) (fun _ _ _ h => h) (Or.inr ⟨by rfl, rfl⟩) (⟨rl8, co, csh, crk⟩) ?_
           simp only [Act.put, List.getElem_toArray, List.getElem_cons_succ, List.getElem_cons_zero, List.setIfInBounds_toArray, List.set_cons_succ, List.set_cons_zero]
           refine wpAnyH_take (i := 14) (v := undef) rfl (by kernel_rfl) (by kernel_rfl) (by kernel_rfl) (fun _ _ _ h => h) (Or.inr ⟨by rfl, rfl⟩) (⟨rl8, co, csh, crk⟩) ?_
           simp only [Act.put, List.getElem_toArray, List.getElem_cons_succ, List.getElem_cons_zero, List.setIfInBounds_toArray, List.set_cons_succ, List.set_cons_zero]
           refine wpAnyH_take (i := 15) (v := undef) rfl (by kernel_rfl) (by kernel_rfl) (by kernel_rfl) (fun _ _ _ h => h) (Or.inr ⟨by rfl, rfl⟩) (⟨rl8, co, csh, crk⟩) ?_
           simp only [Act.put, List.getElem_toArray, List.getElem_cons_succ, List.getElem_cons_zero, List.setIfInBounds_toArray, List.set_cons_succ, List.set_cons_zero]
           refine wpAnyH_take (i := 16) (v := undef) rfl (by kernel_rfl) (by kernel_rfl) (by kernel_rfl) (fun _ _ _ h => h) (Or.inr ⟨by rfl, rfl⟩) (⟨rl8, co, csh, crk⟩) ?_
           simp only [Act.put, List.getElem_toArray, List.getElem_cons_succ, List.getElem_cons_zero, List.setIfInBounds_toArray, List.set_cons_succ, List.set_cons_zero]
           refine wpAnyH_take (i := 17) (v := undef) rfl (by kernel_rfl) (by kernel_rfl) (by kernel_rfl) (fun _ _ _ h => h) (Or.inr ⟨by rfl, rfl⟩) (⟨rl8, co, csh, crk⟩) ?_
           simp only [Act.put, List.getElem_toArray, List.getElem_cons_succ, List.getElem_cons_zero, List.setIfInBounds_toArray, List.set_cons_succ, List.set_cons_zero]
           refine wpAnyH_take (i := 18) (v := .bool false) rfl (by kernel_rfl) (by kernel_rfl) (by kernel_rfl) (fun _ _ _ h => h) (Or.inl ⟨by rfl, ?y324⟩) (⟨rl8, co, csh, crk⟩) ?r324
           case y324 =>
            intro w_ hS_
            go_simp
            try with_reducible rfl
           simp only [Act.put, List.getElem_toArray, List.getElem_cons_succ, List.getElem_cons_zero, List.setIfInBounds_toArray, List.set_cons_succ, List.set_cons_zero]
           refine wpAnyH_done (by kernel_rfl) ?_ _
           refine NoPanic.normal ?_
           rw [if_neg (fun h => by first | cases h.1 | (rw [dS] at h; cases h.1))] at hse2
           go_wp2_with (first | (refine wpList_load_part rfl 23 _ rfl (w.heap.size) 0 rfl 23 (irow .u8 y) (0, 0) (irow .u8 y) _ rp0 (all_rowe _) Tryd.underlying23 rfl (infoKy _ hy.1) ?_) | (refine wpList_load_part rfl 23 _ rfl (go) 3 rfl 30 (opr x) (0, 0) (irow .u8 x.k) _ rl8 (op_k x hxo.1.1) Tryd.underlying23 rfl (infoKy _ hxo.1.1) ?_) | (refine wpList_load_part rfl 30 _ rfl (go) 0 rfl 30 (opr x) (0, 0) (opr x) _ rl8 (all_rowe _) Tryd.underlying30 rfl (op_info _ hxo.1.1) ?_) | fail)
           refine ⟨⟨i + 1, _, _, _, _, _, by go_num, by omega, by omega, ⟨hB3, hO3, hse2, hfl, by omega, hw, hwb⟩, rp0⟩, ?_⟩
           simp [intOf]; omega
        ·skip
         cases xS
         ·as_aux_lemma =>
           have hb : Below wS206.heap.size wS206 wS206.drew := below_drN (Below.refl _ _) 1
           replace rp0 := keep hb rp0
           replace rl8 := keep hb rl8
           replace co := (World.cell?_of_block (hb.block _ hgl2)).trans co
           replace csh := (World.cell?_of_block (hb.block _ hgl2)).trans csh
           replace crk := rangeAt_keep crk (hb.block _ hgl2)
           replace hgl2 := Nat.lt_of_lt_of_le hgl2 hb.size
           replace hB3 := hB3.keep hb
           replace hO3 := hO3.keep hb
           replace hw := Below.after hw hb
           clear hb
           refine wp_region_noPanic ?_
           refine wp_region_held (S := fun W_ => W_.heap[go]? = some (.cells (opr x) 30 (0, 0)) ∧ W_.cell? ⟨gl, k * 35 + 33, none⟩ = some (.bool true) ∧ W_.cell? ⟨gl, k * 35 + 34, none⟩ = some (.bool false) ∧ W_.rangeAt gl (k * 35 + 1) (k8 a.k)) (by kernel_rfl) ?_
           change wpAnyH _ _ _ _ _ _ _ _ (World.drew _)
           generalize wS206.drew = wd325 at *
           refine wpAnyH_take (i := 0) (v := ?v326) rfl (by kernel_rfl) (by kernel_rfl) (by kernel_rfl) (fun _ _ _ h => h) (Or.inl ⟨by rfl, ?y326⟩) (⟨rl8, co, csh, crk⟩) ?r326
           case y326 =>
            intro w_ hS_
            go_simp
            try with_reducible rfl
           simp only [Act.put, List.getElem_toArray, List.getElem_cons_zero, List.setIfInBounds_toArray, List.set_cons_succ, List.set_cons_zero]
           refine wpAnyH_take (i := 1) (v := ?v327) rfl (by kernel_rfl) (by kernel_rfl) (by kernel_rfl) (fun _ _ _ h => h) (Or.inl ⟨by rfl, ?y327⟩) (⟨rl8, co, csh, crk⟩) ?r327
           case y327 =>
            intro w_ hS_
            go_simp
            try with_reducible rfl
           simp only [Act.put, List.getElem_toArray, List.getElem_cons_succ, List.getElem_cons_zero, List.setIfInBounds_toArray, List.set_cons_succ, List.set_cons_zero]
           refine wpAnyH_take (i := 2) (v := ?v328) rfl (by kernel_rfl) (by kernel_rfl) (by kernel_rfl) (fun _ _ _ h => h) (Or.inl ⟨by rfl, ?y328⟩) (⟨rl8, co, csh, crk⟩) ?r328
           case y328 =>
            intro w_ hS_
            go_simp
            try with_reducible rfl
           simp only [Act.put, List.getElem_toArray, List.getElem_cons_succ, List.getElem_cons_zero, List.setIfInBounds_toArray, List.set_cons_succ, List.set_cons_zero]
           refine wpAnyH_take (i := 3) (v := ?v329) rfl (by kernel_rfl) (by kernel_rfl) (by kernel_rfl) (fun _ _ _ h => h) (Or.inl ⟨by rfl, ?y329⟩) (⟨rl8, co, csh, crk⟩) ?r329
           case y329 =>
            intro w_ hS_
            go_simp
            try with_reducible rfl
           simp only [Act.put, List.getElem_toArray, List.getElem_cons_succ, List.getElem_cons_zero, List.setIfInBounds_toArray, List.set_cons_succ, List.set_cons_zero]
           refine wpAnyH_take (i := 4) (v := .pointer (some ⟨gl, k * 35, none⟩)) rfl (by kernel_rfl) (by kernel_rfl) (by kernel_rfl) (fun _ _ _ h => h) (Or.inl ⟨by rfl, ?y330⟩) (⟨rl8, co, csh, crk⟩) ?r330
           case y330 =>
            intro w_ hS_
            go_simp
            try with_reducible rfl
           simp only [Act.put, List.getElem_toArray, List.getElem_cons_succ, List.getElem_cons_zero, List.setIfInBounds_toArray, List.set_cons_succ, List.set_cons_zero]
           refine wpAnyH_take (i := 5) (v := .pointer (some ⟨gl, k * 35 + 33, none⟩)) rfl (by kernel_rfl) (by kernel_rfl) (by kernel_rfl) (fun _ _ _ h => h) (Or.inl ⟨by rfl, ?y331⟩) (⟨rl8, co, csh, crk⟩) ?r331
           case y331 =>
            intro w_ hS_
            go_simp
            try with_reducible rfl
           simp only [Act.put, List.getElem_toArray, List.getElem_cons_succ, List.getElem_cons_zero, List.setIfInBounds_toArray, List.set_cons_succ, List.set_cons_zero]
           refine wpAnyH_take (i := 6) (v := .bool true) rfl (by kernel_rfl) (by kernel_rfl) (by kernel_rfl) (fun _ _ _ h => h) (Or.inl ⟨by rfl, ?y332⟩) (⟨rl8, co, csh, crk⟩) ?r332
           case y332 =>
            intro w_ hS_
            have c_ := hS_.2.1
            go_simp
            try with_reducible rfl
           simp only [Act.put, List.getElem_toArray, List.getElem_cons_succ, List.getElem_cons_zero, List.setIfInBounds_toArray, List.set_cons_succ, List.set_cons_zero]
           refine wpAnyH_take (i := 7) (v := .bool false) rfl (by kernel_rfl) (by kernel_rfl) (by kernel_rfl) (fun _ _ _ h => h) (Or.inl ⟨by rfl, ?y333⟩) (⟨rl8, co, csh, crk⟩) ?r333
           case y333 =>
            intro w_ hS_
            go_simp
            try with_reducible rfl
           simp only [Act.put, List.getElem_toArray, List.getElem_cons_succ, List.getElem_cons_zero, List.setIfInBounds_toArray, List.set_cons_succ, List.set_cons_zero]
           refine wpAnyH_take (i := 8) (v := .bool false) rfl (by kernel_rfl) (by kernel_rfl) (by kernel_rfl) (fun _ _ _ h => h) (Or.inl ⟨by rfl, ?y334⟩) (⟨rl8, co, csh, crk⟩) ?r334
           case y334 =>
            intro w_ hS_
            go_simp
            try with_reducible rfl
           simp only [Act.put, List.getElem_toArray, List.getElem_cons_succ, List.getElem_cons_zero, List.setIfInBounds_toArray, List.set_cons_succ, List.set_cons_zero]
           refine wpAnyH_take (i := 9) (v := .bool false) rfl (by kernel_rfl) (by kernel_rfl) (by kernel_rfl) (fun _ _ _ h => h) (Or.inl ⟨by rfl, ?y335⟩) (⟨rl8, co, csh, crk⟩) ?r335
           case y335 =>
            intro w_ hS_
            go_simp
            try with_reducible rfl
           simp only [Act.put, List.getElem_toArray, List.getElem_cons_succ, List.getElem_cons_zero, List.setIfInBounds_toArray, List.set_cons_succ, List.set_cons_zero]
           refine wpAnyH_take (i := 10) (v := undef) rfl (by kernel_rfl) (by kernel_rfl) (by kernel_rfl) (fun _ _ _ h => h) (Or.inr ⟨by rfl, rfl⟩) (⟨rl8, co, csh, crk⟩) ?_
           simp only [Act.put, List.getElem_toArray, List.getElem_cons_succ, List.getElem_cons_zero, List.setIfInBounds_toArray, List.set_cons_succ, List.set_cons_zero]
           refine wpAnyH_take (i := 11) (v := undef) rfl (by kernel_rfl) (by kernel_rfl) (by kernel_rfl) (fun _ _ _ h => h) (Or.inr ⟨by rfl, rfl⟩) (⟨rl8, co, csh, crk⟩) ?_
           simp only [Act.put, List.getElem_toArray, List.getElem_cons_succ, List.getElem_cons_zero, List.setIfInBounds_toArray, List.set_cons_succ, List.set_cons_zero]
           refine wpAnyH_take (i := 12) (v := undef) rfl (by kernel_rfl) (by kernel_rfl) (by kernel_rfl) (fun _ _ _ h => h) (Or.inr ⟨by rfl, rfl⟩) (⟨rl8, co, csh, crk⟩) ?_
           simp only [Act.put, List.getElem_toArray, List.getElem_cons_succ, List.getElem_cons_zero, List.setIfInBounds_toArray, List.set_cons_succ, List.set_cons_zero]
           refine wpAnyH_take (i := 13) (v := undef) rfl (by kernel_rfl) (by kernel_rfl) (by kernel_rfl) (fun _ _ _ h => h) (Or.inr ⟨by rfl, rfl⟩) (⟨rl8, co, csh, crk⟩) ?_
           simp only [Act.put, List.getElem_toArray, List.getElem_cons_succ, List.getElem_cons_zero, List.setIfInBounds_toArray, List.set_cons_succ, List.set_cons_zero]
           refine wpAnyH_take (i := 14) (v := undef) rfl (by kernel_rfl) (by kernel_rfl) (by kernel_rfl) (fun _ _ _ h => h) (Or.inr ⟨by rfl, rfl⟩) (⟨rl8, co, csh, crk⟩) ?_
           simp only [Act.put, List.getElem_toArray, List.getElem_cons_succ, List.getElem_cons_zero, List.setIfInBounds_toArray, List.set_cons_succ, List.set_cons_zero]
           refine wpAnyH_take (i := 15) (v := undef) rfl (by kernel_rfl) (by kernel_rfl) (by kernel_rfl) (fun _ _ _ h => h) (Or.inr ⟨by rfl, rfl⟩) (⟨rl8, co, csh, crk⟩) ?_
           simp only [Act.put, List.getElem_toArray, List.getElem_cons_succ, List.getElem_cons_zero, List.setIfInBounds_toArray, List.set_cons_succ, List.set_cons_zero]
           refine wpAnyH_take (i := 16) (v := .bool false) rfl (by kernel_rfl) (by kernel_rfl) (by kernel_rfl) (fun _ _ _ h => h) (Or.inl ⟨by rfl, ?y342⟩) (⟨rl8, co, csh, crk⟩) ?r342
           case y342 =>
            intro w_ hS_
            go_simp
            try with_reducible rfl
           simp only [Act.put, List.getElem_toArray, List.getElem_cons_succ, List.getElem_cons_zero, List.setIfInBounds_toArray, List.set_cons_succ, List.set_cons_zero]
           refine wpAnyH_take (i := 17) (v := .bool false) rfl (by kernel_rfl) (by kernel_rfl) (by kernel_rfl) (fun _ _ _ h => h) (Or.inl ⟨by rfl, ?y343⟩) (⟨rl8, co, csh, crk⟩) ?r343
           case y343 =>
            intro w_ hS_
            go_simp
            try with_reducible rfl
           simp only [Act.put, List.getElem_toArray, List.getElem_cons_succ, List.getElem_cons_zero, List.setIfInBounds_toArray, List.set_cons_succ, List.set_cons_zero]
           refine wpAnyH_take (i := 18) (v := undef) rfl (by kernel_rfl) (by kernel_rfl) (by kernel_rfl) (fun _ _ _ h => h) (Or.inr ⟨by rfl, rfl⟩) (⟨rl8, co, csh, crk⟩) ?_
           simp only [Act.put, List.getElem_toArray, List.getElem_cons_succ, List.getElem_cons_zero, List.setIfInBounds_toArray, List.set_cons_succ, List.set_cons_zero]
           refine wpAnyH_take (i := 19) (v := undef) rfl (by kernel_rfl) (by kernel_rfl) (by kernel_rfl) (fun _ _ _ h => h) (Or.inr ⟨by rfl, rfl⟩) (⟨rl8, co, csh, crk⟩) ?_
           simp only [Act.put, List.getElem_toArray, List.getElem_cons_succ, List.getElem_cons_zero, List.setIfInBounds_toArray, List.set_cons_succ, List.set_cons_zero]
           refine wpAnyH_take (i := 20) (v := undef) rfl (by kernel_rfl) (by kernel_rfl) (by kernel_rfl) (fun _ _ _ h => h) (Or.inr ⟨by rfl, rfl⟩) (⟨rl8, co, csh, crk⟩) ?_
           simp only [Act.put, List.getElem_toArray, List.getElem_cons_succ, List.getElem_cons_zero, List.setIfInBounds_toArray, List.set_cons_succ, List.set_cons_zero]
           refine wpAnyH_take (i := 21) (v := undef) rfl (by kernel_rfl) (by kernel_rfl) (by kernel_rfl) (fun _ _ _ h => h) (Or.inr ⟨by rfl, rfl⟩) (⟨rl8, co, csh, crk⟩) ?_
           simp only [Act.put, List.getElem_toArray, List.getElem_cons_succ, List.getElem_cons_zero, List.setIfInBounds_toArray, List.set_cons_succ, List.set_cons_zero]
           refine wpAnyH_take (i := 22) (v := undef) rfl (by kernel_rfl) (by kernel_rfl) (by kernel_rfl) (fun _ _ _ h => h) (Or.inr ⟨by rfl, rfl⟩) (⟨rl8, co, csh, crk⟩) ?_
           simp only [Act.put, List.getElem_toArray, List.getElem_cons_succ, List.getElem_cons_zero, List.setIfInBounds_toArray, List.set_cons_succ, List.set_cons_zero]
           refine wpAnyH_take (i := 23) (v := undef) rfl (by kernel_rfl) (by kernel_rfl) (by kernel_rfl) (fun _ _ _ h => h) (Or.inr ⟨by rfl, rfl⟩) (⟨rl8, co, csh, crk⟩) ?_
           simp only [Act.put, List.getElem_toArray, List.getElem_cons_succ, List.getElem_cons_zero, List.setIfInBounds_toArray, List.set_cons_succ, List.set_cons_zero]
           refine wpAnyH_take (i := 24) (v := undef) rfl (by kernel_rfl) (by kernel_rfl) (by kernel_rfl) (fun _ _ _ h => h) (Or.inr ⟨by rfl, rfl⟩) (⟨rl8, co, csh, crk⟩) ?_
           simp only [Act.put, List.getElem_toArray, List.getElem_cons_succ, List.getElem_cons_zero, List.setIfInBounds_toArray, List.set_cons_succ, List.set_cons_zero]
           refine wpAnyH_take (i := 25) (v := undef) rfl (by kernel_rfl) (by kernel_rfl) (by kernel_rfl) (fun _ _ _ h => h) (Or.inr ⟨by rfl, rfl⟩) (⟨rl8, co, csh, crk⟩) ?_
           simp only [Act.put, List.getElem_toArray, List.getElem_cons_succ, List.getElem_cons_zero, List.setIfInBounds_toArray, List.set_cons_succ, List.set_cons_zero]
           refine wpAnyH_take (i := 26) (v := .bool false) rfl (by kernel_rfl) (by kernel_rfl) (by kernel_rfl) (fun _ _ _ h => h) (Or.inl ⟨by rfl, ?y352⟩) (⟨rl8, co, csh, crk⟩) ?r352
           case y352 =>
            intro w_ hS_
            go_simp
            try with_reducible rfl
           simp only [Act.put, List.getElem_toArray, List.getElem_cons_succ, List.getElem_cons_zero, List.setIfInBounds_toArray, List.set_cons_succ, List.set_cons_zero]
           refine wpAnyH_take (i := 27) (v := .bool false) rfl (by kernel_rfl) (by kernel_rfl) (by kernel_rfl) (fun _ _ _ h => h) (Or.inl ⟨by rfl, ?y353⟩) (⟨rl8, co, csh, crk⟩) ?r353
           case y353 =>
            intro w_ hS_
            go_simp
            try with_reducible rfl
           simp only [Act.put, List.getElem_toArray, List.getElem_cons_succ, List.getElem_cons_zero, List.setIfInBounds_toArray, List.set_cons_succ, List.set_cons_zero]
           refine wpAnyH_done (by kernel_rfl) ?_ _
           refine NoPanic.normal ?_
           have dz : (z.1 == 0) = false := by
            have e : (z.1 == 0) = decide (z.1 = 0) := by by_cases h : z.1 = 0 <;> simp [h]
            rw [e, hse1]
            unfold thr
            rw [dO, dS, dQ]
            rfl
           clear hse1
           cases xQ
           ·skip
            go_wp2_with (fail)
            have hb : Below wd325.heap.size wd325 wd325.drew := below_drN (Below.refl _ _) 1
            replace rp0 := keep hb rp0
            replace rl8 := keep hb rl8
            replace co := (World.cell?_of_block (hb.block _ hgl2)).trans co
            replace csh := (World.cell?_of_block (hb.block _ hgl2)).trans csh
            replace crk := rangeAt_keep crk (hb.block _ hgl2)
            replace hgl2 := Nat.lt_of_lt_of_le hgl2 hb.size
            replace hB3 := hB3.keep hb
            replace hO3 := hO3.keep hb
            replace hw := Below.after hw hb
            clear hb
            refine wp_region_noPanic ?_
            refine wp_region_held (S := fun W_ => W_.heap[go]? = some (.cells (opr x) 30 (0, 0)) ∧ W_.cell? ⟨gl, k * 35 + 33, none⟩ = some (.bool true) ∧ W_.cell? ⟨gl, k * 35 + 34, none⟩ = some (.bool false) ∧ W_.rangeAt gl (k * 35 + 1) (k8 a.k)) (by kernel_rfl) ?_
            change wpAnyH _ _ _ _ _ _ _ _ (World.drew _)
            generalize wd325.drew = wd354 at *
            refine wpAnyH_take (i := 0) (v := ?v355) rfl (by kernel_rfl) (by kernel_rfl) (by kernel_rfl) (fun _ _ _ h => h) (Or.inl ⟨by rfl, ?y355⟩) (⟨rl8, co, csh, crk⟩) ?r355
            case y355 =>
             intro w_ hS_
             go_simp
             try with_reducible rfl
            simp only [Act.put, List.getElem_toArray, List.getElem_cons_zero, List.setIfInBounds_toArray, List.set_cons_succ, List.set_cons_zero]
            refine wpAnyH_take (i := 1) (v := ?v356) rfl (by kernel_rfl) (by kernel_rfl) (by kernel_rfl) (fun _ _ _ h => h) (Or.inl ⟨by rfl, ?y356⟩) (⟨rl8, co, csh, crk⟩) ?r356
            case y356 =>
             intro w_ hS_
             go_simp
             try with_reducible rfl
            simp only [Act.put, List.getElem_toArray, List.getElem_cons_succ, List.getElem_cons_zero, List.setIfInBounds_toArray, List.set_cons_succ, List.set_cons_zero]
            refine wpAnyH_take (i := 2) (v := ?v357) rfl (by kernel_rfl) (by kernel_rfl) (by kernel_rfl) (fun _ _ _ h => h) (Or.inl ⟨by rfl, ?y357⟩) (⟨rl8, co, csh, crk⟩) ?r357
            case y357 =>
             intro w_ hS_
             go_simp
             try with_reducible rfl
            simp only [Act.put, List.getElem_toArray, List.getElem_cons_succ, List.getElem_cons_zero, List.setIfInBounds_toArray, List.set_cons_succ, List.set_cons_zero]
            refine wpAnyH_take (i := 3) (v := ?v358) rfl (by kernel_rfl) (by kernel_rfl) (by kernel_rfl) (fun _ _ _ h => h) (Or.inl ⟨by rfl, ?y358⟩) (⟨rl8, co, csh, crk⟩) ?r358
            case y358 =>
             intro w_ hS_
             go_simp
             try with_reducible rfl
            simp only [Act.put, List.getElem_toArray, List.getElem_cons_succ, List.getElem_cons_zero, List.setIfInBounds_toArray, List.set_cons_succ, List.set_cons_zero]
            refine wpAnyH_take (i := 4) (v := .pointer (some ⟨gl, k * 35, none⟩)) rfl (by kernel_rfl) (by kernel_rfl) (by kernel_rfl) (fun _ _ _ h => h) (Or.inl ⟨by rfl, ?y359⟩) (⟨rl8, co, csh, crk⟩) ?r359
            case y359 =>
             intro w_ hS_
             go_simp
             try with_reducible rfl
            simp only [Act.put, List.getElem_toArray, List.getElem_cons_succ, List.getElem_cons_zero, List.setIfInBounds_toArray, List.set_cons_succ, List.set_cons_zero]
            refine wpAnyH_take (i := 5) (v := .pointer (some ⟨gl, k * 35 + 34, none⟩)) rfl (by kernel_rfl) (by kernel_rfl) (by kernel_rfl) (fun _ _ _ h => h) (Or.inl ⟨by rfl, ?y360⟩) (⟨rl8, co, csh, crk⟩) ?r360
            case y360 =>
             intro w_ hS_
             go_simp
             try with_reducible rfl
            simp only [Act.put, List.getElem_toArray, List.getElem_cons_succ, List.getElem_cons_zero, List.setIfInBounds_toArray, List.set_cons_succ, List.set_cons_zero]
            refine wpAnyH_take (i := 6) (v := .bool false) rfl (by kernel_rfl) (by kernel_rfl) (by kernel_rfl) (fun _ _ _ h => h) (Or.inl ⟨by rfl, ?y361⟩) (⟨rl8, co, csh, crk⟩) ?r361
            case y361 =>
             intro w_ hS_
             have c_ := hS_.2.2.1
             go_simp
             try with_reducible rfl
            simp only [Act.put, List.getElem_toArray, List.getElem_cons_succ, List.getElem_cons_zero, List.setIfInBounds_toArray, List.set_cons_succ, List.set_cons_zero]
            refine wpAnyH_take (i := 7) (v := .bool true) rfl (by kernel_rfl) (by kernel_rfl) (by kernel_rfl) (fun _ _ _ h => h) (Or.inl ⟨by rfl, ?y362⟩) (⟨rl8, co, csh, crk⟩) ?r362
            case y362 =>
             intro w_ hS_
             go_simp
             try with_reducible rfl
            simp only [Act.put, List.getElem_toArray, List.getElem_cons_succ, List.getElem_cons_zero, List.setIfInBounds_toArray, List.set_cons_succ, List.set_cons_zero]
            refine wpAnyH_take (i := 8) (v := .bool true) rfl (by kernel_rfl) (by kernel_rfl) (by kernel_rfl) (fun _ _ _ h => h) (Or.inl ⟨by rfl, ?y363⟩) (⟨rl8, co, csh, crk⟩) ?r363
            case y363 =>
             intro w_ hS_
             go_simp
             try with_reducible rfl
            simp only [Act.put, List.getElem_toArray, List.getElem_cons_succ, List.getElem_cons_zero, List.setIfInBounds_toArray, List.set_cons_succ, List.set_cons_zero]
            refine wpAnyH_take (i := 9) (v := .bool true) rfl (by kernel_rfl) (by kernel_rfl) (by kernel_rfl) (fun _ _ _ h => h) (Or.inl ⟨by rfl, ?y364⟩) (⟨rl8, co, csh, crk⟩) ?r364
            case y364 =>
             intro w_ hS_
             go_simp
             try with_reducible rfl
            simp only [Act.put, List.getElem_toArray, List.getElem_cons_succ, List.getElem_cons_zero, List.setIfInBounds_toArray, List.set_cons_succ, List.set_cons_zero]
            refine wpAnyH_take (i := 10) (v := ?v365) rfl (by kernel_rfl) (by kernel_rfl) (by kernel_rfl) (fun _ _ _ h => h) (Or.inl ⟨by rfl, ?y365⟩) (⟨rl8, co, csh, crk⟩) ?r365
            case y365 =>
             intro w_ hS_
             go_simp
             try with_reducible rfl
            simp only [Act.put, List.getElem_toArray, List.getElem_cons_succ, List.getElem_cons_zero, List.setIfInBounds_toArray, List.set_cons_succ, List.set_cons_zero]
            refine wpAnyH_take (i := 11) (v := ?v366) rfl (by kernel_rfl) (by kernel_rfl) (by kernel_rfl) (fun _ _ _ h => h) (Or.inl ⟨by rfl, ?y366⟩) (⟨rl8, co, csh, crk⟩) ?r366
            case y366 =>
             intro w_ hS_
             go_simp
             try with_reducible rfl
            simp only [Act.put, List.getElem_toArray, List.getElem_cons_succ, List.getElem_cons_zero, List.setIfInBounds_toArray, List.set_cons_succ, List.set_cons_zero]
            refine wpAnyH_take (i := 12) (v := .pointer (some ⟨gl, k * 35, none⟩)) rfl (by kernel_rfl) (by kernel_rfl) (by kernel_rfl) (fun _ _ _ h => h) (Or.inl ⟨by rfl, ?y367⟩) (⟨rl8, co, csh, crk⟩) ?r367
            case y367 =>
             intro w_ hS_
             go_simp
             try with_reducible rfl
            simp only [Act.put, List.getElem_toArray, List.getElem_cons_succ, List.getElem_cons_zero, List.setIfInBounds_toArray, List.set_cons_succ, List.set_cons_zero]
            refine wpAnyH_take (i := 13) (v := .pointer (some ⟨gl, k * 35 + 1, none⟩)) rfl (by kernel_rfl) (by kernel_rfl) (by kernel_rfl) (fun _ _ _ h => h) (Or.inl ⟨by rfl, ?y368⟩) (⟨rl8, co, csh, crk⟩) ?r368
            case y368 =>
             intro w_ hS_
             go_simp
             try with_reducible rfl
            simp only [Act.put, List.getElem_toArray, List.getElem_cons_succ, List.getElem_cons_zero, List.setIfInBounds_toArray, List.set_cons_succ, List.set_cons_zero]
            refine wpAnyH_take (i := 14) (v := .agg (irow .u8 a.k)) rfl (by kernel_rfl) (by kernel_rfl) (by kernel_rfl) (fun _ _ _ h => h) (Or.inl ⟨by rfl, ?y369⟩) (⟨rl8, co, csh, crk⟩) ?r369
            case y369 =>
             intro w_ hS_
             simp only [List.getElem_toArray, List.getElem_cons_succ, List.getElem_cons_zero]
             exact run_load_range 23 _ (by rfl) gl (k * 35 + 1) (by rfl) (k8 a.k) _ (hS_.2.2.2) Tryd.underlying23 rfl (by rw [k8_len, haok.1]; kernel_rfl)
            simp only [Act.put, List.getElem_toArray, List.getElem_cons_succ, List.getElem_cons_zero, List.setIfInBounds_toArray, List.set_cons_succ, List.set_cons_zero]
            refine wpAnyH_take (i := 15) (v := ?v370) rfl (by kernel_rfl) (by kernel_rfl) (by kernel_rfl) (fun _ _ _ h => h) (Or.inl ⟨by rfl, ?y370⟩) (⟨rl8, co, csh, crk⟩) ?r370
            case y370 =>
             intro w_ hS_
             go_simp
             try with_reducible rfl
            simp only [Act.put, List.getElem_toArray, List.getElem_cons_succ, List.getElem_cons_zero, List.setIfInBounds_toArray, List.set_cons_succ, List.set_cons_zero]
            refine wpAnyH_take (i := 16) (v := .agg (irow .u8 x.k)) rfl (by kernel_rfl) (by kernel_rfl) (by kernel_rfl) (fun _ _ _ h => h) (Or.inl ⟨by rfl, ?y371⟩) (⟨rl8, co, csh, crk⟩) ?r371
            case y371 =>
             intro w_ hS_
             simp only [List.getElem_toArray, List.getElem_cons_succ, List.getElem_cons_zero]
             exact e_load_part 23 _ (by rfl) (go) 3 (by rfl) 30 (opr x) (0, 0) (irow .u8 x.k) _ (hS_.1) (op_k x hxo.1.1) Tryd.underlying23 rfl (infoKy _ hxo.1.1)
            simp only [Act.put, List.getElem_toArray, List.getElem_cons_succ, List.getElem_cons_zero, List.setIfInBounds_toArray, List.set_cons_succ, List.set_cons_zero]
            refine wpAnyH_take (i := 17) (v := .bool true) rfl (by kernel_rfl) (by kernel_rfl) (by kernel_rfl) (fun _ _ _ h => h) (Or.inl ⟨by rfl, ?y372⟩) (⟨rl8, co, csh, crk⟩) ?r372
            case y372 =>
             intro w_ hS_
             go_simp
             try with_reducible rfl
            simp only [Act.put, List.getElem_toArray, List.getElem_cons_succ, List.getElem_cons_zero, List.setIfInBounds_toArray, List.set_cons_succ, List.set_cons_zero]
            refine wpAnyH_take (i := 18) (v := .bool true) rfl (by kernel_rfl) (by kernel_rfl) (by kernel_rfl) (fun _ _ _ h => h) (Or.inl ⟨by rfl, ?y373⟩) (⟨rl8, co, csh, crk⟩) ?r373
            case y373 =>
             intro w_ hS_
             go_simp
             try with_reducible rfl
            simp only [Act.put, List.getElem_toArray, List.getElem_cons_succ, List.getElem_cons_zero, List.setIfInBounds_toArray, List.set_cons_succ, List.set_cons_zero]
            refine wpAnyH_done (by kernel_rfl) ?_ _
            refine NoPanic.normal ?_
            rw [if_pos (by first | exact ⟨rfl, (by simpa using dQ : ¬ a.k = x.k)⟩ | exact ⟨trivial, (by simpa using dQ : ¬ a.k = x.k)⟩)] at hse2
            obtain ⟨cur, hcur, hcsz, hcl_, -, -, hbg_, -⟩ := hO3.cur
            have hpt := hO3.part hcur hkl
            rw [hak] at hpt
            have hset : cur.setIfInBounds (k * 35 + 33) (.bool true) = (ovw cur (k * 35) (knl (⟨a.n, a.k, true, false⟩ : Kn))) := by
             rw [set_one (.bool true) hpt (by rw [knl_len a haok.1]; decide), knl_seto a haok.1, dS]
            have hlt3 : k * 35 + 33 < cur.size := by rw [hcsz]; omega
            have hO4 := hO3.put hcur hkl (a := (⟨a.n, a.k, true, false⟩ : Kn)) haok
            have hB4 : Bk (wd354.setRow gl (ovw cur (k * 35) (knl (⟨a.n, a.k, true, false⟩ : Kn)))) b g ve2 vc2 y _ _ := hB3.known hO3 (fun k_ _ hne => setRow_other wd354 gl k_ (ovw cur (k * 35) (knl (⟨a.n, a.k, true, false⟩ : Kn))) (fun e => hne (by rw [e]; rfl)))
            have hw4 := below_setRow hw (Nat.le_trans hwb hbg_) (ovw cur (k * 35) (knl (⟨a.n, a.k, true, false⟩ : Kn)))
            have rp4 := (setRow_other wd354 gl w.heap.size (ovw cur (k * 35) (knl (⟨a.n, a.k, true, false⟩ : Kn))) (fun e => own_type hO3.1 rp0 (by decide) (by rw [← e]; rfl))).trans rp0
            have hll4 : (l.set k (⟨a.n, a.k, true, false⟩ : Kn)).length ≤ i + 1 := by rw [List.length_set]; omega
            have hOl : OwnN (wd354.setRow gl (ovw cur (k * 35) (knl (⟨a.n, a.k, true, false⟩ : Kn)))) b (.slice (some ⟨gl, 0, none⟩) (l.set k (⟨a.n, a.k, true, false⟩ : Kn)).length cap) (l.set k (⟨a.n, a.k, true, false⟩ : Kn)) := by rw [List.length_set]; exact hO4
            clear hpt
            go_wp2_with (first | (refine wpList_load_part rfl 23 _ rfl (w.heap.size) 0 rfl 23 (irow .u8 y) (0, 0) (irow .u8 y) _ rp0 (all_rowe _) Tryd.underlying23 rfl (infoKy _ hy.1) ?_) | (refine wpList_load_part rfl 23 _ rfl (go) 3 rfl 30 (opr x) (0, 0) (irow .u8 x.k) _ rl8 (op_k x hxo.1.1) Tryd.underlying23 rfl (infoKy _ hxo.1.1) ?_) | (refine wpList_load_part rfl 30 _ rfl (go) 0 rfl 30 (opr x) (0, 0) (opr x) _ rl8 (all_rowe _) Tryd.underlying30 rfl (op_info _ hxo.1.1) ?_) | (refine wpList_store_cell rfl 4 _ _ rfl gl (k * 35 + 33) (.bool true) rfl rfl 32 cur (ovw cur (k * 35) (knl (⟨a.n, a.k, true, false⟩ : Kn))) hcur hlt3 hset (by kernel_rfl) rfl ?_) | fail)
            refine ⟨⟨i + 1, _, _, _, _, _, by go_num, by omega, by omega, ⟨hB4, hO4, hse2, hfl, hll4, hw4, hwb⟩, rp4⟩, ?_⟩
            simp [intOf]; omega
           ·skip
            go_wp2_with (fail)
            have hb : Below wd325.heap.size wd325 wd325.drew := below_drN (Below.refl _ _) 1
            replace rp0 := keep hb rp0
            replace rl8 := keep hb rl8
            replace co := (World.cell?_of_block (hb.block _ hgl2)).trans co
            replace csh := (World.cell?_of_block (hb.block _ hgl2)).trans csh
            replace crk := rangeAt_keep crk (hb.block _ hgl2)
            replace hgl2 := Nat.lt_of_lt_of_le hgl2 hb.size
            replace hB3 := hB3.keep hb
            replace hO3 := hO3.keep hb
            replace hw := Below.after hw hb
            clear hb
            refine wp_region_noPanic ?_
            refine wp_region_held (S := fun W_ => W_.heap[go]? = some (.cells (opr x) 30 (0, 0)) ∧ W_.cell? ⟨gl, k * 35 + 33, none⟩ = some (.bool true) ∧ W_.cell? ⟨gl, k * 35 + 34, none⟩ = some (.bool false) ∧ W_.rangeAt gl (k * 35 + 1) (k8 a.k)) (by kernel_rfl) ?_
            change wpAnyH _ _ _ _ _ _ _ _ (World.drew _)
            generalize wd325.drew = wd374 at *
            refine wpAnyH_take (i := 0) (v := ?v375) rfl (by kernel_rfl) (by kernel_rfl) (by kernel_rfl) (fun _ _ _ h => h) (Or.inl ⟨by rfl, ?y375⟩) (⟨rl8, co, csh, crk⟩) ?r375
            case y375 =>
             intro w_ hS_
             go_simp
             try with_reducible rfl
            simp only [Act.put, List.getElem_toArray, List.getElem_cons_zero, List.setIfInBounds_toArray, List.set_cons_succ, List.set_cons_zero]
            refine wpAnyH_take (i := 1) (v := ?v376) rfl (by kernel_rfl) (by kernel_rfl) (by kernel_rfl) (fun _ _ _ h => h) (Or.inl ⟨by rfl, ?y376⟩) (⟨rl8, co, csh, crk⟩) ?r376
            case y376 =>
             intro w_ hS_
             go_simp
             try with_reducible rfl
            simp only [Act.put, List.getElem_toArray, List.getElem_cons_succ, List.getElem_cons_zero, List.setIfInBounds_toArray, List.set_cons_succ, List.set_cons_zero]
            refine wpAnyH_take (i := 2) (v := ?v377) rfl (by kernel_rfl) (by kernel_rfl) (by kernel_rfl) (fun _ _ _ h => h) (Or.inl ⟨by rfl, ?y377⟩) (⟨rl8, co, csh, crk⟩) ?r377
            case y377 =>
             intro w_ hS_
             go_simp
             try with_reducible rfl
            simp only [Act.put, List.getElem_toArray, List.getElem_cons_succ, List.getElem_cons_zero, List.setIfInBounds_toArray, List.set_cons_succ, List.set_cons_zero]
            refine wpAnyH_take (i := 3) (v := ?v378) rfl (by kernel_rfl) (by kernel_rfl) (by kernel_rfl) (fun _ _ _ h => h) (Or.inl ⟨by rfl, ?y378⟩) (⟨rl8, co, csh, crk⟩) ?r378
            case y378 =>
             intro w_ hS_
             go_simp
             try with_reducible rfl
            simp only [Act.put, List.getElem_toArray, List.getElem_cons_succ, List.getElem_cons_zero, List.setIfInBounds_toArray, List.set_cons_succ, List.set_cons_zero]
            refine wpAnyH_take (i := 4) (v := .pointer (some ⟨gl, k * 35, none⟩)) rfl (by kernel_rfl) (by kernel_rfl) (by kernel_rfl) (fun _ _ _ h => h) (Or.inl ⟨by rfl, ?y379⟩) (⟨rl8, co, csh, crk⟩) ?r379
            case y379 =>
             intro w_ hS_
             go_simp
             try with_reducible rfl
            simp only [Act.put, List.getElem_toArray, List.getElem_cons_succ, List.getElem_cons_zero, List.setIfInBounds_toArray, List.set_cons_succ, List.set_cons_zero]
            refine wpAnyH_take (i := 5) (v := .pointer (some ⟨gl, k * 35 + 34, none⟩)) rfl (by kernel_rfl) (by kernel_rfl) (by kernel_rfl) (fun _ _ _ h => h) (Or.inl ⟨by rfl, ?y380⟩) (⟨rl8, co, csh, crk⟩) ?r380
            case y380 =>
             intro w_ hS_
             go_simp
             try with_reducible rfl
            simp only [Act.put, List.getElem_toArray, List.getElem_cons_succ, List.getElem_cons_zero, List.setIfInBounds_toArray, List.set_cons_succ, List.set_cons_zero]
            refine wpAnyH_take (i := 6) (v := .bool false) rfl (by kernel_rfl) (by kernel_rfl) (by kernel_rfl) (fun _ _ _ h => h) (Or.inl ⟨by rfl, ?y381⟩) (⟨rl8, co, csh, crk⟩) ?r381
            case y381 =>
             intro w_ hS_
             have c_ := hS_.2.2.1
             go_simp
             try with_reducible rfl
            simp only [Act.put, List.getElem_toArray, List.getElem_cons_succ, List.getElem_cons_zero, List.setIfInBounds_toArray, List.set_cons_succ, List.set_cons_zero]
            refine wpAnyH_take (i := 7) (v := .bool true) rfl (by kernel_rfl) (by kernel_rfl) (by kernel_rfl) (fun _ _ _ h => h) (Or.inl ⟨by rfl, ?y382⟩) (⟨rl8, co, csh, crk⟩) ?r382
            case y382 =>
             intro w_ hS_
             go_simp
             try with_reducible rfl
            simp only [Act.put, List.getElem_toArray, List.getElem_cons_succ, List.getElem_cons_zero, List.setIfInBounds_toArray, List.set_cons_succ, List.set_cons_zero]
            refine wpAnyH_take (i := 8) (v := .bool true) rfl (by kernel_rfl) (by kernel_rfl) (by kernel_rfl) (fun _ _ _ h => h) (Or.inl ⟨by rfl, ?y383⟩) (⟨rl8, co, csh, crk⟩) ?r383
            case y383 =>
             intro w_ hS_
             go_simp
             try with_reducible rfl
            simp only [Act.put, List.getElem_toArray, List.getElem_cons_succ, List.getElem_cons_zero, List.setIfInBounds_toArray, List.set_cons_succ, List.set_cons_zero]
            refine wpAnyH_take (i := 9) (v := .bool true) rfl (by kernel_rfl) (by kernel_rfl) (by kernel_rfl) (fun _ _ _ h => h) (Or.inl ⟨by rfl, ?y384⟩) (⟨rl8, co, csh, crk⟩) ?r384
            case y384 =>
             intro w_ hS_
             go_simp
             try with_reducible rfl
            simp only [Act.put, List.getElem_toArray, List.getElem_cons_succ, List.getElem_cons_zero, List.setIfInBounds_toArray, List.set_cons_succ, List.set_cons_zero]
            refine wpAnyH_take (i := 10) (v := ?v385) rfl (by kernel_rfl) (by kernel_rfl) (by kernel_rfl) (fun _ _ _ h => h) (Or.inl ⟨by rfl, ?y385⟩) (⟨rl8, co, csh, crk⟩) ?r385
            case y385 =>
             intro w_ hS_
             go_simp
             try with_reducible rfl
            simp only [Act.put, List.getElem_toArray, List.getElem_cons_succ, List.getElem_cons_zero, List.setIfInBounds_toArray, List.set_cons_succ, List.set_cons_zero]
            refine wpAnyH_take (i := 11) (v := ?v386) rfl (by kernel_rfl) (by kernel_rfl) (by kernel_rfl) (fun _ _ _ h => h) (Or.inl ⟨by rfl, ?y386⟩) (⟨rl8, co, csh, crk⟩) ?r386
            case y386 =>
             intro w_ hS_
             go_simp
             try with_reducible rfl
            simp only [Act.put, List.getElem_toArray, List.getElem_cons_succ, List.getElem_cons_zero, List.setIfInBounds_toArray, List.set_cons_succ, List.set_cons_zero]
            refine wpAnyH_take (i := 12) (v := .pointer (some ⟨gl, k * 35, none⟩)) rfl (by kernel_rfl) (by kernel_rfl) (by kernel_rfl) (fun _ _ _ h => h) (Or.inl ⟨by rfl, ?y387⟩) (⟨rl8, co, csh, crk⟩) ?r387
            case y387 =>
             intro w_ hS_
             go_simp
             try with_reducible rfl
            simp only [Act.put, List.getElem_toArray, List.getElem_cons_succ, List.getElem_cons_zero, List.setIfInBounds_toArray, List.set_cons_succ, List.set_cons_zero]
            refine wpAnyH_take (i := 13) (v := .pointer (some ⟨gl, k * 35 + 1, none⟩)) rfl (by kernel_rfl) (by kernel_rfl) (by kernel_rfl) (fun _ _ _ h => h) (Or.inl ⟨by rfl, ?y388⟩) (⟨rl8, co, csh, crk⟩) ?r388
            case y388 =>
             intro w_ hS_
             go_simp
             try with_reducible rfl
            simp only [Act.put, List.getElem_toArray, List.getElem_cons_succ, List.getElem_cons_zero, List.setIfInBounds_toArray, List.set_cons_succ, List.set_cons_zero]
            refine wpAnyH_take (i := 14) (v := .agg (irow .u8 a.k)) rfl (by kernel_rfl) (by kernel_rfl) (by kernel_rfl) (fun _ _ _ h => h) (Or.inl ⟨by rfl, ?y389⟩) (⟨rl8, co, csh, crk⟩) ?r389
            case y389 =>
             intro w_ hS_
             simp only [List.getElem_toArray, List.getElem_cons_succ, List.getElem_cons_zero]
             exact run_load_range 23 _ (by rfl) gl (k * 35 + 1) (by rfl) (k8 a.k) _ (hS_.2.2.2) Tryd.underlying23 rfl (by rw [k8_len, haok.1]; kernel_rfl)
            simp only [Act.put, List.getElem_toArray, List.getElem_cons_succ, List.getElem_cons_zero, List.setIfInBounds_toArray, List.set_cons_succ, List.set_cons_zero]
            refine wpAnyH_take (i := 15) (v := ?v390) rfl (by kernel_rfl) (by kernel_rfl) (by kernel_rfl) (fun _ _ _ h => h) (Or.inl ⟨by rfl, ?y390⟩) (⟨rl8, co, csh, crk⟩) ?r390
            case y390 =>
             intro w_ hS_
             go_simp
             try with_reducible rfl
            simp only [Act.put, List.getElem_toArray, List.getElem_cons_succ, List.getElem_cons_zero, List.setIfInBounds_toArray, List.set_cons_succ, List.set_cons_zero]
            refine wpAnyH_take (i := 16) (v := .agg (irow .u8 x.k)) rfl (by kernel_rfl) (by kernel_rfl) (by kernel_rfl) (fun _ _ _ h => h) (Or.inl ⟨by rfl, ?y391⟩) (⟨rl8, co, csh, crk⟩) ?r391
            case y391 =>
             intro w_ hS_
             simp only [List.getElem_toArray, List.getElem_cons_succ, List.getElem_cons_zero]
             exact e_load_part 23 _ (by rfl) (go) 3 (by rfl) 30 (opr x) (0, 0) (irow .u8 x.k) _ (hS_.1) (op_k x hxo.1.1) Tryd.underlying23 rfl (infoKy _ hxo.1.1)
            simp only [Act.put, List.getElem_toArray, List.getElem_cons_succ, List.getElem_cons_zero, List.setIfInBounds_toArray, List.set_cons_succ, List.set_cons_zero]
            refine wpAnyH_take (i := 17) (v := .bool false) rfl (by kernel_rfl) (by kernel_rfl) (by kernel_rfl) (fun _ _ _ h => h) (Or.inl ⟨by rfl, ?y392⟩) (⟨rl8, co, csh, crk⟩) ?r392
            case y392 =>
             intro w_ hS_
             go_simp
             try with_reducible rfl
            simp only [Act.put, List.getElem_toArray, List.getElem_cons_succ, List.getElem_cons_zero, List.setIfInBounds_toArray, List.set_cons_succ, List.set_cons_zero]
            refine wpAnyH_take (i := 18) (v := .bool false) rfl (by kernel_rfl) (by kernel_rfl) (by kernel_rfl) (fun _ _ _ h => h) (Or.inl ⟨by rfl, ?y393⟩) (⟨rl8, co, csh, crk⟩) ?r393
            case y393 =>
             intro w_ hS_
             go_simp
             try with_reducible rfl
            simp only [Act.put, List.getElem_toArray, List.getElem_cons_succ, List.getElem_cons_zero, List.setIfInBounds_toArray, List.set_cons_succ, List.set_cons_zero]
            refine wpAnyH_done (by kernel_rfl) ?_ _
            refine NoPanic.normal ?_
            rw [if_neg (fun h => h.2 (by simpa using dQ))] at hse2
            go_wp2_with (first | (refine wpList_load_part rfl 23 _ rfl (w.heap.size) 0 rfl 23 (irow .u8 y) (0, 0) (irow .u8 y) _ rp0 (all_rowe _) Tryd.underlying23 rfl (infoKy _ hy.1) ?_) | (refine wpList_load_part rfl 23 _ rfl (go) 3 rfl 30 (opr x) (0, 0) (irow .u8 x.k) _ rl8 (op_k x hxo.1.1) Tryd.underlying23 rfl (infoKy _ hxo.1.1) ?_) | (refine wpList_load_part rfl 30 _ rfl (go) 0 rfl 30 (opr x) (0, 0) (opr x) _ rl8 (all_rowe _) Tryd.underlying30 rfl (op_info _ hxo.1.1) ?_) | fail)
            refine ⟨⟨i + 1, _, _, _, _, _, by go_num, by omega, by omega, ⟨hB3, hO3, hse2, hfl, by omega, hw, hwb⟩, rp0⟩, ?_⟩
            simp [intOf]; omega
         ·as_aux_lemma =>
           have hb : Below wS206.heap.size wS206 wS206.drew := below_drN (Below.refl _ _) 1
           replace rp0 := keep hb rp0
           replace rl8 := keep hb rl8
           replace co := (World.cell?_of_block (hb.block _ hgl2)).trans co
           replace csh := (World.cell?_of_block (hb.block _ hgl2)).trans csh
           replace crk := rangeAt_keep crk (hb.block _ hgl2)
           replace hgl2 := Nat.lt_of_lt_of_le hgl2 hb.size
           replace hB3 := hB3.keep hb
           replace hO3 := hO3.keep hb
           replace hw := Below.after hw hb
           clear hb
           refine wp_region_noPanic ?_
           refine wp_region_held (S := fun W_ => W_.heap[go]? = some (.cells (opr x) 30 (0, 0)) ∧ W_.cell? ⟨gl, k * 35 + 33, none⟩ = some (.bool true) ∧ W_.cell? ⟨gl, k * 35 + 34, none⟩ = some (.bool true) ∧ W_.rangeAt gl (k * 35 + 1) (k8 a.k)) (by kernel_rfl) ?_
           change wpAnyH _ _ _ _ _ _ _ _ (World.drew _)
           generalize wS206.drew = wd394 at *
           refine wpAnyH_take (i := 0) (v := ?v395) rfl (by kernel_rfl) (by kernel_rfl) (by kernel_rfl) (fun _ _ _ h => h) (Or.inl ⟨by rfl, ?y395⟩) (⟨rl8, co, csh, crk⟩) ?r395
           case y395 =>
            intro w_ hS_
            go_simp
            try with_reducible rfl
           simp only [Act.put, List.getElem_toArray, List.getElem_cons_zero, List.setIfInBounds_toArray, List.set_cons_succ, List.set_cons_zero]
           refine wpAnyH_take (i := 1) (v := ?v396) rfl (by kernel_rfl) (by kernel_rfl) (by kernel_rfl) (fun _ _ _ h => h) (Or.inl ⟨by rfl, ?y396⟩) (⟨rl8, co, csh, crk⟩) ?r396
           case y396 =>
            intro w_ hS_
            go_simp
            try with_reducible rfl
           simp only [Act.put, List.getElem_toArray, List.getElem_cons_succ, List.getElem_cons_zero, List.setIfInBounds_toArray, List.set_cons_succ, List.set_cons_zero]
           refine wpAnyH_take (i := 2) (v := ?v397) rfl (by kernel_rfl) (by kernel_rfl) (by kernel_rfl) (fun _ _ _ h => h) (Or.inl ⟨by rfl, ?y397⟩) (⟨rl8, co, csh, crk⟩) ?r397
           case y397 =>
            intro w_ hS_
            go_simp
            try with_reducible rfl
           simp only [Act.put, List.getElem_toArray, List.getElem_cons_succ, List.getElem_cons_zero, List.setIfInBounds_toArray, List.set_cons_succ, List.set_cons_zero]
           refine wpAnyH_take (i := 3) (v := ?v398) rfl (by kernel_rfl) (by kernel_rfl) (by kernel_rfl) (fun _ _ _ h => h) (Or.inl ⟨by rfl, ?y398⟩) (⟨rl8, co, csh, crk⟩) ?r398
           case y398 =>
            intro w_ hS_
            go_simp
            try with_reducible rfl
           simp only [Act.put, List.getElem_toArray, List.getElem_cons_succ, List.getElem_cons_zero, List.setIfInBounds_toArray, List.set_cons_succ, List.set_cons_zero]
           refine wpAnyH_take (i := 4) (v := .pointer (some ⟨gl, k * 35, none⟩)) rfl (by kernel_rfl) (by kernel_rfl) (by kernel_rfl) (fun _ _ _ h => h) (Or.inl ⟨by rfl, ?y399⟩) (⟨rl8, co, csh, crk⟩) ?r399
           case y399 =>
            intro w_ hS_
            go_simp
            try with_reducible rfl
           simp only [Act.put, List.getElem_toArray, List.getElem_cons_succ, List.getElem_cons_zero, List.setIfInBounds_toArray, List.set_cons_succ, List.set_cons_zero]
           refine wpAnyH_take (i := 5) (v := .pointer (some ⟨gl, k * 35 + 33, none⟩)) rfl (by kernel_rfl) (by kernel_rfl) (by kernel_rfl) (fun _ _ _ h => h) (Or.inl ⟨by rfl, ?y400⟩) (⟨rl8, co, csh, crk⟩) ?r400
           case y400 =>
            intro w_ hS_
            go_simp
            try with_reducible rfl
           simp only [Act.put, List.getElem_toArray, List.getElem_cons_succ, List.getElem_cons_zero, List.setIfInBounds_toArray, List.set_cons_succ, List.set_cons_zero]
           refine wpAnyH_take (i := 6) (v := .bool true) rfl (by kernel_rfl) (by kernel_rfl) (by kernel_rfl) (fun _ _ _ h => h) (Or.inl ⟨by rfl, ?y401⟩) (⟨rl8, co, csh, crk⟩) ?r401
           case y401 =>
            intro w_ hS_
            have c_ := hS_.2.1
            go_simp
            try with_reducible rfl
           simp only [Act.put, List.getElem_toArray, List.getElem_cons_succ, List.getElem_cons_zero, List.setIfInBounds_toArray, List.set_cons_succ, List.set_cons_zero]
           refine wpAnyH_take (i := 7) (v := .bool false) rfl (by kernel_rfl) (by kernel_rfl) (by kernel_rfl) (fun _ _ _ h => h) (Or.inl ⟨by rfl, ?y402⟩) (⟨rl8, co, csh, crk⟩) ?r402
           case y402 =>
            intro w_ hS_
            go_simp
            try with_reducible rfl
           simp only [Act.put, List.getElem_toArray, List.getElem_cons_succ, List.getElem_cons_zero, List.setIfInBounds_toArray, List.set_cons_succ, List.set_cons_zero]
           refine wpAnyH_take (i := 8) (v := .bool false) rfl (by kernel_rfl) (by kernel_rfl) (by kernel_rfl) (fun _ _ _ h => h) (Or.inl ⟨by rfl, ?y403⟩) (⟨rl8, co, csh, crk⟩) ?r403
           case y403 =>
            intro w_ hS_
            go_simp
            try with_reducible rfl
           simp only [Act.put, List.getElem_toArray, List.getElem_cons_succ, List.getElem_cons_zero, List.setIfInBounds_toArray, List.set_cons_succ, List.set_cons_zero]
           refine wpAnyH_take (i := 9) (v := .bool false) rfl (by kernel_rfl) (by kernel_rfl) (by kernel_rfl) (fun _ _ _ h => h) (Or.inl ⟨by rfl, ?y404⟩) (⟨rl8, co, csh, crk⟩) ?r404
           case y404 =>
            intro w_ hS_
            go_simp
            try with_reducible rfl
           simp only [Act.put, List.getElem_toArray, List.getElem_cons_succ, List.getElem_cons_zero, List.setIfInBounds_toArray, List.set_cons_succ, List.set_cons_zero]
           refine wpAnyH_take (i := 10) (v := undef) rfl (by kernel_rfl) (by kernel_rfl) (by kernel_rfl) (fun _ _ _ h => h) (Or.inr ⟨by rfl, rfl⟩) (⟨rl8, co, csh, crk⟩) ?_
           simp only [Act.put, List.getElem_toArray, List.getElem_cons_succ, List.getElem_cons_zero, List.setIfInBounds_toArray, List.set_cons_succ, List.set_cons_zero]
           refine wpAnyH_take (i := 11) (v := undef) rfl (by kernel_rfl) (by kernel_rfl) (by kernel_rfl) (fun _ _ _ h => h) (Or.inr ⟨by rfl, rfl⟩) (⟨rl8, co, csh, crk⟩) ?_
           simp only [Act.put, List.getElem_toArray, List.getElem_cons_succ, List.getElem_cons_zero, List.setIfInBounds_toArray, List.set_cons_succ, List.set_cons_zero]
           refine wpAnyH_take (i := 12) (v := undef) rfl (by kernel_rfl) (by kernel_rfl) (by kernel_rfl) (fun _ _ _ h => h) (Or.inr ⟨by rfl, rfl⟩) (⟨rl8, co, csh, crk⟩) ?_
           simp only [Act.put, List.getElem_toArray, List.getElem_cons_succ, List.getElem_cons_zero, List.setIfInBounds_toArray, List.set_cons_succ, List.set_cons_zero]
           refine wpAnyH_take (i := 13) (v := undef) rfl (by kernel_rfl) (by kernel_rfl) (by kernel_rfl) (fun _ _ _ h => h) (Or.inr ⟨by rfl, rfl⟩) (⟨rl8, co, csh, crk⟩) ?_
           simp only [Act.put, List.getElem_toArray, List.getElem_cons_succ, List.getElem_cons_zero, List.setIfInBounds_toArray, List.set_cons_succ, List.set_cons_zero]
           refine wpAnyH_take (i := 14) (v := undef) rfl (by kernel_rfl) (by kernel_rfl) (by kernel_rfl) (fun _ _ _ h => h) (Or.inr ⟨by rfl, rfl⟩) (⟨rl8, co, csh, crk⟩) ?_
           simp only [Act.put, List.getElem_toArray, List.getElem_cons_succ, List.getElem_cons_zero, List.setIfInBounds_toArray, List.set_cons_succ, List.set_cons_zero]
           refine wpAnyH_take (i := 15) (v := undef) rfl (by kernel_rfl) (by kernel_rfl) (by kernel_rfl) (fun _ _ _ h => h) (Or.inr ⟨by rfl, rfl⟩) (⟨rl8, co, csh, crk⟩) ?_
           simp only [Act.put, List.getElem_toArray, List.getElem_cons_succ, List.getElem_cons_zero, List.setIfInBounds_toArray, List.set_cons_succ, List.set_cons_zero]
           refine wpAnyH_take (i := 16) (v := .bool false) rfl (by kernel_rfl) (by kernel_rfl) (by kernel_rfl) (fun _ _ _ h => h) (Or.inl ⟨by rfl, ?y411⟩) (⟨rl8, co, csh, crk⟩) ?r411
           case y411 =>
            intro w_ hS_
            go_simp
            try with_reducible rfl
           simp only [Act.put, List.getElem_toArray, List.getElem_cons_succ, List.getElem_cons_zero, List.setIfInBounds_toArray, List.set_cons_succ, List.set_cons_zero]
           refine wpAnyH_take (i := 17) (v := .bool false) rfl (by kernel_rfl) (by kernel_rfl) (by kernel_rfl) (fun _ _ _ h => h) (Or.inl ⟨by rfl, ?y412⟩) (⟨rl8, co, csh, crk⟩) ?r412
           case y412 =>
            intro w_ hS_
            go_simp
            try with_reducible rfl
           simp only [Act.put, List.getElem_toArray, List.getElem_cons_succ, List.getElem_cons_zero, List.setIfInBounds_toArray, List.set_cons_succ, List.set_cons_zero]
           refine wpAnyH_take (i := 18) (v := undef) rfl (by kernel_rfl) (by kernel_rfl) (by kernel_rfl) (fun _ _ _ h => h) (Or.inr ⟨by rfl, rfl⟩) (⟨rl8, co, csh, crk⟩) ?_
           simp only [Act.put, List.getElem_toArray, List.getElem_cons_succ, List.getElem_cons_zero, List.setIfInBounds_toArray, List.set_cons_succ, List.set_cons_zero]
           refine wpAnyH_take (i := 19) (v := undef) rfl (by kernel_rfl) (by kernel_rfl) (by kernel_rfl) (fun _ _ _ h => h) (Or.inr ⟨by rfl, rfl⟩) (⟨rl8, co, csh, crk⟩) ?_
           simp only [Act.put, List.getElem_toArray, List.getElem_cons_succ, List.getElem_cons_zero, List.setIfInBounds_toArray, List.set_cons_succ, List.set_cons_zero]
           refine wpAnyH_take (i := 20) (v := undef) rfl (by kernel_rfl) (by kernel_rfl) (by kernel_rfl) (fun _ _ _ h => h) (Or.inr ⟨by rfl, rfl⟩) (⟨rl8, co, csh, crk⟩) ?_
           simp only [Act.put, List.getElem_toArray, List.getElem_cons_succ, List.getElem_cons_zero, List.setIfInBounds_toArray, List.set_cons_succ, List.set_cons_zero]
           refine wpAnyH_take (i := 21) (v := undef) rfl (by kernel_rfl) (by kernel_rfl) (by kernel_rfl) (fun _ _ _ h => h) (Or.inr ⟨by rfl, rfl⟩) (⟨rl8, co, csh, crk⟩) ?_
           simp only [Act.put, List.getElem_toArray, List.getElem_cons_succ, List.getElem_cons_zero, List.setIfInBounds_toArray, List.set_cons_succ, List.set_cons_zero]
           refine wpAnyH_take (i := 22) (v := undef) rfl (by kernel_rfl) (by kernel_rfl) (by kernel_rfl) (fun _ _ _ h => h) (Or.inr ⟨by rfl, rfl⟩) (⟨rl8, co, csh, crk⟩) ?_
           simp only [Act.put, List.getElem_toArray, List.getElem_cons_succ, List.getElem_cons_zero, List.setIfInBounds_toArray, List.set_cons_succ, List.set_cons_zero]
           refine wpAnyH_take (i := 23) (v := undef) rfl (by kernel_rfl) (by kernel_rfl) (by kernel_rfl) (fun _ _ _ h => h) (Or.inr ⟨by rfl, rfl⟩) (⟨rl8, co, csh, crk⟩) ?_
           simp only [Act.put, List.getElem_toArray, List.getElem_cons_succ, List.getElem_cons_zero, List.setIfInBounds_toArray, List.set_cons_succ, List.set_cons_zero]
           refine wpAnyH_take (i := 24) (v := undef) rfl (by kernel_rfl) (by kernel_rfl) (by kernel_rfl) (fun _ _ _ h => h) (Or.inr ⟨by rfl, rfl⟩) (⟨rl8, co, csh, crk⟩) ?_
           simp only [Act.put, List.getElem_toArray, List.getElem_cons_succ, List.getElem_cons_zero, List.setIfInBounds_toArray, List.set_cons_succ, List.set_cons_zero]
           refine wpAnyH_take (i := 25) (v := undef) rfl (by kernel_rfl) (by kernel_rfl) (by kernel_rfl) (fun _ _ _ h => h) (Or.inr ⟨by rfl, rfl⟩) (⟨rl8, co, csh, crk⟩) ?_
           simp only [Act.put, List.getElem_toArray, List.getElem_cons_succ, List.getElem_cons_zero, List.setIfInBounds_toArray, List.set_cons_succ, List.set_cons_zero]
           refine wpAnyH_take (i := 26) (v := .bool false) rfl (by kernel_rfl) (by kernel_rfl) (by kernel_rfl) (fun _ _ _ h => h) (Or.inl ⟨by rfl, ?y421⟩) (⟨rl8, co, csh, crk⟩) ?r421
           case y421 =>
            intro w_ hS_
            go_simp
            try with_reducible rfl
           simp only [Act.put, List.getElem_toArray, List.getElem_cons_succ, List.getElem_cons_zero, List.setIfInBounds_toArray, List.set_cons_succ, List.set_cons_zero]
           refine wpAnyH_take (i := 27) (v := .bool false) rfl (by kernel_rfl) (by kernel_rfl) (by kernel_rfl) (fun _ _ _ h => h) (Or.inl ⟨by rfl, ?y422⟩) (⟨rl8, co, csh, crk⟩) ?r422
           case y422 =>
            intro w_ hS_
            go_simp
            try with_reducible rfl
           simp only [Act.put, List.getElem_toArray, List.getElem_cons_succ, List.getElem_cons_zero, List.setIfInBounds_toArray, List.set_cons_succ, List.set_cons_zero]
           refine wpAnyH_done (by kernel_rfl) ?_ _
           refine NoPanic.normal ?_
           have dz : (z.1 == 0) = false := by
            have e : (z.1 == 0) = decide (z.1 = 0) := by by_cases h : z.1 = 0 <;> simp [h]
            rw [e, hse1]
            unfold thr
            rw [dO, dS, dQ]
            rfl
           clear hse1
           go_wp2_with (fail)
           have hb : Below wd394.heap.size wd394 wd394.drew := below_drN (Below.refl _ _) 1
           replace rp0 := keep hb rp0
           replace rl8 := keep hb rl8
           replace co := (World.cell?_of_block (hb.block _ hgl2)).trans co
           replace csh := (World.cell?_of_block (hb.block _ hgl2)).trans csh
           replace crk := rangeAt_keep crk (hb.block _ hgl2)
           replace hgl2 := Nat.lt_of_lt_of_le hgl2 hb.size
           replace hB3 := hB3.keep hb
           replace hO3 := hO3.keep hb
           replace hw := Below.after hw hb
           clear hb
           refine wp_region_noPanic ?_
           refine wp_region_held (S := fun W_ => W_.heap[go]? = some (.cells (opr x) 30 (0, 0)) ∧ W_.cell? ⟨gl, k * 35 + 33, none⟩ = some (.bool true) ∧ W_.cell? ⟨gl, k * 35 + 34, none⟩ = some (.bool true) ∧ W_.rangeAt gl (k * 35 + 1) (k8 a.k)) (by kernel_rfl) ?_
           change wpAnyH _ _ _ _ _ _ _ _ (World.drew _)
           generalize wd394.drew = wd423 at *
           refine wpAnyH_take (i := 0) (v := ?v424) rfl (by kernel_rfl) (by kernel_rfl) (by kernel_rfl) (fun _ _ _ h => h) (Or.inl ⟨by rfl, ?y424⟩) (⟨rl8, co, csh, crk⟩) ?r424
           case y424 =>
            intro w_ hS_
            go_simp
            try with_reducible rfl
           simp only [Act.put, List.getElem_toArray, List.getElem_cons_zero, List.setIfInBounds_toArray, List.set_cons_succ, List.set_cons_zero]
           refine wpAnyH_take (i := 1) (v := ?v425) rfl (by kernel_rfl) (by kernel_rfl) (by kernel_rfl) (fun _ _ _ h => h) (Or.inl ⟨by rfl, ?y425⟩) (⟨rl8, co, csh, crk⟩) ?r425
           case y425 =>
            intro w_ hS_
            go_simp
            try with_reducible rfl
           simp only [Act.put, List.getElem_toArray, List.getElem_cons_succ, List.getElem_cons_zero, List.setIfInBounds_toArray, List.set_cons_succ, List.set_cons_zero]
           refine wpAnyH_take (i := 2) (v := ?v426) rfl (by kernel_rfl) (by kernel_rfl) (by kernel_rfl) (fun _ _ _ h => h) (Or.inl ⟨by rfl, ?y426⟩) (⟨rl8, co, csh, crk⟩) ?r426
           case y426 =>
            intro w_ hS_
            go_simp
            try with_reducible rfl
           simp only [Act.put, List.getElem_toArray, List.getElem_cons_succ, List.getElem_cons_zero, List.setIfInBounds_toArray, List.set_cons_succ, List.set_cons_zero]
           refine wpAnyH_take (i := 3) (v := ?v427) rfl (by kernel_rfl) (by kernel_rfl) (by kernel_rfl) (fun _ _ _ h => h) (Or.inl ⟨by rfl, ?y427⟩) (⟨rl8, co, csh, crk⟩) ?r427
           case y427 =>
            intro w_ hS_
            go_simp
            try with_reducible rfl
           simp only [Act.put, List.getElem_toArray, List.getElem_cons_succ, List.getElem_cons_zero, List.setIfInBounds_toArray, List.set_cons_succ, List.set_cons_zero]
           refine wpAnyH_take (i := 4) (v := .pointer (some ⟨gl, k * 35, none⟩)) rfl (by kernel_rfl) (by kernel_rfl) (by kernel_rfl) (fun _ _ _ h => h) (Or.inl ⟨by rfl, ?y428⟩) (⟨rl8, co, csh, crk⟩) ?r428
           case y428 =>
            intro w_ hS_
            go_simp
            try with_reducible rfl
           simp only [Act.put, List.getElem_toArray, List.getElem_cons_succ, List.getElem_cons_zero, List.setIfInBounds_toArray, List.set_cons_succ, List.set_cons_zero]
           refine wpAnyH_take (i := 5) (v := .pointer (some ⟨gl, k * 35 + 34, none⟩)) rfl (by kernel_rfl) (by kernel_rfl) (by kernel_rfl) (fun _ _ _ h => h) (Or.inl ⟨by rfl, ?y429⟩) (⟨rl8, co, csh, crk⟩) ?r429
           case y429 =>
            intro w_ hS_
            go_simp
            try with_reducible rfl
           simp only [Act.put, List.getElem_toArray, List.getElem_cons_succ, List.getElem_cons_zero, List.setIfInBounds_toArray, List.set_cons_succ, List.set_cons_zero]
           refine wpAnyH_take (i := 6) (v := .bool true) rfl (by kernel_rfl) (by kernel_rfl) (by kernel_rfl) (fun _ _ _ h => h) (Or.inl ⟨by rfl, ?y430⟩) (⟨rl8, co, csh, crk⟩) ?r430
           case y430 =>
            intro w_ hS_
            have c_ := hS_.2.2.1
            go_simp
            try with_reducible rfl
           simp only [Act.put, List.getElem_toArray, List.getElem_cons_succ, List.getElem_cons_zero, List.setIfInBounds_toArray, List.set_cons_succ, List.set_cons_zero]
           refine wpAnyH_take (i := 7) (v := .bool false) rfl (by kernel_rfl) (by kernel_rfl) (by kernel_rfl) (fun _ _ _ h => h) (Or.inl ⟨by rfl, ?y431⟩) (⟨rl8, co, csh, crk⟩) ?r431
           case y431 =>
            intro w_ hS_
            go_simp
            try with_reducible rfl
           simp only [Act.put, List.getElem_toArray, List.getElem_cons_succ, List.getElem_cons_zero, List.setIfInBounds_toArray, List.set_cons_succ, List.set_cons_zero]
           refine wpAnyH_take (i := 8) (v := .bool false) rfl (by kernel_rfl) (by kernel_rfl) (by kernel_rfl) (fun _ _ _ h => h) (Or.inl ⟨by rfl, ?y432⟩) (⟨rl8, co, csh, crk⟩) ?r432
           case y432 =>
            intro w_ hS_
            go_simp
            try with_reducible rfl
           simp only [Act.put, List.getElem_toArray, List.getElem_cons_succ, List.getElem_cons_zero, List.setIfInBounds_toArray, List.set_cons_succ, List.set_cons_zero]
           refine wpAnyH_take (i := 9) (v := .bool false) rfl (by kernel_rfl) (by kernel_rfl) (by kernel_rfl) (fun _ _ _ h => h) (Or.inl ⟨by rfl, ?y433⟩) (⟨rl8, co, csh, crk⟩) ?r433
           case y433 =>
            intro w_ hS_
            go_simp
            try with_reducible rfl
           simp only [Act.put, List.getElem_toArray, List.getElem_cons_succ, List.getElem_cons_zero, List.setIfInBounds_toArray, List.set_cons_succ, List.set_cons_zero]
           refine wpAnyH_take (i := 10) (v := undef) rfl (by kernel_rfl) (by kernel_rfl) (by kernel_rfl) (fun _ _ _ h => h) (Or.inr ⟨by rfl, rfl⟩) (⟨rl8, co, csh, crk⟩) ?_
           simp only [Act.put, List.getElem_toArray, List.getElem_cons_succ, List.getElem_cons_zero, List.setIfInBounds_toArray, List.set_cons_succ, List.set_cons_zero]
           refine wpAnyH_take (i := 11) (v := undef) rfl (by kernel_rfl) (by kernel_rfl) (by kernel_rfl) (fun _ _ _ h => h) (Or.inr ⟨by rfl, rfl⟩) (⟨rl8, co, csh, crk⟩) ?_
           simp only [Act.put, List.getElem_toArray, List.getElem_cons_succ, List.getElem_cons_zero, List.setIfInBounds_toArray, List.set_cons_succ, List.set_cons_zero]
           refine wpAnyH_take (i := 12) (v := undef) rfl (by kernel_rfl) (by kernel_rfl) (by kernel_rfl) (fun _ _ _ h => h) (Or.inr ⟨by rfl, rfl⟩) (⟨rl8, co, csh, crk⟩) ?_
           simp only [Act.put, List.getElem_toArray, List.getElem_cons_succ, List.getElem_cons_zero, List.setIfInBounds_toArray, List.set_cons_succ, List.set_cons_zero]
           refine wpAnyH_take (i := 13) (v := undef) rfl (by kernel_rfl) (by kernel_rfl) (by kernel_rfl) (fun _ _ _ h => h) (Or.inr ⟨by rfl, rfl⟩) (⟨rl8, co, csh, crk⟩) ?_
           simp only [Act.put, List.getElem_toArray, List.getElem_cons_succ, List.getElem_cons_zero, List.setIfInBounds_toArray, List.set_cons_succ, List.set_cons_zero]
           refine wpAnyH_take (i := 14) (v := undef) rfl (by kernel_rfl) (by kernel_rfl) (by kernel_rfl) (fun _ _ _ h => h) (Or.inr ⟨by rfl, rfl⟩) (⟨rl8, co, csh, crk⟩) ?_
           simp only [Act.put, List.getElem_toArray, List.getElem_cons_succ, List.getElem_cons_zero, List.setIfInBounds_toArray, List.set_cons_succ, List.set_cons_zero]
           refine wpAnyH_take (i := 15) (v := undef) rfl (by kernel_rfl) (by kernel_rfl) (by kernel_rfl) (fun _ _ _ h => h) (Or.inr ⟨by rfl, rfl⟩) (⟨rl8, co, csh, crk⟩) ?_
           simp only [Act.put, List.getElem_toArray, List.getElem_cons_succ, List.getElem_cons_zero, List.setIfInBounds_toArray, List.set_cons_succ, List.set_cons_zero]
           refine wpAnyH_take (i := 16) (v := undef) rfl (by kernel_rfl) (by kernel_rfl) (by kernel_rfl) (fun _ _ _ h => h) (Or.inr ⟨by rfl, rfl⟩) (⟨rl8, co, csh, crk⟩) ?_
           simp only [Act.put, List.getElem_toArray, List.getElem_cons_succ, List.getElem_cons_zero, List.setIfInBounds_toArray, List.set_cons_succ, List.set_cons_zero]
           refine wpAnyH_take (i := 17) (v := undef) rfl (by kernel_rfl) (by kernel_rfl) (by kernel_rfl) (fun _ _ _ h => h) (Or.inr ⟨by rfl, rfl⟩) (⟨rl8, co, csh, crk⟩) ?_
           simp only [Act.put, List.getElem_toArray, List.getElem_cons_succ, List.getElem_cons_zero, List.setIfInBounds_toArray, List.set_cons_succ, List.set_cons_zero]
           refine wpAnyH_take (i := 18) (v := .bool false) rfl (by kernel_rfl) (by kernel_rfl) (by kernel_rfl) (fun _ _ _ h => h) (Or.inl ⟨by rfl, ?y442⟩) (⟨rl8, co, csh, crk⟩) ?r442
           case y442 =>
            intro w_ hS_
            go_simp
            try with_reducible rfl
           simp only [Act.put, List.getElem_toArray, List.getElem_cons_succ, List.getElem_cons_zero, List.setIfInBounds_toArray, List.set_cons_succ, List.set_cons_zero]
           refine wpAnyH_done (by kernel_rfl) ?_ _
           refine NoPanic.normal ?_
           rw [if_neg (fun h => by first | cases h.1 | (rw [dS] at h; cases h.1))] at hse2
           go_wp2_with (first | (refine wpList_load_part rfl 23 _ rfl (w.heap.size) 0 rfl 23 (irow .u8 y) (0, 0) (irow .u8 y) _ rp0 (all_rowe _) Tryd.underlying23 rfl (infoKy _ hy.1) ?_) | (refine wpList_load_part rfl 23 _ rfl (go) 3 rfl 30 (opr x) (0, 0) (irow .u8 x.k) _ rl8 (op_k x hxo.1.1) Tryd.underlying23 rfl (infoKy _ hxo.1.1) ?_) | (refine wpList_load_part rfl 30 _ rfl (go) 0 rfl 30 (opr x) (0, 0) (opr x) _ rl8 (all_rowe _) Tryd.underlying30 rfl (op_info _ hxo.1.1) ?_) | fail)
           refine ⟨⟨i + 1, _, _, _, _, _, by go_num, by omega, by omega, ⟨hB3, hO3, hse2, hfl, by omega, hw, hwb⟩, rp0⟩, ?_⟩
           simp [intOf]; omega
    ·obtain rfl : k = l.length := by omega
     have dk : decide ((l.length : Int) < (l.length : Int)) = false := by simp
     have hpk := pk_of (Nat.le_refl _) hkn.out (fun q => absurd q (by omega))
     have hkl2 : ¬ pk l x.n < l.length := by rw [hpk]; omega
     go_wp2_with (fail)
     have hb : Below wr.heap.size wr wr.drew := below_drN (Below.refl _ _) 1
     replace rp0 := keep hb rp0
     replace rl8 := keep hb rl8
     replace hSp := hSp.keep hb
     clear hb
     refine wp_region_noPanic ?_
     refine wp_region_held (S := fun W_ => W_.heap[go]? = some (.cells (opr x) 30 (0, 0))) (by kernel_rfl) ?_
     change wpAnyH _ _ _ _ _ _ _ _ (World.drew _)
     generalize wr.drew = wd443 at *
     refine wpAnyH_take (i := 0) (v := ?v444) rfl (by kernel_rfl) (by kernel_rfl) (by kernel_rfl) (fun _ _ _ h => h) (Or.inl ⟨by rfl, ?y444⟩) (rl8) ?r444
     case y444 =>
      intro w_ hS_
      go_simp
      try with_reducible rfl
     simp only [Act.put, List.getElem_toArray, List.getElem_cons_zero, List.setIfInBounds_toArray, List.set_cons_succ, List.set_cons_zero]
     refine wpAnyH_take (i := 1) (v := ?v445) rfl (by kernel_rfl) (by kernel_rfl) (by kernel_rfl) (fun _ _ _ h => h) (Or.inl ⟨by rfl, ?y445⟩) (rl8) ?r445
     case y445 =>
      intro w_ hS_
      go_simp
      try with_reducible rfl
     simp only [Act.put, List.getElem_toArray, List.getElem_cons_succ, List.getElem_cons_zero, List.setIfInBounds_toArray, List.set_cons_succ, List.set_cons_zero]
     refine wpAnyH_take (i := 2) (v := ?v446) rfl (by kernel_rfl) (by kernel_rfl) (by kernel_rfl) (fun _ _ _ h => h) (Or.inl ⟨by rfl, ?y446⟩) (rl8) ?r446
     case y446 =>
      intro w_ hS_
      go_simp
      try with_reducible rfl
     simp only [Act.put, List.getElem_toArray, List.getElem_cons_succ, List.getElem_cons_zero, List.setIfInBounds_toArray, List.set_cons_succ, List.set_cons_zero]
     refine wpAnyH_take (i := 3) (v := .bool false) rfl (by kernel_rfl) (by kernel_rfl) (by kernel_rfl) (fun _ _ _ h => h) (Or.inl ⟨by rfl, ?y447⟩) (rl8) ?r447
     case y447 =>
      intro w_ hS_
      go_simp
      try with_reducible rfl
     simp only [Act.put, List.getElem_toArray, List.getElem_cons_succ, List.getElem_cons_zero, List.setIfInBounds_toArray, List.set_cons_succ, List.set_cons_zero]
     refine wpAnyH_take (i := 4) (v := .bool false) rfl (by kernel_rfl) (by kernel_rfl) (by kernel_rfl) (fun _ _ _ h => h) (Or.inl ⟨by rfl, ?y448⟩) (rl8) ?r448
     case y448 =>
      intro w_ hS_
      go_simp
      try with_reducible rfl
     simp only [Act.put, List.getElem_toArray, List.getElem_cons_succ, List.getElem_cons_zero, List.setIfInBounds_toArray, List.set_cons_succ, List.set_cons_zero]
     refine wpAnyH_take (i := 5) (v := undef) rfl (by kernel_rfl) (by kernel_rfl) (by kernel_rfl) (fun _ _ _ h => h) (Or.inr ⟨by rfl, rfl⟩) (rl8) ?_
     simp only [Act.put, List.getElem_toArray, List.getElem_cons_succ, List.getElem_cons_zero, List.setIfInBounds_toArray, List.set_cons_succ, List.set_cons_zero]
     refine wpAnyH_take (i := 6) (v := undef) rfl (by kernel_rfl) (by kernel_rfl) (by kernel_rfl) (fun _ _ _ h => h) (Or.inr ⟨by rfl, rfl⟩) (rl8) ?_
     simp only [Act.put, List.getElem_toArray, List.getElem_cons_succ, List.getElem_cons_zero, List.setIfInBounds_toArray, List.set_cons_succ, List.set_cons_zero]
     refine wpAnyH_take (i := 7) (v := undef) rfl (by kernel_rfl) (by kernel_rfl) (by kernel_rfl) (fun _ _ _ h => h) (Or.inr ⟨by rfl, rfl⟩) (rl8) ?_
     simp only [Act.put, List.getElem_toArray, List.getElem_cons_succ, List.getElem_cons_zero, List.setIfInBounds_toArray, List.set_cons_succ, List.set_cons_zero]
     refine wpAnyH_take (i := 8) (v := undef) rfl (by kernel_rfl) (by kernel_rfl) (by kernel_rfl) (fun _ _ _ h => h) (Or.inr ⟨by rfl, rfl⟩) (rl8) ?_
     simp only [Act.put, List.getElem_toArray, List.getElem_cons_succ, List.getElem_cons_zero, List.setIfInBounds_toArray, List.set_cons_succ, List.set_cons_zero]
     refine wpAnyH_take (i := 9) (v := undef) rfl (by kernel_rfl) (by kernel_rfl) (by kernel_rfl) (fun _ _ _ h => h) (Or.inr ⟨by rfl, rfl⟩) (rl8) ?_
     simp only [Act.put, List.getElem_toArray, List.getElem_cons_succ, List.getElem_cons_zero, List.setIfInBounds_toArray, List.set_cons_succ, List.set_cons_zero]
     refine wpAnyH_take (i := 10) (v := undef) rfl (by kernel_rfl) (by kernel_rfl) (by kernel_rfl) (fun _ _ _ h => h) (Or.inr ⟨by rfl, rfl⟩) (rl8) ?_
     simp only [Act.put, List.getElem_toArray, List.getElem_cons_succ, List.getElem_cons_zero, List.setIfInBounds_toArray, List.set_cons_succ, List.set_cons_zero]
     refine wpAnyH_take (i := 11) (v := undef) rfl (by kernel_rfl) (by kernel_rfl) (by kernel_rfl) (fun _ _ _ h => h) (Or.inr ⟨by rfl, rfl⟩) (rl8) ?_
     simp only [Act.put, List.getElem_toArray, List.getElem_cons_succ, List.getElem_cons_zero, List.setIfInBounds_toArray, List.set_cons_succ, List.set_cons_zero]
     refine wpAnyH_take (i := 12) (v := undef) rfl (by kernel_rfl) (by kernel_rfl) (by kernel_rfl) (fun _ _ _ h => h) (Or.inr ⟨by rfl, rfl⟩) (rl8) ?_
     simp only [Act.put, List.getElem_toArray, List.getElem_cons_succ, List.getElem_cons_zero, List.setIfInBounds_toArray, List.set_cons_succ, List.set_cons_zero]
     refine wpAnyH_take (i := 13) (v := .bool false) rfl (by kernel_rfl) (by kernel_rfl) (by kernel_rfl) (fun _ _ _ h => h) (Or.inl ⟨by rfl, ?y457⟩) (rl8) ?r457
     case y457 =>
      intro w_ hS_
      go_simp
      try with_reducible rfl
     simp only [Act.put, List.getElem_toArray, List.getElem_cons_succ, List.getElem_cons_zero, List.setIfInBounds_toArray, List.set_cons_succ, List.set_cons_zero]
     refine wpAnyH_done (by kernel_rfl) ?_ _
     refine NoPanic.normal ?_
     generalize dk1 : (x.d == 1) = xd1 at *
     generalize dk2 : (x.d == 2) = xd2 at *
     generalize dk7 : (x.d == 7) = xd7 at *
     cases xd1
     ·skip
      have n1 : ¬ x.d = 1 := by simpa using dk1
      cases xd2
      ·skip
       cases xd7
       ·have n7 : ¬ x.d = 7 := by simpa using dk7
        as_aux_lemma =>
         have hp := hkl2
         have hdn : Hid (none = stE y y es cs x) := hide (dec_no hSp.rl y y x hp n1).symm
         have hrl0 := hSp.rl
         have fc87 := cell_at rl8 (op_d x)
         have fc88 := cell_at rl8 (op_n x)
         have fc89 := cell_at rl8 (op_r x hxo.1.1)
         have fc90 := cell_at rl8 (op_x x hxo.1.1)
         go_wp2_with (first | (refine wpList_load_part rfl 23 _ rfl (w.heap.size) 0 rfl 23 (irow .u8 y) (0, 0) (irow .u8 y) _ rp0 (all_rowe _) Tryd.underlying23 rfl (infoKy _ hy.1) ?_) | (refine wpList_load_part rfl 23 _ rfl (go) 3 rfl 30 (opr x) (0, 0) (irow .u8 x.k) _ rl8 (op_k x hxo.1.1) Tryd.underlying23 rfl (infoKy _ hxo.1.1) ?_) | (refine wpList_load_part rfl 30 _ rfl (go) 0 rfl 30 (opr x) (0, 0) (opr x) _ rl8 (all_rowe _) Tryd.underlying30 rfl (op_info _ hxo.1.1) ?_) | fail)
         clear fc87 fc88 fc89 fc90
         refine (a_called y hy x hxo.1 hxo.2 b g _ _ y es cs _ hSp.bk (hSt.below hSp.hw) (hKo.below hSp.hw) (hPo.below hSp.hw) none hdn).mono ?_
         rintro e_ wD458 ⟨ve2, vc2, rfl, hB2, -, -, hF⟩
         rw [nxt_none] at hB2
         dsimp only at hB2
         obtain ⟨hB3, hO3, hfl, hl3, hw3, -⟩ := hSp.book hB2 hF (by omega)
         replace rp0 := hF.row rp0 (hSp.bk.notin rp0 (by decide) (by decide) (by decide))
         clear hSp hB2 hF rl8
         go_wp2_with (first | (refine wpList_load_part rfl 23 _ rfl (w.heap.size) 0 rfl 23 (irow .u8 y) (0, 0) (irow .u8 y) _ rp0 (all_rowe _) Tryd.underlying23 rfl (infoKy _ hy.1) ?_) | fail)
         refine ⟨⟨i + 1, _, _, _, _, _, by go_num, by omega, by omega, ⟨hB3, hO3, hrl0, by omega, by omega, hw3, hwb⟩, rp0⟩, ?_⟩
         simp [intOf]; omega
       ·clear n1
        as_aux_lemma =>
         have hp := hkl2
         have hfo := forget_no (es := es) hSp.rl hp
         have hrl0 := hSp.rl
         have fc91 := cell_at rl8 (op_d x)
         have fc92 := cell_at rl8 (op_n x)
         have fc93 := cell_at rl8 (op_r x hxo.1.1)
         have fc94 := cell_at rl8 (op_x x hxo.1.1)
         go_wp2_with (first | (refine wpList_load_part rfl 23 _ rfl (w.heap.size) 0 rfl 23 (irow .u8 y) (0, 0) (irow .u8 y) _ rp0 (all_rowe _) Tryd.underlying23 rfl (infoKy _ hy.1) ?_) | (refine wpList_load_part rfl 23 _ rfl (go) 3 rfl 30 (opr x) (0, 0) (irow .u8 x.k) _ rl8 (op_k x hxo.1.1) Tryd.underlying23 rfl (infoKy _ hxo.1.1) ?_) | (refine wpList_load_part rfl 30 _ rfl (go) 0 rfl 30 (opr x) (0, 0) (opr x) _ rl8 (all_rowe _) Tryd.underlying30 rfl (op_info _ hxo.1.1) ?_) | fail)
         clear fc91 fc92 fc93 fc94
         refine (a_Forget x.n hxo.2 b g _ _ y es cs _ hSp.bk).mono ?_
         rintro e_ wF459 ⟨ve2, vc2, rfl, hB2, -, -, hF⟩
         obtain ⟨hB3, hO3, hfl, hl3, hw3, -⟩ := hSp.book hB2 hF (Nat.le_trans (nxt_len es cs _) (by omega))
         replace rp0 := hF.row rp0 (hSp.bk.notin rp0 (by decide) (by decide) (by decide))
         replace rl8 := hF.row rl8 (hSp.bk.notin rl8 (by decide) (by decide) (by decide))
         clear hSp hB2 hF
         generalize hfz : foR es cs x.n = z at *
         subst hfo
         dsimp only at hB3 hfl
         rw [nxt_none] at hB3 hfl
         dsimp only at hB3 hfl
         go_wp2_with (first | (refine wpList_load_part rfl 23 _ rfl (w.heap.size) 0 rfl 23 (irow .u8 y) (0, 0) (irow .u8 y) _ rp0 (all_rowe _) Tryd.underlying23 rfl (infoKy _ hy.1) ?_) | (refine wpList_load_part rfl 23 _ rfl (go) 3 rfl 30 (opr x) (0, 0) (irow .u8 x.k) _ rl8 (op_k x hxo.1.1) Tryd.underlying23 rfl (infoKy _ hxo.1.1) ?_) | (refine wpList_load_part rfl 30 _ rfl (go) 0 rfl 30 (opr x) (0, 0) (opr x) _ rl8 (all_rowe _) Tryd.underlying30 rfl (op_info _ hxo.1.1) ?_) | fail)
         refine ⟨⟨i + 1, _, _, _, _, _, by go_num, by omega, by omega, ⟨hB3, hO3, hrl0, hfl, by omega, hw3, hwb⟩, rp0⟩, ?_⟩
         simp [intOf]; omega
      ·clear n1
       as_aux_lemma =>
        have hp := hkl2
        have fc95 := cell_at rl8 (op_d x)
        have fc96 := cell_at rl8 (op_n x)
        have fc97 := cell_at rl8 (op_r x hxo.1.1)
        have fc98 := cell_at rl8 (op_x x hxo.1.1)
        have hmy : (clm (fnC cs x.n) && decide (x.k = (fnC cs x.n).k)) = false := by rw [fnC_none (hSp.rl.no hp)]; rfl
        go_wp2_with (first | (refine wpList_load_part rfl 23 _ rfl (w.heap.size) 0 rfl 23 (irow .u8 y) (0, 0) (irow .u8 y) _ rp0 (all_rowe _) Tryd.underlying23 rfl (infoKy _ hy.1) ?_) | (refine wpList_load_part rfl 23 _ rfl (go) 3 rfl 30 (opr x) (0, 0) (irow .u8 x.k) _ rl8 (op_k x hxo.1.1) Tryd.underlying23 rfl (infoKy _ hxo.1.1) ?_) | (refine wpList_load_part rfl 30 _ rfl (go) 0 rfl 30 (opr x) (0, 0) (opr x) _ rl8 (all_rowe _) Tryd.underlying30 rfl (op_info _ hxo.1.1) ?_) | fail)
        clear fc95 fc96 fc97 fc98
        have hb : Below wd443.heap.size wd443 wd443.drew := below_drN (Below.refl _ _) 1
        replace rp0 := keep hb rp0
        replace rl8 := keep hb rl8
        replace hSp := hSp.keep hb
        clear hb
        refine wp_region_noPanic ?_
        refine wp_region_held (S := fun W_ => W_.heap[go]? = some (.cells (opr x) 30 (0, 0))) (by kernel_rfl) ?_
        change wpAnyH _ _ _ _ _ _ _ _ (World.drew _)
        generalize wd443.drew = wd460 at *
        refine wpAnyH_take (i := 0) (v := ?v461) rfl (by kernel_rfl) (by kernel_rfl) (by kernel_rfl) (fun _ _ _ h => h) (Or.inl ⟨by rfl, ?y461⟩) (rl8) ?r461
        case y461 =>
         intro w_ hS_
         go_simp
         try with_reducible rfl
        simp only [Act.put, List.getElem_toArray, List.getElem_cons_zero, List.setIfInBounds_toArray, List.set_cons_succ, List.set_cons_zero]
        refine wpAnyH_take (i := 1) (v := ?v462) rfl (by kernel_rfl) (by kernel_rfl) (by kernel_rfl) (fun _ _ _ h => h) (Or.inl ⟨by rfl, ?y462⟩) (rl8) ?r462
        case y462 =>
         intro w_ hS_
         go_simp
         try with_reducible rfl
        simp only [Act.put, List.getElem_toArray, List.getElem_cons_succ, List.getElem_cons_zero, List.setIfInBounds_toArray, List.set_cons_succ, List.set_cons_zero]
        refine wpAnyH_take (i := 2) (v := undef) rfl (by kernel_rfl) (by kernel_rfl) (by kernel_rfl) (fun _ _ _ h => h) (Or.inr ⟨by rfl, rfl⟩) (rl8) ?_
        simp only [Act.put, List.getElem_toArray, List.getElem_cons_succ, List.getElem_cons_zero, List.setIfInBounds_toArray, List.set_cons_succ, List.set_cons_zero]
        refine wpAnyH_take (i := 3) (v := undef) rfl (by kernel_rfl) (by kernel_rfl) (by kernel_rfl) (fun _ _ _ h => h) (Or.inr ⟨by rfl, rfl⟩) (rl8) ?_
        simp only [Act.put, List.getElem_toArray, List.getElem_cons_succ, List.getElem_cons_zero, List.setIfInBounds_toArray, List.set_cons_succ, List.set_cons_zero]
        refine wpAnyH_take (i := 4) (v := undef) rfl (by kernel_rfl) (by kernel_rfl) (by kernel_rfl) (fun _ _ _ h => h) (Or.inr ⟨by rfl, rfl⟩) (rl8) ?_
        simp only [Act.put, List.getElem_toArray, List.getElem_cons_succ, List.getElem_cons_zero, List.setIfInBounds_toArray, List.set_cons_succ, List.set_cons_zero]
        refine wpAnyH_take (i := 5) (v := undef) rfl (by kernel_rfl) (by kernel_rfl) (by kernel_rfl) (fun _ _ _ h => h) (Or.inr ⟨by rfl, rfl⟩) (rl8) ?_
        simp only [Act.put, List.getElem_toArray, List.getElem_cons_succ, List.getElem_cons_zero, List.setIfInBounds_toArray, List.set_cons_succ, List.set_cons_zero]
        refine wpAnyH_take (i := 6) (v := undef) rfl (by kernel_rfl) (by kernel_rfl) (by kernel_rfl) (fun _ _ _ h => h) (Or.inr ⟨by rfl, rfl⟩) (rl8) ?_
        simp only [Act.put, List.getElem_toArray, List.getElem_cons_succ, List.getElem_cons_zero, List.setIfInBounds_toArray, List.set_cons_succ, List.set_cons_zero]
        refine wpAnyH_take (i := 7) (v := undef) rfl (by kernel_rfl) (by kernel_rfl) (by kernel_rfl) (fun _ _ _ h => h) (Or.inr ⟨by rfl, rfl⟩) (rl8) ?_
        simp only [Act.put, List.getElem_toArray, List.getElem_cons_succ, List.getElem_cons_zero, List.setIfInBounds_toArray, List.set_cons_succ, List.set_cons_zero]
        refine wpAnyH_take (i := 8) (v := .bool false) rfl (by kernel_rfl) (by kernel_rfl) (by kernel_rfl) (fun _ _ _ h => h) (Or.inl ⟨by rfl, ?y469⟩) (rl8) ?r469
        case y469 =>
         intro w_ hS_
         go_simp
         try with_reducible rfl
        simp only [Act.put, List.getElem_toArray, List.getElem_cons_succ, List.getElem_cons_zero, List.setIfInBounds_toArray, List.set_cons_succ, List.set_cons_zero]
        refine wpAnyH_take (i := 9) (v := .bool false) rfl (by kernel_rfl) (by kernel_rfl) (by kernel_rfl) (fun _ _ _ h => h) (Or.inl ⟨by rfl, ?y470⟩) (rl8) ?r470
        case y470 =>
         intro w_ hS_
         go_simp
         try with_reducible rfl
        simp only [Act.put, List.getElem_toArray, List.getElem_cons_succ, List.getElem_cons_zero, List.setIfInBounds_toArray, List.set_cons_succ, List.set_cons_zero]
        refine wpAnyH_take (i := 10) (v := undef) rfl (by kernel_rfl) (by kernel_rfl) (by kernel_rfl) (fun _ _ _ h => h) (Or.inr ⟨by rfl, rfl⟩) (rl8) ?_
        simp only [Act.put, List.getElem_toArray, List.getElem_cons_succ, List.getElem_cons_zero, List.setIfInBounds_toArray, List.set_cons_succ, List.set_cons_zero]
        refine wpAnyH_take (i := 11) (v := undef) rfl (by kernel_rfl) (by kernel_rfl) (by kernel_rfl) (fun _ _ _ h => h) (Or.inr ⟨by rfl, rfl⟩) (rl8) ?_
        simp only [Act.put, List.getElem_toArray, List.getElem_cons_succ, List.getElem_cons_zero, List.setIfInBounds_toArray, List.set_cons_succ, List.set_cons_zero]
        refine wpAnyH_take (i := 12) (v := undef) rfl (by kernel_rfl) (by kernel_rfl) (by kernel_rfl) (fun _ _ _ h => h) (Or.inr ⟨by rfl, rfl⟩) (rl8) ?_
        simp only [Act.put, List.getElem_toArray, List.getElem_cons_succ, List.getElem_cons_zero, List.setIfInBounds_toArray, List.set_cons_succ, List.set_cons_zero]
        refine wpAnyH_take (i := 13) (v := undef) rfl (by kernel_rfl) (by kernel_rfl) (by kernel_rfl) (fun _ _ _ h => h) (Or.inr ⟨by rfl, rfl⟩) (rl8) ?_
        simp only [Act.put, List.getElem_toArray, List.getElem_cons_succ, List.getElem_cons_zero, List.setIfInBounds_toArray, List.set_cons_succ, List.set_cons_zero]
        refine wpAnyH_take (i := 14) (v := undef) rfl (by kernel_rfl) (by kernel_rfl) (by kernel_rfl) (fun _ _ _ h => h) (Or.inr ⟨by rfl, rfl⟩) (rl8) ?_
        simp only [Act.put, List.getElem_toArray, List.getElem_cons_succ, List.getElem_cons_zero, List.setIfInBounds_toArray, List.set_cons_succ, List.set_cons_zero]
        refine wpAnyH_take (i := 15) (v := undef) rfl (by kernel_rfl) (by kernel_rfl) (by kernel_rfl) (fun _ _ _ h => h) (Or.inr ⟨by rfl, rfl⟩) (rl8) ?_
        simp only [Act.put, List.getElem_toArray, List.getElem_cons_succ, List.getElem_cons_zero, List.setIfInBounds_toArray, List.set_cons_succ, List.set_cons_zero]
        refine wpAnyH_take (i := 16) (v := .bool false) rfl (by kernel_rfl) (by kernel_rfl) (by kernel_rfl) (fun _ _ _ h => h) (Or.inl ⟨by rfl, ?y477⟩) (rl8) ?r477
        case y477 =>
         intro w_ hS_
         go_simp
         try with_reducible rfl
        simp only [Act.put, List.getElem_toArray, List.getElem_cons_succ, List.getElem_cons_zero, List.setIfInBounds_toArray, List.set_cons_succ, List.set_cons_zero]
        refine wpAnyH_take (i := 17) (v := .bool false) rfl (by kernel_rfl) (by kernel_rfl) (by kernel_rfl) (fun _ _ _ h => h) (Or.inl ⟨by rfl, ?y478⟩) (rl8) ?r478
        case y478 =>
         intro w_ hS_
         go_simp
         try with_reducible rfl
        simp only [Act.put, List.getElem_toArray, List.getElem_cons_succ, List.getElem_cons_zero, List.setIfInBounds_toArray, List.set_cons_succ, List.set_cons_zero]
        refine wpAnyH_take (i := 18) (v := undef) rfl (by kernel_rfl) (by kernel_rfl) (by kernel_rfl) (fun _ _ _ h => h) (Or.inr ⟨by rfl, rfl⟩) (rl8) ?_
        simp only [Act.put, List.getElem_toArray, List.getElem_cons_succ, List.getElem_cons_zero, List.setIfInBounds_toArray, List.set_cons_succ, List.set_cons_zero]
        refine wpAnyH_take (i := 19) (v := undef) rfl (by kernel_rfl) (by kernel_rfl) (by kernel_rfl) (fun _ _ _ h => h) (Or.inr ⟨by rfl, rfl⟩) (rl8) ?_
        simp only [Act.put, List.getElem_toArray, List.getElem_cons_succ, List.getElem_cons_zero, List.setIfInBounds_toArray, List.set_cons_succ, List.set_cons_zero]
        refine wpAnyH_take (i := 20) (v := undef) rfl (by kernel_rfl) (by kernel_rfl) (by kernel_rfl) (fun _ _ _ h => h) (Or.inr ⟨by rfl, rfl⟩) (rl8) ?_
        simp only [Act.put, List.getElem_toArray, List.getElem_cons_succ, List.getElem_cons_zero, List.setIfInBounds_toArray, List.set_cons_succ, List.set_cons_zero]
        refine wpAnyH_take (i := 21) (v := undef) rfl (by kernel_rfl) (by kernel_rfl) (by kernel_rfl) (fun _ _ _ h => h) (Or.inr ⟨by rfl, rfl⟩) (rl8) ?_
        simp only [Act.put, List.getElem_toArray, List.getElem_cons_succ, List.getElem_cons_zero, List.setIfInBounds_toArray, List.set_cons_succ, List.set_cons_zero]
        refine wpAnyH_take (i := 22) (v := undef) rfl (by kernel_rfl) (by kernel_rfl) (by kernel_rfl) (fun _ _ _ h => h) (Or.inr ⟨by rfl, rfl⟩) (rl8) ?_
        simp only [Act.put, List.getElem_toArray, List.getElem_cons_succ, List.getElem_cons_zero, List.setIfInBounds_toArray, List.set_cons_succ, List.set_cons_zero]
        refine wpAnyH_take (i := 23) (v := undef) rfl (by kernel_rfl) (by kernel_rfl) (by kernel_rfl) (fun _ _ _ h => h) (Or.inr ⟨by rfl, rfl⟩) (rl8) ?_
        simp only [Act.put, List.getElem_toArray, List.getElem_cons_succ, List.getElem_cons_zero, List.setIfInBounds_toArray, List.set_cons_succ, List.set_cons_zero]
        refine wpAnyH_take (i := 24) (v := undef) rfl (by kernel_rfl) (by kernel_rfl) (by kernel_rfl) (fun _ _ _ h => h) (Or.inr ⟨by rfl, rfl⟩) (rl8) ?_
        simp only [Act.put, List.getElem_toArray, List.getElem_cons_succ, List.getElem_cons_zero, List.setIfInBounds_toArray, List.set_cons_succ, List.set_cons_zero]
        refine wpAnyH_take (i := 25) (v := undef) rfl (by kernel_rfl) (by kernel_rfl) (by kernel_rfl) (fun _ _ _ h => h) (Or.inr ⟨by rfl, rfl⟩) (rl8) ?_
        simp only [Act.put, List.getElem_toArray, List.getElem_cons_succ, List.getElem_cons_zero, List.setIfInBounds_toArray, List.set_cons_succ, List.set_cons_zero]
        refine wpAnyH_take (i := 26) (v := .bool false) rfl (by kernel_rfl) (by kernel_rfl) (by kernel_rfl) (fun _ _ _ h => h) (Or.inl ⟨by rfl, ?y487⟩) (rl8) ?r487
        case y487 =>
         intro w_ hS_
         go_simp
         try with_reducible rfl
        simp only [Act.put, List.getElem_toArray, List.getElem_cons_succ, List.getElem_cons_zero, List.setIfInBounds_toArray, List.set_cons_succ, List.set_cons_zero]
        refine wpAnyH_take (i := 27) (v := .bool false) rfl (by kernel_rfl) (by kernel_rfl) (by kernel_rfl) (fun _ _ _ h => h) (Or.inl ⟨by rfl, ?y488⟩) (rl8) ?r488
        case y488 =>
         intro w_ hS_
         go_simp
         try with_reducible rfl
        simp only [Act.put, List.getElem_toArray, List.getElem_cons_succ, List.getElem_cons_zero, List.setIfInBounds_toArray, List.set_cons_succ, List.set_cons_zero]
        refine wpAnyH_done (by kernel_rfl) ?_ _
        refine NoPanic.normal ?_
        have fc99 := cell_at rl8 (op_d x)
        have fc100 := cell_at rl8 (op_n x)
        have fc101 := cell_at rl8 (op_r x hxo.1.1)
        have fc102 := cell_at rl8 (op_x x hxo.1.1)
        go_wp2_with (first | (refine wpList_load_part rfl 23 _ rfl (w.heap.size) 0 rfl 23 (irow .u8 y) (0, 0) (irow .u8 y) _ rp0 (all_rowe _) Tryd.underlying23 rfl (infoKy _ hy.1) ?_) | (refine wpList_load_part rfl 23 _ rfl (go) 3 rfl 30 (opr x) (0, 0) (irow .u8 x.k) _ rl8 (op_k x hxo.1.1) Tryd.underlying23 rfl (infoKy _ hxo.1.1) ?_) | (refine wpList_load_part rfl 30 _ rfl (go) 0 rfl 30 (opr x) (0, 0) (opr x) _ rl8 (all_rowe _) Tryd.underlying30 rfl (op_info _ hxo.1.1) ?_) | fail)
        clear fc99 fc100 fc101 fc102
        have cM := a_May x.n hxo.2 x.k hxo.1 b g _ _ y es cs _ hSp.bk
        rw [hmy] at cM
        refine cM.mono ?_
        rintro e_ wM489 ⟨rfl, hb⟩
        clear cM
        replace rp0 := keep hb rp0
        replace rl8 := keep hb rl8
        replace hSp := hSp.keep hb
        clear hb
        go_wp2_with (first | (refine wpList_load_part rfl 23 _ rfl (w.heap.size) 0 rfl 23 (irow .u8 y) (0, 0) (irow .u8 y) _ rp0 (all_rowe _) Tryd.underlying23 rfl (infoKy _ hy.1) ?_) | (refine wpList_load_part rfl 23 _ rfl (go) 3 rfl 30 (opr x) (0, 0) (irow .u8 x.k) _ rl8 (op_k x hxo.1.1) Tryd.underlying23 rfl (infoKy _ hxo.1.1) ?_) | (refine wpList_load_part rfl 30 _ rfl (go) 0 rfl 30 (opr x) (0, 0) (opr x) _ rl8 (all_rowe _) Tryd.underlying30 rfl (op_info _ hxo.1.1) ?_) | fail)
        refine ⟨⟨i + 1, _, _, _, _, _, by go_num, by omega, by omega, ⟨hSp.bk, hSp.own, hSp.rl, by omega, by omega, hSp.hw, hSp.wb⟩, rp0⟩, ?_⟩
        simp [intOf]; omega
     ·as_aux_lemma =>
       have hp := hkl2
       have hsee := see_no (es := es) hSp.rl hSp.bk.srt (by omega) hp x.k
       have fc103 := cell_at rl8 (op_d x)
       have fc104 := cell_at rl8 (op_n x)
       have fc105 := cell_at rl8 (op_r x hxo.1.1)
       have fc106 := cell_at rl8 (op_x x hxo.1.1)
       go_wp2_with (first | (refine wpList_load_part rfl 23 _ rfl (w.heap.size) 0 rfl 23 (irow .u8 y) (0, 0) (irow .u8 y) _ rp0 (all_rowe _) Tryd.underlying23 rfl (infoKy _ hy.1) ?_) | (refine wpList_load_part rfl 23 _ rfl (go) 3 rfl 30 (opr x) (0, 0) (irow .u8 x.k) _ rl8 (op_k x hxo.1.1) Tryd.underlying23 rfl (infoKy _ hxo.1.1) ?_) | (refine wpList_load_part rfl 30 _ rfl (go) 0 rfl 30 (opr x) (0, 0) (opr x) _ rl8 (all_rowe _) Tryd.underlying30 rfl (op_info _ hxo.1.1) ?_) | fail)
       clear fc103 fc104 fc105 fc106
       refine (a_See x.n hxo.2 x.k hxo.1 b g _ _ y es cs _ hSp.bk).mono ?_
       rintro e_ wS490 ⟨ve2, vc2, rfl, hB2, -, -, hF⟩
       obtain ⟨hB3, hO3, hfl, hl3, hw3, -⟩ := hSp.book hB2 hF (Nat.le_trans (nxt_len es cs _) (by omega))
       replace rp0 := hF.row rp0 (hSp.bk.notin rp0 (by decide) (by decide) (by decide))
       replace rl8 := hF.row rl8 (hSp.bk.notin rl8 (by decide) (by decide) (by decide))
       clear hSp hB2 hF
       generalize hz : seR es cs x.n x.k = z at *
       clear hz
       have hw := hw3
       clear hw3
       go_wp2_with (fail)
       have hb : Below wS490.heap.size wS490 wS490.drew := below_drN (Below.refl _ _) 1
       replace rp0 := keep hb rp0
       replace rl8 := keep hb rl8
       replace hB3 := hB3.keep hb
       replace hO3 := hO3.keep hb
       replace hw := Below.after hw hb
       clear hb
       refine wp_region_noPanic ?_
       refine wp_region_held (S := fun W_ => W_.heap[go]? = some (.cells (opr x) 30 (0, 0))) (by kernel_rfl) ?_
       change wpAnyH _ _ _ _ _ _ _ _ (World.drew _)
       generalize wS490.drew = wd491 at *
       refine wpAnyH_take (i := 0) (v := ?v492) rfl (by kernel_rfl) (by kernel_rfl) (by kernel_rfl) (fun _ _ _ h => h) (Or.inl ⟨by rfl, ?y492⟩) (rl8) ?r492
       case y492 =>
        intro w_ hS_
        go_simp
        try with_reducible rfl
       simp only [Act.put, List.getElem_toArray, List.getElem_cons_zero, List.setIfInBounds_toArray, List.set_cons_succ, List.set_cons_zero]
       refine wpAnyH_take (i := 1) (v := ?v493) rfl (by kernel_rfl) (by kernel_rfl) (by kernel_rfl) (fun _ _ _ h => h) (Or.inl ⟨by rfl, ?y493⟩) (rl8) ?r493
       case y493 =>
        intro w_ hS_
        go_simp
        try with_reducible rfl
       simp only [Act.put, List.getElem_toArray, List.getElem_cons_succ, List.getElem_cons_zero, List.setIfInBounds_toArray, List.set_cons_succ, List.set_cons_zero]
       refine wpAnyH_take (i := 2) (v := undef) rfl (by kernel_rfl) (by kernel_rfl) (by kernel_rfl) (fun _ _ _ h => h) (Or.inr ⟨by rfl, rfl⟩) (rl8) ?_
       simp only [Act.put, List.getElem_toArray, List.getElem_cons_succ, List.getElem_cons_zero, List.setIfInBounds_toArray, List.set_cons_succ, List.set_cons_zero]
       refine wpAnyH_take (i := 3) (v := undef) rfl (by kernel_rfl) (by kernel_rfl) (by kernel_rfl) (fun _ _ _ h => h) (Or.inr ⟨by rfl, rfl⟩) (rl8) ?_
       simp only [Act.put, List.getElem_toArray, List.getElem_cons_succ, List.getElem_cons_zero, List.setIfInBounds_toArray, List.set_cons_succ, List.set_cons_zero]
       refine wpAnyH_take (i := 4) (v := undef) rfl (by kernel_rfl) (by kernel_rfl) (by kernel_rfl) (fun _ _ _ h => h) (Or.inr ⟨by rfl, rfl⟩) (rl8) ?_
       simp only [Act.put, List.getElem_toArray, List.getElem_cons_succ, List.getElem_cons_zero, List.setIfInBounds_toArray, List.set_cons_succ, List.set_cons_zero]
       refine wpAnyH_take (i := 5) (v := undef) rfl (by kernel_rfl) (by kernel_rfl) (by kernel_rfl) (fun _ _ _ h => h) (Or.inr ⟨by rfl, rfl⟩) (rl8) ?_
       simp only [Act.put, List.getElem_toArray, List.getElem_cons_succ, List.getElem_cons_zero, List.setIfInBounds_toArray, List.set_cons_succ, List.set_cons_zero]
       refine wpAnyH_take (i := 6) (v := undef) rfl (by kernel_rfl) (by kernel_rfl) (by kernel_rfl) (fun _ _ _ h => h) (Or.inr ⟨by rfl, rfl⟩) (rl8) ?_
       simp only [Act.put, List.getElem_toArray, List.getElem_cons_succ, List.getElem_cons_zero, List.setIfInBounds_toArray, List.set_cons_succ, List.set_cons_zero]
       refine wpAnyH_take (i := 7) (v := undef) rfl (by kernel_rfl) (by kernel_rfl) (by kernel_rfl) (fun _ _ _ h => h) (Or.inr ⟨by rfl, rfl⟩) (rl8) ?_
       simp only [Act.put, List.getElem_toArray, List.getElem_cons_succ, List.getElem_cons_zero, List.setIfInBounds_toArray, List.set_cons_succ, List.set_cons_zero]
       refine wpAnyH_take (i := 8) (v := .bool false) rfl (by kernel_rfl) (by kernel_rfl) (by kernel_rfl) (fun _ _ _ h => h) (Or.inl ⟨by rfl, ?y500⟩) (rl8) ?r500
       case y500 =>
        intro w_ hS_
        go_simp
        try with_reducible rfl
       simp only [Act.put, List.getElem_toArray, List.getElem_cons_succ, List.getElem_cons_zero, List.setIfInBounds_toArray, List.set_cons_succ, List.set_cons_zero]
       refine wpAnyH_take (i := 9) (v := .bool false) rfl (by kernel_rfl) (by kernel_rfl) (by kernel_rfl) (fun _ _ _ h => h) (Or.inl ⟨by rfl, ?y501⟩) (rl8) ?r501
       case y501 =>
        intro w_ hS_
        go_simp
        try with_reducible rfl
       simp only [Act.put, List.getElem_toArray, List.getElem_cons_succ, List.getElem_cons_zero, List.setIfInBounds_toArray, List.set_cons_succ, List.set_cons_zero]
       refine wpAnyH_take (i := 10) (v := undef) rfl (by kernel_rfl) (by kernel_rfl) (by kernel_rfl) (fun _ _ _ h => h) (Or.inr ⟨by rfl, rfl⟩) (rl8) ?_
       simp only [Act.put, List.getElem_toArray, List.getElem_cons_succ, List.getElem_cons_zero, List.setIfInBounds_toArray, List.set_cons_succ, List.set_cons_zero]
       refine wpAnyH_take (i := 11) (v := undef) rfl (by kernel_rfl) (by kernel_rfl) (by kernel_rfl) (fun _ _ _ h => h) (Or.inr ⟨by rfl, rfl⟩) (rl8) ?_
       simp only [Act.put, List.getElem_toArray, List.getElem_cons_succ, List.getElem_cons_zero, List.setIfInBounds_toArray, List.set_cons_succ, List.set_cons_zero]
       refine wpAnyH_take (i := 12) (v := undef) rfl (by kernel_rfl) (by kernel_rfl) (by kernel_rfl) (fun _ _ _ h => h) (Or.inr ⟨by rfl, rfl⟩) (rl8) ?_
       simp only [Act.put, List.getElem_toArray, List.getElem_cons_succ, List.getElem_cons_zero, List.setIfInBounds_toArray, List.set_cons_succ, List.set_cons_zero]
       refine wpAnyH_take (i := 13) (v := undef) rfl (by kernel_rfl) (by kernel_rfl) (by kernel_rfl) (fun _ _ _ h => h) (Or.inr ⟨by rfl, rfl⟩) (rl8) ?_
       simp only [Act.put, List.getElem_toArray, List.getElem_cons_succ, List.getElem_cons_zero, List.setIfInBounds_toArray, List.set_cons_succ, List.set_cons_zero]
       refine wpAnyH_take (i := 14) (v := undef) rfl (by kernel_rfl) (by kernel_rfl) (by kernel_rfl) (fun _ _ _ h => h) (Or.inr ⟨by rfl, rfl⟩) (rl8) ?_
       simp only [Act.put, List.getElem_toArray, List.getElem_cons_succ, List.getElem_cons_zero, List.setIfInBounds_toArray, List.set_cons_succ, List.set_cons_zero]
       refine wpAnyH_take (i := 15) (v := undef) rfl (by kernel_rfl) (by kernel_rfl) (by kernel_rfl) (fun _ _ _ h => h) (Or.inr ⟨by rfl, rfl⟩) (rl8) ?_
       simp only [Act.put, List.getElem_toArray, List.getElem_cons_succ, List.getElem_cons_zero, List.setIfInBounds_toArray, List.set_cons_succ, List.set_cons_zero]
       refine wpAnyH_take (i := 16) (v := .bool false) rfl (by kernel_rfl) (by kernel_rfl) (by kernel_rfl) (fun _ _ _ h => h) (Or.inl ⟨by rfl, ?y508⟩) (rl8) ?r508
       case y508 =>
        intro w_ hS_
        go_simp
        try with_reducible rfl
       simp only [Act.put, List.getElem_toArray, List.getElem_cons_succ, List.getElem_cons_zero, List.setIfInBounds_toArray, List.set_cons_succ, List.set_cons_zero]
       refine wpAnyH_take (i := 17) (v := .bool false) rfl (by kernel_rfl) (by kernel_rfl) (by kernel_rfl) (fun _ _ _ h => h) (Or.inl ⟨by rfl, ?y509⟩) (rl8) ?r509
       case y509 =>
        intro w_ hS_
        go_simp
        try with_reducible rfl
       simp only [Act.put, List.getElem_toArray, List.getElem_cons_succ, List.getElem_cons_zero, List.setIfInBounds_toArray, List.set_cons_succ, List.set_cons_zero]
       refine wpAnyH_take (i := 18) (v := undef) rfl (by kernel_rfl) (by kernel_rfl) (by kernel_rfl) (fun _ _ _ h => h) (Or.inr ⟨by rfl, rfl⟩) (rl8) ?_
       simp only [Act.put, List.getElem_toArray, List.getElem_cons_succ, List.getElem_cons_zero, List.setIfInBounds_toArray, List.set_cons_succ, List.set_cons_zero]
       refine wpAnyH_take (i := 19) (v := undef) rfl (by kernel_rfl) (by kernel_rfl) (by kernel_rfl) (fun _ _ _ h => h) (Or.inr ⟨by rfl, rfl⟩) (rl8) ?_
       simp only [Act.put, List.getElem_toArray, List.getElem_cons_succ, List.getElem_cons_zero, List.setIfInBounds_toArray, List.set_cons_succ, List.set_cons_zero]
       refine wpAnyH_take (i := 20) (v := undef) rfl (by kernel_rfl) (by kernel_rfl) (by kernel_rfl) (fun _ _ _ h => h) (Or.inr ⟨by rfl, rfl⟩) (rl8) ?_
       simp only [Act.put, List.getElem_toArray, List.getElem_cons_succ, List.getElem_cons_zero, List.setIfInBounds_toArray, List.set_cons_succ, List.set_cons_zero]
       refine wpAnyH_take (i := 21) (v := undef) rfl (by kernel_rfl) (by kernel_rfl) (by kernel_rfl) (fun _ _ _ h => h) (Or.inr ⟨by rfl, rfl⟩) (rl8) ?_
       simp only [Act.put, List.getElem_toArray, List.getElem_cons_succ, List.getElem_cons_zero, List.setIfInBounds_toArray, List.set_cons_succ, List.set_cons_zero]
       refine wpAnyH_take (i := 22) (v := undef) rfl (by kernel_rfl) (by kernel_rfl) (by kernel_rfl) (fun _ _ _ h => h) (Or.inr ⟨by rfl, rfl⟩) (rl8) ?_
       simp only [Act.put, List.getElem_toArray, List.getElem_cons_succ, List.getElem_cons_zero, List.setIfInBounds_toArray, List.set_cons_succ, List.set_cons_zero]
       refine wpAnyH_take (i := 23) (v := undef) rfl (by kernel_rfl) (by kernel_rfl) (by kernel_rfl) (fun _ _ _ h => h) (Or.inr ⟨by rfl, rfl⟩) (rl8) ?_
       simp only [Act.put, List.getElem_toArray, List.getElem_cons_succ, List.getElem_cons_zero, List.setIfInBounds_toArray, List.set_cons_succ, List.set_cons_zero]
       refine wpAnyH_take (i := 24) (v := undef) rfl (by kernel_rfl) (by kernel_rfl) (by kernel_rfl) (fun _ _ _ h => h) (Or.inr ⟨by rfl, rfl⟩) (rl8) ?_
       simp only [Act.put, List.getElem_toArray, List.getElem_cons_succ, List.getElem_cons_zero, List.setIfInBounds_toArray, List.set_cons_succ, List.set_cons_zero]
       refine wpAnyH_take (i := 25) (v := undef) rfl (by kernel_rfl) (by kernel_rfl) (by kernel_rfl) (fun _ _ _ h => h) (Or.inr ⟨by rfl, rfl⟩) (rl8) ?_
       simp only [Act.put, List.getElem_toArray, List.getElem_cons_succ, List.getElem_cons_zero, List.setIfInBounds_toArray, List.set_cons_succ, List.set_cons_zero]
       refine wpAnyH_take (i := 26) (v := .bool false) rfl (by kernel_rfl) (by kernel_rfl) (by kernel_rfl) (fun _ _ _ h => h) (Or.inl ⟨by rfl, ?y518⟩) (rl8) ?r518
       case y518 =>
        intro w_ hS_
        go_simp
        try with_reducible rfl
       simp only [Act.put, List.getElem_toArray, List.getElem_cons_succ, List.getElem_cons_zero, List.setIfInBounds_toArray, List.set_cons_succ, List.set_cons_zero]
       refine wpAnyH_take (i := 27) (v := .bool false) rfl (by kernel_rfl) (by kernel_rfl) (by kernel_rfl) (fun _ _ _ h => h) (Or.inl ⟨by rfl, ?y519⟩) (rl8) ?r519
       case y519 =>
        intro w_ hS_
        go_simp
        try with_reducible rfl
       simp only [Act.put, List.getElem_toArray, List.getElem_cons_succ, List.getElem_cons_zero, List.setIfInBounds_toArray, List.set_cons_succ, List.set_cons_zero]
       refine wpAnyH_done (by kernel_rfl) ?_ _
       refine NoPanic.normal ?_
       generalize dz : (z.1 == 0) = xz at *
       cases xz
       ·rw [if_neg (by simpa using dz)] at hsee
        go_wp2_with (fail)
        have hb : Below wd491.heap.size wd491 wd491.drew := below_drN (Below.refl _ _) 1
        replace rp0 := keep hb rp0
        replace rl8 := keep hb rl8
        replace hB3 := hB3.keep hb
        replace hO3 := hO3.keep hb
        replace hw := Below.after hw hb
        clear hb
        refine wp_region_noPanic ?_
        refine wp_region_held (S := fun W_ => W_.heap[go]? = some (.cells (opr x) 30 (0, 0))) (by kernel_rfl) ?_
        change wpAnyH _ _ _ _ _ _ _ _ (World.drew _)
        generalize wd491.drew = wd520 at *
        refine wpAnyH_take (i := 0) (v := ?v521) rfl (by kernel_rfl) (by kernel_rfl) (by kernel_rfl) (fun _ _ _ h => h) (Or.inl ⟨by rfl, ?y521⟩) (rl8) ?r521
        case y521 =>
         intro w_ hS_
         go_simp
         try with_reducible rfl
        simp only [Act.put, List.getElem_toArray, List.getElem_cons_zero, List.setIfInBounds_toArray, List.set_cons_succ, List.set_cons_zero]
        refine wpAnyH_take (i := 1) (v := ?v522) rfl (by kernel_rfl) (by kernel_rfl) (by kernel_rfl) (fun _ _ _ h => h) (Or.inl ⟨by rfl, ?y522⟩) (rl8) ?r522
        case y522 =>
         intro w_ hS_
         go_simp
         try with_reducible rfl
        simp only [Act.put, List.getElem_toArray, List.getElem_cons_succ, List.getElem_cons_zero, List.setIfInBounds_toArray, List.set_cons_succ, List.set_cons_zero]
        refine wpAnyH_take (i := 2) (v := undef) rfl (by kernel_rfl) (by kernel_rfl) (by kernel_rfl) (fun _ _ _ h => h) (Or.inr ⟨by rfl, rfl⟩) (rl8) ?_
        simp only [Act.put, List.getElem_toArray, List.getElem_cons_succ, List.getElem_cons_zero, List.setIfInBounds_toArray, List.set_cons_succ, List.set_cons_zero]
        refine wpAnyH_take (i := 3) (v := undef) rfl (by kernel_rfl) (by kernel_rfl) (by kernel_rfl) (fun _ _ _ h => h) (Or.inr ⟨by rfl, rfl⟩) (rl8) ?_
        simp only [Act.put, List.getElem_toArray, List.getElem_cons_succ, List.getElem_cons_zero, List.setIfInBounds_toArray, List.set_cons_succ, List.set_cons_zero]
        refine wpAnyH_take (i := 4) (v := undef) rfl (by kernel_rfl) (by kernel_rfl) (by kernel_rfl) (fun _ _ _ h => h) (Or.inr ⟨by rfl, rfl⟩) (rl8) ?_
        simp only [Act.put, List.getElem_toArray, List.getElem_cons_succ, List.getElem_cons_zero, List.setIfInBounds_toArray, List.set_cons_succ, List.set_cons_zero]
        refine wpAnyH_take (i := 5) (v := undef) rfl (by kernel_rfl) (by kernel_rfl) (by kernel_rfl) (fun _ _ _ h => h) (Or.inr ⟨by rfl, rfl⟩) (rl8) ?_
        simp only [Act.put, List.getElem_toArray, List.getElem_cons_succ, List.getElem_cons_zero, List.setIfInBounds_toArray, List.set_cons_succ, List.set_cons_zero]
        refine wpAnyH_take (i := 6) (v := undef) rfl (by kernel_rfl) (by kernel_rfl) (by kernel_rfl) (fun _ _ _ h => h) (Or.inr ⟨by rfl, rfl⟩) (rl8) ?_
        simp only [Act.put, List.getElem_toArray, List.getElem_cons_succ, List.getElem_cons_zero, List.setIfInBounds_toArray, List.set_cons_succ, List.set_cons_zero]
        refine wpAnyH_take (i := 7) (v := undef) rfl (by kernel_rfl) (by kernel_rfl) (by kernel_rfl) (fun _ _ _ h => h) (Or.inr ⟨by rfl, rfl⟩) (rl8) ?_
        simp only [Act.put, List.getElem_toArray, List.getElem_cons_succ, List.getElem_cons_zero, List.setIfInBounds_toArray, List.set_cons_succ, List.set_cons_zero]
        refine wpAnyH_take (i := 8) (v := .bool false) rfl (by kernel_rfl) (by kernel_rfl) (by kernel_rfl) (fun _ _ _ h => h) (Or.inl ⟨by rfl, ?y529⟩) (rl8) ?r529
        case y529 =>
         intro w_ hS_
         go_simp
         try with_reducible rfl
        simp only [Act.put, List.getElem_toArray, List.getElem_cons_succ, List.getElem_cons_zero, List.setIfInBounds_toArray, List.set_cons_succ, List.set_cons_zero]
        refine wpAnyH_take (i := 9) (v := .bool false) rfl (by kernel_rfl) (by kernel_rfl) (by kernel_rfl) (fun _ _ _ h => h) (Or.inl ⟨by rfl, ?y530⟩) (rl8) ?r530
        case y530 =>
         intro w_ hS_
         go_simp
         try with_reducible rfl
        simp only [Act.put, List.getElem_toArray, List.getElem_cons_succ, List.getElem_cons_zero, List.setIfInBounds_toArray, List.set_cons_succ, List.set_cons_zero]
        refine wpAnyH_take (i := 10) (v := undef) rfl (by kernel_rfl) (by kernel_rfl) (by kernel_rfl) (fun _ _ _ h => h) (Or.inr ⟨by rfl, rfl⟩) (rl8) ?_
        simp only [Act.put, List.getElem_toArray, List.getElem_cons_succ, List.getElem_cons_zero, List.setIfInBounds_toArray, List.set_cons_succ, List.set_cons_zero]
        refine wpAnyH_take (i := 11) (v := undef) rfl (by kernel_rfl) (by kernel_rfl) (by kernel_rfl) (fun _ _ _ h => h) (Or.inr ⟨by rfl, rfl⟩) (rl8) ?_
        simp only [Act.put, List.getElem_toArray, List.getElem_cons_succ, List.getElem_cons_zero, List.setIfInBounds_toArray, List.set_cons_succ, List.set_cons_zero]
        refine wpAnyH_take (i := 12) (v := undef) rfl (by kernel_rfl) (by kernel_rfl) (by kernel_rfl) (fun _ _ _ h => h) (Or.inr ⟨by rfl, rfl⟩) (rl8) ?_
        simp only [Act.put, List.getElem_toArray, List.getElem_cons_succ, List.getElem_cons_zero, List.setIfInBounds_toArray, List.set_cons_succ, List.set_cons_zero]
        refine wpAnyH_take (i := 13) (v := undef) rfl (by kernel_rfl) (by kernel_rfl) (by kernel_rfl) (fun _ _ _ h => h) (Or.inr ⟨by rfl, rfl⟩) (rl8) ?_
        simp only [Act.put, List.getElem_toArray, List.getElem_cons_succ, List.getElem_cons_zero, List.setIfInBounds_toArray, List.set_cons_succ, List.set_cons_zero]
        refine wpAnyH_take (i := 14) (v := undef) rfl (by kernel_rfl) (by kernel_rfl) (by kernel_rfl) (fun _ _ _ h => h) (Or.inr ⟨by rfl, rfl⟩) (rl8) ?_
        simp only [Act.put, List.getElem_toArray, List.getElem_cons_succ, List.getElem_cons_zero, List.setIfInBounds_toArray, List.set_cons_succ, List.set_cons_zero]
        refine wpAnyH_take (i := 15) (v := undef) rfl (by kernel_rfl) (by kernel_rfl) (by kernel_rfl) (fun _ _ _ h => h) (Or.inr ⟨by rfl, rfl⟩) (rl8) ?_
        simp only [Act.put, List.getElem_toArray, List.getElem_cons_succ, List.getElem_cons_zero, List.setIfInBounds_toArray, List.set_cons_succ, List.set_cons_zero]
        refine wpAnyH_take (i := 16) (v := undef) rfl (by kernel_rfl) (by kernel_rfl) (by kernel_rfl) (fun _ _ _ h => h) (Or.inr ⟨by rfl, rfl⟩) (rl8) ?_
        simp only [Act.put, List.getElem_toArray, List.getElem_cons_succ, List.getElem_cons_zero, List.setIfInBounds_toArray, List.set_cons_succ, List.set_cons_zero]
        refine wpAnyH_take (i := 17) (v := undef) rfl (by kernel_rfl) (by kernel_rfl) (by kernel_rfl) (fun _ _ _ h => h) (Or.inr ⟨by rfl, rfl⟩) (rl8) ?_
        simp only [Act.put, List.getElem_toArray, List.getElem_cons_succ, List.getElem_cons_zero, List.setIfInBounds_toArray, List.set_cons_succ, List.set_cons_zero]
        refine wpAnyH_take (i := 18) (v := .bool false) rfl (by kernel_rfl) (by kernel_rfl) (by kernel_rfl) (fun _ _ _ h => h) (Or.inl ⟨by rfl, ?y539⟩) (rl8) ?r539
        case y539 =>
         intro w_ hS_
         go_simp
         try with_reducible rfl
        simp only [Act.put, List.getElem_toArray, List.getElem_cons_succ, List.getElem_cons_zero, List.setIfInBounds_toArray, List.set_cons_succ, List.set_cons_zero]
        refine wpAnyH_done (by kernel_rfl) ?_ _
        refine NoPanic.normal ?_
        go_wp2_with (first | (refine wpList_load_part rfl 23 _ rfl (w.heap.size) 0 rfl 23 (irow .u8 y) (0, 0) (irow .u8 y) _ rp0 (all_rowe _) Tryd.underlying23 rfl (infoKy _ hy.1) ?_) | (refine wpList_load_part rfl 23 _ rfl (go) 3 rfl 30 (opr x) (0, 0) (irow .u8 x.k) _ rl8 (op_k x hxo.1.1) Tryd.underlying23 rfl (infoKy _ hxo.1.1) ?_) | (refine wpList_load_part rfl 30 _ rfl (go) 0 rfl 30 (opr x) (0, 0) (opr x) _ rl8 (all_rowe _) Tryd.underlying30 rfl (op_info _ hxo.1.1) ?_) | fail)
        refine ⟨⟨i + 1, _, _, _, _, _, by go_num, by omega, by omega, ⟨hB3, hO3, hsee, hfl, by omega, hw, hwb⟩, rp0⟩, ?_⟩
        simp [intOf]; omega
       ·rw [if_pos (by simpa using dz)] at hsee
        have hb : Below wd491.heap.size wd491 (wd491.alloc (.cells (knr ⟨x.n, x.k, false, false⟩) 32)) := (Below.refl _ _).alloc (Nat.le_refl _) _
        have rN := hp1_0 wd491 (.cells (knr ⟨x.n, x.k, false, false⟩) 32)
        have hOA := hO3.keep hb
        have hBA := hB3.keep hb
        have hwA := Below.after hw hb
        have rpA := keep hb rp0
        have rlA := keep hb rl8
        have fc107 := cell_at rl8 (op_d x)
        have fc108 := cell_at rl8 (op_n x)
        have fc109 := cell_at rl8 (op_r x hxo.1.1)
        have fc110 := cell_at rl8 (op_x x hxo.1.1)
        go_wp2_with (first | (refine wpList_load_part rfl 23 _ rfl (w.heap.size) 0 rfl 23 (irow .u8 y) (0, 0) (irow .u8 y) _ rp0 (all_rowe _) Tryd.underlying23 rfl (infoKy _ hy.1) ?_) | (refine wpList_load_part rfl 23 _ rfl (go) 3 rfl 30 (opr x) (0, 0) (irow .u8 x.k) _ rl8 (op_k x hxo.1.1) Tryd.underlying23 rfl (infoKy _ hxo.1.1) ?_) | (refine wpList_load_part rfl 30 _ rfl (go) 0 rfl 30 (opr x) (0, 0) (opr x) _ rl8 (all_rowe _) Tryd.underlying30 rfl (op_info _ hxo.1.1) ?_) | (refine wpList_build_as rfl 32 _ rfl [(0, .string x.n), (1, .agg (irow .u8 x.k))] rfl (knr ⟨x.n, x.k, false, false⟩) (bt_k x.n x.k hxo.1.1) ?_) | (refine wpList_bslN rfl ⟨x.n, x.k, false, false⟩ hxo.1.1 _ rfl rfl ?_) | (at_builtin; refine wpList_append_N rfl _ _ rfl b _ l rfl hOA ⟨wd491.heap.size, 0, none⟩ [⟨x.n, x.k, false, false⟩] 1 (AllN.one hxo.1) rfl (knr_cells rN) (by simp only [List.length_singleton]; omega) (by have := hBA.bg; have := lt_of_row hBA.row; omega) ?_) | fail)
        clear fc107 fc108 fc109 fc110
        intro vl2 wA hO4 hG _
        have hB4 := hBA.known hOA (fun k hk hne => hG.block k hk (fun e => hne e.symm))
        have hw4 : Below w.heap.size w wA := hwA.grown hG hwA.size (fun k e => Nat.le_trans hwb (hOA.lt k e).1)
        have rp4 := (hG.block _ (lt_of_row rpA) (fun q => own_type hOA.1 rpA (by decide) q.symm)).trans rpA
        have rl4 := (hG.block _ (lt_of_row rlA) (fun q => own_type hOA.1 rlA (by decide) q.symm)).trans rlA
        obtain ⟨ao4, cap4, rfl, _, _, _, _⟩ := hO4.sl
        clear hb rN hOA hBA hwA rpA rlA hG hB3 hO3 hw rp0 rl8
        have rp0 := rp4
        have rl8 := rl4
        have hw := hw4
        clear rp4 rl4 hw4
        have hln : (l ++ [(⟨x.n, x.k, false, false⟩ : Kn)]).length ≤ i + 1 := by simp; omega
        generalize l ++ [(⟨x.n, x.k, false, false⟩ : Kn)] = l2 at *
        go_wp2_with (fail)
        have hb : Below wA.heap.size wA wA.drew := below_drN (Below.refl _ _) 1
        replace rp0 := keep hb rp0
        replace rl8 := keep hb rl8
        replace hB4 := hB4.keep hb
        replace hO4 := hO4.keep hb
        replace hw := Below.after hw hb
        clear hb
        refine wp_region_noPanic ?_
        refine wp_region_held (S := fun W_ => W_.heap[go]? = some (.cells (opr x) 30 (0, 0))) (by kernel_rfl) ?_
        change wpAnyH _ _ _ _ _ _ _ _ (World.drew _)
        generalize wA.drew = wd540 at *
        refine wpAnyH_take (i := 0) (v := ?v541) rfl (by kernel_rfl) (by kernel_rfl) (by kernel_rfl) (fun _ _ _ h => h) (Or.inl ⟨by rfl, ?y541⟩) (rl8) ?r541
        case y541 =>
         intro w_ hS_
         go_simp
         try with_reducible rfl
        simp only [Act.put, List.getElem_toArray, List.getElem_cons_zero, List.setIfInBounds_toArray, List.set_cons_succ, List.set_cons_zero]
        refine wpAnyH_take (i := 1) (v := ?v542) rfl (by kernel_rfl) (by kernel_rfl) (by kernel_rfl) (fun _ _ _ h => h) (Or.inl ⟨by rfl, ?y542⟩) (rl8) ?r542
        case y542 =>
         intro w_ hS_
         go_simp
         try with_reducible rfl
        simp only [Act.put, List.getElem_toArray, List.getElem_cons_succ, List.getElem_cons_zero, List.setIfInBounds_toArray, List.set_cons_succ, List.set_cons_zero]
        refine wpAnyH_take (i := 2) (v := undef) rfl (by kernel_rfl) (by kernel_rfl) (by kernel_rfl) (fun _ _ _ h => h) (Or.inr ⟨by rfl, rfl⟩) (rl8) ?_
        simp only [Act.put, List.getElem_toArray, List.getElem_cons_succ, List.getElem_cons_zero, List.setIfInBounds_toArray, List.set_cons_succ, List.set_cons_zero]
        refine wpAnyH_take (i := 3) (v := undef) rfl (by kernel_rfl) (by kernel_rfl) (by kernel_rfl) (fun _ _ _ h => h) (Or.inr ⟨by rfl, rfl⟩) (rl8) ?_
        simp only [Act.put, List.getElem_toArray, List.getElem_cons_succ, List.getElem_cons_zero, List.setIfInBounds_toArray, List.set_cons_succ, List.set_cons_zero]
        refine wpAnyH_take (i := 4) (v := undef) rfl (by kernel_rfl) (by kernel_rfl) (by kernel_rfl) (fun _ _ _ h => h) (Or.inr ⟨by rfl, rfl⟩) (rl8) ?_
        simp only [Act.put, List.getElem_toArray, List.getElem_cons_succ, List.getElem_cons_zero, List.setIfInBounds_toArray, List.set_cons_succ, List.set_cons_zero]
        refine wpAnyH_take (i := 5) (v := undef) rfl (by kernel_rfl) (by kernel_rfl) (by kernel_rfl) (fun _ _ _ h => h) (Or.inr ⟨by rfl, rfl⟩) (rl8) ?_
        simp only [Act.put, List.getElem_toArray, List.getElem_cons_succ, List.getElem_cons_zero, List.setIfInBounds_toArray, List.set_cons_succ, List.set_cons_zero]
        refine wpAnyH_take (i := 6) (v := undef) rfl (by kernel_rfl) (by kernel_rfl) (by kernel_rfl) (fun _ _ _ h => h) (Or.inr ⟨by rfl, rfl⟩) (rl8) ?_
        simp only [Act.put, List.getElem_toArray, List.getElem_cons_succ, List.getElem_cons_zero, List.setIfInBounds_toArray, List.set_cons_succ, List.set_cons_zero]
        refine wpAnyH_take (i := 7) (v := undef) rfl (by kernel_rfl) (by kernel_rfl) (by kernel_rfl) (fun _ _ _ h => h) (Or.inr ⟨by rfl, rfl⟩) (rl8) ?_
        simp only [Act.put, List.getElem_toArray, List.getElem_cons_succ, List.getElem_cons_zero, List.setIfInBounds_toArray, List.set_cons_succ, List.set_cons_zero]
        refine wpAnyH_take (i := 8) (v := .bool false) rfl (by kernel_rfl) (by kernel_rfl) (by kernel_rfl) (fun _ _ _ h => h) (Or.inl ⟨by rfl, ?y549⟩) (rl8) ?r549
        case y549 =>
         intro w_ hS_
         go_simp
         try with_reducible rfl
        simp only [Act.put, List.getElem_toArray, List.getElem_cons_succ, List.getElem_cons_zero, List.setIfInBounds_toArray, List.set_cons_succ, List.set_cons_zero]
        refine wpAnyH_take (i := 9) (v := .bool false) rfl (by kernel_rfl) (by kernel_rfl) (by kernel_rfl) (fun _ _ _ h => h) (Or.inl ⟨by rfl, ?y550⟩) (rl8) ?r550
        case y550 =>
         intro w_ hS_
         go_simp
         try with_reducible rfl
        simp only [Act.put, List.getElem_toArray, List.getElem_cons_succ, List.getElem_cons_zero, List.setIfInBounds_toArray, List.set_cons_succ, List.set_cons_zero]
        refine wpAnyH_take (i := 10) (v := undef) rfl (by kernel_rfl) (by kernel_rfl) (by kernel_rfl) (fun _ _ _ h => h) (Or.inr ⟨by rfl, rfl⟩) (rl8) ?_
        simp only [Act.put, List.getElem_toArray, List.getElem_cons_succ, List.getElem_cons_zero, List.setIfInBounds_toArray, List.set_cons_succ, List.set_cons_zero]
        refine wpAnyH_take (i := 11) (v := undef) rfl (by kernel_rfl) (by kernel_rfl) (by kernel_rfl) (fun _ _ _ h => h) (Or.inr ⟨by rfl, rfl⟩) (rl8) ?_
        simp only [Act.put, List.getElem_toArray, List.getElem_cons_succ, List.getElem_cons_zero, List.setIfInBounds_toArray, List.set_cons_succ, List.set_cons_zero]
        refine wpAnyH_take (i := 12) (v := undef) rfl (by kernel_rfl) (by kernel_rfl) (by kernel_rfl) (fun _ _ _ h => h) (Or.inr ⟨by rfl, rfl⟩) (rl8) ?_
        simp only [Act.put, List.getElem_toArray, List.getElem_cons_succ, List.getElem_cons_zero, List.setIfInBounds_toArray, List.set_cons_succ, List.set_cons_zero]
        refine wpAnyH_take (i := 13) (v := undef) rfl (by kernel_rfl) (by kernel_rfl) (by kernel_rfl) (fun _ _ _ h => h) (Or.inr ⟨by rfl, rfl⟩) (rl8) ?_
        simp only [Act.put, List.getElem_toArray, List.getElem_cons_succ, List.getElem_cons_zero, List.setIfInBounds_toArray, List.set_cons_succ, List.set_cons_zero]
        refine wpAnyH_take (i := 14) (v := undef) rfl (by kernel_rfl) (by kernel_rfl) (by kernel_rfl) (fun _ _ _ h => h) (Or.inr ⟨by rfl, rfl⟩) (rl8) ?_
        simp only [Act.put, List.getElem_toArray, List.getElem_cons_succ, List.getElem_cons_zero, List.setIfInBounds_toArray, List.set_cons_succ, List.set_cons_zero]
        refine wpAnyH_take (i := 15) (v := undef) rfl (by kernel_rfl) (by kernel_rfl) (by kernel_rfl) (fun _ _ _ h => h) (Or.inr ⟨by rfl, rfl⟩) (rl8) ?_
        simp only [Act.put, List.getElem_toArray, List.getElem_cons_succ, List.getElem_cons_zero, List.setIfInBounds_toArray, List.set_cons_succ, List.set_cons_zero]
        refine wpAnyH_take (i := 16) (v := undef) rfl (by kernel_rfl) (by kernel_rfl) (by kernel_rfl) (fun _ _ _ h => h) (Or.inr ⟨by rfl, rfl⟩) (rl8) ?_
        simp only [Act.put, List.getElem_toArray, List.getElem_cons_succ, List.getElem_cons_zero, List.setIfInBounds_toArray, List.set_cons_succ, List.set_cons_zero]
        refine wpAnyH_take (i := 17) (v := undef) rfl (by kernel_rfl) (by kernel_rfl) (by kernel_rfl) (fun _ _ _ h => h) (Or.inr ⟨by rfl, rfl⟩) (rl8) ?_
        simp only [Act.put, List.getElem_toArray, List.getElem_cons_succ, List.getElem_cons_zero, List.setIfInBounds_toArray, List.set_cons_succ, List.set_cons_zero]
        refine wpAnyH_take (i := 18) (v := .bool false) rfl (by kernel_rfl) (by kernel_rfl) (by kernel_rfl) (fun _ _ _ h => h) (Or.inl ⟨by rfl, ?y559⟩) (rl8) ?r559
        case y559 =>
         intro w_ hS_
         go_simp
         try with_reducible rfl
        simp only [Act.put, List.getElem_toArray, List.getElem_cons_succ, List.getElem_cons_zero, List.setIfInBounds_toArray, List.set_cons_succ, List.set_cons_zero]
        refine wpAnyH_done (by kernel_rfl) ?_ _
        refine NoPanic.normal ?_
        go_wp2_with (first | (refine wpList_load_part rfl 23 _ rfl (w.heap.size) 0 rfl 23 (irow .u8 y) (0, 0) (irow .u8 y) _ rp0 (all_rowe _) Tryd.underlying23 rfl (infoKy _ hy.1) ?_) | (refine wpList_load_part rfl 23 _ rfl (go) 3 rfl 30 (opr x) (0, 0) (irow .u8 x.k) _ rl8 (op_k x hxo.1.1) Tryd.underlying23 rfl (infoKy _ hxo.1.1) ?_) | (refine wpList_load_part rfl 30 _ rfl (go) 0 rfl 30 (opr x) (0, 0) (opr x) _ rl8 (all_rowe _) Tryd.underlying30 rfl (op_info _ hxo.1.1) ?_) | fail)
        refine ⟨⟨i + 1, _, _, _, _, _, by go_num, by omega, by omega, ⟨hB4, hO4, hsee, hfl, hln, hw, hwb⟩, rp0⟩, ?_⟩
        simp [intOf]; omega
  ·have hw := hSp.hw
   clear hSp
   by_cases hl2 : i < sc.length
   ·have d1 : decide ((i : Int) < (sc.length : Int)) = true := by simp; omega
    have d2 : decide ((i : Int) < 1024) = false := by simp; omega
    go_wp2_with (fail)
    go_ret
    exact ⟨rfl, hw⟩
   ·have d1 : decide ((i : Int) < (sc.length : Int)) = false := by simp; omega
    go_wp2_with (fail)
    go_ret
    exact ⟨rfl, hw⟩
end Go.Proofs.YtlbcdjflcghkeaaDoor

