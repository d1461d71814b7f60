import Derived.Test.YtlbcdjflcghkeaaDoorProg
import Derived.WalkKit
import Derived.WalkSpells
import Derived.WalkLawsBesides
import Derived.Lib.QuietBelow
import Derived.BigQuiet
import Derived.OrdersHeld
import Derived.OwnWalk
import Derived.Deep.RegionHeld3
import Derived.Deep.Cut
import Derived.Deep.CutRange
import Derived.Deep.CutBlock
import Derived.Test.YtlbcdjflcghkeaaDoorTut
namespace Go.Proofs.YtlbcdjflcghkeaaDoor
set_option maxRecDepth 100000
open Go Go.RowKit Go.Sort
attribute [local go_sem] setCell_drewN alloc_drewN
/-- What is known of a name. -/
structure Kn where
  n : ByteArray
  k : List Int
  o : Bool
  s : Bool
deriving DecidableEq
def zkn : Kn := ⟨⟨#[]⟩, zr 32, false, false⟩
def Kn.ok (c : Kn) : Prop := K32 c.k
def knl (c : Kn) : List Value := [Value.string c.n] ++ (k8 c.k ++ ([Value.bool c.o] ++ ([Value.bool c.s] ++ [])))
def knr (c : Kn) : Array Value := (knl c).toArray
theorem knl_len (c : Kn)  (h0 : (c.k).length = 32) : (knl c).length = 35 := by simp [knl, k8_len, h0]
theorem knr_size (c : Kn)  (h0 : (c.k).length = 32) : (knr c).size = 35 := by rw [knr, List.size_toArray, knl_len c h0]
theorem knl_one (c : Kn)  : ∀ u ∈ knl c, u.oneCell' = true := by
  intro u hu
  simp only [knl, List.mem_append, List.mem_cons, List.not_mem_nil, or_false] at hu
  rcases hu with rfl | hu | rfl | rfl
  · rfl
  · exact k8_one _ _ hu
  · rfl
  · rfl
theorem knr_one (c : Kn)  : (knr c).all (·.oneCell') = true := by
  rw [knr, List.all_toArray, List.all_eq_true]
  exact knl_one c 
theorem kn_n (c : Kn)   : (knr c)[0]? = some (Value.string c.n) := by
  have e : [Value.string c.n] ++ (k8 c.k ++ ([Value.bool c.o] ++ ([Value.bool c.s] ++ []))) = ([]) ++ ([Value.string c.n] ++ (k8 c.k ++ ([Value.bool c.o] ++ ([Value.bool c.s] ++ [])))) := by simp
  rw [knr, knl, e]
  exact getx _ _ _ 0 0 rfl (by simp)
theorem kn_k (c : Kn)  (h0 : (c.k).length = 32) : (knr c).extract 1 (1 + (irow .u8 c.k).size) = irow .u8 c.k := by
  have e : [Value.string c.n] ++ (k8 c.k ++ ([Value.bool c.o] ++ ([Value.bool c.s] ++ []))) = ([Value.string c.n] ++ []) ++ (k8 c.k ++ ([Value.bool c.o] ++ ([Value.bool c.s] ++ []))) := by simp
  rw [knr, knl, e, irow_size, h0]
  exact extr _ _ _ 1 32 (by simp) (by simp [k8_len, h0])
theorem kn_o (c : Kn)  (h0 : (c.k).length = 32) : (knr c)[33]? = some (Value.bool c.o) := by
  have e : [Value.string c.n] ++ (k8 c.k ++ ([Value.bool c.o] ++ ([Value.bool c.s] ++ []))) = ([Value.string c.n] ++ (k8 c.k ++ [])) ++ ([Value.bool c.o] ++ ([Value.bool c.s] ++ [])) := by simp
  rw [knr, knl, e]
  exact getx _ _ _ 33 0 (by simp [k8_len, h0]) (by simp)
theorem kn_s (c : Kn)  (h0 : (c.k).length = 32) : (knr c)[34]? = some (Value.bool c.s) := by
  have e : [Value.string c.n] ++ (k8 c.k ++ ([Value.bool c.o] ++ ([Value.bool c.s] ++ []))) = ([Value.string c.n] ++ (k8 c.k ++ ([Value.bool c.o] ++ []))) ++ ([Value.bool c.s] ++ ([])) := by simp
  rw [knr, knl, e]
  exact getx _ _ _ 34 0 (by simp [k8_len, h0]) (by simp)
theorem kn_info (c : Kn)  (h0 : (c.k).length = 32) : (Tryd.prog.info? 32).map (·.size) = some (knr c).size := by rw [knr_size c h0]; kernel_rfl
theorem kn_box (cs : Array Value) (W : World) : (Instr.box 32 (.agg cs)).run Tryd.prog W = .ok (.pointer (some ⟨W.heap.size, 0, none⟩)) (W.alloc (.cells cs 32)) := by kernel_rfl
theorem zKn (W : World) : (Instr.alloc 32 true (.tuple #[])).run Tryd.prog W = .ok (.pointer (some ⟨W.heap.size, 0, none⟩)) (W.alloc (.cells (knr zkn) 32)) := by kernel_rfl
theorem bt_k (n : ByteArray) (k : List Int) (hk : k.length = 32) : Tryd.prog.built 32 [(0, .string n), (1, .agg (irow .u8 k))] = some (knr ⟨n, k, false, false⟩) := by
  obtain ⟨x0, x1, x2, x3, x4, x5, x6, x7, x8, x9, x10, x11, x12, x13, x14, x15, x16, x17, x18, x19, x20, x21, x22, x23, x24, x25, x26, x27, x28, x29, x30, x31, rfl⟩ := len32 k hk
  kernel_rfl
theorem kn_seto (c : Kn) (hc : c.k.length = 32) (u : Bool) : (knr c).setIfInBounds 33 (.bool u) = knr ⟨c.n, c.k, u, c.s⟩ := by
  obtain ⟨n, k, o, s⟩ := c
  have hk : k.length = 32 := hc
  obtain ⟨x0, x1, x2, x3, x4, x5, x6, x7, x8, x9, x10, x11, x12, x13, x14, x15, x16, x17, x18, x19, x20, x21, x22, x23, x24, x25, x26, x27, x28, x29, x30, x31, rfl⟩ := len32 k hk
  rfl
theorem kn_sets (c : Kn) (hc : c.k.length = 32) (u : Bool) : (knr c).setIfInBounds 34 (.bool u) = knr ⟨c.n, c.k, c.o, u⟩ := by
  obtain ⟨n, k, o, s⟩ := c
  have hk : k.length = 32 := hc
  obtain ⟨x0, x1, x2, x3, x4, x5, x6, x7, x8, x9, x10, x11, x12, x13, x14, x15, x16, x17, x18, x19, x20, x21, x22, x23, x24, x25, x26, x27, x28, x29, x30, x31, rfl⟩ := len32 k hk
  rfl
/-- What is known behind an event. -/
def dcE (a : Kn) (e : Ev) : Kn := if e.d = 3 ∨ e.d = 4 then ⟨a.n, e.k, false, false⟩ else if e.d = 5 then ⟨a.n, a.k, a.o, true⟩ else if e.d = 6 then ⟨a.n, a.k, false, false⟩ else a
def dcK (a : Kn) (es fs : List Ev) : Kn := if fs.length = es.length then a else dcE a (fs.getD es.length zev)
theorem nxt_ev (es : List Ev) (cs : List Ct) (oe : Option Ev) : (nxt es cs oe).1 = es ∨ ∃ e, oe = some e ∧ (nxt es cs oe).1 = es ++ [e] := by
  cases oe with
  | none => exact .inl rfl
  | some e =>
    rw [nxt_some]
    by_cases h : (hpn cs e).isSome = true
    · exact .inr ⟨e, rfl, if_pos h⟩
    · exact .inl (if_neg h)
theorem Fr.setNew {X : Nat → Prop} {w W : World} (h : Fr X w W) {b : Nat} (hb : w.heap.size ≤ b) (cs : Array Value) : Fr X w (W.setRow b cs) := ⟨h.os, h.tape, h.output, by rw [size_setRow]; exact h.size, fun k hk hx => by
  rw [← h.block k hk hx]
  exact setRow_other _ _ _ _ (by omega)⟩
/-- What decided answers. -/
def DcR (b g : Nat) (ve vc : Value) (y : List Int) (es : List Ev) (cs : List Ct) (a : Kn) (oe : Option Ev) (w : World) (en : Ending) (w' : World) : Prop := ∃ ve' vc', en = .returned (.agg (knr (dcK a es (nxt es cs oe).1))) ∧ Bk w' b g ve' vc' y (nxt es cs oe).1 (nxt es cs oe).2 ∧ Nx w ve ve' ∧ Nx w vc vc' ∧ Fr (ownB g ve vc) w w'
theorem range_at {W : World} {g o : Nat} {xs : List Value} (h : W.rangeAt g o xs) {j : Nat} {v : Value} (hj : xs[j]? = some v) : W.cell? ⟨g, o + j, none⟩ = some v := h j v hj
theorem evl_key {W : World} {g o : Nat} {e : Ev} (h : W.rangeAt g o (evl e)) : W.rangeAt g (o + 2) (k8 e.k) := by
  intro j v hj
  have := h (2 + j) v (by
    show ([Value.int .i64 e.d] ++ ([Value.string e.n] ++ (k8 e.k ++ [])))[2 + j]? = some v
    rw [List.append_nil, ← List.append_assoc, List.getElem?_append_right (by simp)]
    simpa using hj)
  rw [show o + 2 + j = o + (2 + j) by omega]
  exact this
theorem ev_d' (e : Ev) : (evl e)[0]? = some (.int .i64 e.d) := rfl
set_option maxRecDepth 100000 in
set_option maxHeartbeats 8000000 in
theorem a_decided (p : List Int) (hp : K32 p) (x : Opn) (hx : K32 x.k) (hn : x.n.size ≤ 9223372036854775806) (a : Kn) (ha : a.ok) (b g : Nat) (ve vc : Value) (y : List Int) (es : List Ev) (cs : List Ct) (w : World) (hB : Bk w b g ve vc y es cs) (hSt : Sta w) (hKo : Kon w) (hPo : Pow w) (oe : Option Ev) (hoe : Hid (oe = stE p y es cs x)) : Calls Tryd.prog 11 #[.pointer (some ⟨g, 0, none⟩), .agg (irow .u8 p), .agg (opr x), .agg (knr a)] w (DcR b g ve vc y es cs a oe w) := by
  obtain ⟨ao, cap, rfl, hc1, hc2, hz1, hz2⟩ := hB.cts.sl
  obtain ⟨ae, ca, rfl, hc3, hc4, hz3, hz4⟩ := hB.evs.sl
  have hgw := lt_of_row hB.row
  have hle1 : ∀ k, (Value.slice ae es.length ca).ownBlock = some k → k < w.heap.size := fun k e => (hB.evs.lt k e).2
  have hlc1 : ∀ k, (Value.slice ao cs.length cap).ownBlock = some k → k < w.heap.size := fun k e => (hB.cts.lt k e).2
  have rp0 := hp4_0 w (.cells (irow .u8 p) 23) (.cells (opr x) 30) (.cells (knr a) 32) (.cells (knr zkn) 32)
  have rp1 := hp4_1 w (.cells (irow .u8 p) 23) (.cells (opr x) 30) (.cells (knr a) 32) (.cells (knr zkn) 32)
  have rp2 := hp4_2 w (.cells (irow .u8 p) 23) (.cells (opr x) 30) (.cells (knr a) 32) (.cells (knr zkn) 32)
  have rp3 := hp4_3 w (.cells (irow .u8 p) 23) (.cells (opr x) 30) (.cells (knr a) 32) (.cells (knr zkn) 32)
  have hw : Below w.heap.size w ((((w.alloc (.cells (irow .u8 p) 23)).alloc (.cells (opr x) 30)).alloc (.cells (knr a) 32)).alloc (.cells (knr zkn) 32)) := (((((Below.refl _ _).alloc (Nat.le_refl _) _).alloc (by simp) _).alloc (by simp; omega) _).alloc (by simp; omega) _)
  replace hB := hB.keep hw
  go_enter Tryd.func11, Tryd.ntmps11
  go_upto_region 1 with (first | (refine wpList_box rfl 23 _ rfl _ rfl (bKy _) ?_) | (refine wpList_box rfl 30 _ rfl _ rfl (op_box _) ?_) | (refine wpList_box rfl 32 _ rfl _ rfl (kn_box _) ?_) | (refine wpList_alloc rfl 32 rfl (knr zkn) zKn ?_) | fail)
  try simp only [size_alloc1]
  generalize ((((w.alloc (.cells (irow .u8 p) 23)).alloc (.cells (opr x) 30)).alloc (.cells (knr a) 32)).alloc (.cells (knr zkn) 32)) = w0 at *
  go_wp2_with (first | (refine wpList_load_part rfl 23 _ rfl (w.heap.size) 0 rfl 23 (irow .u8 p) (0, 0) (irow .u8 p) _ rp0 (all_rowe _) Tryd.underlying23 rfl (infoKy _ hp.1) ?_) | (refine wpList_load_part rfl 23 _ rfl (w.heap.size + 1) 3 rfl 30 (opr x) (0, 0) (irow .u8 x.k) _ rp1 (op_k x hx.1) Tryd.underlying23 rfl (infoKy _ hx.1) ?_) | (refine wpList_load_part rfl 30 _ rfl (w.heap.size + 1) 0 rfl 30 (opr x) (0, 0) (opr x) _ rp1 (all_rowe _) Tryd.underlying30 rfl (op_info _ hx.1) ?_) | (refine wpList_load_part rfl 32 _ rfl (w.heap.size + 1 + 1) 0 rfl 32 (knr a) (0, 0) (knr a) _ rp2 (all_rowe _) Tryd.underlying32 rfl (kn_info a ha.1) ?_) | (refine wpList_load_part rfl 32 _ rfl (w.heap.size + 1 + 1 + 1) 0 rfl 32 (knr zkn) (0, 0) (knr zkn) _ rp3 (all_rowe _) Tryd.underlying32 rfl (kn_info zkn (zr_len 32)) ?_) | fail)
  refine (a_Events b g _ _ y es cs _ hB).mono ?_
  rintro e_ w1 ⟨v1, rfl, hO1, hb⟩
  replace rp0 := keep hb rp0
  replace rp1 := keep hb rp1
  replace rp2 := keep hb rp2
  replace rp3 := keep hb rp3
  replace hB := hB.keep hb
  replace hw := Below.after hw hb
  clear hb
  obtain ⟨a1, c1, rfl, _, _, _, _⟩ := hO1.sl
  clear hO1
  go_wp2_with (first | (refine wpList_load_part rfl 23 _ rfl (w.heap.size) 0 rfl 23 (irow .u8 p) (0, 0) (irow .u8 p) _ rp0 (all_rowe _) Tryd.underlying23 rfl (infoKy _ hp.1) ?_) | (refine wpList_load_part rfl 23 _ rfl (w.heap.size + 1) 3 rfl 30 (opr x) (0, 0) (irow .u8 x.k) _ rp1 (op_k x hx.1) Tryd.underlying23 rfl (infoKy _ hx.1) ?_) | (refine wpList_load_part rfl 30 _ rfl (w.heap.size + 1) 0 rfl 30 (opr x) (0, 0) (opr x) _ rp1 (all_rowe _) Tryd.underlying30 rfl (op_info _ hx.1) ?_) | (refine wpList_load_part rfl 32 _ rfl (w.heap.size + 1 + 1) 0 rfl 32 (knr a) (0, 0) (knr a) _ rp2 (all_rowe _) Tryd.underlying32 rfl (kn_info a ha.1) ?_) | (refine wpList_load_part rfl 32 _ rfl (w.heap.size + 1 + 1 + 1) 0 rfl 32 (knr zkn) (0, 0) (knr zkn) _ rp3 (all_rowe _) Tryd.underlying32 rfl (kn_info zkn (zr_len 32)) ?_) | fail)
  have hw1 := hw
  have hsz1 := hw.size
  have hbox := lt_of_row rp3
  refine (a_called p hp x hx hn b g _ _ y es cs _ hB (hSt.below hw) (hKo.below hw) (hPo.below hw) oe hoe).mono ?_
  rintro e_ w2 ⟨ve2, vc2, rfl, hB2, hN1, hN2, hF⟩
  have hN1b := hN1
  have hN2b := hN2
  replace hN1 := hN1.of hw.size
  replace hN2 := hN2.of hw.size
  have hT : Fr (ownB g (Value.slice ae es.length ca) (Value.slice ao cs.length cap)) w w2 := (Fr.of hw).step hF (fun _ _ q => q)
  replace rp0 := hF.row rp0 (fun q => by rcases q with q | q | q; omega; have := hle1 _ q; omega; have := hlc1 _ q; omega)
  replace rp1 := hF.row rp1 (fun q => by rcases q with q | q | q; omega; have := hle1 _ q; omega; have := hlc1 _ q; omega)
  replace rp2 := hF.row rp2 (fun q => by rcases q with q | q | q; omega; have := hle1 _ q; omega; have := hlc1 _ q; omega)
  replace rp3 := hF.row rp3 (fun q => by rcases q with q | q | q; omega; have := hle1 _ q; omega; have := hlc1 _ q; omega)
  have hs12 := hF.size
  clear hB hF hw hw1
  have hB := hB2
  clear hB2
  have hsz2 := hT.size
  have hw : Below w2.heap.size w2 w2 := Below.refl _ _
  obtain ⟨es2, hE2⟩ : ∃ q, Hid (q = (nxt es cs oe).1) := ⟨_, hide rfl⟩
  rw [← hE2.out] at hB
  have hne := nxt_ev es cs oe
  rw [← hE2.out] at hne
  go_wp2_with (first | (refine wpList_load_part rfl 23 _ rfl (w.heap.size) 0 rfl 23 (irow .u8 p) (0, 0) (irow .u8 p) _ rp0 (all_rowe _) Tryd.underlying23 rfl (infoKy _ hp.1) ?_) | (refine wpList_load_part rfl 23 _ rfl (w.heap.size + 1) 3 rfl 30 (opr x) (0, 0) (irow .u8 x.k) _ rp1 (op_k x hx.1) Tryd.underlying23 rfl (infoKy _ hx.1) ?_) | (refine wpList_load_part rfl 30 _ rfl (w.heap.size + 1) 0 rfl 30 (opr x) (0, 0) (opr x) _ rp1 (all_rowe _) Tryd.underlying30 rfl (op_info _ hx.1) ?_) | (refine wpList_load_part rfl 32 _ rfl (w.heap.size + 1 + 1) 0 rfl 32 (knr a) (0, 0) (knr a) _ rp2 (all_rowe _) Tryd.underlying32 rfl (kn_info a ha.1) ?_) | (refine wpList_load_part rfl 32 _ rfl (w.heap.size + 1 + 1 + 1) 0 rfl 32 (knr zkn) (0, 0) (knr zkn) _ rp3 (all_rowe _) Tryd.underlying32 rfl (kn_info zkn (zr_len 32)) ?_) | fail)
  refine (a_Events b g _ _ y es2 _ _ hB).mono ?_
  rintro e_ w3 ⟨v3, rfl, hO3, hb⟩
  replace rp0 := keep hb rp0
  replace rp1 := keep hb rp1
  replace rp2 := keep hb rp2
  replace rp3 := keep hb rp3
  replace hB := hB.keep hb
  replace hw := Below.after hw hb
  clear hb
  obtain ⟨a3, c3, rfl, hl3, _, _, _⟩ := hO3.sl
  have hel := hB.elen
  have hnew : ∀ k, ownB g ve2 vc2 k → k ≠ w.heap.size + 1 + 1 + 1 := fun k hk e => by
    rcases hk with q | q | q
    · omega
    · rcases hN1b with h | ⟨j, h, hj⟩
      · have := hle1 k (h ▸ q); omega
      · rw [q] at h; cases h; omega
    · rcases hN2b with h | ⟨j, h, hj⟩
      · have := hlc1 k (h ▸ q); omega
      · rw [q] at h; cases h; omega
  rcases hne with hq | ⟨ev, _, hq⟩
  · have hu : Hid (dcK a es es2 = a) := hide (by unfold dcK; rw [hq]; exact if_pos rfl)
    have d1 : ((es2.length : Int) == (es.length : Int)) = true := by rw [hq]; simp
    clear hq hO3
    go_wp2_with (first | (refine wpList_load_part rfl 23 _ rfl (w.heap.size) 0 rfl 23 (irow .u8 p) (0, 0) (irow .u8 p) _ rp0 (all_rowe _) Tryd.underlying23 rfl (infoKy _ hp.1) ?_) | (refine wpList_load_part rfl 23 _ rfl (w.heap.size + 1) 3 rfl 30 (opr x) (0, 0) (irow .u8 x.k) _ rp1 (op_k x hx.1) Tryd.underlying23 rfl (infoKy _ hx.1) ?_) | (refine wpList_load_part rfl 30 _ rfl (w.heap.size + 1) 0 rfl 30 (opr x) (0, 0) (opr x) _ rp1 (all_rowe _) Tryd.underlying30 rfl (op_info _ hx.1) ?_) | (refine wpList_load_part rfl 32 _ rfl (w.heap.size + 1 + 1) 0 rfl 32 (knr a) (0, 0) (knr a) _ rp2 (all_rowe _) Tryd.underlying32 rfl (kn_info a ha.1) ?_) | (refine wpList_load_part rfl 32 _ rfl (w.heap.size + 1 + 1 + 1) 0 rfl 32 (knr zkn) (0, 0) (knr zkn) _ rp3 (all_rowe _) Tryd.underlying32 rfl (kn_info zkn (zr_len 32)) ?_) | (refine wpList_store_row rfl 32 _ _ rfl (w.heap.size + 1 + 1 + 1) (knr a) rfl rfl 32 _ rp3 (kn_info a ha.1) ((knr_size zkn (zr_len 32)).trans (knr_size a ha.1).symm) (knr_one a) ?_) | fail)
    exact bodyPost_ret (v := .agg (knr a)) (results_cell_row Tryd.results11 _ _ (w.heap.size + 1 + 1 + 1) _ (knr a) _ _ rfl (setRow_heap _ _ _ _ _ _ rp3) Tryd.underlying32 rfl (kn_info a ha.1)) rfl ⟨ve2, vc2, by rw [← hE2.out, hu.out], by rw [← hE2.out]; exact hB.move (fun k_ hk_ => setRow_other _ _ _ _ (by have := hnew k_ hk_; omega)), hN1, hN2, (hT.step (Fr.of (X := ownB g (Value.slice ae es.length ca) (Value.slice ao cs.length cap)) hw) (fun _ _ q => q)).setNew (by omega) _⟩
  · have hlt : es.length < es2.length := by rw [hq]; simp
    have hgd : es2.getD es.length zev = ev := by rw [hq]; simp
    have hdc : Hid (dcK a es es2 = dcE a ev) := hide (by unfold dcK; rw [if_neg (by omega), hgd])
    have d1 : ((es2.length : Int) == (es.length : Int)) = false := by rw [beq_eq_false_iff_ne]; omega
    have h3 : 0 ≤ (es.length : Int) ∧ (es.length : Int) < (es2.length : Int) := by omega
    obtain ⟨gE, rfl, hgE, hrE⟩ := hO3.at hlt
    have hgE0 := (hO3.lt gE rfl).1
    have hok := hO3.2.at hlt
    rw [hgd] at hrE hok
    have ce := range_at hrE (ev_d' ev)
    rw [Nat.add_zero] at ce
    have hrk := evl_key hrE
    clear hq hgd hO3 hrE
    generalize e3 : (ev.d == 3) = x3 at *
    generalize e4 : (ev.d == 4) = x4 at *
    generalize e5 : (ev.d == 5) = x5 at *
    generalize e6 : (ev.d == 6) = x6 at *
    have hnew2 : ∀ k, ownB g ve2 vc2 k → k ≠ w.heap.size + 1 + 1 := fun k hk e => by
      rcases hk with q | q | q
      · omega
      · rcases hN1b with h | ⟨j, h, hj⟩
        · have := hle1 k (h ▸ q); omega
        · rw [q] at h; cases h; omega
      · rcases hN2b with h | ⟨j, h, hj⟩
        · have := hlc1 k (h ▸ q); omega
        · rw [q] at h; cases h; omega
    cases x3
    · skip
      have p3 : ¬ ev.d = 3 := by simpa using e3
      cases x4
      · skip
        have p4 : ¬ ev.d = 4 := by simpa using e4
        cases x5
        · skip
          have p5 : ¬ ev.d = 5 := by simpa using e5
          cases x6
          · skip
            have p6 : ¬ ev.d = 6 := by simpa using e6
            have hu : Hid (dcK a es es2 = a) := hide (by rw [hdc.out]; unfold dcE; rw [if_neg (by omega), if_neg p5, if_neg p6])
            clear hdc
            clear p3 p4 p5 p6
            go_wp2_with (first | (refine wpList_load_part rfl 23 _ rfl (w.heap.size) 0 rfl 23 (irow .u8 p) (0, 0) (irow .u8 p) _ rp0 (all_rowe _) Tryd.underlying23 rfl (infoKy _ hp.1) ?_) | (refine wpList_load_part rfl 23 _ rfl (w.heap.size + 1) 3 rfl 30 (opr x) (0, 0) (irow .u8 x.k) _ rp1 (op_k x hx.1) Tryd.underlying23 rfl (infoKy _ hx.1) ?_) | (refine wpList_load_part rfl 30 _ rfl (w.heap.size + 1) 0 rfl 30 (opr x) (0, 0) (opr x) _ rp1 (all_rowe _) Tryd.underlying30 rfl (op_info _ hx.1) ?_) | (refine wpList_load_part rfl 32 _ rfl (w.heap.size + 1 + 1) 0 rfl 32 (knr a) (0, 0) (knr a) _ rp2 (all_rowe _) Tryd.underlying32 rfl (kn_info a ha.1) ?_) | (refine wpList_load_part rfl 32 _ rfl (w.heap.size + 1 + 1 + 1) 0 rfl 32 (knr zkn) (0, 0) (knr zkn) _ rp3 (all_rowe _) Tryd.underlying32 rfl (kn_info zkn (zr_len 32)) ?_) | (refine wpList_store_row rfl 32 _ _ rfl (w.heap.size + 1 + 1 + 1) (knr a) rfl rfl 32 _ rp3 (kn_info a ha.1) ((knr_size zkn (zr_len 32)).trans (knr_size a ha.1).symm) (knr_one a) ?_) | fail)
            exact bodyPost_ret (v := .agg (knr a)) (results_cell_row Tryd.results11 _ _ (w.heap.size + 1 + 1 + 1) _ (knr a) _ _ rfl (setRow_heap _ _ _ _ _ _ rp3) Tryd.underlying32 rfl (kn_info a ha.1)) rfl ⟨ve2, vc2, by rw [← hE2.out, hu.out], by rw [← hE2.out]; exact hB.move (fun k_ hk_ => setRow_other _ _ _ _ (by have := hnew k_ hk_; omega)), hN1, hN2, (hT.step (Fr.of (X := ownB g (Value.slice ae es.length ca) (Value.slice ao cs.length cap)) hw) (fun _ _ q => q)).setNew (by omega) _⟩
          · skip
            have p6 : ev.d = 6 := by simpa using e6
            have hu : Hid (dcK a es es2 = ⟨a.n, a.k, false, false⟩) := hide (by rw [hdc.out]; unfold dcE; rw [if_neg (by omega), if_neg p5, if_pos p6])
            clear hdc
            clear p3 p4 p5 p6
            go_wp2_with (first | (refine wpList_store_cell rfl 4 _ _ rfl (w.heap.size + 1 + 1) 34 (.bool false) rfl rfl 32 _ (knr ⟨a.n, a.k, a.o, false⟩) rp2 (by rw [knr_size a ha.1]; decide) (kn_sets a ha.1 false) (by kernel_rfl) rfl ?_; refine wpList_stay ?_) | fail)
            unfold WpStay
            try simp only [Act.put]
            have r2_ := setRow_heap w3 (w.heap.size + 1 + 1) _ (knr ⟨a.n, a.k, a.o, false⟩) _ _ rp2
            replace rp3 := (setRow_other w3 (w.heap.size + 1 + 1) (w.heap.size + 1 + 1 + 1) (knr ⟨a.n, a.k, a.o, false⟩) (by omega)).trans rp3
            replace hB := hB.move (V := w3.setRow (w.heap.size + 1 + 1) (knr ⟨a.n, a.k, a.o, false⟩)) (fun k_ hk_ => setRow_other _ _ _ _ (by have := hnew2 k_ hk_; omega))
            have hT3 := (hT.step (Fr.of (X := ownB g (Value.slice ae es.length ca) (Value.slice ao cs.length cap)) hw) (fun _ _ q => q)).setNew (b := w.heap.size + 1 + 1) (by omega) (knr ⟨a.n, a.k, a.o, false⟩)
            clear rp2 hT hw
            have rp2 := r2_
            have hT := hT3
            clear r2_ hT3
            generalize w3.setRow (w.heap.size + 1 + 1) (knr ⟨a.n, a.k, a.o, false⟩) = wk29 at *
            have hw : Below wk29.heap.size wk29 wk29 := Below.refl _ _
            go_wp2_with (first | (refine wpList_store_cell rfl 4 _ _ rfl (w.heap.size + 1 + 1) 33 (.bool false) rfl rfl 32 _ (knr ⟨a.n, a.k, false, false⟩) rp2 (by rw [knr_size ⟨a.n, a.k, a.o, false⟩ ha.1]; decide) (kn_seto ⟨a.n, a.k, a.o, false⟩ ha.1 false) (by kernel_rfl) rfl ?_; refine wpList_stay ?_) | fail)
            unfold WpStay
            try simp only [Act.put]
            have r2_ := setRow_heap wk29 (w.heap.size + 1 + 1) _ (knr ⟨a.n, a.k, false, false⟩) _ _ rp2
            replace rp3 := (setRow_other wk29 (w.heap.size + 1 + 1) (w.heap.size + 1 + 1 + 1) (knr ⟨a.n, a.k, false, false⟩) (by omega)).trans rp3
            replace hB := hB.move (V := wk29.setRow (w.heap.size + 1 + 1) (knr ⟨a.n, a.k, false, false⟩)) (fun k_ hk_ => setRow_other _ _ _ _ (by have := hnew2 k_ hk_; omega))
            have hT3 := (hT.step (Fr.of (X := ownB g (Value.slice ae es.length ca) (Value.slice ao cs.length cap)) hw) (fun _ _ q => q)).setNew (b := w.heap.size + 1 + 1) (by omega) (knr ⟨a.n, a.k, false, false⟩)
            clear rp2 hT hw
            have rp2 := r2_
            have hT := hT3
            clear r2_ hT3
            generalize wk29.setRow (w.heap.size + 1 + 1) (knr ⟨a.n, a.k, false, false⟩) = wk30 at *
            have hw : Below wk30.heap.size wk30 wk30 := Below.refl _ _
            go_wp2_with (first | (refine wpList_load_part rfl 32 _ rfl (w.heap.size + 1 + 1) 0 rfl 32 (knr ⟨a.n, a.k, false, false⟩) (0, 0) (knr ⟨a.n, a.k, false, false⟩) _ rp2 (all_rowe _) Tryd.underlying32 rfl (kn_info ⟨a.n, a.k, false, false⟩ ha.1) ?_) | (refine wpList_load_part rfl 32 _ rfl (w.heap.size + 1 + 1 + 1) 0 rfl 32 (knr zkn) (0, 0) (knr zkn) _ rp3 (all_rowe _) Tryd.underlying32 rfl (kn_info zkn (zr_len 32)) ?_) | (refine wpList_store_row rfl 32 _ _ rfl (w.heap.size + 1 + 1 + 1) (knr ⟨a.n, a.k, false, false⟩) rfl rfl 32 _ rp3 (kn_info ⟨a.n, a.k, false, false⟩ ha.1) ((knr_size zkn (zr_len 32)).trans (knr_size ⟨a.n, a.k, false, false⟩ ha.1).symm) (knr_one ⟨a.n, a.k, false, false⟩) ?_) | fail)
            exact bodyPost_ret (v := .agg (knr ⟨a.n, a.k, false, false⟩)) (results_cell_row Tryd.results11 _ _ (w.heap.size + 1 + 1 + 1) _ (knr ⟨a.n, a.k, false, false⟩) _ _ rfl (setRow_heap _ _ _ _ _ _ rp3) Tryd.underlying32 rfl (kn_info ⟨a.n, a.k, false, false⟩ ha.1)) rfl ⟨ve2, vc2, by rw [← hE2.out, hu.out], by rw [← hE2.out]; exact hB.move (fun k_ hk_ => setRow_other _ _ _ _ (by have := hnew k_ hk_; omega)), hN1, hN2, (hT.step (Fr.of (X := ownB g (Value.slice ae es.length ca) (Value.slice ao cs.length cap)) hw) (fun _ _ q => q)).setNew (by omega) _⟩
        · skip
          have p5 : ev.d = 5 := by simpa using e5
          have hu : Hid (dcK a es es2 = ⟨a.n, a.k, a.o, true⟩) := hide (by rw [hdc.out]; unfold dcE; rw [if_neg (by omega), if_pos p5])
          clear hdc
          clear p3 p4 p5
          go_wp2_with (first | (refine wpList_store_cell rfl 4 _ _ rfl (w.heap.size + 1 + 1) 34 (.bool true) rfl rfl 32 _ (knr ⟨a.n, a.k, a.o, true⟩) rp2 (by rw [knr_size a ha.1]; decide) (kn_sets a ha.1 true) (by kernel_rfl) rfl ?_; refine wpList_stay ?_) | fail)
          unfold WpStay
          try simp only [Act.put]
          have r2_ := setRow_heap w3 (w.heap.size + 1 + 1) _ (knr ⟨a.n, a.k, a.o, true⟩) _ _ rp2
          replace rp3 := (setRow_other w3 (w.heap.size + 1 + 1) (w.heap.size + 1 + 1 + 1) (knr ⟨a.n, a.k, a.o, true⟩) (by omega)).trans rp3
          replace hB := hB.move (V := w3.setRow (w.heap.size + 1 + 1) (knr ⟨a.n, a.k, a.o, true⟩)) (fun k_ hk_ => setRow_other _ _ _ _ (by have := hnew2 k_ hk_; omega))
          have hT3 := (hT.step (Fr.of (X := ownB g (Value.slice ae es.length ca) (Value.slice ao cs.length cap)) hw) (fun _ _ q => q)).setNew (b := w.heap.size + 1 + 1) (by omega) (knr ⟨a.n, a.k, a.o, true⟩)
          clear rp2 hT hw
          have rp2 := r2_
          have hT := hT3
          clear r2_ hT3
          generalize w3.setRow (w.heap.size + 1 + 1) (knr ⟨a.n, a.k, a.o, true⟩) = wk31 at *
          have hw : Below wk31.heap.size wk31 wk31 := Below.refl _ _
          go_wp2_with (first | (refine wpList_load_part rfl 32 _ rfl (w.heap.size + 1 + 1) 0 rfl 32 (knr ⟨a.n, a.k, a.o, true⟩) (0, 0) (knr ⟨a.n, a.k, a.o, true⟩) _ rp2 (all_rowe _) Tryd.underlying32 rfl (kn_info ⟨a.n, a.k, a.o, true⟩ ha.1) ?_) | (refine wpList_load_part rfl 32 _ rfl (w.heap.size + 1 + 1 + 1) 0 rfl 32 (knr zkn) (0, 0) (knr zkn) _ rp3 (all_rowe _) Tryd.underlying32 rfl (kn_info zkn (zr_len 32)) ?_) | (refine wpList_store_row rfl 32 _ _ rfl (w.heap.size + 1 + 1 + 1) (knr ⟨a.n, a.k, a.o, true⟩) rfl rfl 32 _ rp3 (kn_info ⟨a.n, a.k, a.o, true⟩ ha.1) ((knr_size zkn (zr_len 32)).trans (knr_size ⟨a.n, a.k, a.o, true⟩ ha.1).symm) (knr_one ⟨a.n, a.k, a.o, true⟩) ?_) | fail)
          exact bodyPost_ret (v := .agg (knr ⟨a.n, a.k, a.o, true⟩)) (results_cell_row Tryd.results11 _ _ (w.heap.size + 1 + 1 + 1) _ (knr ⟨a.n, a.k, a.o, true⟩) _ _ rfl (setRow_heap _ _ _ _ _ _ rp3) Tryd.underlying32 rfl (kn_info ⟨a.n, a.k, a.o, true⟩ ha.1)) rfl ⟨ve2, vc2, by rw [← hE2.out, hu.out], by rw [← hE2.out]; exact hB.move (fun k_ hk_ => setRow_other _ _ _ _ (by have := hnew k_ hk_; omega)), hN1, hN2, (hT.step (Fr.of (X := ownB g (Value.slice ae es.length ca) (Value.slice ao cs.length cap)) hw) (fun _ _ q => q)).setNew (by omega) _⟩
      · skip
        have p4 : ev.d = 4 := by simpa using e4
        have hu : Hid (dcK a es es2 = ⟨a.n, ev.k, false, false⟩) := hide (by rw [hdc.out]; unfold dcE; rw [if_pos (.inr p4)])
        clear hdc
        clear p3 p4
        go_wp2_with (first | (refine wpList_load_part rfl 23 _ rfl (w.heap.size) 0 rfl 23 (irow .u8 p) (0, 0) (irow .u8 p) _ rp0 (all_rowe _) Tryd.underlying23 rfl (infoKy _ hp.1) ?_) | (refine wpList_load_part rfl 23 _ rfl (w.heap.size + 1) 3 rfl 30 (opr x) (0, 0) (irow .u8 x.k) _ rp1 (op_k x hx.1) Tryd.underlying23 rfl (infoKy _ hx.1) ?_) | (refine wpList_load_part rfl 30 _ rfl (w.heap.size + 1) 0 rfl 30 (opr x) (0, 0) (opr x) _ rp1 (all_rowe _) Tryd.underlying30 rfl (op_info _ hx.1) ?_) | (refine wpList_load_part rfl 32 _ rfl (w.heap.size + 1 + 1) 0 rfl 32 (knr a) (0, 0) (knr a) _ rp2 (all_rowe _) Tryd.underlying32 rfl (kn_info a ha.1) ?_) | (refine wpList_load_part rfl 32 _ rfl (w.heap.size + 1 + 1 + 1) 0 rfl 32 (knr zkn) (0, 0) (knr zkn) _ rp3 (all_rowe _) Tryd.underlying32 rfl (kn_info zkn (zr_len 32)) ?_) | fail)
        have hb : Below w3.heap.size w3 w3.drew := below_drN (Below.refl _ _) 1
        replace rp0 := keep hb rp0
        replace rp1 := keep hb rp1
        replace rp2 := keep hb rp2
        replace rp3 := keep hb rp3
        replace hB := hB.keep hb
        replace hrk := rangeAt_keep hrk (hb.block _ (by omega))
        replace hw := Below.after hw hb
        clear hb
        refine wp_region_noPanic ?_
        refine wp_region_held (S := fun W_ => W_.heap[w.heap.size + 1 + 1]? = some (.cells (knr a) 32 (0, 0)) ∧ W_.rangeAt gE (es.length * 34 + 2) (k8 ev.k)) (by kernel_rfl) ?_
        change wpAnyH _ _ _ _ _ _ _ _ (World.drew _)
        generalize w3.drew = wd32 at *
        refine wpAnyH_take (i := 0) (v := ?v33) rfl (by kernel_rfl) (by kernel_rfl) (by kernel_rfl) (fun _ _ _ h => h) (Or.inl ⟨by rfl, ?y33⟩) (⟨rp2, hrk⟩) ?r33
        case y33 =>
          intro w_ hS_
          go_simp
          try with_reducible rfl
        simp only [Act.put, List.getElem_toArray, List.getElem_cons_zero, List.setIfInBounds_toArray, List.set_cons_succ, List.set_cons_zero]
        refine wpAnyH_take (i := 1) (v := .string a.n) rfl (by kernel_rfl) (by kernel_rfl) (by kernel_rfl) (fun _ _ _ h => h) (Or.inl ⟨by rfl, ?y34⟩) (⟨rp2, hrk⟩) ?r34
        case y34 =>
          intro w_ hS_
          have c_ := cell_at (hS_.1) (kn_n a)
          go_simp
          try with_reducible rfl
        simp only [Act.put, List.getElem_toArray, List.getElem_cons_succ, List.getElem_cons_zero, List.setIfInBounds_toArray, List.set_cons_succ, List.set_cons_zero]
        refine wpAnyH_take (i := 2) (v := ?v35) rfl (by kernel_rfl) (by kernel_rfl) (by kernel_rfl) (fun _ _ _ h => h) (Or.inl ⟨by rfl, ?y35⟩) (⟨rp2, hrk⟩) ?r35
        case y35 =>
          intro w_ hS_
          go_simp
          try with_reducible rfl
        simp only [Act.put, List.getElem_toArray, List.getElem_cons_succ, List.getElem_cons_zero, List.setIfInBounds_toArray, List.set_cons_succ, List.set_cons_zero]
        refine wpAnyH_take (i := 3) (v := ?v36) rfl (by kernel_rfl) (by kernel_rfl) (by kernel_rfl) (fun _ _ _ h => h) (Or.inl ⟨by rfl, ?y36⟩) (⟨rp2, hrk⟩) ?r36
        case y36 =>
          intro w_ hS_
          go_simp
          try with_reducible rfl
        simp only [Act.put, List.getElem_toArray, List.getElem_cons_succ, List.getElem_cons_zero, List.setIfInBounds_toArray, List.set_cons_succ, List.set_cons_zero]
        refine wpAnyH_take (i := 4) (v := .pointer (some ⟨gE, es.length * 34, none⟩)) rfl (by kernel_rfl) (by kernel_rfl) (by kernel_rfl) (fun _ _ _ h => h) (Or.inl ⟨by rfl, ?y37⟩) (⟨rp2, hrk⟩) ?r37
        case y37 =>
          intro w_ hS_
          go_simp
          try with_reducible rfl
        simp only [Act.put, List.getElem_toArray, List.getElem_cons_succ, List.getElem_cons_zero, List.setIfInBounds_toArray, List.set_cons_succ, List.set_cons_zero]
        refine wpAnyH_take (i := 5) (v := .pointer (some ⟨gE, es.length * 34 + 2, none⟩)) rfl (by kernel_rfl) (by kernel_rfl) (by kernel_rfl) (fun _ _ _ h => h) (Or.inl ⟨by rfl, ?y38⟩) (⟨rp2, hrk⟩) ?r38
        case y38 =>
          intro w_ hS_
          go_simp
          try with_reducible rfl
        simp only [Act.put, List.getElem_toArray, List.getElem_cons_succ, List.getElem_cons_zero, List.setIfInBounds_toArray, List.set_cons_succ, List.set_cons_zero]
        refine wpAnyH_take (i := 6) (v := .agg (irow .u8 ev.k)) rfl (by kernel_rfl) (by kernel_rfl) (by kernel_rfl) (fun _ _ _ h => h) (Or.inl ⟨by rfl, ?y39⟩) (⟨rp2, hrk⟩) ?r39
        case y39 =>
          intro w_ hS_
          simp only [List.getElem_toArray, List.getElem_cons_succ, List.getElem_cons_zero]
          exact run_load_range 23 _ (by rfl) gE (es.length * 34 + 2) (by rfl) (k8 ev.k) _ (hS_.2) Tryd.underlying23 rfl (by rw [k8_len, hok.1]; kernel_rfl)
        simp only [Act.put, List.getElem_toArray, List.getElem_cons_succ, List.getElem_cons_zero, List.setIfInBounds_toArray, List.set_cons_succ, List.set_cons_zero]
        refine wpAnyH_take (i := 7) (v := .agg (knr ⟨a.n, ev.k, false, false⟩)) rfl (by kernel_rfl) (by kernel_rfl) (by kernel_rfl) (fun _ _ _ h => h) (Or.inl ⟨by rfl, ?y40⟩) (⟨rp2, hrk⟩) ?r40
        case y40 =>
          intro w_ hS_
          simp only [List.getElem_toArray, List.getElem_cons_succ, List.getElem_cons_zero]
          exact run_build_op 32 _ (by rfl) [(0, .string a.n), (1, .agg (irow .u8 ev.k))] (by rfl) _ (bt_k a.n ev.k hok.1)
        simp only [Act.put, List.getElem_toArray, List.getElem_cons_succ, List.getElem_cons_zero, List.setIfInBounds_toArray, List.set_cons_succ, List.set_cons_zero]
        refine eH_one (k := 8) (fuel := 0) (by kernel_rfl) rfl (by kernel_rfl) (fun K_ hK_ => ?_)
        refine wp_store_row 32 _ _ rfl (w.heap.size + 1 + 1 + 1) (knr ⟨a.n, ev.k, false, false⟩) rfl rfl 32 _ rp3 (kn_info _ hok.1) ((knr_size _ (zr_len 32)).trans (knr_size _ hok.1).symm) (knr_one _) ?_
        refine hK_ _ _ (⟨(setRow_other _ (w.heap.size + 1 + 1 + 1) (w.heap.size + 1 + 1) _ (by omega)).trans rp2, rangeAt_keep hrk (setRow_other _ (w.heap.size + 1 + 1 + 1) gE _ (by omega))⟩) ?_
        simp only [Act.put]
        clear hK_
        refine wpAnyH_done (by kernel_rfl) ?_ _
        refine NoPanic.normal ?_
        go_wp2_with (fail)
        exact bodyPost_ret (v := .agg (knr ⟨a.n, ev.k, false, false⟩)) (results_cell_row Tryd.results11 _ _ (w.heap.size + 1 + 1 + 1) _ (knr ⟨a.n, ev.k, false, false⟩) _ _ rfl (setRow_heap _ _ _ _ _ _ rp3) Tryd.underlying32 rfl (kn_info ⟨a.n, ev.k, false, false⟩ hok.1)) rfl ⟨ve2, vc2, by rw [← hE2.out, hu.out], by rw [← hE2.out]; exact hB.move (fun k_ hk_ => setRow_other _ _ _ _ (by have := hnew k_ hk_; omega)), hN1, hN2, (hT.step (Fr.of (X := ownB g (Value.slice ae es.length ca) (Value.slice ao cs.length cap)) hw) (fun _ _ q => q)).setNew (by omega) _⟩
    · skip
      have p3 : ev.d = 3 := by simpa using e3
      have hu : Hid (dcK a es es2 = ⟨a.n, ev.k, false, false⟩) := hide (by rw [hdc.out]; unfold dcE; rw [if_pos (.inl p3)])
      clear hdc
      clear p3
      go_wp2_with (first | (refine wpList_load_part rfl 23 _ rfl (w.heap.size) 0 rfl 23 (irow .u8 p) (0, 0) (irow .u8 p) _ rp0 (all_rowe _) Tryd.underlying23 rfl (infoKy _ hp.1) ?_) | (refine wpList_load_part rfl 23 _ rfl (w.heap.size + 1) 3 rfl 30 (opr x) (0, 0) (irow .u8 x.k) _ rp1 (op_k x hx.1) Tryd.underlying23 rfl (infoKy _ hx.1) ?_) | (refine wpList_load_part rfl 30 _ rfl (w.heap.size + 1) 0 rfl 30 (opr x) (0, 0) (opr x) _ rp1 (all_rowe _) Tryd.underlying30 rfl (op_info _ hx.1) ?_) | (refine wpList_load_part rfl 32 _ rfl (w.heap.size + 1 + 1) 0 rfl 32 (knr a) (0, 0) (knr a) _ rp2 (all_rowe _) Tryd.underlying32 rfl (kn_info a ha.1) ?_) | (refine wpList_load_part rfl 32 _ rfl (w.heap.size + 1 + 1 + 1) 0 rfl 32 (knr zkn) (0, 0) (knr zkn) _ rp3 (all_rowe _) Tryd.underlying32 rfl (kn_info zkn (zr_len 32)) ?_) | fail)
      have hb : Below w3.heap.size w3 w3.drew := below_drN (Below.refl _ _) 1
      replace rp0 := keep hb rp0
      replace rp1 := keep hb rp1
      replace rp2 := keep hb rp2
      replace rp3 := keep hb rp3
      replace hB := hB.keep hb
      replace hrk := rangeAt_keep hrk (hb.block _ (by omega))
      replace hw := Below.after hw hb
      clear hb
      refine wp_region_noPanic ?_
      refine wp_region_held (S := fun W_ => W_.heap[w.heap.size + 1 + 1]? = some (.cells (knr a) 32 (0, 0)) ∧ W_.rangeAt gE (es.length * 34 + 2) (k8 ev.k)) (by kernel_rfl) ?_
      change wpAnyH _ _ _ _ _ _ _ _ (World.drew _)
      generalize w3.drew = wd41 at *
      refine wpAnyH_take (i := 0) (v := ?v42) rfl (by kernel_rfl) (by kernel_rfl) (by kernel_rfl) (fun _ _ _ h => h) (Or.inl ⟨by rfl, ?y42⟩) (⟨rp2, hrk⟩) ?r42
      case y42 =>
        intro w_ hS_
        go_simp
        try with_reducible rfl
      simp only [Act.put, List.getElem_toArray, List.getElem_cons_zero, List.setIfInBounds_toArray, List.set_cons_succ, List.set_cons_zero]
      refine wpAnyH_take (i := 1) (v := .string a.n) rfl (by kernel_rfl) (by kernel_rfl) (by kernel_rfl) (fun _ _ _ h => h) (Or.inl ⟨by rfl, ?y43⟩) (⟨rp2, hrk⟩) ?r43
      case y43 =>
        intro w_ hS_
        have c_ := cell_at (hS_.1) (kn_n a)
        go_simp
        try with_reducible rfl
      simp only [Act.put, List.getElem_toArray, List.getElem_cons_succ, List.getElem_cons_zero, List.setIfInBounds_toArray, List.set_cons_succ, List.set_cons_zero]
      refine wpAnyH_take (i := 2) (v := ?v44) rfl (by kernel_rfl) (by kernel_rfl) (by kernel_rfl) (fun _ _ _ h => h) (Or.inl ⟨by rfl, ?y44⟩) (⟨rp2, hrk⟩) ?r44
      case y44 =>
        intro w_ hS_
        go_simp
        try with_reducible rfl
      simp only [Act.put, List.getElem_toArray, List.getElem_cons_succ, List.getElem_cons_zero, List.setIfInBounds_toArray, List.set_cons_succ, List.set_cons_zero]
      refine wpAnyH_take (i := 3) (v := ?v45) rfl (by kernel_rfl) (by kernel_rfl) (by kernel_rfl) (fun _ _ _ h => h) (Or.inl ⟨by rfl, ?y45⟩) (⟨rp2, hrk⟩) ?r45
      case y45 =>
        intro w_ hS_
        go_simp
        try with_reducible rfl
      simp only [Act.put, List.getElem_toArray, List.getElem_cons_succ, List.getElem_cons_zero, List.setIfInBounds_toArray, List.set_cons_succ, List.set_cons_zero]
      refine wpAnyH_take (i := 4) (v := .pointer (some ⟨gE, es.length * 34, none⟩)) rfl (by kernel_rfl) (by kernel_rfl) (by kernel_rfl) (fun _ _ _ h => h) (Or.inl ⟨by rfl, ?y46⟩) (⟨rp2, hrk⟩) ?r46
      case y46 =>
        intro w_ hS_
        go_simp
        try with_reducible rfl
      simp only [Act.put, List.getElem_toArray, List.getElem_cons_succ, List.getElem_cons_zero, List.setIfInBounds_toArray, List.set_cons_succ, List.set_cons_zero]
      refine wpAnyH_take (i := 5) (v := .pointer (some ⟨gE, es.length * 34 + 2, none⟩)) rfl (by kernel_rfl) (by kernel_rfl) (by kernel_rfl) (fun _ _ _ h => h) (Or.inl ⟨by rfl, ?y47⟩) (⟨rp2, hrk⟩) ?r47
      case y47 =>
        intro w_ hS_
        go_simp
        try with_reducible rfl
      simp only [Act.put, List.getElem_toArray, List.getElem_cons_succ, List.getElem_cons_zero, List.setIfInBounds_toArray, List.set_cons_succ, List.set_cons_zero]
      refine wpAnyH_take (i := 6) (v := .agg (irow .u8 ev.k)) rfl (by kernel_rfl) (by kernel_rfl) (by kernel_rfl) (fun _ _ _ h => h) (Or.inl ⟨by rfl, ?y48⟩) (⟨rp2, hrk⟩) ?r48
      case y48 =>
        intro w_ hS_
        simp only [List.getElem_toArray, List.getElem_cons_succ, List.getElem_cons_zero]
        exact run_load_range 23 _ (by rfl) gE (es.length * 34 + 2) (by rfl) (k8 ev.k) _ (hS_.2) Tryd.underlying23 rfl (by rw [k8_len, hok.1]; kernel_rfl)
      simp only [Act.put, List.getElem_toArray, List.getElem_cons_succ, List.getElem_cons_zero, List.setIfInBounds_toArray, List.set_cons_succ, List.set_cons_zero]
      refine wpAnyH_take (i := 7) (v := .agg (knr ⟨a.n, ev.k, false, false⟩)) rfl (by kernel_rfl) (by kernel_rfl) (by kernel_rfl) (fun _ _ _ h => h) (Or.inl ⟨by rfl, ?y49⟩) (⟨rp2, hrk⟩) ?r49
      case y49 =>
        intro w_ hS_
        simp only [List.getElem_toArray, List.getElem_cons_succ, List.getElem_cons_zero]
        exact run_build_op 32 _ (by rfl) [(0, .string a.n), (1, .agg (irow .u8 ev.k))] (by rfl) _ (bt_k a.n ev.k hok.1)
      simp only [Act.put, List.getElem_toArray, List.getElem_cons_succ, List.getElem_cons_zero, List.setIfInBounds_toArray, List.set_cons_succ, List.set_cons_zero]
      refine eH_one (k := 8) (fuel := 0) (by kernel_rfl) rfl (by kernel_rfl) (fun K_ hK_ => ?_)
      refine wp_store_row 32 _ _ rfl (w.heap.size + 1 + 1 + 1) (knr ⟨a.n, ev.k, false, false⟩) rfl rfl 32 _ rp3 (kn_info _ hok.1) ((knr_size _ (zr_len 32)).trans (knr_size _ hok.1).symm) (knr_one _) ?_
      refine hK_ _ _ (⟨(setRow_other _ (w.heap.size + 1 + 1 + 1) (w.heap.size + 1 + 1) _ (by omega)).trans rp2, rangeAt_keep hrk (setRow_other _ (w.heap.size + 1 + 1 + 1) gE _ (by omega))⟩) ?_
      simp only [Act.put]
      clear hK_
      refine wpAnyH_done (by kernel_rfl) ?_ _
      refine NoPanic.normal ?_
      go_wp2_with (fail)
      exact bodyPost_ret (v := .agg (knr ⟨a.n, ev.k, false, false⟩)) (results_cell_row Tryd.results11 _ _ (w.heap.size + 1 + 1 + 1) _ (knr ⟨a.n, ev.k, false, false⟩) _ _ rfl (setRow_heap _ _ _ _ _ _ rp3) Tryd.underlying32 rfl (kn_info ⟨a.n, ev.k, false, false⟩ hok.1)) rfl ⟨ve2, vc2, by rw [← hE2.out, hu.out], by rw [← hE2.out]; exact hB.move (fun k_ hk_ => setRow_other _ _ _ _ (by have := hnew k_ hk_; omega)), hN1, hN2, (hT.step (Fr.of (X := ownB g (Value.slice ae es.length ca) (Value.slice ao cs.length cap)) hw) (fun _ _ q => q)).setNew (by omega) _⟩
end Go.Proofs.YtlbcdjflcghkeaaDoor
