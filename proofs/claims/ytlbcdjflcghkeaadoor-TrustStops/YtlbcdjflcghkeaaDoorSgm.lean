import Derived.Test.YtlbcdjflcghkeaaDoorProg
import Derived.WalkKit
import Derived.WalkSpells
import Derived.WalkLawsBesides
import Derived.Lib.QuietBelow
import Derived.BigQuiet
import Derived.Test.YtlbcdjflcghkeaaDoorKa
import Derived.Test.YtlbcdjflcghkeaaDoorSgl
import Derived.Test.YtlbcdjflcghkeaaDoorSgk
namespace Go.Proofs.YtlbcdjflcghkeaaDoor
set_option maxRecDepth 100000
open Go Go.RowKit Go.Sort
attribute [local go_sem] setCell_drewN alloc_drewN

set_option maxRecDepth 100000 in
set_option maxHeartbeats 4000000 in
theorem a_hsumR (R : List Value) (t : TypeId) (bs : List Int) (g : Nat) (w : World) (hK : Kon w) (rH : w.heap[g]? = some (.cells (hsx R bs) t (0, 0))) (hz : ∀ z ∈ bs, 0 ≤ z ∧ z < 256) (hlim : bs.length ≤ 4611686018427387000) : Calls Tryd.prog 58 #[.pointer (some ⟨g, 0, none⟩)] w fun e w' => e = .returned (.agg (irow .u8 (sumL bs))) ∧ Below w.heap.size w w' := by
  have lg := lt_of_row rH
  have hpH : (hsx R bs).extract 0 (0 + (hst bs).size) = hst bs := hcx_whole R _ _ _ (hwords_len bs) (hpart_len bs)
  have hpb := plen_bd bs.length
  have hpl := padL_len bs.length
  have r0 := hp2_0 w (.cells (irow .u8 (zr 32)) 23) (.cells (hst bs) 115)
  have r1 := hp2_1 w (.cells (irow .u8 (zr 32)) 23) (.cells (hst bs) 115)
  have hw : Below w.heap.size w ((w.alloc (.cells (irow .u8 (zr 32)) 23)).alloc (.cells (hst bs) 115)) := ((Below.refl _ _).alloc (Nat.le_refl _) _).alloc (by simp) _
  have rH0 : (w.alloc (.cells (irow .u8 (zr 32)) 23)).heap[g]? = some (.cells (hsx R bs) t (0, 0)) := keep ((Below.refl _ _).alloc (Nat.le_refl _) _) rH
  have csz := cell_of (keep hw rH) (hcx_at R _ _ _ (hwords_len bs) (hpart_len bs))
  have f4 := hK.below hw
  have hk1 := hK.sz
  have cP := a_pad bs.length (by omega)
  go_enter Tryd.func58, Tryd.ntmps58
  go_wp2_with (first | (refine wpList_alloc rfl 23 rfl (irow .u8 (zr 32)) zkey ?_) | (refine wpList_load_part rfl 115 _ rfl g 0 rfl t (hsx R bs) (0, 0) (hst bs) _ rH0 hpH Tryd.underlying115 rfl (infoS _) ?_) | (refine wpList_alloc rfl 115 rfl (hcells (zr 8) (zr 64) 0) zH ?_) | (refine wpList_store_row rfl 115 _ _ rfl ((w.alloc (.cells (irow .u8 (zr 32)) 23)).heap.size) (hst bs) rfl rfl 115 _ (hp1_0 (w.alloc (.cells (irow .u8 (zr 32)) 23)) _) (infoS _) (fitS _) (hcells_one _ _ _) ?_; rw [setRow_alloc_new _ _ _ _ _ _ rfl]) | fail)
  try simp only [size_alloc1, Act.put, List.setIfInBounds_toArray, List.set_cons_succ, List.set_cons_zero]
  have ysz : ((w.alloc (.cells (irow .u8 (zr 32)) 23)).alloc (.cells (hst bs) 115)).heap.size = w.heap.size + 1 + 1 := by rw [size_alloc1, size_alloc1]
  generalize ((w.alloc (.cells (irow .u8 (zr 32)) 23)).alloc (.cells (hst bs) 115)) = w0 at *
  refine (cP w0).mono ?_
  rintro e_ w1 ⟨vp, gp, rfl, rfl, hgp, rp, hb⟩
  replace r0 := keep hb r0
  replace r1 := keep hb r1
  replace f4 := f4.below hb
  replace hw := Below.after hw hb
  clear hb csz rH0 cP
  have hBp : Bys w1 (.slice (some ⟨gp, 0, none⟩) (plen bs.length) (plen bs.length)) (padL bs.length) := by rw [← hpl]; exact Bys.of_row rp (by omega) (padL_bd _) _
  have cW := a_write bs (padL bs.length) (w.heap.size + 1) w1 _ r1 hBp (fun a l c h _ => by cases h; show gp ≠ w.heap.size + 1; omega) (fun a l c h => by cases h; exact Nat.le_refl _) (by omega) f4 hz (by rw [hpl]; omega)
  go_wp2_with (fail)
  refine cW.mono ?_
  rintro e_ w2 ⟨rfl, r2, hgr⟩
  have l0 := lt_of_row r0
  replace r0 : w2.heap[w.heap.size]? = _ := (hgr.block _ l0 (by intro e; injection e with e; omega)).trans r0
  replace hw := hw.grown hgr hw.size (fun k h => by injection h with h; omega)
  clear hgr cW r1 hBp rp f4
  have hW8 := sumW_len bs
  have hWb := sumW_bd bs
  have hSl := sumL_len bs
  have cT := a_told (sumW bs) hW8 hWb
  rw [show byts (sumW bs) = sumL bs from rfl] at cT
  rw [hst, sumW_eq] at r2
  have hq64 := hpart_len (bs ++ padL bs.length)
  generalize hpart (bs ++ padL bs.length) = PS at *
  generalize (((bs ++ padL bs.length).length : Nat) : Int) = SZ at *
  generalize sumW bs = SW at *
  have hpw : (hcells SW PS SZ).extract 0 (0 + (irow .u32 SW).size) = irow .u32 SW := by rw [irow_size, hW8]; exact hcells_words _ _ _ hW8
  clear hWb hpl hpb
  go_wp2_with (first | (refine wpList_load_part rfl 112 _ rfl (w.heap.size + 1) 0 rfl 115 (hcells SW PS SZ) (0, 0) (irow .u32 SW) _ r2 hpw Tryd.underlying112 rfl (info23 _ hW8) ?_) | fail)
  refine (cT.at _).mono ?_
  rintro e_ w3 ⟨rfl, hb⟩
  replace r0 := keep hb r0
  replace hw := Below.after hw hb
  clear hb cT
  go_wp2_with (first | (refine wpList_store_row rfl 23 _ _ rfl (w.heap.size) (irow .u8 (sumL bs)) rfl rfl 23 _ r0 (infok8 _ hSl) (fit32 _ _ (zr_len 32) hSl) (irow_one _ _) ?_) | fail)
  replace r0 := setRow_heap w3 (w.heap.size) _ (irow .u8 (sumL bs)) _ _ r0
  replace hw := below_setRow hw (Nat.le_refl _) (irow .u8 (sumL bs))
  generalize w3.setRow (w.heap.size) (irow .u8 (sumL bs)) = w9 at *
  exact bodyPost_ret (v := .agg (irow .u8 (sumL bs))) (results_cell_row Tryd.results58 _ _ (w.heap.size) _ _ _ _ rfl r0 Tryd.underlying23 rfl (infok8 _ hSl)) rfl ⟨rfl, hw⟩
end Go.Proofs.YtlbcdjflcghkeaaDoor

namespace Go.Proofs.YtlbcdjflcghkeaaDoor
set_option maxRecDepth 100000
open Go Go.RowKit Go.Sort
attribute [local go_sem] setCell_drewN alloc_drewN

/-- Bytes, fewer than 2^47 + 2^46. -/
def BysM (W : World) (v : Value) (bs : List Int) : Prop := Bys W v bs ∧ bs.length ≤ 211106232532992 ∧ (∀ a l c, v = .slice a l c → a = none → c = 0)
theorem BysM.keep {W W' : World} {v : Value} {bs : List Int} (h : BysM W v bs) (hb : Below W.heap.size W W') : BysM W' v bs := ⟨h.1.keep hb, h.2⟩
theorem BysN.toM {W : World} {v : Value} {bs : List Int} (h : BysN W v bs) : BysM W v bs := ⟨h.1, by have := h.2.1; omega, h.2.2⟩
theorem own_nil {W : World} {b n : Nat} {e : TypeId} {v : Value} {xs : List Value} (h : W.ownsRow b e 1 v n xs) : ∀ a l c, v = .slice a l c → a = none → c = 0 := by
  rintro a l c rfl rfl
  obtain ⟨_, ⟨hv, _⟩ | ⟨g, cap, cur, hv, _⟩⟩ := h
  · injection hv
  · cases hv
theorem BysM.of_own {W : World} {b n : Nat} {v : Value} {l : List Int} (h : W.ownsRow b 5 1 v n (l.map (Value.int .u8))) (hl : l.length ≤ 211106232532992) (hz : ∀ z ∈ l, 0 ≤ z ∧ z < 256) : BysM W v l := ⟨Bys.of_own h (by omega) hz, hl, own_nil h⟩
end Go.Proofs.YtlbcdjflcghkeaaDoor


namespace Go.Proofs.YtlbcdjflcghkeaaDoor
set_option maxRecDepth 100000
open Go Go.RowKit Go.Sort
attribute [local go_sem] setCell_drewN alloc_drewN

/-- An append to a row of one's own, whatever the shape of what is appended. -/
theorem wpList_append_own_any {P : Program} (w : World) {ops : Array Oper} {rest : List Oper} {o : Oper} {a : Act} {Q : Exit → Act → World → Prop} (hgd : o.guard = none) (s x : Operand) (t : TypeId)
    (ho : o.op = .call { callee := .builtin .append, args := #[s, x], argTypes := #[t, t] })
    (base : Nat) (e : TypeId) (i : TypeInfo) (z : Value) (ht : P.underlying t = some (.slice e)) (hi : P.info? e = some i) (hz : i.zero = some z)
    (hsize : i.size = 1) (hby : i.bytes = 1) (hzs : z.cells.size = 1)
    (v : Value) (n : Nat) (xs : List Value) (hs : a.eval s = v) (hown : w.ownsRow base e 1 v n xs)
    (ao : Option Addr) (m c : Nat) (news : List Value) (hx : a.eval x = .slice ao m c) (hl : news.length = m * 1) (hnone : ao = none → m = 0 ∧ c = 0) (hnews : ∀ ad, ao = some ad → ∀ j u, news[j]? = some u → w.cell? (ad.add j) = some u) (h1 : ∀ u ∈ news, u.oneCell' = true)
    (h63 : n + m ≤ maxLen) (hbytes : (n + m) * 1 ≤ 140737488355328) (hbase : base ≤ w.heap.size)
    (h : ∀ v' w', w'.ownsRow base e 1 v' (n + m) (xs ++ news) → w.grownBy w' v.ownBlock → wpList P ops Q rest (a.put o.dst v') w') : wpList P ops Q (o :: rest) a w := by
  cases ao with
  | some ad => exact wpList_append_own w hgd s x t ho base e i z 1 1 ht hi hz hsize hby hzs (by decide) v n xs hs hown ad m c news hx hl (hnews ad rfl) h1 h63 hbytes hbase (fun v' w' h2 h3 _ => h v' w' h2 h3)
  | none =>
    obtain ⟨rfl, rfl⟩ := hnone rfl
    have hn0 : news = [] := List.eq_nil_of_length_eq_zero (by simpa using hl)
    subst hn0
    refine wpList_plain hgd fun K hK' => ?_
    have hrun := run_append_owned_none (P := P) w base t o.type e i 1 ht hi _ n xs hown
    unfold Oper.wp
    simp [execOp, ho, resolve, invoke, builtin, hs, hx, hrun, Result.andThen]
    exact hK' _ _ (by simpa using h v w (by simpa using hown) (World.grownBy.refl _ _))
theorem own_at {W : World} {b n : Nat} {v : Value} {l : List Int} (h : W.ownsRow b 5 1 v n (l.map (Value.int .u8))) {j : Nat} (hj : j < n) : ∃ g cap, v = .slice (some ⟨g, 0, none⟩) n cap ∧ b ≤ g ∧ g < W.heap.size ∧ W.cell? ⟨g, j, none⟩ = some (.int .u8 (l.getD j 0)) ∧ W.frozen? ⟨g, j, none⟩ = false ∧ ∀ z, (W.setCell ⟨g, j, none⟩ (.int .u8 z)).ownsRow b 5 1 v n ((l.set j z).map (Value.int .u8)) := by
  obtain ⟨h1, ⟨rfl, rfl⟩ | ⟨g, cap, cur, rfl, hb, hg, hn, hm, hs, ht⟩⟩ := h
  · omega
  have hln : l.length = n := by simpa using h1
  simp only [Nat.mul_one] at ht hs
  refine ⟨g, cap, rfl, hb, lt_of_row hg, ?_, row_frozen hg j, fun z => ⟨by simpa using h1, .inr ⟨g, cap, _, rfl, hb, heap_setCell_same W g j cur _ _ hg, hn, hm, by simpa using hs, ?_⟩⟩⟩
  · rw [cell_of_row _ _ _ _ _ _ hg]
    have h2 := congrArg (fun q => q[j]?) ht
    rw [List.getElem?_take_of_lt hj, List.getElem?_map, List.getElem?_eq_getElem (show j < l.length by omega)] at h2
    rw [← Array.getElem?_toList, h2, List.getD_eq_getElem?_getD, List.getElem?_eq_getElem (show j < l.length by omega)]
    rfl
  · rw [Array.toList_setIfInBounds, Nat.mul_one, List.take_set, ht, List.map_set]
theorem own_other {W : World} {b n g j : Nat} {v u : Value} {xs : List Value} (h : W.ownsRow b 5 1 v n xs) (hg : g < b) : (W.setCell ⟨g, j, none⟩ u).ownsRow b 5 1 v n xs := by
  obtain ⟨h1, h2 | ⟨g', cap, cur, rfl, hb, hg', h3⟩⟩ := h
  · exact ⟨h1, .inl h2⟩
  · exact ⟨h1, .inr ⟨g', cap, cur, rfl, hb, heap_other hg' (by omega), h3⟩⟩
theorem own_empty (W : World) : (W.alloc (.cells #[] 5)).ownsRow W.heap.size 5 1 (.slice (some ⟨W.heap.size, 0, none⟩) 0 0) 0 [] := ⟨rfl, .inr ⟨W.heap.size, 0, #[], rfl, Nat.le_refl _, hp1_0 W _, Nat.le_refl _, by decide, rfl, rfl⟩⟩
theorem Bys.of_prefix {W : World} {g : Nat} {l m : List Int} {t : TypeId} (hg : W.heap[g]? = some (.cells (irow .u8 (l ++ m)) t (0, 0))) (hl : l.length ≤ 9223372036854775807) (hz : ∀ z ∈ l, 0 ≤ z ∧ z < 256) (cap : Nat) : Bys W (.slice (some ⟨g, 0, none⟩) l.length cap) l := by
  refine ⟨_, cap, rfl, hl, fun j hj => ⟨g, 0, rfl, lt_of_row hg, ?_⟩, hz⟩
  rw [Nat.zero_add, irow_cell hg (by rw [List.length_append]; omega), getD_append_lt _ _ _ hj]
/-- The first k of a, then what is left of c. -/
def mix (a c : List Int) (k : Nat) : List Int := a.take k ++ c.drop k
theorem mix_zero (a c : List Int) : mix a c 0 = c := by simp [mix]
theorem mix_all (a c : List Int) (h : a.length = c.length) : mix a c c.length = a := by
  unfold mix
  rw [← h, List.take_length, h, List.drop_length, List.append_nil]
theorem mix_length (a c : List Int) (k : Nat) (h : a.length = c.length) (hk : k ≤ c.length) : (mix a c k).length = c.length := by simp [mix]; omega
theorem mix_get (a c : List Int) (k : Nat) (h : a.length = c.length) (hk : k < c.length) : (mix a c k).getD k 0 = c.getD k 0 := by
  rw [List.getD_eq_getElem?_getD, List.getD_eq_getElem?_getD, mix, List.getElem?_append_right (by rw [List.length_take]; omega), List.getElem?_drop, List.length_take, show k + (k - min k a.length) = k by omega]
theorem mix_set (a c : List Int) (k : Nat) (h : a.length = c.length) (hk : k < c.length) : (mix a c k).set k (a.getD k 0) = mix a c (k + 1) := by
  apply List.ext_getElem?
  intro j
  have h1 : (a.take k).length = k := by simp; omega
  have h2 : (a.take (k + 1)).length = k + 1 := by simp; omega
  unfold mix
  rw [List.getElem?_set]
  by_cases e : k = j
  · subst e
    rw [if_pos rfl, if_pos (by simp; omega), List.getElem?_append_left (by omega), List.getElem?_take_of_lt (by omega)]
    rw [List.getD_eq_getElem?_getD, List.getElem?_eq_getElem (by omega)]
    rfl
  · rw [if_neg e]
    by_cases hj : j < k
    · rw [List.getElem?_append_left (by omega), List.getElem?_append_left (by omega), List.getElem?_take_of_lt hj, List.getElem?_take_of_lt (by omega)]
    · rw [List.getElem?_append_right (by omega), List.getElem?_append_right (by omega), List.getElem?_drop, List.getElem?_drop, h1, h2]
      congr 1
      omega
def xl (bs : List Int) (x : Int) : List Int := bs.map fun z => bits .xor .u8 z x
theorem xl_len (bs : List Int) (x : Int) : (xl bs x).length = bs.length := by simp [xl]
theorem bits8_bd (a b : Int) : 0 ≤ bits .xor .u8 a b ∧ bits .xor .u8 a b < 256 := by
  unfold bits
  simp only [IntKind.wrap, IntKind.bits, IntKind.signed]
  constructor
  · exact Int.emod_nonneg _ (by decide)
  · exact Int.emod_lt_of_pos _ (by decide)
theorem xl_bd (bs : List Int) (x : Int) : ∀ z ∈ xl bs x, 0 ≤ z ∧ z < 256 := by
  intro z hz
  obtain ⟨y, _, rfl⟩ := List.mem_map.1 hz
  exact bits8_bd _ _
theorem xl_get (bs : List Int) (x : Int) (k : Nat) (hk : k < bs.length) : (xl bs x).getD k 0 = bits .xor .u8 (bs.getD k 0) x := by
  rw [List.getD_eq_getElem?_getD, List.getD_eq_getElem?_getD, xl, List.getElem?_map, List.getElem?_eq_getElem hk]
  rfl
theorem eqK (l m : List Int) (hl : l.length = 32) (hm : m.length = 32) (w : World) : (Op.equalIn 10000 23 (.agg (irow .u8 l)) (.agg (irow .u8 m))).run Tryd.prog w = .ok (decide (l = m)) w := by
  obtain ⟨i0, hi, _⟩ := info8
  exact run_equal_ints w Tryd.underlying23 Tryd.underlying5 hi (by kernel_rfl) l m hl hm
theorem eqSum (bs : List Int) (W : World) : (Op.equalIn 10000 23 (.agg (irow .u8 (sumL bs))) (.agg (irow .u8 (sumL bs)))).run Tryd.prog W = .ok true W := by
  rw [eqK _ _ (sumL_len bs) (sumL_len bs)]; simp

end Go.Proofs.YtlbcdjflcghkeaaDoor


namespace Go.Proofs.YtlbcdjflcghkeaaDoor
set_option maxRecDepth 100000
open Go Go.RowKit Go.Sort

/-! The HMAC, on lists of numbers. -/
theorem sumL_bd (bs : List Int) : ∀ z ∈ sumL bs, 0 ≤ z ∧ z < 256 := byts_bd _
theorem zr_bd (k : Nat) : ∀ z ∈ zr k, 0 ≤ z ∧ z < 256 := by
  intro z hz
  rw [List.eq_of_mem_replicate hz]
  decide
/-- A key, no longer than a block. -/
def ksh (key : List Int) : List Int := if 64 < key.length then sumL key else key
def kb64 (key : List Int) : List Int := ksh key ++ zr (64 - (ksh key).length)
theorem ksh_len (key : List Int) : (ksh key).length ≤ 64 := by
  unfold ksh
  split
  · rw [sumL_len]; decide
  · omega
theorem ksh_bd {key : List Int} (h : ∀ z ∈ key, 0 ≤ z ∧ z < 256) : ∀ z ∈ ksh key, 0 ≤ z ∧ z < 256 := by
  unfold ksh
  split
  · exact sumL_bd _
  · exact h
theorem kb64_len (key : List Int) : (kb64 key).length = 64 := by
  have := ksh_len key
  simp only [kb64, List.length_append, zr_len]; omega
theorem kb64_bd {key : List Int} (h : ∀ z ∈ key, 0 ≤ z ∧ z < 256) : ∀ z ∈ kb64 key, 0 ≤ z ∧ z < 256 := both_bd (ksh_bd h) (zr_bd _)
theorem kb64_get (key : List Int) (i : Nat) : (kb64 key).getD i 0 = (ksh key).getD i 0 := by
  rw [List.getD_eq_getElem?_getD, List.getD_eq_getElem?_getD, kb64]
  by_cases h : i < (ksh key).length
  · rw [List.getElem?_append_left h]
  · rw [List.getElem?_append_right (by omega), List.getElem?_eq_none (show (ksh key).length ≤ i by omega)]
    simp only [zr, List.getElem?_replicate]
    split <;> rfl
def kin (key : List Int) : List Int := xl (kb64 key) 54
def kout (key : List Int) : List Int := xl (kb64 key) 92
theorem kin_len (key : List Int) : (kin key).length = 64 := (xl_len _ _).trans (kb64_len key)
theorem kout_len (key : List Int) : (kout key).length = 64 := (xl_len _ _).trans (kb64_len key)
theorem kin_bd (key : List Int) : ∀ z ∈ kin key, 0 ≤ z ∧ z < 256 := xl_bd _ _
theorem kout_bd (key : List Int) : ∀ z ∈ kout key, 0 ≤ z ∧ z < 256 := xl_bd _ _
/-- The HMAC. -/
def hm (key bs : List Int) : List Int := sumL (kout key ++ sumL (kin key ++ bs))
theorem hm_len (key bs : List Int) : (hm key bs).length = 32 := sumL_len _
theorem hm_bd (key bs : List Int) : ∀ z ∈ hm key bs, 0 ≤ z ∧ z < 256 := sumL_bd _
theorem kb64_sh (key : List Int) : kb64 (ksh key) = kb64 key := by
  have h := ksh_len key
  have e : ksh (ksh key) = ksh key := by rw [ksh, if_neg (by omega)]
  rw [kb64, kb64, e]
theorem kb64_zr (key : List Int) (n : Nat) (h : key.length + n ≤ 64) : kb64 (key ++ zr n) = kb64 key := by
  have e1 : ksh (key ++ zr n) = key ++ zr n := by rw [ksh, if_neg (by rw [List.length_append, zr_len]; omega)]
  have e2 : ksh key = key := by rw [ksh, if_neg (by omega)]
  rw [kb64, kb64, e1, e2, List.append_assoc, List.length_append, zr_len]
  congr 1
  simp only [zr]
  rw [List.replicate_append_replicate]
  congr 1
  omega
theorem hm_of (k l bs : List Int) (h : kb64 k = kb64 l) : hm k bs = hm l bs := by simp only [hm, kin, kout, h]
/-- The cells of a Mac behind its hash. -/
def mrest (key : List Int) : List Value := (hst (kin key)).toList ++ (hst (kout key)).toList
/-- The cells of a Mac. -/
def mst (key bs : List Int) : Array Value := hsx (mrest key) (kin key ++ bs)
theorem hst_size (bs : List Int) : (hst bs).size = 73 := hcells_size _ _ _ (hwords_len bs) (hpart_len bs)
theorem mrest_len (key : List Int) : (mrest key).length = 146 := by
  simp only [mrest, List.length_append, Array.length_toList, hst_size]
theorem mst_size (key bs : List Int) : (mst key bs).size = 219 := by
  rw [mst, hsx, hcx_size _ _ _ _ (hwords_len _) (hpart_len _), mrest_len]
theorem mst_list (key bs : List Int) : (mst key bs).toList = (hst (kin key ++ bs)).toList ++ ((hst (kin key)).toList ++ (hst (kout key)).toList) := by
  rw [mst, hsx_eq, Array.toList_append]; rfl
theorem mst_inner (key bs : List Int) : (mst key bs).extract 73 (73 + (hst (kin key)).size) = hst (kin key) := by
  apply Array.ext'
  have h1 : (hst (kin key ++ bs)).toList.length = 73 := by rw [Array.length_toList, hst_size]
  have h2 : (hst (kin key)).toList.length = 73 := by rw [Array.length_toList, hst_size]
  rw [hst_size, Array.toList_extract, mst_list]
  simp only [List.extract_eq_take_drop]
  rw [List.drop_left' h1, List.take_left' h2]
theorem mst_outer (key bs : List Int) : (mst key bs).extract 146 (146 + (hst (kout key)).size) = hst (kout key) := by
  apply Array.ext'
  have h1 : (hst (kin key ++ bs)).toList.length = 73 := by rw [Array.length_toList, hst_size]
  have h2 : (hst (kin key)).toList.length = 73 := by rw [Array.length_toList, hst_size]
  have h3 : (hst (kout key)).toList.length = 73 := by rw [Array.length_toList, hst_size]
  rw [hst_size, Array.toList_extract, mst_list]
  simp only [List.extract_eq_take_drop]
  rw [← List.append_assoc, List.drop_left' (by rw [List.length_append, h1, h2]), List.take_of_length_le (by omega)]
/-- The pieces of Expand. -/
def tp (key info : List Int) : Nat → List Int
  | 0 => []
  | i + 1 => hm key (tp key info i ++ (info ++ [((i + 1 : Nat) : Int)]))
def tall (key info : List Int) : Nat → List Int
  | 0 => []
  | i + 1 => tall key info i ++ tp key info (i + 1)
theorem tp_len (key info : List Int) (i : Nat) : (tp key info (i + 1)).length = 32 := hm_len _ _
theorem tp_le (key info : List Int) (i : Nat) : (tp key info i).length ≤ 32 := by
  cases i with
  | zero => exact Nat.zero_le _
  | succ i => rw [tp_len]; exact Nat.le_refl _
theorem tp_bd (key info : List Int) (i : Nat) : ∀ z ∈ tp key info i, 0 ≤ z ∧ z < 256 := by
  cases i with
  | zero => intro z h; cases h
  | succ i => exact hm_bd _ _
theorem tall_len (key info : List Int) : ∀ i, (tall key info i).length = 32 * i
  | 0 => rfl
  | i + 1 => by rw [tall, List.length_append, tall_len key info i, tp_len]; omega
theorem tall_bd (key info : List Int) : ∀ i, ∀ z ∈ tall key info i, 0 ≤ z ∧ z < 256
  | 0 => by intro z h; cases h
  | i + 1 => both_bd (tall_bd key info i) (tp_bd key info (i + 1))
/-- What Expand makes. -/
def xpd (key info : List Int) (n : Nat) : List Int := (tall key info ((n + 31) / 32)).take n
theorem xpd_len (key info : List Int) (n : Nat) : (xpd key info n).length = n := by
  rw [xpd, List.length_take, tall_len]; omega
theorem xpd_bd (key info : List Int) (n : Nat) : ∀ z ∈ xpd key info n, 0 ≤ z ∧ z < 256 := fun z h => tall_bd key info _ z (List.mem_of_mem_take h)
theorem tall_take (key info : List Int) (i : Nat) : ∀ k, (tall key info (i + k)).take (32 * i) = tall key info i
  | 0 => by rw [Nat.add_zero, List.take_of_length_le (by rw [tall_len]; omega)]
  | k + 1 => by
    rw [← Nat.add_assoc, tall, List.take_append_of_le_length (by rw [tall_len]; omega)]
    exact tall_take key info i k
theorem xpd_take (key info : List Int) (n m : Nat) (h : n ≤ m) : (xpd key info m).take n = xpd key info n := by
  have e : (m + 31) / 32 = (n + 31) / 32 + ((m + 31) / 32 - (n + 31) / 32) := by omega
  have h1 := tall_take key info ((n + 31) / 32) ((m + 31) / 32 - (n + 31) / 32)
  rw [← e] at h1
  rw [xpd, List.take_take, Nat.min_eq_left h, xpd, ← h1, List.take_take, Nat.min_eq_left (by omega)]
theorem xpd_at (key info : List Int) (m n : Nat) (h : 32 * m + 32 ≤ n) : ((xpd key info n).drop (32 * m)).take 32 = tp key info (m + 1) := by
  have h1 := xpd_take key info (32 * m + 32) n h
  have h2 : xpd key info (32 * m + 32) = tall key info (m + 1) := by
    rw [xpd, show (32 * m + 32 + 31) / 32 = m + 1 by omega, List.take_of_length_le (by rw [tall_len]; omega)]
  rw [h2, tall] at h1
  have h3 := congrArg (List.drop (32 * m)) h1
  rw [List.drop_left' (tall_len _ _ _), List.drop_take, show 32 * m + 32 - 32 * m = 32 by omega] at h3
  exact h3
end Go.Proofs.YtlbcdjflcghkeaaDoor

namespace Go.Proofs.YtlbcdjflcghkeaaDoor
set_option maxRecDepth 100000
open Go Go.RowKit Go.Sort
attribute [local go_sem] setCell_drewN alloc_drewN

theorem setRow_self {W : World} {g : Nat} {cs : Array Value} {t : TypeId} {fr : Nat × Nat} (hg : W.heap[g]? = some (.cells cs t fr)) : W.setRow g cs = W := by
  have hlt := lt_of_row hg
  have e : (W.setRow g cs).heap = W.heap := by
    apply Array.ext_getElem?
    intro i
    by_cases h : i = g
    · subst h; rw [setRow_heap W i _ cs _ _ hg, hg]
    · exact setRow_other W g i cs h
  show { W with heap := (W.setRow g cs).heap } = W
  rw [e]
theorem copy_bys {W : World} {g o dLen dCap : Nat} {v : Value} {l c : List Int} {t : TypeId} (hg : W.heap[g]? = some (.cells (irow .u8 l) t (0, 0))) (hB : Bys W v c) (hd : c.length ≤ dLen) (hf : o + c.length ≤ l.length) :
    (Builtin.copy_ #[67, 67] 3 #[.slice (some ⟨g, o, none⟩) dLen dCap, v]).run Tryd.prog W = .ok (goInt c.length) (W.setRow g (irow .u8 (l.take o ++ c ++ l.drop (o + c.length)))) := by
  obtain ⟨ao, cap, rfl, _, hc, _⟩ := hB
  rcases Nat.eq_zero_or_pos c.length with h0 | h0
  · have hc0 : c = [] := List.eq_nil_of_length_eq_zero h0
    subst hc0
    rw [run_copy_none W 67 67 3 5 _ _ _ _ _ _ Tryd.underlying67 (by kernel_rfl) (by simp)]
    rw [List.append_nil, List.length_nil, Nat.add_zero, List.take_append_drop, setRow_self hg]
    rfl
  · obtain ⟨b, off, rfl, _⟩ := hc 0 h0
    refine copy_irow hg (fun j hj => ?_) (Nat.min_eq_left hd).symm hf
    obtain ⟨b', off', e, _, h⟩ := hc j hj
    cases e
    exact h
theorem zr_take (a b : Nat) (h : a ≤ b) : (zr b).take a = zr a := by simp [zr, List.take_replicate, Nat.min_eq_left h]
theorem zr_drop (a b : Nat) : (zr b).drop a = zr (b - a) := by simp [zr]
theorem slice_arr (g : Nat) (W : World) : (Instr.sliceAt 113 (.pointer (some ⟨g, 0, none⟩)) none none none).run Tryd.prog W = .ok (.slice (some ⟨g, 0, none⟩) 64 64) W := by kernel_rfl
theorem info64 (l : List Int) (hl : l.length = 64) : (Tryd.prog.info? 113).map (·.size) = some (irow .u8 l).size := info24 l hl
end Go.Proofs.YtlbcdjflcghkeaaDoor

namespace Go.Proofs.YtlbcdjflcghkeaaDoor
set_option maxRecDepth 100000
open Go Go.RowKit Go.Sort
attribute [local go_sem] setCell_drewN alloc_drewN

/-- A call that asks for both package variables. -/
def Gives2 (f : FuncId) (args : Array Value) (v : Value) : Prop := ∀ W, Sta W → Kon W → Calls Tryd.prog f args W fun e w' => e = .returned v ∧ Below W.heap.size W w'
theorem Gives2.re {f : FuncId} {args : Array Value} {v : Value} (h : Gives2 f args v) {w : World} {d : Nat} {os : Array Obj} (hs : Sta w) (hk : Kon w) : Calls Tryd.prog f args (grow (redrawn w d) os) fun e w'' => e = .returned v ∧ ∃ p : Regrown, w'' = grow (redrawn w p.d) p.os := Calls.regrown_of (h _ (hs.below (below_regrown w d os)) (hk.below (below_regrown w d os)))
end Go.Proofs.YtlbcdjflcghkeaaDoor

namespace Go.Proofs.YtlbcdjflcghkeaaDoor
set_option maxRecDepth 100000
open Go Go.RowKit Go.Sort
attribute [local go_sem] setCell_drewN alloc_drewN

/-- A Mac's cells, whatever its hash. -/
def mcl (h : Array Value) (key : List Int) : Array Value := (h.toList ++ mrest key).toArray
theorem mcl_st (key bs : List Int) : mcl (hst (kin key ++ bs)) key = mst key bs := by
  apply Array.ext'
  rw [mst_list]; rfl
theorem mcl_size (h : Array Value) (key : List Int) (hh : h.size = 73) : (mcl h key).size = 219 := by
  simp only [mcl, List.size_toArray, List.length_append, Array.length_toList, mrest_len, hh]
theorem mcl_inner (h : Array Value) (key : List Int) (hh : h.size = 73) : (mcl h key).extract 73 (73 + (hst (kin key)).size) = hst (kin key) := by
  apply Array.ext'
  have h1 : h.toList.length = 73 := by rw [Array.length_toList, hh]
  have h2 : (hst (kin key)).toList.length = 73 := by rw [Array.length_toList, hst_size]
  rw [hst_size, Array.toList_extract, mcl, mrest]
  simp only [List.extract_eq_take_drop]
  rw [List.drop_left' h1, List.take_left' h2]
theorem mcl_set (h h' : Array Value) (key : List Int) (hh : h.size = 73) (hh' : h'.size = 73) : ovw (mcl h key) 0 h'.toList = mcl h' key := by
  apply Array.ext'
  rw [ovw_list _ _ _ (by rw [mcl_size _ _ hh, Array.length_toList, hh']; decide), Array.length_toList, hh', mcl, mcl]
  rw [List.take_zero, List.nil_append, Nat.zero_add, List.drop_left' (by rw [Array.length_toList, hh])]
theorem hst_one (bs : List Int) : (hst bs).all (·.oneCell') = true := hcells_one _ _ _
end Go.Proofs.YtlbcdjflcghkeaaDoor
