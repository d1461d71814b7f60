import Derived.Test.YtamieopjigjfiaaDoorProg
import Derived.WalkKit
import Derived.WalkSpells
import Derived.WalkLawsBesides
import Derived.Lib.QuietBelow
import Derived.BigQuiet
import Derived.Deep.RegionHeld3
import Derived.Deep.DeepAppendRoom
import Derived.Test.YtamieopjigjfiaaDoorKa
import Derived.Test.YtamieopjigjfiaaDoorWi
import Derived.Test.YtamieopjigjfiaaDoorYc
namespace Go.Proofs.YtamieopjigjfiaaDoor
set_option maxRecDepth 100000
open Go Go.RowKit Go.Sort
attribute [local go_sem] setCell_drewN alloc_drewN


/-- The first k bytes of a list, in a list of its own. -/
def OwnN (W : World) (b : Nat) (v : Value) (k : Nat) (d : List B) : Prop := W.ownsRow b 5 1 v k ((bl (d.take k)).map (Value.int .u8))
theorem OwnN.full {W : World} {b : Nat} {v : Value} {d : List B} (h : OwnN W b v d.length d) : Own W b v d := by
  unfold OwnN at h
  rw [List.take_length] at h
  exact h
theorem take_bl (d : List B) (k : Nat) (h : k < d.length) : (bl (d.take k)).map (Value.int .u8) ++ [.int .u8 (bv (gb d k))] = (bl (d.take (k + 1))).map (Value.int .u8) := by
  rw [List.take_add_one, List.getElem?_eq_getElem h]
  simp only [bl, List.map_append, gb, List.getD_eq_getElem?_getD, List.getElem?_eq_getElem h]; rfl
theorem OwnN.keep {W V : World} {b k : Nat} {v : Value} {d : List B} (h : OwnN W b v k d) (hb : Below W.heap.size W V) : OwnN V b v k d := by
  obtain ⟨h1, h2 | ⟨g, cap, cur, rfl, hb2, hg, h3⟩⟩ := h
  · exact ⟨h1, .inl h2⟩
  · exact ⟨h1, .inr ⟨g, cap, cur, rfl, hb2, Go.Proofs.YtamieopjigjfiaaDoor.keep hb hg, h3⟩⟩
theorem OwnN.setRow {W : World} {b k g : Nat} {v : Value} {d : List B} (h : OwnN W b v k d) (hg : g < b) (cs : Array Value) : OwnN (W.setRow g cs) b v k d := by
  obtain ⟨h1, h2 | ⟨g', cap, cur, rfl, hb2, hg', h3⟩⟩ := h
  · exact ⟨h1, .inl h2⟩
  · exact ⟨h1, .inr ⟨g', cap, cur, rfl, hb2, (setRow_other W g g' cs (by omega)).trans hg', h3⟩⟩
/-- One cell. -/
def CellAt (W : World) (a : Addr) (v : Value) : Prop := a.block < W.heap.size ∧ W.cell? a = some v
theorem CellAt.keep {W V : World} {a : Addr} {v : Value} (h : CellAt W a v) (hb : Below W.heap.size W V) : CellAt V a v := ⟨Nat.lt_of_lt_of_le h.1 hb.size, (hb.cell h.1).trans h.2⟩
theorem hx_load1 {a : Act} {o : Oper} (t : TypeId) (x : Operand) (ho : o.op = .load t x) (ad : Addr) (hx : a.eval x = .pointer (some ad)) (W : World) (v : Value) (hg : (isAgg t).run Tryd.prog W = .ok false W) (hc : W.cell? ad = some v) : (execOp a.eval o).run Tryd.prog W = .ok (.value v) W := by
  unfold execOp
  simp [ho, hx, Instr.loadAt, Instr.sureAddr, loadVar, hg, hc]
def SizeAt (W : World) (n : Nat) : Prop := n ≤ W.heap.size
theorem SizeAt.keep {W V : World} {n : Nat} (h : SizeAt W n) (hb : Below W.heap.size W V) : SizeAt V n := Nat.le_trans h hb.size
theorem one_cell {W : World} {g : Nat} {z : Int} {t : TypeId} (h : W.heap[g]? = some (.cells #[.int .u8 z] t (0, 0))) : ∀ j u, [Value.int .u8 z][j]? = some u → W.cell? ((⟨g, 0, none⟩ : Addr).add j) = some u := by
  intro j u hu
  have hj : j = 0 := by
    have := (List.getElem?_eq_some_iff.1 hu).1
    simp at this
    exact this
  subst hj
  simp at hu
  subst hu
  rw [addr_add]
  simp only [World.cell?, h]
  rfl
theorem sby_at (K nonce : List B) (q pl i : Nat) (h : 16 * q + pl = i) (hp : pl < 16) : sby K nonce i = gb (enc K (ctr nonce q)) pl := by
  rw [sby, show i / 16 = q by omega, show i % 16 = pl by omega]

set_option maxRecDepth 100000 in
set_option maxHeartbeats 8000000 in
theorem r_crypt (key nonce : List B) (hk : key.length = 32) (hno : nonce.length = 16) (at_ : Nat) (hat : at_ < 18446744073709551616) (d : List B) (w : World) (v : Value) (hB : BysB w v d) : Calls Tryd.prog 28 #[.agg (irow .u8 (bl (key))), .agg (irow .u8 (bl (nonce))), .int .u64 (at_ : Int), v] w fun e w' => ∃ u, e = .returned u ∧ Own w' w.heap.size u (cry (ks key 60) nonce at_ d) ∧ Below w.heap.size w w' := by
  have R0 := hp2_0 w (.cells (irow .u8 (bl (key))) 23) (.cells (irow .u8 (bl (nonce))) 28)
  have R1 := hp2_1 w (.cells (irow .u8 (bl (key))) 23) (.cells (irow .u8 (bl (nonce))) 28)
  have hw : Below w.heap.size w ((w.alloc (.cells (irow .u8 (bl (key))) 23)).alloc (.cells (irow .u8 (bl (nonce))) 28)) := (((Below.refl _ _).alloc (Nat.le_refl _) _).alloc (by simp) _)

  have hB00 := hB
  replace hB := hB.keep hw
  obtain ⟨i0, hi, hz0, hz1, hz2⟩ := info85
  have hzT : ∀ W : World, (Instr.alloc 61 true (.tuple #[])).run Tryd.prog W = .ok (.pointer (some ⟨W.heap.size, 0, none⟩)) (W.alloc (.cells (irow .u8 (bl (pt (fun x => sb (BitVec.ofNat 8 x)) 256 0))) 61)) := by rw [← zr_pt]; exact z256
  have hiT := info256 sbl sbl_len
  have hfT := fit256 (pt (fun x => sb (BitVec.ofNat 8 x)) 256 0) sbl (pt_len _ _ _) sbl_len
  have hiK := info_bl infoKy key hk
  have hiN := info_bl infoN nonce hno
  have ct := r_table
  have ck := r_keysBy key hk
  have cc := r_counter nonce hno (at_ / 16) (by omega)
  obtain ⟨K, hK⟩ : ∃ K, K = ks key 60 := ⟨_, rfl⟩
  have hKl : K.length = 240 := by rw [hK, ks_len]
  rw [← hK] at ck ⊢
  clear hK
  have hdv : ((at_ / 16 : Nat) : Int) = (at_ : Int) / 16 := rfl
  rw [hdv] at cc
  clear hdv
  have ce : Hid (∀ l : List B, l.length = 16 → Gives 47 #[.agg (irow .u8 (bl (sbl))), .agg (irow .u8 (bl (K))), .agg (irow .u8 (bl (l)))] (.agg (irow .u8 (bl (enc K l))))) := hide (fun l h => r_encryptBy K l hKl h)
  obtain ⟨sbx, hsx⟩ : ∃ t, t = sbl := ⟨_, rfl⟩
  obtain ⟨zT, hzx⟩ : ∃ t, t = pt (fun x => sb (BitVec.ofNat 8 x)) 256 0 := ⟨_, rfl⟩
  rw [← hsx] at ct ck ce hiT hfT
  rw [← hzx] at hzT hfT
  clear hsx hzx
  have hiQ := info_bl info32 K hKl
  have hfQ : (irow .u8 (zr 240)).size = (irow .u8 (bl (K))).size := by rw [irow_size, irow_size, zr_len, bl_len, hKl]
  go_enter Tryd.func28, Tryd.ntmps28
  go_wp2_with (first | (refine wpList_box rfl 23 _ rfl _ rfl (bKey _) ?_) | (refine wpList_box rfl 28 _ rfl _ rfl (bNo _) ?_) | fail)
  try simp only [size_alloc1, Act.put, List.setIfInBounds_toArray, List.set_cons_succ, List.set_cons_zero]
  generalize World.alloc _ _ = w0 at *
  refine (ct.at _).mono ?_
  rintro e_ w1 ⟨rfl, hb⟩
  replace R0 := keep hb R0
  replace R1 := keep hb R1
  replace hB := hB.keep hb
  replace hw := Below.after hw hb
  clear hb

  have rT := hp1_0 w1 (.cells (irow .u8 (bl (zT))) 61)
  have HB : Below w1.heap.size w1 (w1.alloc (.cells (irow .u8 (bl (zT))) 61)) := (Below.refl _ _).alloc (Nat.le_refl _) _
  go_wp2_with (first | (refine wpList_alloc rfl 61 rfl (irow .u8 (bl (zT))) hzT ?_) | (refine wpList_store_row rfl 61 _ _ rfl (w1.heap.size) (irow .u8 (bl (sbx))) rfl rfl 61 _ rT hiT hfT (irow_one _ _) ?_; refine wpList_stay ?_) | fail)
  unfold WpStay
  have hb := below_setRow HB (Nat.le_refl _) (irow .u8 (bl (sbx)))
  replace rT := setRow_heap _ (w1.heap.size) _ (irow .u8 (bl (sbx))) _ _ rT
  clear HB
  have lR0rT := lt_of_row R0
  have lR1rT := lt_of_row R1
  have hsrT := hw.size
  replace R0 := keep hb R0
  replace R1 := keep hb R1
  replace hB := hB.keep hb
  replace hw := Below.after hw hb
  clear hb
  generalize World.setRow _ (w1.heap.size) (irow .u8 (bl (sbx))) = w2 at *
  generalize w1.heap.size = gT at *

  go_wp2_with (first | (refine wpList_load_want rfl 61 _ rfl (gT) rfl 61 (irow .u8 (bl (sbx))) (0, 0) _ rT Tryd.underlying61 rfl hiT ?_) | (refine wpList_load_want rfl 23 _ rfl (w.heap.size) rfl 23 (irow .u8 (bl (key))) (0, 0) _ R0 Tryd.underlying23 rfl hiK ?_) | fail)
  refine (ck.at _).mono ?_
  rintro e_ w3 ⟨rfl, hb⟩
  replace R0 := keep hb R0
  replace R1 := keep hb R1
  replace rT := keep hb rT
  replace hB := hB.keep hb
  replace hw := Below.after hw hb
  clear hb

  have rK := hp1_0 w3 (.cells (irow .u8 (zr 240)) 64)
  have HB : Below w3.heap.size w3 (w3.alloc (.cells (irow .u8 (zr 240)) 64)) := (Below.refl _ _).alloc (Nat.le_refl _) _
  go_wp2_with (first | (refine wpList_alloc rfl 64 rfl (irow .u8 (zr 240)) z32 ?_) | (refine wpList_store_row rfl 64 _ _ rfl (w3.heap.size) (irow .u8 (bl (K))) rfl rfl 64 _ rK hiQ hfQ (irow_one _ _) ?_; refine wpList_stay ?_) | fail)
  unfold WpStay
  have hb := below_setRow HB (Nat.le_refl _) (irow .u8 (bl (K)))
  replace rK := setRow_heap _ (w3.heap.size) _ (irow .u8 (bl (K))) _ _ rK
  clear HB
  have lR0rK := lt_of_row R0
  have lR1rK := lt_of_row R1
  have lrTrK := lt_of_row rT
  have hsrK := hw.size
  replace R0 := keep hb R0
  replace R1 := keep hb R1
  replace rT := keep hb rT
  replace hB := hB.keep hb
  replace hw := Below.after hw hb
  clear hb
  generalize World.setRow _ (w3.heap.size) (irow .u8 (bl (K))) = w4 at *
  generalize w3.heap.size = gK at *

  go_wp2_with (first | (refine wpList_load_want rfl 28 _ rfl (w.heap.size + 1) rfl 28 (irow .u8 (bl (nonce))) (0, 0) _ R1 Tryd.underlying28 rfl hiN ?_) | fail)
  refine (cc.at _).mono ?_
  rintro e_ w5 ⟨rfl, hb⟩
  replace rT := keep hb rT
  replace rK := keep hb rK
  replace hB := hB.keep hb
  replace hw := Below.after hw hb
  clear hb

  have hiC0 := info_bl infoR (ctr nonce (at_ / 16)) (ctr_len _ _)
  have rC := hp1_0 w5 (.cells (irow .u8 (zr 16)) 63)
  have HB : Below w5.heap.size w5 (w5.alloc (.cells (irow .u8 (zr 16)) 63)) := (Below.refl _ _).alloc (Nat.le_refl _) _
  go_wp2_with (first | (refine wpList_alloc rfl 63 rfl (irow .u8 (zr 16)) zR ?_) | (refine wpList_store_row rfl 63 _ _ rfl (w5.heap.size) (irow .u8 (bl (ctr nonce (at_ / 16)))) rfl rfl 63 _ rC hiC0 (by rw [irow_size, irow_size, zr_len, bl_len, ctr_len]) (irow_one _ _) ?_; refine wpList_stay ?_) | fail)
  unfold WpStay
  have hb := below_setRow HB (Nat.le_refl _) (irow .u8 (bl (ctr nonce (at_ / 16))))
  replace rC := setRow_heap _ (w5.heap.size) _ (irow .u8 (bl (ctr nonce (at_ / 16)))) _ _ rC
  clear HB
  have lrTrC := lt_of_row rT
  have lrKrC := lt_of_row rK
  have hsrC := hw.size
  replace rT := keep hb rT
  replace rK := keep hb rK
  replace hB := hB.keep hb
  replace hw := Below.after hw hb
  clear hb
  generalize World.setRow _ (w5.heap.size) (irow .u8 (bl (ctr nonce (at_ / 16)))) = w6 at *
  generalize w5.heap.size = gC at *

  have ce0 := ce.out _ (ctr_len nonce (at_ / 16))
  go_wp2_with (first | (refine wpList_load_want rfl 61 _ rfl (gT) rfl 61 (irow .u8 (bl (sbx))) (0, 0) _ rT Tryd.underlying61 rfl hiT ?_) | (refine wpList_load_want rfl 64 _ rfl (gK) rfl 64 (irow .u8 (bl (K))) (0, 0) _ rK Tryd.underlying64 rfl hiQ ?_) | (refine wpList_load_want rfl 63 _ rfl (gC) rfl 63 (irow .u8 (bl (ctr nonce (at_ / 16)))) (0, 0) _ rC Tryd.underlying63 rfl hiC0 ?_) | fail)
  refine (ce0.at _).mono ?_
  rintro e_ w7 ⟨rfl, hb⟩
  replace rT := keep hb rT
  replace rK := keep hb rK
  replace rC := keep hb rC
  replace hB := hB.keep hb
  replace hw := Below.after hw hb
  clear hb

  have hiE0 := info_bl infoR (enc K (ctr nonce (at_ / 16))) (enc_len _ _)
  have rS := hp1_0 w7 (.cells (irow .u8 (zr 16)) 63)
  have HB : Below w7.heap.size w7 (w7.alloc (.cells (irow .u8 (zr 16)) 63)) := (Below.refl _ _).alloc (Nat.le_refl _) _
  go_wp2_with (first | (refine wpList_alloc rfl 63 rfl (irow .u8 (zr 16)) zR ?_) | (refine wpList_store_row rfl 63 _ _ rfl (w7.heap.size) (irow .u8 (bl (enc K (ctr nonce (at_ / 16))))) rfl rfl 63 _ rS hiE0 (by rw [irow_size, irow_size, zr_len, bl_len, enc_len]) (irow_one _ _) ?_; refine wpList_stay ?_) | fail)
  unfold WpStay
  have hb := below_setRow HB (Nat.le_refl _) (irow .u8 (bl (enc K (ctr nonce (at_ / 16)))))
  replace rS := setRow_heap _ (w7.heap.size) _ (irow .u8 (bl (enc K (ctr nonce (at_ / 16))))) _ _ rS
  clear HB
  have lrTrS := lt_of_row rT
  have lrKrS := lt_of_row rK
  have lrCrS := lt_of_row rC
  have hsrS := hw.size
  replace rT := keep hb rT
  replace rK := keep hb rK
  replace rC := keep hb rC
  replace hB := hB.keep hb
  replace hw := Below.after hw hb
  clear hb
  generalize World.setRow _ (w7.heap.size) (irow .u8 (bl (enc K (ctr nonce (at_ / 16))))) = w8 at *
  generalize w7.heap.size = gS at *

  clear hzT ct ck cc ce0
  have hB0 := hB
  obtain ⟨⟨ao, cap, hv, _, _, _⟩, hlen, hnil⟩ := hB0
  rw [bl_len] at hv
  subst hv
  have hs8 := hw.size
  go_wp2_with (at_make; refine wpList_make_own _ rfl _ _ 29 rfl w8.heap.size 5 i0 (.int .u8 0) 1 Tryd.underlying29 hi hz0 hz1 _ _ _ d.length rfl rfl (by omega) ?b2 ?b3 (Nat.le_refl _) ?_)
  case b2 => rw [hz2]; omega
  case b3 => unfold maxLen; omega
  intro w9 hown0 hgrow0
  have hb := (Below.refl w8.heap.size w8).grown hgrow0 (Nat.le_refl _) (fun k h => by cases h)
  have lS := lt_of_row rS
  have hsz9 := hb.size
  have hBh : Hid (∀ V, Below w.heap.size w V → BysB V (.slice ao d.length cap) d) := hide (fun V h => hB00.keep h)
  replace rT := keep hb rT
  replace rK := keep hb rK
  replace rC := keep hb rC
  replace rS := keep hb rS
  replace hw := Below.after hw hb
  clear hb hgrow0 hB
  generalize w8.heap.size = gR at *
  have hOw : OwnN w9 gR (.slice (some ⟨gR, 0, none⟩) 0 d.length) 0 (cry K nonce at_ d) := hown0
  clear hown0
  go_wp2_with (fail)
  go_loopw [13, 14, 15] (fun pl_ r i wr => ∃ k pl q : Nat, k ≤ d.length ∧ i = .int .i64 k ∧ pl_ = .int .i64 (pl : Int) ∧ pl ≤ 16 ∧ Hid (16 * q + pl = at_ + k) ∧ wr.heap[gT]? = some (.cells (irow .u8 (bl (sbx))) 61 (0, 0)) ∧ wr.heap[gK]? = some (.cells (irow .u8 (bl (K))) 64 (0, 0)) ∧ wr.heap[gC]? = some (.cells (irow .u8 (bl (ctr nonce q))) 63 (0, 0)) ∧ wr.heap[gS]? = some (.cells (irow .u8 (bl (enc K (ctr nonce q)))) 63 (0, 0)) ∧ OwnN wr gR (.slice (some ⟨gR, 0, none⟩) k d.length) k (cry K nonce at_ d) ∧ gR ≤ wr.heap.size ∧ Below w.heap.size w wr ∧ r = .slice (some ⟨gR, 0, none⟩) k d.length) (fun _ _ i _ => d.length - (intOf i).toNat)
  case atStart => exact ⟨0, at_ % 16, at_ / 16, by omega, rfl, rfl, by omega, hide (by omega), rT, rK, rC, rS, hOw, hsz9, hw, rfl⟩
  case round =>
    clear rT rK rC rS hOw hw hsz9
    obtain ⟨k, pl, q, hk2, rfl, rfl, hpl, hq, rT, rK, rC, rS, hOw, hsz9, hw, rfl⟩ := hrel
    by_cases hlt : k < d.length
    · have hd : decide ((k : Int) < (d.length : Int)) = true := by simp; omega
      have hB := hBh.out wr hw
      by_cases h16 : pl = 16
      · subst h16
        have hd16 : decide (((16 : Nat) : Int) = 16) = true := by decide
        have cc := r_counter (ctr nonce q) (ctr_len _ _) 1 (by omega)
        rw [ctr_ctr] at cc
        have hq' : Hid (16 * (q + 1) + 0 = at_ + k) := hide (by have := hq.out; omega)
        have hiC := info_bl infoR (ctr nonce q) (ctr_len _ _)
        have hiC1 := info_bl infoR (ctr nonce (q + 1)) (ctr_len _ _)
        have hiE1 := info_bl infoR (enc K (ctr nonce (q + 1))) (enc_len _ _)
        have ce1 := ce.out _ (ctr_len nonce (q + 1))
        go_wp2_with (first | (refine wpList_load_want rfl 63 _ rfl (gC) rfl 63 (irow .u8 (bl (ctr nonce q))) (0, 0) _ rC Tryd.underlying63 rfl hiC ?_) | fail)
        refine (cc.at _).mono ?_
        rintro e_ w10 ⟨rfl, hb⟩
        replace rT := keep hb rT
        replace rK := keep hb rK
        replace rC := keep hb rC
        replace rS := keep hb rS
        replace hOw := hOw.keep hb
        replace hsz9 := Nat.le_trans hsz9 hb.size
        replace hw := Below.after hw hb
        clear hb

        go_wp2_with (first | (refine wpList_store_row rfl 63 _ _ rfl (gC) (irow .u8 (bl (ctr nonce (q + 1)))) rfl rfl 63 _ rC hiC1 (by rw [irow_size, irow_size, bl_len, bl_len, ctr_len, ctr_len]) (irow_one _ _) ?_; refine wpList_stay ?_) | fail)
        unfold WpStay
        replace rT := (setRow_other w10 gC gT (irow .u8 (bl (ctr nonce (q + 1)))) (by omega)).trans rT
        replace rK := (setRow_other w10 gC gK (irow .u8 (bl (ctr nonce (q + 1)))) (by omega)).trans rK
        replace rS := (setRow_other w10 gC gS (irow .u8 (bl (ctr nonce (q + 1)))) (by omega)).trans rS
        replace rC := setRow_heap w10 gC _ (irow .u8 (bl (ctr nonce (q + 1)))) _ _ rC
        replace hOw := hOw.setRow (g := gC) (by omega) (irow .u8 (bl (ctr nonce (q + 1))))
        replace hsz9 : gR ≤ (w10.setRow gC (irow .u8 (bl (ctr nonce (q + 1))))).heap.size := by rw [size_setRow]; exact hsz9
        replace hw := below_setRow hw (show w.heap.size ≤ gC by omega) (irow .u8 (bl (ctr nonce (q + 1))))
        generalize w10.setRow gC (irow .u8 (bl (ctr nonce (q + 1)))) = w11 at *

        go_wp2_with (first | (refine wpList_load_want rfl 61 _ rfl (gT) rfl 61 (irow .u8 (bl (sbx))) (0, 0) _ rT Tryd.underlying61 rfl hiT ?_) | (refine wpList_load_want rfl 64 _ rfl (gK) rfl 64 (irow .u8 (bl (K))) (0, 0) _ rK Tryd.underlying64 rfl hiQ ?_) | (refine wpList_load_want rfl 63 _ rfl (gC) rfl 63 (irow .u8 (bl (ctr nonce (q + 1)))) (0, 0) _ rC Tryd.underlying63 rfl hiC1 ?_) | fail)
        refine (ce1.at _).mono ?_
        rintro e_ w12 ⟨rfl, hb⟩
        replace rT := keep hb rT
        replace rK := keep hb rK
        replace rC := keep hb rC
        replace rS := keep hb rS
        replace hOw := hOw.keep hb
        replace hsz9 := Nat.le_trans hsz9 hb.size
        replace hw := Below.after hw hb
        clear hb

        go_wp2_with (first | (refine wpList_store_row rfl 63 _ _ rfl (gS) (irow .u8 (bl (enc K (ctr nonce (q + 1))))) rfl rfl 63 _ rS hiE1 (by rw [irow_size, irow_size, bl_len, bl_len, enc_len, enc_len]) (irow_one _ _) ?_; refine wpList_stay ?_) | fail)
        unfold WpStay
        replace rT := (setRow_other w12 gS gT (irow .u8 (bl (enc K (ctr nonce (q + 1))))) (by omega)).trans rT
        replace rK := (setRow_other w12 gS gK (irow .u8 (bl (enc K (ctr nonce (q + 1))))) (by omega)).trans rK
        replace rC := (setRow_other w12 gS gC (irow .u8 (bl (enc K (ctr nonce (q + 1))))) (by omega)).trans rC
        replace rS := setRow_heap w12 gS _ (irow .u8 (bl (enc K (ctr nonce (q + 1))))) _ _ rS
        replace hOw := hOw.setRow (g := gS) (by omega) (irow .u8 (bl (enc K (ctr nonce (q + 1)))))
        replace hsz9 : gR ≤ (w12.setRow gS (irow .u8 (bl (enc K (ctr nonce (q + 1)))))).heap.size := by rw [size_setRow]; exact hsz9
        replace hw := below_setRow hw (show w.heap.size ≤ gS by omega) (irow .u8 (bl (enc K (ctr nonce (q + 1)))))
        generalize w12.setRow gS (irow .u8 (bl (enc K (ctr nonce (q + 1))))) = w13 at *

        go_wp2_with (fail)
        clear cc ce1 hq
        replace hB := hBh.out w13 hw
        obtain ⟨⟨ao', cap', hv', _, hc, _⟩, _, _⟩ := hB
        obtain ⟨bb, off, e5, hbb, hcl⟩ := hc k (by rw [bl_len]; exact hlt)
        obtain rfl : ao' = ao := by injection hv' with h1 _ _; exact h1.symm
        subst e5
        rw [bl_get] at hcl
        have c0 : CellAt w13 ⟨bb, off + k, none⟩ (.int .u8 (bv (gb d k))) := ⟨hbb, hcl⟩
        clear hc hv' hcl
        have c1 : CellAt w13 ⟨gS, 0, none⟩ (.int .u8 (bv (gb (enc K (ctr nonce (q + 1))) (0)))) := ⟨lt_of_row rS, brow_cell rS (by rw [enc_len]; omega)⟩
        have hset := hide (take_bl (cry K nonce at_ d) k (by rw [cry_len]; exact hlt))
        rw [cry_get _ _ _ _ _ hlt, sby_at K nonce (q + 1) (0) (at_ + k) hq'.out (by omega)] at hset
        have hx := xor8 (gb d k) (gb (enc K (ctr nonce (q + 1))) (0))
        have hsq : SizeAt w13 gR := hsz9
        generalize gb d k = x0 at *
        generalize gb (enc K (ctr nonce (q + 1))) (0) = x1 at *
        generalize x0 ^^^ x1 = x2 at *
        have hbd : Below w13.heap.size w13 w13.drew := below_drN (Below.refl _ _) 1
        replace rT := keep hbd rT
        replace rK := keep hbd rK
        replace rC := keep hbd rC
        replace rS := keep hbd rS
        replace hOw := hOw.keep hbd
        replace c0 := c0.keep hbd
        replace c1 := c1.keep hbd
        replace hsq := hsq.keep hbd
        replace hw := Below.after hw hbd
        clear hbd
        refine wp_region_noPanic ?_
        refine wp_region_any (by kernel_rfl) ?_
        change wpAny _ _ _ _ _ _ _ (World.drew _)
        generalize w13.drew = wd at *
        refine wpAny_take (i := 0) (v := ?v1) rfl (by kernel_rfl) (by kernel_rfl) (by kernel_rfl) (fun _ _ _ h => h) (Or.inl ⟨by rfl, ?y1⟩) ?r1
        case y1 =>
          intro w_
          go_simp
          try with_reducible rfl
        simp only [Act.put, List.getElem_toArray, List.getElem_cons_zero, List.setIfInBounds_toArray, List.set_cons_succ, List.set_cons_zero]
        refine wpAny_take (i := 1) (v := ?v2) rfl (by kernel_rfl) (by kernel_rfl) (by kernel_rfl) (fun _ _ _ h => h) (Or.inl ⟨by rfl, ?y2⟩) ?r2
        case y2 =>
          intro w_
          go_simp
          try with_reducible rfl
        simp only [Act.put, List.getElem_toArray, List.getElem_cons_succ, List.getElem_cons_zero, List.setIfInBounds_toArray, List.set_cons_succ, List.set_cons_zero]
        refine wpAny_take (i := 2) (v := ?v3) rfl (by kernel_rfl) (by kernel_rfl) (by kernel_rfl) (fun _ _ _ h => h) (Or.inl ⟨by rfl, ?y3⟩) ?r3
        case y3 =>
          intro w_
          go_simp
          try with_reducible rfl
        simp only [Act.put, List.getElem_toArray, List.getElem_cons_succ, List.getElem_cons_zero, List.setIfInBounds_toArray, List.set_cons_succ, List.set_cons_zero]
        refine wpAny_take (i := 3) (v := ?v4) rfl (by kernel_rfl) (by kernel_rfl) (by kernel_rfl) (fun _ _ _ h => h) (Or.inl ⟨by rfl, ?y4⟩) ?r4
        case y4 =>
          intro w_
          go_simp
          try with_reducible rfl
        simp only [Act.put, List.getElem_toArray, List.getElem_cons_succ, List.getElem_cons_zero, List.setIfInBounds_toArray, List.set_cons_succ, List.set_cons_zero]
        refine wpAny_take (i := 5) (v := ?v5) rfl (by kernel_rfl) (by kernel_rfl) (by kernel_rfl) (fun _ _ _ h => h) (Or.inl ⟨by rfl, ?y5⟩) ?r5
        case y5 =>
          intro w_
          go_simp
          try with_reducible rfl
        simp only [Act.put, List.getElem_toArray, List.getElem_cons_succ, List.getElem_cons_zero, List.setIfInBounds_toArray, List.set_cons_succ, List.set_cons_zero]
        refine wpAny_take (i := 6) (v := ?v6) rfl (by kernel_rfl) (by kernel_rfl) (by kernel_rfl) (fun _ _ _ h => h) (Or.inl ⟨by rfl, ?y6⟩) ?r6
        case y6 =>
          intro w_
          go_simp
          try with_reducible rfl
        simp only [Act.put, List.getElem_toArray, List.getElem_cons_succ, List.getElem_cons_zero, List.setIfInBounds_toArray, List.set_cons_succ, List.set_cons_zero]
        refine wpAny_ready (rs := [4, 7]) (fuel := 5) (by kernel_rfl) (by simp) (AllReady.cons rfl (fun K' hK => ?_) (AllReady.cons rfl (fun K' hK => ?_) AllReady.nil))
        · rw [if_pos (by kernel_rfl)]
          simp only [List.getElem_toArray, List.getElem_cons_succ, List.getElem_cons_zero]
          refine wp_pure_op (.int .u8 (bv x0)) (hx_load1 5 _ rfl ⟨bb, off + k, none⟩ rfl _ _ (by kernel_rfl) (c0.2)) (hK _ _ ?_)
          simp only [Act.put, List.setIfInBounds_toArray, List.set_cons_succ, List.set_cons_zero]
          clear hK
          refine wpAny_ready (rs := [7]) (fuel := 4) (by kernel_rfl) (by simp) (AllReady.cons rfl (fun K' hK => ?_) AllReady.nil)
          rw [if_pos (by kernel_rfl)]
          simp only [List.getElem_toArray, List.getElem_cons_succ, List.getElem_cons_zero]
          refine wp_pure_op (.int .u8 (bv x1)) (hx_load1 5 _ rfl ⟨gS, 0, none⟩ rfl _ _ (by kernel_rfl) (c1.2)) (hK _ _ ?_)
          simp only [Act.put, List.setIfInBounds_toArray, List.set_cons_succ, List.set_cons_zero]
          clear hK
          refine wpAny_take (i := 8) (v := ?v7) rfl (by kernel_rfl) (by kernel_rfl) (by kernel_rfl) (fun _ _ _ h => h) (Or.inl ⟨by rfl, ?y7⟩) ?r7
          case y7 =>
            intro w_
            go_simp
            try with_reducible rfl
          simp only [Act.put, List.getElem_toArray, List.getElem_cons_succ, List.getElem_cons_zero, List.setIfInBounds_toArray, List.set_cons_succ, List.set_cons_zero]
          refine wpAny_ready (rs := [9]) (fuel := 2) (by kernel_rfl) (by simp) (AllReady.cons rfl (fun K' hK => ?_) AllReady.nil)
          rw [if_pos (by kernel_rfl)]
          simp only [List.getElem_toArray, List.getElem_cons_succ, List.getElem_cons_zero]
          refine wp_world_op (.slice (some ⟨wd.heap.size, 0, none⟩) 1 1) (wd.alloc (.cells #[.int .u8 (bv x2)] 5)) (by kernel_rfl) (hK _ _ ?_)
          simp only [Act.put, List.setIfInBounds_toArray, List.set_cons_succ, List.set_cons_zero]
          clear hK
          have hb_ : Below wd.heap.size wd (wd.alloc (.cells #[.int .u8 (bv x2)] 5)) := (Below.refl _ _).alloc (Nat.le_refl _) _
          have rB := hp1_0 wd (.cells #[.int .u8 (bv x2)] 5)
          replace rT := keep hb_ rT
          replace rK := keep hb_ rK
          replace rC := keep hb_ rC
          replace rS := keep hb_ rS
          replace hOw := hOw.keep hb_
          replace c0 := c0.keep hb_
          replace c1 := c1.keep hb_
          replace hsq := hsq.keep hb_
          replace hw := Below.after hw hb_
          clear hb_
          generalize wd.alloc (.cells #[.int .u8 (bv x2)] 5) = q1 at *
          generalize wd.heap.size = g2 at *
          refine wpAny_ready (rs := [10]) (fuel := 1) (by kernel_rfl) (by simp) (AllReady.cons rfl (fun K' hK => ?_) AllReady.nil)
          rw [if_pos (by kernel_rfl)]
          simp only [List.getElem_toArray, List.getElem_cons_succ, List.getElem_cons_zero]
          have hnews : ∀ j u, [Value.int .u8 (bv x2)][j]? = some u → q1.cell? ((⟨g2, 0, none⟩ : Addr).add j) = some u := one_cell rB
          refine wp_append_own_spare (w := q1) (.tmp 48) (.tmp 57) 29 rfl gR 5 i0 1 Tryd.underlying29 hi hz1 gR k d.length ((bl ((cry K nonce at_ d).take k)).map (Value.int .u8)) rfl hOw ⟨g2, 0, none⟩ 1 1 [.int .u8 (bv x2)] rfl rfl hnews (by simp [Value.oneCell']) (by omega) (fun q3 hown2 hgr => hK _ _ ?_)
          simp only [Act.put, List.setIfInBounds_toArray, List.set_cons_succ, List.set_cons_zero]
          clear hK
          have hb_ : Below gR q1 q3 := (Below.refl gR q1).grown hgr hsq (fun k h => by cases h; exact Nat.le_refl _)
          have hgw := hw.grown hgr hw.size (fun k h => by cases h; omega)
          replace rT := (hb_.block gT (by omega)).trans rT
          replace rK := (hb_.block gK (by omega)).trans rK
          replace rC := (hb_.block gC (by omega)).trans rC
          replace rS := (hb_.block gS (by omega)).trans rS
          replace hw := hgw
          have hszn := Nat.le_trans hsq hgr.size
          clear hb_ hgr hgw hOw rB hnews
          have hOw : OwnN q3 gR (.slice (some ⟨gR, 0, none⟩) (k + 1) d.length) (k + 1) (cry K nonce at_ d) := by unfold OwnN; rw [← hset.out]; exact hown2
          clear hown2
          refine wpAny_take (i := 11) (v := ?v8) rfl (by kernel_rfl) (by kernel_rfl) (by kernel_rfl) (fun _ _ _ h => h) (Or.inl ⟨by rfl, ?y8⟩) ?r8
          case y8 =>
            intro w_
            go_simp
            try with_reducible rfl
          simp only [Act.put, List.getElem_toArray, List.getElem_cons_succ, List.getElem_cons_zero, List.setIfInBounds_toArray, List.set_cons_succ, List.set_cons_zero]
          refine wpAny_done (by kernel_rfl) ?_ _
          refine NoPanic.normal ?_
          go_wp2
          refine ⟨⟨k + 1, 0 + 1, (q + 1), by omega, by go_num, by go_num, by omega, hide (by have := hq'.out; omega), rT, rK, rC, rS, hOw, hszn, hw, rfl⟩, by simp [intOf]; omega⟩
        · rw [if_pos (by kernel_rfl)]
          simp only [List.getElem_toArray, List.getElem_cons_succ, List.getElem_cons_zero]
          refine wp_pure_op (.int .u8 (bv x1)) (hx_load1 5 _ rfl ⟨gS, 0, none⟩ rfl _ _ (by kernel_rfl) (c1.2)) (hK _ _ ?_)
          simp only [Act.put, List.setIfInBounds_toArray, List.set_cons_succ, List.set_cons_zero]
          clear hK
          refine wpAny_ready (rs := [4]) (fuel := 4) (by kernel_rfl) (by simp) (AllReady.cons rfl (fun K' hK => ?_) AllReady.nil)
          rw [if_pos (by kernel_rfl)]
          simp only [List.getElem_toArray, List.getElem_cons_succ, List.getElem_cons_zero]
          refine wp_pure_op (.int .u8 (bv x0)) (hx_load1 5 _ rfl ⟨bb, off + k, none⟩ rfl _ _ (by kernel_rfl) (c0.2)) (hK _ _ ?_)
          simp only [Act.put, List.setIfInBounds_toArray, List.set_cons_succ, List.set_cons_zero]
          clear hK
          refine wpAny_take (i := 8) (v := ?v9) rfl (by kernel_rfl) (by kernel_rfl) (by kernel_rfl) (fun _ _ _ h => h) (Or.inl ⟨by rfl, ?y9⟩) ?r9
          case y9 =>
            intro w_
            go_simp
            try with_reducible rfl
          simp only [Act.put, List.getElem_toArray, List.getElem_cons_succ, List.getElem_cons_zero, List.setIfInBounds_toArray, List.set_cons_succ, List.set_cons_zero]
          refine wpAny_ready (rs := [9]) (fuel := 2) (by kernel_rfl) (by simp) (AllReady.cons rfl (fun K' hK => ?_) AllReady.nil)
          rw [if_pos (by kernel_rfl)]
          simp only [List.getElem_toArray, List.getElem_cons_succ, List.getElem_cons_zero]
          refine wp_world_op (.slice (some ⟨wd.heap.size, 0, none⟩) 1 1) (wd.alloc (.cells #[.int .u8 (bv x2)] 5)) (by kernel_rfl) (hK _ _ ?_)
          simp only [Act.put, List.setIfInBounds_toArray, List.set_cons_succ, List.set_cons_zero]
          clear hK
          have hb_ : Below wd.heap.size wd (wd.alloc (.cells #[.int .u8 (bv x2)] 5)) := (Below.refl _ _).alloc (Nat.le_refl _) _
          have rB := hp1_0 wd (.cells #[.int .u8 (bv x2)] 5)
          replace rT := keep hb_ rT
          replace rK := keep hb_ rK
          replace rC := keep hb_ rC
          replace rS := keep hb_ rS
          replace hOw := hOw.keep hb_
          replace c0 := c0.keep hb_
          replace c1 := c1.keep hb_
          replace hsq := hsq.keep hb_
          replace hw := Below.after hw hb_
          clear hb_
          generalize wd.alloc (.cells #[.int .u8 (bv x2)] 5) = q4 at *
          generalize wd.heap.size = g5 at *
          refine wpAny_ready (rs := [10]) (fuel := 1) (by kernel_rfl) (by simp) (AllReady.cons rfl (fun K' hK => ?_) AllReady.nil)
          rw [if_pos (by kernel_rfl)]
          simp only [List.getElem_toArray, List.getElem_cons_succ, List.getElem_cons_zero]
          have hnews : ∀ j u, [Value.int .u8 (bv x2)][j]? = some u → q4.cell? ((⟨g5, 0, none⟩ : Addr).add j) = some u := one_cell rB
          refine wp_append_own_spare (w := q4) (.tmp 48) (.tmp 57) 29 rfl gR 5 i0 1 Tryd.underlying29 hi hz1 gR k d.length ((bl ((cry K nonce at_ d).take k)).map (Value.int .u8)) rfl hOw ⟨g5, 0, none⟩ 1 1 [.int .u8 (bv x2)] rfl rfl hnews (by simp [Value.oneCell']) (by omega) (fun q6 hown2 hgr => hK _ _ ?_)
          simp only [Act.put, List.setIfInBounds_toArray, List.set_cons_succ, List.set_cons_zero]
          clear hK
          have hb_ : Below gR q4 q6 := (Below.refl gR q4).grown hgr hsq (fun k h => by cases h; exact Nat.le_refl _)
          have hgw := hw.grown hgr hw.size (fun k h => by cases h; omega)
          replace rT := (hb_.block gT (by omega)).trans rT
          replace rK := (hb_.block gK (by omega)).trans rK
          replace rC := (hb_.block gC (by omega)).trans rC
          replace rS := (hb_.block gS (by omega)).trans rS
          replace hw := hgw
          have hszn := Nat.le_trans hsq hgr.size
          clear hb_ hgr hgw hOw rB hnews
          have hOw : OwnN q6 gR (.slice (some ⟨gR, 0, none⟩) (k + 1) d.length) (k + 1) (cry K nonce at_ d) := by unfold OwnN; rw [← hset.out]; exact hown2
          clear hown2
          refine wpAny_take (i := 11) (v := ?v10) rfl (by kernel_rfl) (by kernel_rfl) (by kernel_rfl) (fun _ _ _ h => h) (Or.inl ⟨by rfl, ?y10⟩) ?r10
          case y10 =>
            intro w_
            go_simp
            try with_reducible rfl
          simp only [Act.put, List.getElem_toArray, List.getElem_cons_succ, List.getElem_cons_zero, List.setIfInBounds_toArray, List.set_cons_succ, List.set_cons_zero]
          refine wpAny_done (by kernel_rfl) ?_ _
          refine NoPanic.normal ?_
          go_wp2
          refine ⟨⟨k + 1, 0 + 1, (q + 1), by omega, by go_num, by go_num, by omega, hide (by have := hq'.out; omega), rT, rK, rC, rS, hOw, hszn, hw, rfl⟩, by simp [intOf]; omega⟩

      · have hd16 : decide ((pl : Int) = 16) = false := by simp; omega
        have hp16 : pl < 16 := by omega
        have hp16i : (pl : Int) < 16 := by omega
        have hd17 : decide ((pl : Int) < 16) = true := by simp; omega
        go_wp2_with (fail)
        obtain ⟨⟨ao', cap', hv', _, hc, _⟩, _, _⟩ := hB
        obtain ⟨bb, off, e5, hbb, hcl⟩ := hc k (by rw [bl_len]; exact hlt)
        obtain rfl : ao' = ao := by injection hv' with h1 _ _; exact h1.symm
        subst e5
        rw [bl_get] at hcl
        have c0 : CellAt wr ⟨bb, off + k, none⟩ (.int .u8 (bv (gb d k))) := ⟨hbb, hcl⟩
        clear hc hv' hcl
        have c1 : CellAt wr ⟨gS, pl, none⟩ (.int .u8 (bv (gb (enc K (ctr nonce q)) (pl)))) := ⟨lt_of_row rS, brow_cell rS (by rw [enc_len]; omega)⟩
        have hset := hide (take_bl (cry K nonce at_ d) k (by rw [cry_len]; exact hlt))
        rw [cry_get _ _ _ _ _ hlt, sby_at K nonce q (pl) (at_ + k) hq.out (by omega)] at hset
        have hx := xor8 (gb d k) (gb (enc K (ctr nonce q)) (pl))
        have hsq : SizeAt wr gR := hsz9
        generalize gb d k = x0 at *
        generalize gb (enc K (ctr nonce q)) (pl) = x1 at *
        generalize x0 ^^^ x1 = x2 at *
        have hbd : Below wr.heap.size wr wr.drew := below_drN (Below.refl _ _) 1
        replace rT := keep hbd rT
        replace rK := keep hbd rK
        replace rC := keep hbd rC
        replace rS := keep hbd rS
        replace hOw := hOw.keep hbd
        replace c0 := c0.keep hbd
        replace c1 := c1.keep hbd
        replace hsq := hsq.keep hbd
        replace hw := Below.after hw hbd
        clear hbd
        refine wp_region_noPanic ?_
        refine wp_region_any (by kernel_rfl) ?_
        change wpAny _ _ _ _ _ _ _ (World.drew _)
        generalize wr.drew = wd at *
        refine wpAny_take (i := 0) (v := ?v11) rfl (by kernel_rfl) (by kernel_rfl) (by kernel_rfl) (fun _ _ _ h => h) (Or.inl ⟨by rfl, ?y11⟩) ?r11
        case y11 =>
          intro w_
          go_simp
          try with_reducible rfl
        simp only [Act.put, List.getElem_toArray, List.getElem_cons_zero, List.setIfInBounds_toArray, List.set_cons_succ, List.set_cons_zero]
        refine wpAny_take (i := 1) (v := ?v12) rfl (by kernel_rfl) (by kernel_rfl) (by kernel_rfl) (fun _ _ _ h => h) (Or.inl ⟨by rfl, ?y12⟩) ?r12
        case y12 =>
          intro w_
          go_simp
          try with_reducible rfl
        simp only [Act.put, List.getElem_toArray, List.getElem_cons_succ, List.getElem_cons_zero, List.setIfInBounds_toArray, List.set_cons_succ, List.set_cons_zero]
        refine wpAny_take (i := 2) (v := ?v13) rfl (by kernel_rfl) (by kernel_rfl) (by kernel_rfl) (fun _ _ _ h => h) (Or.inl ⟨by rfl, ?y13⟩) ?r13
        case y13 =>
          intro w_
          go_simp
          try with_reducible rfl
        simp only [Act.put, List.getElem_toArray, List.getElem_cons_succ, List.getElem_cons_zero, List.setIfInBounds_toArray, List.set_cons_succ, List.set_cons_zero]
        refine wpAny_take (i := 3) (v := ?v14) rfl (by kernel_rfl) (by kernel_rfl) (by kernel_rfl) (fun _ _ _ h => h) (Or.inl ⟨by rfl, ?y14⟩) ?r14
        case y14 =>
          intro w_
          go_simp
          try with_reducible rfl
        simp only [Act.put, List.getElem_toArray, List.getElem_cons_succ, List.getElem_cons_zero, List.setIfInBounds_toArray, List.set_cons_succ, List.set_cons_zero]
        refine wpAny_take (i := 5) (v := ?v15) rfl (by kernel_rfl) (by kernel_rfl) (by kernel_rfl) (fun _ _ _ h => h) (Or.inl ⟨by rfl, ?y15⟩) ?r15
        case y15 =>
          intro w_
          go_simp
          try with_reducible rfl
        simp only [Act.put, List.getElem_toArray, List.getElem_cons_succ, List.getElem_cons_zero, List.setIfInBounds_toArray, List.set_cons_succ, List.set_cons_zero]
        refine wpAny_take (i := 6) (v := ?v16) rfl (by kernel_rfl) (by kernel_rfl) (by kernel_rfl) (fun _ _ _ h => h) (Or.inl ⟨by rfl, ?y16⟩) ?r16
        case y16 =>
          intro w_
          go_simp
          try with_reducible rfl
        simp only [Act.put, List.getElem_toArray, List.getElem_cons_succ, List.getElem_cons_zero, List.setIfInBounds_toArray, List.set_cons_succ, List.set_cons_zero]
        refine wpAny_ready (rs := [4, 7]) (fuel := 5) (by kernel_rfl) (by simp) (AllReady.cons rfl (fun K' hK => ?_) (AllReady.cons rfl (fun K' hK => ?_) AllReady.nil))
        · rw [if_pos (by kernel_rfl)]
          simp only [List.getElem_toArray, List.getElem_cons_succ, List.getElem_cons_zero]
          refine wp_pure_op (.int .u8 (bv x0)) (hx_load1 5 _ rfl ⟨bb, off + k, none⟩ rfl _ _ (by kernel_rfl) (c0.2)) (hK _ _ ?_)
          simp only [Act.put, List.setIfInBounds_toArray, List.set_cons_succ, List.set_cons_zero]
          clear hK
          refine wpAny_ready (rs := [7]) (fuel := 4) (by kernel_rfl) (by simp) (AllReady.cons rfl (fun K' hK => ?_) AllReady.nil)
          rw [if_pos (by kernel_rfl)]
          simp only [List.getElem_toArray, List.getElem_cons_succ, List.getElem_cons_zero]
          refine wp_pure_op (.int .u8 (bv x1)) (hx_load1 5 _ rfl ⟨gS, pl, none⟩ rfl _ _ (by kernel_rfl) (c1.2)) (hK _ _ ?_)
          simp only [Act.put, List.setIfInBounds_toArray, List.set_cons_succ, List.set_cons_zero]
          clear hK
          refine wpAny_take (i := 8) (v := ?v17) rfl (by kernel_rfl) (by kernel_rfl) (by kernel_rfl) (fun _ _ _ h => h) (Or.inl ⟨by rfl, ?y17⟩) ?r17
          case y17 =>
            intro w_
            go_simp
            try with_reducible rfl
          simp only [Act.put, List.getElem_toArray, List.getElem_cons_succ, List.getElem_cons_zero, List.setIfInBounds_toArray, List.set_cons_succ, List.set_cons_zero]
          refine wpAny_ready (rs := [9]) (fuel := 2) (by kernel_rfl) (by simp) (AllReady.cons rfl (fun K' hK => ?_) AllReady.nil)
          rw [if_pos (by kernel_rfl)]
          simp only [List.getElem_toArray, List.getElem_cons_succ, List.getElem_cons_zero]
          refine wp_world_op (.slice (some ⟨wd.heap.size, 0, none⟩) 1 1) (wd.alloc (.cells #[.int .u8 (bv x2)] 5)) (by kernel_rfl) (hK _ _ ?_)
          simp only [Act.put, List.setIfInBounds_toArray, List.set_cons_succ, List.set_cons_zero]
          clear hK
          have hb_ : Below wd.heap.size wd (wd.alloc (.cells #[.int .u8 (bv x2)] 5)) := (Below.refl _ _).alloc (Nat.le_refl _) _
          have rB := hp1_0 wd (.cells #[.int .u8 (bv x2)] 5)
          replace rT := keep hb_ rT
          replace rK := keep hb_ rK
          replace rC := keep hb_ rC
          replace rS := keep hb_ rS
          replace hOw := hOw.keep hb_
          replace c0 := c0.keep hb_
          replace c1 := c1.keep hb_
          replace hsq := hsq.keep hb_
          replace hw := Below.after hw hb_
          clear hb_
          generalize wd.alloc (.cells #[.int .u8 (bv x2)] 5) = q7 at *
          generalize wd.heap.size = g8 at *
          refine wpAny_ready (rs := [10]) (fuel := 1) (by kernel_rfl) (by simp) (AllReady.cons rfl (fun K' hK => ?_) AllReady.nil)
          rw [if_pos (by kernel_rfl)]
          simp only [List.getElem_toArray, List.getElem_cons_succ, List.getElem_cons_zero]
          have hnews : ∀ j u, [Value.int .u8 (bv x2)][j]? = some u → q7.cell? ((⟨g8, 0, none⟩ : Addr).add j) = some u := one_cell rB
          refine wp_append_own_spare (w := q7) (.tmp 48) (.tmp 57) 29 rfl gR 5 i0 1 Tryd.underlying29 hi hz1 gR k d.length ((bl ((cry K nonce at_ d).take k)).map (Value.int .u8)) rfl hOw ⟨g8, 0, none⟩ 1 1 [.int .u8 (bv x2)] rfl rfl hnews (by simp [Value.oneCell']) (by omega) (fun q9 hown2 hgr => hK _ _ ?_)
          simp only [Act.put, List.setIfInBounds_toArray, List.set_cons_succ, List.set_cons_zero]
          clear hK
          have hb_ : Below gR q7 q9 := (Below.refl gR q7).grown hgr hsq (fun k h => by cases h; exact Nat.le_refl _)
          have hgw := hw.grown hgr hw.size (fun k h => by cases h; omega)
          replace rT := (hb_.block gT (by omega)).trans rT
          replace rK := (hb_.block gK (by omega)).trans rK
          replace rC := (hb_.block gC (by omega)).trans rC
          replace rS := (hb_.block gS (by omega)).trans rS
          replace hw := hgw
          have hszn := Nat.le_trans hsq hgr.size
          clear hb_ hgr hgw hOw rB hnews
          have hOw : OwnN q9 gR (.slice (some ⟨gR, 0, none⟩) (k + 1) d.length) (k + 1) (cry K nonce at_ d) := by unfold OwnN; rw [← hset.out]; exact hown2
          clear hown2
          refine wpAny_take (i := 11) (v := ?v18) rfl (by kernel_rfl) (by kernel_rfl) (by kernel_rfl) (fun _ _ _ h => h) (Or.inl ⟨by rfl, ?y18⟩) ?r18
          case y18 =>
            intro w_
            go_simp
            try with_reducible rfl
          simp only [Act.put, List.getElem_toArray, List.getElem_cons_succ, List.getElem_cons_zero, List.setIfInBounds_toArray, List.set_cons_succ, List.set_cons_zero]
          refine wpAny_done (by kernel_rfl) ?_ _
          refine NoPanic.normal ?_
          go_wp2
          refine ⟨⟨k + 1, pl + 1, q, by omega, by go_num, by go_num, by omega, hide (by have := hq.out; omega), rT, rK, rC, rS, hOw, hszn, hw, rfl⟩, by simp [intOf]; omega⟩
        · rw [if_pos (by kernel_rfl)]
          simp only [List.getElem_toArray, List.getElem_cons_succ, List.getElem_cons_zero]
          refine wp_pure_op (.int .u8 (bv x1)) (hx_load1 5 _ rfl ⟨gS, pl, none⟩ rfl _ _ (by kernel_rfl) (c1.2)) (hK _ _ ?_)
          simp only [Act.put, List.setIfInBounds_toArray, List.set_cons_succ, List.set_cons_zero]
          clear hK
          refine wpAny_ready (rs := [4]) (fuel := 4) (by kernel_rfl) (by simp) (AllReady.cons rfl (fun K' hK => ?_) AllReady.nil)
          rw [if_pos (by kernel_rfl)]
          simp only [List.getElem_toArray, List.getElem_cons_succ, List.getElem_cons_zero]
          refine wp_pure_op (.int .u8 (bv x0)) (hx_load1 5 _ rfl ⟨bb, off + k, none⟩ rfl _ _ (by kernel_rfl) (c0.2)) (hK _ _ ?_)
          simp only [Act.put, List.setIfInBounds_toArray, List.set_cons_succ, List.set_cons_zero]
          clear hK
          refine wpAny_take (i := 8) (v := ?v19) rfl (by kernel_rfl) (by kernel_rfl) (by kernel_rfl) (fun _ _ _ h => h) (Or.inl ⟨by rfl, ?y19⟩) ?r19
          case y19 =>
            intro w_
            go_simp
            try with_reducible rfl
          simp only [Act.put, List.getElem_toArray, List.getElem_cons_succ, List.getElem_cons_zero, List.setIfInBounds_toArray, List.set_cons_succ, List.set_cons_zero]
          refine wpAny_ready (rs := [9]) (fuel := 2) (by kernel_rfl) (by simp) (AllReady.cons rfl (fun K' hK => ?_) AllReady.nil)
          rw [if_pos (by kernel_rfl)]
          simp only [List.getElem_toArray, List.getElem_cons_succ, List.getElem_cons_zero]
          refine wp_world_op (.slice (some ⟨wd.heap.size, 0, none⟩) 1 1) (wd.alloc (.cells #[.int .u8 (bv x2)] 5)) (by kernel_rfl) (hK _ _ ?_)
          simp only [Act.put, List.setIfInBounds_toArray, List.set_cons_succ, List.set_cons_zero]
          clear hK
          have hb_ : Below wd.heap.size wd (wd.alloc (.cells #[.int .u8 (bv x2)] 5)) := (Below.refl _ _).alloc (Nat.le_refl _) _
          have rB := hp1_0 wd (.cells #[.int .u8 (bv x2)] 5)
          replace rT := keep hb_ rT
          replace rK := keep hb_ rK
          replace rC := keep hb_ rC
          replace rS := keep hb_ rS
          replace hOw := hOw.keep hb_
          replace c0 := c0.keep hb_
          replace c1 := c1.keep hb_
          replace hsq := hsq.keep hb_
          replace hw := Below.after hw hb_
          clear hb_
          generalize wd.alloc (.cells #[.int .u8 (bv x2)] 5) = q10 at *
          generalize wd.heap.size = g11 at *
          refine wpAny_ready (rs := [10]) (fuel := 1) (by kernel_rfl) (by simp) (AllReady.cons rfl (fun K' hK => ?_) AllReady.nil)
          rw [if_pos (by kernel_rfl)]
          simp only [List.getElem_toArray, List.getElem_cons_succ, List.getElem_cons_zero]
          have hnews : ∀ j u, [Value.int .u8 (bv x2)][j]? = some u → q10.cell? ((⟨g11, 0, none⟩ : Addr).add j) = some u := one_cell rB
          refine wp_append_own_spare (w := q10) (.tmp 48) (.tmp 57) 29 rfl gR 5 i0 1 Tryd.underlying29 hi hz1 gR k d.length ((bl ((cry K nonce at_ d).take k)).map (Value.int .u8)) rfl hOw ⟨g11, 0, none⟩ 1 1 [.int .u8 (bv x2)] rfl rfl hnews (by simp [Value.oneCell']) (by omega) (fun q12 hown2 hgr => hK _ _ ?_)
          simp only [Act.put, List.setIfInBounds_toArray, List.set_cons_succ, List.set_cons_zero]
          clear hK
          have hb_ : Below gR q10 q12 := (Below.refl gR q10).grown hgr hsq (fun k h => by cases h; exact Nat.le_refl _)
          have hgw := hw.grown hgr hw.size (fun k h => by cases h; omega)
          replace rT := (hb_.block gT (by omega)).trans rT
          replace rK := (hb_.block gK (by omega)).trans rK
          replace rC := (hb_.block gC (by omega)).trans rC
          replace rS := (hb_.block gS (by omega)).trans rS
          replace hw := hgw
          have hszn := Nat.le_trans hsq hgr.size
          clear hb_ hgr hgw hOw rB hnews
          have hOw : OwnN q12 gR (.slice (some ⟨gR, 0, none⟩) (k + 1) d.length) (k + 1) (cry K nonce at_ d) := by unfold OwnN; rw [← hset.out]; exact hown2
          clear hown2
          refine wpAny_take (i := 11) (v := ?v20) rfl (by kernel_rfl) (by kernel_rfl) (by kernel_rfl) (fun _ _ _ h => h) (Or.inl ⟨by rfl, ?y20⟩) ?r20
          case y20 =>
            intro w_
            go_simp
            try with_reducible rfl
          simp only [Act.put, List.getElem_toArray, List.getElem_cons_succ, List.getElem_cons_zero, List.setIfInBounds_toArray, List.set_cons_succ, List.set_cons_zero]
          refine wpAny_done (by kernel_rfl) ?_ _
          refine NoPanic.normal ?_
          go_wp2
          refine ⟨⟨k + 1, pl + 1, q, by omega, by go_num, by go_num, by omega, hide (by have := hq.out; omega), rT, rK, rC, rS, hOw, hszn, hw, rfl⟩, by simp [intOf]; omega⟩

    · obtain rfl : k = d.length := by omega
      have hd : decide ((d.length : Int) < (d.length : Int)) = false := by simp
      go_wp2
      go_ret
      refine ⟨_, rfl, ?_, hw⟩
      have hl_ := cry_len K nonce at_ d
      have := hOw
      rw [← hl_] at this
      exact (OwnN.full (by rw [hl_] at this ⊢; exact this)).base (by omega)

end Go.Proofs.YtamieopjigjfiaaDoor

