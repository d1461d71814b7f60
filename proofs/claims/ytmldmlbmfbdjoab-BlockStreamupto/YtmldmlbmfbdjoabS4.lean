import Derived.Test.YtmldmlbmfbdjoabProg
import Derived.WalkKit
import Derived.WalkSpells
import Derived.WalkLawsBesides
import Derived.Lib.QuietBelow
import Derived.BigQuiet
import Derived.Deep.RegionHeld3
import Derived.Deep.DeepAppendRoom
import Derived.Test.YtmldmlbmfbdjoabS0
import Derived.Test.YtmldmlbmfbdjoabS3
import Derived.OrdersHeld
import Derived.Deep.Slices
import Derived.ChangeSlices
import Derived.SizedLaws
namespace Go.Proofs.Ytmldmlbmfbdjoab
open Go Go.RowKit Go.Sort
attribute [local go_sem] setCell_drewN alloc_drewN


/-- The first k bytes of a list, in a list of its own. -/
def OwnN (W : World) (b : Nat) (v : Value) (k : Nat) (d : List B) : Prop := W.ownsRow b 5 1 v k ((bl (d.take k)).map (Value.int .u8))
theorem OwnN.full {W : World} {b : Nat} {v : Value} {d : List B} (h : OwnN W b v d.length d) : Own W b v d := by
  unfold OwnN at h
  rw [List.take_length] at h
  exact h
theorem take_bl (d : List B) (k : Nat) (h : k < d.length) : (bl (d.take k)).map (Value.int .u8) ++ [.int .u8 (bv (gb d k))] = (bl (d.take (k + 1))).map (Value.int .u8) := by
  rw [List.take_add_one, List.getElem?_eq_getElem h]
  simp only [bl, List.map_append, gb, List.getD_eq_getElem?_getD, List.getElem?_eq_getElem h]; rfl
theorem OwnN.keep {W V : World} {b k : Nat} {v : Value} {d : List B} (h : OwnN W b v k d) (hb : Below W.heap.size W V) : OwnN V b v k d := by
  obtain ⟨h1, h2 | ⟨g, cap, cur, rfl, hb2, hg, h3⟩⟩ := h
  · exact ⟨h1, .inl h2⟩
  · exact ⟨h1, .inr ⟨g, cap, cur, rfl, hb2, Go.Proofs.Ytmldmlbmfbdjoab.keep hb hg, h3⟩⟩
theorem OwnN.setRow {W : World} {b k g : Nat} {v : Value} {d : List B} (h : OwnN W b v k d) (hg : g < b) (cs : Array Value) : OwnN (W.setRow g cs) b v k d := by
  obtain ⟨h1, h2 | ⟨g', cap, cur, rfl, hb2, hg', h3⟩⟩ := h
  · exact ⟨h1, .inl h2⟩
  · exact ⟨h1, .inr ⟨g', cap, cur, rfl, hb2, (setRow_other W g g' cs (by omega)).trans hg', h3⟩⟩
/-- One cell. -/
def CellAt (W : World) (a : Addr) (v : Value) : Prop := a.block < W.heap.size ∧ W.cell? a = some v
theorem CellAt.keep {W V : World} {a : Addr} {v : Value} (h : CellAt W a v) (hb : Below W.heap.size W V) : CellAt V a v := ⟨Nat.lt_of_lt_of_le h.1 hb.size, (hb.cell h.1).trans h.2⟩
theorem hx_load1 {a : Act} {o : Oper} (t : TypeId) (x : Operand) (ho : o.op = .load t x) (ad : Addr) (hx : a.eval x = .pointer (some ad)) (W : World) (v : Value) (hg : (isAgg t).run Try.prog W = .ok false W) (hc : W.cell? ad = some v) : (execOp a.eval o).run Try.prog W = .ok (.value v) W := by
  unfold execOp
  simp [ho, hx, Instr.loadAt, Instr.sureAddr, loadVar, hg, hc]
def SizeAt (W : World) (n : Nat) : Prop := n ≤ W.heap.size
theorem SizeAt.keep {W V : World} {n : Nat} (h : SizeAt W n) (hb : Below W.heap.size W V) : SizeAt V n := Nat.le_trans h hb.size
theorem one_cell {W : World} {g : Nat} {z : Int} {t : TypeId} (h : W.heap[g]? = some (.cells #[.int .u8 z] t (0, 0))) : ∀ j u, [Value.int .u8 z][j]? = some u → W.cell? ((⟨g, 0, none⟩ : Addr).add j) = some u := by
  intro j u hu
  have hj : j = 0 := by
    have := (List.getElem?_eq_some_iff.1 hu).1
    simp at this
    exact this
  subst hj
  simp at hu
  subst hu
  rw [addr_add]
  simp only [World.cell?, h]
  rfl
theorem sby_at (K nonce : List B) (q pl i : Nat) (h : 16 * q + pl = i) (hp : pl < 16) : sby K nonce i = gb (enc K (ctr nonce q)) pl := by
  rw [sby, show i / 16 = q by omega, show i % 16 = pl by omega]

set_option maxRecDepth 100000 in
set_option maxHeartbeats 8000000 in
theorem r_crypt (key nonce : List B) (hk : key.length = 32) (hno : nonce.length = 16) (at_ : Nat) (hat : at_ < 18446744073709551616) (d : List B) (w : World) (v : Value) (hB : BysB w v d) : Calls Try.prog 7 #[.agg (irow .u8 (bl (key))), .agg (irow .u8 (bl (nonce))), .int .u64 (at_ : Int), v] w fun e w' => ∃ u, e = .returned u ∧ Own w' w.heap.size u (cry (ks key 60) nonce at_ d) ∧ Below w.heap.size w w' := by
  have R0 := hp2_0 w (.cells (irow .u8 (bl (key))) 23) (.cells (irow .u8 (bl (nonce))) 25)
  have R1 := hp2_1 w (.cells (irow .u8 (bl (key))) 23) (.cells (irow .u8 (bl (nonce))) 25)
  have hw : Below w.heap.size w ((w.alloc (.cells (irow .u8 (bl (key))) 23)).alloc (.cells (irow .u8 (bl (nonce))) 25)) := (((Below.refl _ _).alloc (Nat.le_refl _) _).alloc (by simp) _)

  have hB00 := hB
  replace hB := hB.keep hw
  obtain ⟨i0, hi, hz0, hz1, hz2⟩ := info8
  have hzT : ∀ W : World, (Instr.alloc 42 true (.tuple #[])).run Try.prog W = .ok (.pointer (some ⟨W.heap.size, 0, none⟩)) (W.alloc (.cells (irow .u8 (bl (pt (fun x => sb (BitVec.ofNat 8 x)) 256 0))) 42)) := by rw [← zr_pt]; exact z256
  have hiT := info256 sbl sbl_len
  have hfT := fit256 (pt (fun x => sb (BitVec.ofNat 8 x)) 256 0) sbl (pt_len _ _ _) sbl_len
  have hiK := info_bl infoKy key hk
  have hiN := info_bl infoN nonce hno
  have ct := r_table
  have ck := r_keysBy key hk
  have cc := r_counter nonce hno (at_ / 16) (by omega)
  obtain ⟨K, hK⟩ : ∃ K, K = ks key 60 := ⟨_, rfl⟩
  have hKl : K.length = 240 := by rw [hK, ks_len]
  rw [← hK] at ck ⊢
  clear hK
  have hdv : ((at_ / 16 : Nat) : Int) = (at_ : Int) / 16 := rfl
  rw [hdv] at cc
  clear hdv
  have ce : Hid (∀ l : List B, l.length = 16 → Gives 15 #[.agg (irow .u8 (bl (sbl))), .agg (irow .u8 (bl (K))), .agg (irow .u8 (bl (l)))] (.agg (irow .u8 (bl (enc K l))))) := hide (fun l h => r_encryptBy K l hKl h)
  obtain ⟨sbx, hsx⟩ : ∃ t, t = sbl := ⟨_, rfl⟩
  obtain ⟨zT, hzx⟩ : ∃ t, t = pt (fun x => sb (BitVec.ofNat 8 x)) 256 0 := ⟨_, rfl⟩
  rw [← hsx] at ct ck ce hiT hfT
  rw [← hzx] at hzT hfT
  clear hsx hzx
  have hiQ := info_bl info32 K hKl
  have hfQ : (irow .u8 (zr 240)).size = (irow .u8 (bl (K))).size := by rw [irow_size, irow_size, zr_len, bl_len, hKl]
  go_enter Try.func7, Try.ntmps7
  go_wp2_with (first | (refine wpList_box rfl 23 _ rfl _ rfl (bKey _) ?_) | (refine wpList_box rfl 25 _ rfl _ rfl (bNo _) ?_) | fail)
  try simp only [size_alloc1, Act.put, List.setIfInBounds_toArray, List.set_cons_succ, List.set_cons_zero]
  generalize World.alloc _ _ = w0 at *
  refine (ct.at _).mono ?_
  rintro e_ w1 ⟨rfl, hb⟩
  replace R0 := keep hb R0
  replace R1 := keep hb R1
  replace hB := hB.keep hb
  replace hw := Below.after hw hb
  clear hb

  have rT := hp1_0 w1 (.cells (irow .u8 (bl (zT))) 42)
  have HB : Below w1.heap.size w1 (w1.alloc (.cells (irow .u8 (bl (zT))) 42)) := (Below.refl _ _).alloc (Nat.le_refl _) _
  go_wp2_with (first | (refine wpList_alloc rfl 42 rfl (irow .u8 (bl (zT))) hzT ?_) | (refine wpList_store_row rfl 42 _ _ rfl (w1.heap.size) (irow .u8 (bl (sbx))) rfl rfl 42 _ rT hiT hfT (irow_one _ _) ?_; refine wpList_stay ?_) | fail)
  unfold WpStay
  have hb := below_setRow HB (Nat.le_refl _) (irow .u8 (bl (sbx)))
  replace rT := setRow_heap _ (w1.heap.size) _ (irow .u8 (bl (sbx))) _ _ rT
  clear HB
  have lR0rT := lt_of_row R0
  have lR1rT := lt_of_row R1
  have hsrT := hw.size
  replace R0 := keep hb R0
  replace R1 := keep hb R1
  replace hB := hB.keep hb
  replace hw := Below.after hw hb
  clear hb
  generalize World.setRow _ (w1.heap.size) (irow .u8 (bl (sbx))) = w2 at *
  generalize w1.heap.size = gT at *

  go_wp2_with (first | (refine wpList_load_want rfl 42 _ rfl (gT) rfl 42 (irow .u8 (bl (sbx))) (0, 0) _ rT Try.underlying42 rfl hiT ?_) | (refine wpList_load_want rfl 23 _ rfl (w.heap.size) rfl 23 (irow .u8 (bl (key))) (0, 0) _ R0 Try.underlying23 rfl hiK ?_) | fail)
  refine (ck.at _).mono ?_
  rintro e_ w3 ⟨rfl, hb⟩
  replace R0 := keep hb R0
  replace R1 := keep hb R1
  replace rT := keep hb rT
  replace hB := hB.keep hb
  replace hw := Below.after hw hb
  clear hb

  have rK := hp1_0 w3 (.cells (irow .u8 (zr 240)) 44)
  have HB : Below w3.heap.size w3 (w3.alloc (.cells (irow .u8 (zr 240)) 44)) := (Below.refl _ _).alloc (Nat.le_refl _) _
  go_wp2_with (first | (refine wpList_alloc rfl 44 rfl (irow .u8 (zr 240)) z32 ?_) | (refine wpList_store_row rfl 44 _ _ rfl (w3.heap.size) (irow .u8 (bl (K))) rfl rfl 44 _ rK hiQ hfQ (irow_one _ _) ?_; refine wpList_stay ?_) | fail)
  unfold WpStay
  have hb := below_setRow HB (Nat.le_refl _) (irow .u8 (bl (K)))
  replace rK := setRow_heap _ (w3.heap.size) _ (irow .u8 (bl (K))) _ _ rK
  clear HB
  have lR0rK := lt_of_row R0
  have lR1rK := lt_of_row R1
  have lrTrK := lt_of_row rT
  have hsrK := hw.size
  replace R0 := keep hb R0
  replace R1 := keep hb R1
  replace rT := keep hb rT
  replace hB := hB.keep hb
  replace hw := Below.after hw hb
  clear hb
  generalize World.setRow _ (w3.heap.size) (irow .u8 (bl (K))) = w4 at *
  generalize w3.heap.size = gK at *

  go_wp2_with (first | (refine wpList_load_want rfl 25 _ rfl (w.heap.size + 1) rfl 25 (irow .u8 (bl (nonce))) (0, 0) _ R1 Try.underlying25 rfl hiN ?_) | fail)
  refine (cc.at _).mono ?_
  rintro e_ w5 ⟨rfl, hb⟩
  replace rT := keep hb rT
  replace rK := keep hb rK
  replace hB := hB.keep hb
  replace hw := Below.after hw hb
  clear hb

  have hiC0 := info_bl infoR (ctr nonce (at_ / 16)) (ctr_len _ _)
  have rC := hp1_0 w5 (.cells (irow .u8 (zr 16)) 33)
  have HB : Below w5.heap.size w5 (w5.alloc (.cells (irow .u8 (zr 16)) 33)) := (Below.refl _ _).alloc (Nat.le_refl _) _
  go_wp2_with (first | (refine wpList_alloc rfl 33 rfl (irow .u8 (zr 16)) zR ?_) | (refine wpList_store_row rfl 33 _ _ rfl (w5.heap.size) (irow .u8 (bl (ctr nonce (at_ / 16)))) rfl rfl 33 _ rC hiC0 (by rw [irow_size, irow_size, zr_len, bl_len, ctr_len]) (irow_one _ _) ?_; refine wpList_stay ?_) | fail)
  unfold WpStay
  have hb := below_setRow HB (Nat.le_refl _) (irow .u8 (bl (ctr nonce (at_ / 16))))
  replace rC := setRow_heap _ (w5.heap.size) _ (irow .u8 (bl (ctr nonce (at_ / 16)))) _ _ rC
  clear HB
  have lrTrC := lt_of_row rT
  have lrKrC := lt_of_row rK
  have hsrC := hw.size
  replace rT := keep hb rT
  replace rK := keep hb rK
  replace hB := hB.keep hb
  replace hw := Below.after hw hb
  clear hb
  generalize World.setRow _ (w5.heap.size) (irow .u8 (bl (ctr nonce (at_ / 16)))) = w6 at *
  generalize w5.heap.size = gC at *

  have ce0 := ce.out _ (ctr_len nonce (at_ / 16))
  go_wp2_with (first | (refine wpList_load_want rfl 42 _ rfl (gT) rfl 42 (irow .u8 (bl (sbx))) (0, 0) _ rT Try.underlying42 rfl hiT ?_) | (refine wpList_load_want rfl 44 _ rfl (gK) rfl 44 (irow .u8 (bl (K))) (0, 0) _ rK Try.underlying44 rfl hiQ ?_) | (refine wpList_load_want rfl 33 _ rfl (gC) rfl 33 (irow .u8 (bl (ctr nonce (at_ / 16)))) (0, 0) _ rC Try.underlying33 rfl hiC0 ?_) | fail)
  refine (ce0.at _).mono ?_
  rintro e_ w7 ⟨rfl, hb⟩
  replace rT := keep hb rT
  replace rK := keep hb rK
  replace rC := keep hb rC
  replace hB := hB.keep hb
  replace hw := Below.after hw hb
  clear hb

  have hiE0 := info_bl infoR (enc K (ctr nonce (at_ / 16))) (enc_len _ _)
  have rS := hp1_0 w7 (.cells (irow .u8 (zr 16)) 33)
  have HB : Below w7.heap.size w7 (w7.alloc (.cells (irow .u8 (zr 16)) 33)) := (Below.refl _ _).alloc (Nat.le_refl _) _
  go_wp2_with (first | (refine wpList_alloc rfl 33 rfl (irow .u8 (zr 16)) zR ?_) | (refine wpList_store_row rfl 33 _ _ rfl (w7.heap.size) (irow .u8 (bl (enc K (ctr nonce (at_ / 16))))) rfl rfl 33 _ rS hiE0 (by rw [irow_size, irow_size, zr_len, bl_len, enc_len]) (irow_one _ _) ?_; refine wpList_stay ?_) | fail)
  unfold WpStay
  have hb := below_setRow HB (Nat.le_refl _) (irow .u8 (bl (enc K (ctr nonce (at_ / 16)))))
  replace rS := setRow_heap _ (w7.heap.size) _ (irow .u8 (bl (enc K (ctr nonce (at_ / 16))))) _ _ rS
  clear HB
  have lrTrS := lt_of_row rT
  have lrKrS := lt_of_row rK
  have lrCrS := lt_of_row rC
  have hsrS := hw.size
  replace rT := keep hb rT
  replace rK := keep hb rK
  replace rC := keep hb rC
  replace hB := hB.keep hb
  replace hw := Below.after hw hb
  clear hb
  generalize World.setRow _ (w7.heap.size) (irow .u8 (bl (enc K (ctr nonce (at_ / 16))))) = w8 at *
  generalize w7.heap.size = gS at *

  clear hzT ct ck cc ce0
  have hB0 := hB
  obtain ⟨⟨ao, cap, hv, _, _, _⟩, hlen, hnil⟩ := hB0
  rw [bl_len] at hv
  subst hv
  have hs8 := hw.size
  go_wp2_with (at_make; refine wpList_make_own _ rfl _ _ 27 rfl w8.heap.size 5 i0 (.int .u8 0) 1 Try.underlying27 hi hz0 hz1 _ _ _ d.length rfl rfl (by omega) ?b2 ?b3 (Nat.le_refl _) ?_)
  case b2 => rw [hz2]; omega
  case b3 => unfold maxLen; omega
  intro w9 hown0 hgrow0
  have hb := (Below.refl w8.heap.size w8).grown hgrow0 (Nat.le_refl _) (fun k h => by cases h)
  have lS := lt_of_row rS
  have hsz9 := hb.size
  have hBh : Hid (∀ V, Below w.heap.size w V → BysB V (.slice ao d.length cap) d) := hide (fun V h => hB00.keep h)
  replace rT := keep hb rT
  replace rK := keep hb rK
  replace rC := keep hb rC
  replace rS := keep hb rS
  replace hw := Below.after hw hb
  clear hb hgrow0 hB
  generalize w8.heap.size = gR at *
  have hOw : OwnN w9 gR (.slice (some ⟨gR, 0, none⟩) 0 d.length) 0 (cry K nonce at_ d) := hown0
  clear hown0
  go_wp2_with (fail)
  go_loopw [13, 14, 15] (fun pl_ r i wr => ∃ k pl q : Nat, k ≤ d.length ∧ i = .int .i64 k ∧ pl_ = .int .i64 (pl : Int) ∧ pl ≤ 16 ∧ Hid (16 * q + pl = at_ + k) ∧ wr.heap[gT]? = some (.cells (irow .u8 (bl (sbx))) 42 (0, 0)) ∧ wr.heap[gK]? = some (.cells (irow .u8 (bl (K))) 44 (0, 0)) ∧ wr.heap[gC]? = some (.cells (irow .u8 (bl (ctr nonce q))) 33 (0, 0)) ∧ wr.heap[gS]? = some (.cells (irow .u8 (bl (enc K (ctr nonce q)))) 33 (0, 0)) ∧ OwnN wr gR (.slice (some ⟨gR, 0, none⟩) k d.length) k (cry K nonce at_ d) ∧ gR ≤ wr.heap.size ∧ Below w.heap.size w wr ∧ r = .slice (some ⟨gR, 0, none⟩) k d.length) (fun _ _ i _ => d.length - (intOf i).toNat)
  case atStart => exact ⟨0, at_ % 16, at_ / 16, by omega, rfl, rfl, by omega, hide (by omega), rT, rK, rC, rS, hOw, hsz9, hw, rfl⟩
  case round =>
    clear rT rK rC rS hOw hw hsz9
    obtain ⟨k, pl, q, hk2, rfl, rfl, hpl, hq, rT, rK, rC, rS, hOw, hsz9, hw, rfl⟩ := hrel
    by_cases hlt : k < d.length
    · have hd : decide ((k : Int) < (d.length : Int)) = true := by simp; omega
      have hB := hBh.out wr hw
      by_cases h16 : pl = 16
      · subst h16
        have hd16 : decide (((16 : Nat) : Int) = 16) = true := by decide
        have cc := r_counter (ctr nonce q) (ctr_len _ _) 1 (by omega)
        rw [ctr_ctr] at cc
        have hq' : Hid (16 * (q + 1) + 0 = at_ + k) := hide (by have := hq.out; omega)
        have hiC := info_bl infoR (ctr nonce q) (ctr_len _ _)
        have hiC1 := info_bl infoR (ctr nonce (q + 1)) (ctr_len _ _)
        have hiE1 := info_bl infoR (enc K (ctr nonce (q + 1))) (enc_len _ _)
        have ce1 := ce.out _ (ctr_len nonce (q + 1))
        go_wp2_with (first | (refine wpList_load_want rfl 33 _ rfl (gC) rfl 33 (irow .u8 (bl (ctr nonce q))) (0, 0) _ rC Try.underlying33 rfl hiC ?_) | fail)
        refine (cc.at _).mono ?_
        rintro e_ w10 ⟨rfl, hb⟩
        replace rT := keep hb rT
        replace rK := keep hb rK
        replace rC := keep hb rC
        replace rS := keep hb rS
        replace hOw := hOw.keep hb
        replace hsz9 := Nat.le_trans hsz9 hb.size
        replace hw := Below.after hw hb
        clear hb

        go_wp2_with (first | (refine wpList_store_row rfl 33 _ _ rfl (gC) (irow .u8 (bl (ctr nonce (q + 1)))) rfl rfl 33 _ rC hiC1 (by rw [irow_size, irow_size, bl_len, bl_len, ctr_len, ctr_len]) (irow_one _ _) ?_; refine wpList_stay ?_) | fail)
        unfold WpStay
        replace rT := (setRow_other w10 gC gT (irow .u8 (bl (ctr nonce (q + 1)))) (by omega)).trans rT
        replace rK := (setRow_other w10 gC gK (irow .u8 (bl (ctr nonce (q + 1)))) (by omega)).trans rK
        replace rS := (setRow_other w10 gC gS (irow .u8 (bl (ctr nonce (q + 1)))) (by omega)).trans rS
        replace rC := setRow_heap w10 gC _ (irow .u8 (bl (ctr nonce (q + 1)))) _ _ rC
        replace hOw := hOw.setRow (g := gC) (by omega) (irow .u8 (bl (ctr nonce (q + 1))))
        replace hsz9 : gR ≤ (w10.setRow gC (irow .u8 (bl (ctr nonce (q + 1))))).heap.size := by rw [size_setRow]; exact hsz9
        replace hw := below_setRow hw (show w.heap.size ≤ gC by omega) (irow .u8 (bl (ctr nonce (q + 1))))
        generalize w10.setRow gC (irow .u8 (bl (ctr nonce (q + 1)))) = w11 at *

        go_wp2_with (first | (refine wpList_load_want rfl 42 _ rfl (gT) rfl 42 (irow .u8 (bl (sbx))) (0, 0) _ rT Try.underlying42 rfl hiT ?_) | (refine wpList_load_want rfl 44 _ rfl (gK) rfl 44 (irow .u8 (bl (K))) (0, 0) _ rK Try.underlying44 rfl hiQ ?_) | (refine wpList_load_want rfl 33 _ rfl (gC) rfl 33 (irow .u8 (bl (ctr nonce (q + 1)))) (0, 0) _ rC Try.underlying33 rfl hiC1 ?_) | fail)
        refine (ce1.at _).mono ?_
        rintro e_ w12 ⟨rfl, hb⟩
        replace rT := keep hb rT
        replace rK := keep hb rK
        replace rC := keep hb rC
        replace rS := keep hb rS
        replace hOw := hOw.keep hb
        replace hsz9 := Nat.le_trans hsz9 hb.size
        replace hw := Below.after hw hb
        clear hb

        go_wp2_with (first | (refine wpList_store_row rfl 33 _ _ rfl (gS) (irow .u8 (bl (enc K (ctr nonce (q + 1))))) rfl rfl 33 _ rS hiE1 (by rw [irow_size, irow_size, bl_len, bl_len, enc_len, enc_len]) (irow_one _ _) ?_; refine wpList_stay ?_) | fail)
        unfold WpStay
        replace rT := (setRow_other w12 gS gT (irow .u8 (bl (enc K (ctr nonce (q + 1))))) (by omega)).trans rT
        replace rK := (setRow_other w12 gS gK (irow .u8 (bl (enc K (ctr nonce (q + 1))))) (by omega)).trans rK
        replace rC := (setRow_other w12 gS gC (irow .u8 (bl (enc K (ctr nonce (q + 1))))) (by omega)).trans rC
        replace rS := setRow_heap w12 gS _ (irow .u8 (bl (enc K (ctr nonce (q + 1))))) _ _ rS
        replace hOw := hOw.setRow (g := gS) (by omega) (irow .u8 (bl (enc K (ctr nonce (q + 1)))))
        replace hsz9 : gR ≤ (w12.setRow gS (irow .u8 (bl (enc K (ctr nonce (q + 1)))))).heap.size := by rw [size_setRow]; exact hsz9
        replace hw := below_setRow hw (show w.heap.size ≤ gS by omega) (irow .u8 (bl (enc K (ctr nonce (q + 1)))))
        generalize w12.setRow gS (irow .u8 (bl (enc K (ctr nonce (q + 1))))) = w13 at *

        go_wp2_with (fail)
        clear cc ce1 hq
        replace hB := hBh.out w13 hw
        obtain ⟨⟨ao', cap', hv', _, hc, _⟩, _, _⟩ := hB
        obtain ⟨bb, off, e5, hbb, hcl⟩ := hc k (by rw [bl_len]; exact hlt)
        obtain rfl : ao' = ao := by injection hv' with h1 _ _; exact h1.symm
        subst e5
        rw [bl_get] at hcl
        have c0 : CellAt w13 ⟨bb, off + k, none⟩ (.int .u8 (bv (gb d k))) := ⟨hbb, hcl⟩
        clear hc hv' hcl
        have c1 : CellAt w13 ⟨gS, 0, none⟩ (.int .u8 (bv (gb (enc K (ctr nonce (q + 1))) (0)))) := ⟨lt_of_row rS, brow_cell rS (by rw [enc_len]; omega)⟩
        have hset := hide (take_bl (cry K nonce at_ d) k (by rw [cry_len]; exact hlt))
        rw [cry_get _ _ _ _ _ hlt, sby_at K nonce (q + 1) (0) (at_ + k) hq'.out (by omega)] at hset
        have hx := xor8 (gb d k) (gb (enc K (ctr nonce (q + 1))) (0))
        have hsq : SizeAt w13 gR := hsz9
        generalize gb d k = x0 at *
        generalize gb (enc K (ctr nonce (q + 1))) (0) = x1 at *
        generalize x0 ^^^ x1 = x2 at *
        have hbd : Below w13.heap.size w13 w13.drew := below_drN (Below.refl _ _) 1
        replace rT := keep hbd rT
        replace rK := keep hbd rK
        replace rC := keep hbd rC
        replace rS := keep hbd rS
        replace hOw := hOw.keep hbd
        replace c0 := c0.keep hbd
        replace c1 := c1.keep hbd
        replace hsq := hsq.keep hbd
        replace hw := Below.after hw hbd
        clear hbd
        refine wp_region_noPanic ?_
        refine wp_region_any (by kernel_rfl) ?_
        change wpAny _ _ _ _ _ _ _ (World.drew _)
        generalize w13.drew = wd at *
        refine wpAny_take (i := 0) (v := ?v1) rfl (by kernel_rfl) (by kernel_rfl) (by kernel_rfl) (fun _ _ _ h => h) (Or.inl ⟨by rfl, ?y1⟩) ?r1
        case y1 =>
          intro w_
          go_simp
          try with_reducible rfl
        simp only [Act.put, List.getElem_toArray, List.getElem_cons_zero, List.setIfInBounds_toArray, List.set_cons_succ, List.set_cons_zero]
        refine wpAny_take (i := 1) (v := ?v2) rfl (by kernel_rfl) (by kernel_rfl) (by kernel_rfl) (fun _ _ _ h => h) (Or.inl ⟨by rfl, ?y2⟩) ?r2
        case y2 =>
          intro w_
          go_simp
          try with_reducible rfl
        simp only [Act.put, List.getElem_toArray, List.getElem_cons_succ, List.getElem_cons_zero, List.setIfInBounds_toArray, List.set_cons_succ, List.set_cons_zero]
        refine wpAny_take (i := 2) (v := ?v3) rfl (by kernel_rfl) (by kernel_rfl) (by kernel_rfl) (fun _ _ _ h => h) (Or.inl ⟨by rfl, ?y3⟩) ?r3
        case y3 =>
          intro w_
          go_simp
          try with_reducible rfl
        simp only [Act.put, List.getElem_toArray, List.getElem_cons_succ, List.getElem_cons_zero, List.setIfInBounds_toArray, List.set_cons_succ, List.set_cons_zero]
        refine wpAny_take (i := 3) (v := ?v4) rfl (by kernel_rfl) (by kernel_rfl) (by kernel_rfl) (fun _ _ _ h => h) (Or.inl ⟨by rfl, ?y4⟩) ?r4
        case y4 =>
          intro w_
          go_simp
          try with_reducible rfl
        simp only [Act.put, List.getElem_toArray, List.getElem_cons_succ, List.getElem_cons_zero, List.setIfInBounds_toArray, List.set_cons_succ, List.set_cons_zero]
        refine wpAny_take (i := 5) (v := ?v5) rfl (by kernel_rfl) (by kernel_rfl) (by kernel_rfl) (fun _ _ _ h => h) (Or.inl ⟨by rfl, ?y5⟩) ?r5
        case y5 =>
          intro w_
          go_simp
          try with_reducible rfl
        simp only [Act.put, List.getElem_toArray, List.getElem_cons_succ, List.getElem_cons_zero, List.setIfInBounds_toArray, List.set_cons_succ, List.set_cons_zero]
        refine wpAny_take (i := 6) (v := ?v6) rfl (by kernel_rfl) (by kernel_rfl) (by kernel_rfl) (fun _ _ _ h => h) (Or.inl ⟨by rfl, ?y6⟩) ?r6
        case y6 =>
          intro w_
          go_simp
          try with_reducible rfl
        simp only [Act.put, List.getElem_toArray, List.getElem_cons_succ, List.getElem_cons_zero, List.setIfInBounds_toArray, List.set_cons_succ, List.set_cons_zero]
        refine wpAny_ready (rs := [4, 7]) (fuel := 5) (by kernel_rfl) (by simp) (AllReady.cons rfl (fun K' hK => ?_) (AllReady.cons rfl (fun K' hK => ?_) AllReady.nil))
        · rw [if_pos (by kernel_rfl)]
          simp only [List.getElem_toArray, List.getElem_cons_succ, List.getElem_cons_zero]
          refine wp_pure_op (.int .u8 (bv x0)) (hx_load1 5 _ rfl ⟨bb, off + k, none⟩ rfl _ _ (by kernel_rfl) (c0.2)) (hK _ _ ?_)
          simp only [Act.put, List.setIfInBounds_toArray, List.set_cons_succ, List.set_cons_zero]
          clear hK
          refine wpAny_ready (rs := [7]) (fuel := 4) (by kernel_rfl) (by simp) (AllReady.cons rfl (fun K' hK => ?_) AllReady.nil)
          rw [if_pos (by kernel_rfl)]
          simp only [List.getElem_toArray, List.getElem_cons_succ, List.getElem_cons_zero]
          refine wp_pure_op (.int .u8 (bv x1)) (hx_load1 5 _ rfl ⟨gS, 0, none⟩ rfl _ _ (by kernel_rfl) (c1.2)) (hK _ _ ?_)
          simp only [Act.put, List.setIfInBounds_toArray, List.set_cons_succ, List.set_cons_zero]
          clear hK
          refine wpAny_take (i := 8) (v := ?v7) rfl (by kernel_rfl) (by kernel_rfl) (by kernel_rfl) (fun _ _ _ h => h) (Or.inl ⟨by rfl, ?y7⟩) ?r7
          case y7 =>
            intro w_
            go_simp
            try with_reducible rfl
          simp only [Act.put, List.getElem_toArray, List.getElem_cons_succ, List.getElem_cons_zero, List.setIfInBounds_toArray, List.set_cons_succ, List.set_cons_zero]
          refine wpAny_ready (rs := [9]) (fuel := 2) (by kernel_rfl) (by simp) (AllReady.cons rfl (fun K' hK => ?_) AllReady.nil)
          rw [if_pos (by kernel_rfl)]
          simp only [List.getElem_toArray, List.getElem_cons_succ, List.getElem_cons_zero]
          refine wp_world_op (.slice (some ⟨wd.heap.size, 0, none⟩) 1 1) (wd.alloc (.cells #[.int .u8 (bv x2)] 5)) (by kernel_rfl) (hK _ _ ?_)
          simp only [Act.put, List.setIfInBounds_toArray, List.set_cons_succ, List.set_cons_zero]
          clear hK
          have hb_ : Below wd.heap.size wd (wd.alloc (.cells #[.int .u8 (bv x2)] 5)) := (Below.refl _ _).alloc (Nat.le_refl _) _
          have rB := hp1_0 wd (.cells #[.int .u8 (bv x2)] 5)
          replace rT := keep hb_ rT
          replace rK := keep hb_ rK
          replace rC := keep hb_ rC
          replace rS := keep hb_ rS
          replace hOw := hOw.keep hb_
          replace c0 := c0.keep hb_
          replace c1 := c1.keep hb_
          replace hsq := hsq.keep hb_
          replace hw := Below.after hw hb_
          clear hb_
          generalize wd.alloc (.cells #[.int .u8 (bv x2)] 5) = q1 at *
          generalize wd.heap.size = g2 at *
          refine wpAny_ready (rs := [10]) (fuel := 1) (by kernel_rfl) (by simp) (AllReady.cons rfl (fun K' hK => ?_) AllReady.nil)
          rw [if_pos (by kernel_rfl)]
          simp only [List.getElem_toArray, List.getElem_cons_succ, List.getElem_cons_zero]
          have hnews : ∀ j u, [Value.int .u8 (bv x2)][j]? = some u → q1.cell? ((⟨g2, 0, none⟩ : Addr).add j) = some u := one_cell rB
          refine wp_append_own_spare (w := q1) (.tmp 48) (.tmp 57) 27 rfl gR 5 i0 1 Try.underlying27 hi hz1 gR k d.length ((bl ((cry K nonce at_ d).take k)).map (Value.int .u8)) rfl hOw ⟨g2, 0, none⟩ 1 1 [.int .u8 (bv x2)] rfl rfl hnews (by simp [Value.oneCell']) (by omega) (fun q3 hown2 hgr => hK _ _ ?_)
          simp only [Act.put, List.setIfInBounds_toArray, List.set_cons_succ, List.set_cons_zero]
          clear hK
          have hb_ : Below gR q1 q3 := (Below.refl gR q1).grown hgr hsq (fun k h => by cases h; exact Nat.le_refl _)
          have hgw := hw.grown hgr hw.size (fun k h => by cases h; omega)
          replace rT := (hb_.block gT (by omega)).trans rT
          replace rK := (hb_.block gK (by omega)).trans rK
          replace rC := (hb_.block gC (by omega)).trans rC
          replace rS := (hb_.block gS (by omega)).trans rS
          replace hw := hgw
          have hszn := Nat.le_trans hsq hgr.size
          clear hb_ hgr hgw hOw rB hnews
          have hOw : OwnN q3 gR (.slice (some ⟨gR, 0, none⟩) (k + 1) d.length) (k + 1) (cry K nonce at_ d) := by unfold OwnN; rw [← hset.out]; exact hown2
          clear hown2
          refine wpAny_take (i := 11) (v := ?v8) rfl (by kernel_rfl) (by kernel_rfl) (by kernel_rfl) (fun _ _ _ h => h) (Or.inl ⟨by rfl, ?y8⟩) ?r8
          case y8 =>
            intro w_
            go_simp
            try with_reducible rfl
          simp only [Act.put, List.getElem_toArray, List.getElem_cons_succ, List.getElem_cons_zero, List.setIfInBounds_toArray, List.set_cons_succ, List.set_cons_zero]
          refine wpAny_done (by kernel_rfl) ?_ _
          refine NoPanic.normal ?_
          go_wp2
          refine ⟨⟨k + 1, 0 + 1, (q + 1), by omega, by go_num, by go_num, by omega, hide (by have := hq'.out; omega), rT, rK, rC, rS, hOw, hszn, hw, rfl⟩, by simp [intOf]; omega⟩
        · rw [if_pos (by kernel_rfl)]
          simp only [List.getElem_toArray, List.getElem_cons_succ, List.getElem_cons_zero]
          refine wp_pure_op (.int .u8 (bv x1)) (hx_load1 5 _ rfl ⟨gS, 0, none⟩ rfl _ _ (by kernel_rfl) (c1.2)) (hK _ _ ?_)
          simp only [Act.put, List.setIfInBounds_toArray, List.set_cons_succ, List.set_cons_zero]
          clear hK
          refine wpAny_ready (rs := [4]) (fuel := 4) (by kernel_rfl) (by simp) (AllReady.cons rfl (fun K' hK => ?_) AllReady.nil)
          rw [if_pos (by kernel_rfl)]
          simp only [List.getElem_toArray, List.getElem_cons_succ, List.getElem_cons_zero]
          refine wp_pure_op (.int .u8 (bv x0)) (hx_load1 5 _ rfl ⟨bb, off + k, none⟩ rfl _ _ (by kernel_rfl) (c0.2)) (hK _ _ ?_)
          simp only [Act.put, List.setIfInBounds_toArray, List.set_cons_succ, List.set_cons_zero]
          clear hK
          refine wpAny_take (i := 8) (v := ?v9) rfl (by kernel_rfl) (by kernel_rfl) (by kernel_rfl) (fun _ _ _ h => h) (Or.inl ⟨by rfl, ?y9⟩) ?r9
          case y9 =>
            intro w_
            go_simp
            try with_reducible rfl
          simp only [Act.put, List.getElem_toArray, List.getElem_cons_succ, List.getElem_cons_zero, List.setIfInBounds_toArray, List.set_cons_succ, List.set_cons_zero]
          refine wpAny_ready (rs := [9]) (fuel := 2) (by kernel_rfl) (by simp) (AllReady.cons rfl (fun K' hK => ?_) AllReady.nil)
          rw [if_pos (by kernel_rfl)]
          simp only [List.getElem_toArray, List.getElem_cons_succ, List.getElem_cons_zero]
          refine wp_world_op (.slice (some ⟨wd.heap.size, 0, none⟩) 1 1) (wd.alloc (.cells #[.int .u8 (bv x2)] 5)) (by kernel_rfl) (hK _ _ ?_)
          simp only [Act.put, List.setIfInBounds_toArray, List.set_cons_succ, List.set_cons_zero]
          clear hK
          have hb_ : Below wd.heap.size wd (wd.alloc (.cells #[.int .u8 (bv x2)] 5)) := (Below.refl _ _).alloc (Nat.le_refl _) _
          have rB := hp1_0 wd (.cells #[.int .u8 (bv x2)] 5)
          replace rT := keep hb_ rT
          replace rK := keep hb_ rK
          replace rC := keep hb_ rC
          replace rS := keep hb_ rS
          replace hOw := hOw.keep hb_
          replace c0 := c0.keep hb_
          replace c1 := c1.keep hb_
          replace hsq := hsq.keep hb_
          replace hw := Below.after hw hb_
          clear hb_
          generalize wd.alloc (.cells #[.int .u8 (bv x2)] 5) = q4 at *
          generalize wd.heap.size = g5 at *
          refine wpAny_ready (rs := [10]) (fuel := 1) (by kernel_rfl) (by simp) (AllReady.cons rfl (fun K' hK => ?_) AllReady.nil)
          rw [if_pos (by kernel_rfl)]
          simp only [List.getElem_toArray, List.getElem_cons_succ, List.getElem_cons_zero]
          have hnews : ∀ j u, [Value.int .u8 (bv x2)][j]? = some u → q4.cell? ((⟨g5, 0, none⟩ : Addr).add j) = some u := one_cell rB
          refine wp_append_own_spare (w := q4) (.tmp 48) (.tmp 57) 27 rfl gR 5 i0 1 Try.underlying27 hi hz1 gR k d.length ((bl ((cry K nonce at_ d).take k)).map (Value.int .u8)) rfl hOw ⟨g5, 0, none⟩ 1 1 [.int .u8 (bv x2)] rfl rfl hnews (by simp [Value.oneCell']) (by omega) (fun q6 hown2 hgr => hK _ _ ?_)
          simp only [Act.put, List.setIfInBounds_toArray, List.set_cons_succ, List.set_cons_zero]
          clear hK
          have hb_ : Below gR q4 q6 := (Below.refl gR q4).grown hgr hsq (fun k h => by cases h; exact Nat.le_refl _)
          have hgw := hw.grown hgr hw.size (fun k h => by cases h; omega)
          replace rT := (hb_.block gT (by omega)).trans rT
          replace rK := (hb_.block gK (by omega)).trans rK
          replace rC := (hb_.block gC (by omega)).trans rC
          replace rS := (hb_.block gS (by omega)).trans rS
          replace hw := hgw
          have hszn := Nat.le_trans hsq hgr.size
          clear hb_ hgr hgw hOw rB hnews
          have hOw : OwnN q6 gR (.slice (some ⟨gR, 0, none⟩) (k + 1) d.length) (k + 1) (cry K nonce at_ d) := by unfold OwnN; rw [← hset.out]; exact hown2
          clear hown2
          refine wpAny_take (i := 11) (v := ?v10) rfl (by kernel_rfl) (by kernel_rfl) (by kernel_rfl) (fun _ _ _ h => h) (Or.inl ⟨by rfl, ?y10⟩) ?r10
          case y10 =>
            intro w_
            go_simp
            try with_reducible rfl
          simp only [Act.put, List.getElem_toArray, List.getElem_cons_succ, List.getElem_cons_zero, List.setIfInBounds_toArray, List.set_cons_succ, List.set_cons_zero]
          refine wpAny_done (by kernel_rfl) ?_ _
          refine NoPanic.normal ?_
          go_wp2
          refine ⟨⟨k + 1, 0 + 1, (q + 1), by omega, by go_num, by go_num, by omega, hide (by have := hq'.out; omega), rT, rK, rC, rS, hOw, hszn, hw, rfl⟩, by simp [intOf]; omega⟩

      · have hd16 : decide ((pl : Int) = 16) = false := by simp; omega
        have hp16 : pl < 16 := by omega
        have hp16i : (pl : Int) < 16 := by omega
        have hd17 : decide ((pl : Int) < 16) = true := by simp; omega
        go_wp2_with (fail)
        obtain ⟨⟨ao', cap', hv', _, hc, _⟩, _, _⟩ := hB
        obtain ⟨bb, off, e5, hbb, hcl⟩ := hc k (by rw [bl_len]; exact hlt)
        obtain rfl : ao' = ao := by injection hv' with h1 _ _; exact h1.symm
        subst e5
        rw [bl_get] at hcl
        have c0 : CellAt wr ⟨bb, off + k, none⟩ (.int .u8 (bv (gb d k))) := ⟨hbb, hcl⟩
        clear hc hv' hcl
        have c1 : CellAt wr ⟨gS, pl, none⟩ (.int .u8 (bv (gb (enc K (ctr nonce q)) (pl)))) := ⟨lt_of_row rS, brow_cell rS (by rw [enc_len]; omega)⟩
        have hset := hide (take_bl (cry K nonce at_ d) k (by rw [cry_len]; exact hlt))
        rw [cry_get _ _ _ _ _ hlt, sby_at K nonce q (pl) (at_ + k) hq.out (by omega)] at hset
        have hx := xor8 (gb d k) (gb (enc K (ctr nonce q)) (pl))
        have hsq : SizeAt wr gR := hsz9
        generalize gb d k = x0 at *
        generalize gb (enc K (ctr nonce q)) (pl) = x1 at *
        generalize x0 ^^^ x1 = x2 at *
        have hbd : Below wr.heap.size wr wr.drew := below_drN (Below.refl _ _) 1
        replace rT := keep hbd rT
        replace rK := keep hbd rK
        replace rC := keep hbd rC
        replace rS := keep hbd rS
        replace hOw := hOw.keep hbd
        replace c0 := c0.keep hbd
        replace c1 := c1.keep hbd
        replace hsq := hsq.keep hbd
        replace hw := Below.after hw hbd
        clear hbd
        refine wp_region_noPanic ?_
        refine wp_region_any (by kernel_rfl) ?_
        change wpAny _ _ _ _ _ _ _ (World.drew _)
        generalize wr.drew = wd at *
        refine wpAny_take (i := 0) (v := ?v11) rfl (by kernel_rfl) (by kernel_rfl) (by kernel_rfl) (fun _ _ _ h => h) (Or.inl ⟨by rfl, ?y11⟩) ?r11
        case y11 =>
          intro w_
          go_simp
          try with_reducible rfl
        simp only [Act.put, List.getElem_toArray, List.getElem_cons_zero, List.setIfInBounds_toArray, List.set_cons_succ, List.set_cons_zero]
        refine wpAny_take (i := 1) (v := ?v12) rfl (by kernel_rfl) (by kernel_rfl) (by kernel_rfl) (fun _ _ _ h => h) (Or.inl ⟨by rfl, ?y12⟩) ?r12
        case y12 =>
          intro w_
          go_simp
          try with_reducible rfl
        simp only [Act.put, List.getElem_toArray, List.getElem_cons_succ, List.getElem_cons_zero, List.setIfInBounds_toArray, List.set_cons_succ, List.set_cons_zero]
        refine wpAny_take (i := 2) (v := ?v13) rfl (by kernel_rfl) (by kernel_rfl) (by kernel_rfl) (fun _ _ _ h => h) (Or.inl ⟨by rfl, ?y13⟩) ?r13
        case y13 =>
          intro w_
          go_simp
          try with_reducible rfl
        simp only [Act.put, List.getElem_toArray, List.getElem_cons_succ, List.getElem_cons_zero, List.setIfInBounds_toArray, List.set_cons_succ, List.set_cons_zero]
        refine wpAny_take (i := 3) (v := ?v14) rfl (by kernel_rfl) (by kernel_rfl) (by kernel_rfl) (fun _ _ _ h => h) (Or.inl ⟨by rfl, ?y14⟩) ?r14
        case y14 =>
          intro w_
          go_simp
          try with_reducible rfl
        simp only [Act.put, List.getElem_toArray, List.getElem_cons_succ, List.getElem_cons_zero, List.setIfInBounds_toArray, List.set_cons_succ, List.set_cons_zero]
        refine wpAny_take (i := 5) (v := ?v15) rfl (by kernel_rfl) (by kernel_rfl) (by kernel_rfl) (fun _ _ _ h => h) (Or.inl ⟨by rfl, ?y15⟩) ?r15
        case y15 =>
          intro w_
          go_simp
          try with_reducible rfl
        simp only [Act.put, List.getElem_toArray, List.getElem_cons_succ, List.getElem_cons_zero, List.setIfInBounds_toArray, List.set_cons_succ, List.set_cons_zero]
        refine wpAny_take (i := 6) (v := ?v16) rfl (by kernel_rfl) (by kernel_rfl) (by kernel_rfl) (fun _ _ _ h => h) (Or.inl ⟨by rfl, ?y16⟩) ?r16
        case y16 =>
          intro w_
          go_simp
          try with_reducible rfl
        simp only [Act.put, List.getElem_toArray, List.getElem_cons_succ, List.getElem_cons_zero, List.setIfInBounds_toArray, List.set_cons_succ, List.set_cons_zero]
        refine wpAny_ready (rs := [4, 7]) (fuel := 5) (by kernel_rfl) (by simp) (AllReady.cons rfl (fun K' hK => ?_) (AllReady.cons rfl (fun K' hK => ?_) AllReady.nil))
        · rw [if_pos (by kernel_rfl)]
          simp only [List.getElem_toArray, List.getElem_cons_succ, List.getElem_cons_zero]
          refine wp_pure_op (.int .u8 (bv x0)) (hx_load1 5 _ rfl ⟨bb, off + k, none⟩ rfl _ _ (by kernel_rfl) (c0.2)) (hK _ _ ?_)
          simp only [Act.put, List.setIfInBounds_toArray, List.set_cons_succ, List.set_cons_zero]
          clear hK
          refine wpAny_ready (rs := [7]) (fuel := 4) (by kernel_rfl) (by simp) (AllReady.cons rfl (fun K' hK => ?_) AllReady.nil)
          rw [if_pos (by kernel_rfl)]
          simp only [List.getElem_toArray, List.getElem_cons_succ, List.getElem_cons_zero]
          refine wp_pure_op (.int .u8 (bv x1)) (hx_load1 5 _ rfl ⟨gS, pl, none⟩ rfl _ _ (by kernel_rfl) (c1.2)) (hK _ _ ?_)
          simp only [Act.put, List.setIfInBounds_toArray, List.set_cons_succ, List.set_cons_zero]
          clear hK
          refine wpAny_take (i := 8) (v := ?v17) rfl (by kernel_rfl) (by kernel_rfl) (by kernel_rfl) (fun _ _ _ h => h) (Or.inl ⟨by rfl, ?y17⟩) ?r17
          case y17 =>
            intro w_
            go_simp
            try with_reducible rfl
          simp only [Act.put, List.getElem_toArray, List.getElem_cons_succ, List.getElem_cons_zero, List.setIfInBounds_toArray, List.set_cons_succ, List.set_cons_zero]
          refine wpAny_ready (rs := [9]) (fuel := 2) (by kernel_rfl) (by simp) (AllReady.cons rfl (fun K' hK => ?_) AllReady.nil)
          rw [if_pos (by kernel_rfl)]
          simp only [List.getElem_toArray, List.getElem_cons_succ, List.getElem_cons_zero]
          refine wp_world_op (.slice (some ⟨wd.heap.size, 0, none⟩) 1 1) (wd.alloc (.cells #[.int .u8 (bv x2)] 5)) (by kernel_rfl) (hK _ _ ?_)
          simp only [Act.put, List.setIfInBounds_toArray, List.set_cons_succ, List.set_cons_zero]
          clear hK
          have hb_ : Below wd.heap.size wd (wd.alloc (.cells #[.int .u8 (bv x2)] 5)) := (Below.refl _ _).alloc (Nat.le_refl _) _
          have rB := hp1_0 wd (.cells #[.int .u8 (bv x2)] 5)
          replace rT := keep hb_ rT
          replace rK := keep hb_ rK
          replace rC := keep hb_ rC
          replace rS := keep hb_ rS
          replace hOw := hOw.keep hb_
          replace c0 := c0.keep hb_
          replace c1 := c1.keep hb_
          replace hsq := hsq.keep hb_
          replace hw := Below.after hw hb_
          clear hb_
          generalize wd.alloc (.cells #[.int .u8 (bv x2)] 5) = q7 at *
          generalize wd.heap.size = g8 at *
          refine wpAny_ready (rs := [10]) (fuel := 1) (by kernel_rfl) (by simp) (AllReady.cons rfl (fun K' hK => ?_) AllReady.nil)
          rw [if_pos (by kernel_rfl)]
          simp only [List.getElem_toArray, List.getElem_cons_succ, List.getElem_cons_zero]
          have hnews : ∀ j u, [Value.int .u8 (bv x2)][j]? = some u → q7.cell? ((⟨g8, 0, none⟩ : Addr).add j) = some u := one_cell rB
          refine wp_append_own_spare (w := q7) (.tmp 48) (.tmp 57) 27 rfl gR 5 i0 1 Try.underlying27 hi hz1 gR k d.length ((bl ((cry K nonce at_ d).take k)).map (Value.int .u8)) rfl hOw ⟨g8, 0, none⟩ 1 1 [.int .u8 (bv x2)] rfl rfl hnews (by simp [Value.oneCell']) (by omega) (fun q9 hown2 hgr => hK _ _ ?_)
          simp only [Act.put, List.setIfInBounds_toArray, List.set_cons_succ, List.set_cons_zero]
          clear hK
          have hb_ : Below gR q7 q9 := (Below.refl gR q7).grown hgr hsq (fun k h => by cases h; exact Nat.le_refl _)
          have hgw := hw.grown hgr hw.size (fun k h => by cases h; omega)
          replace rT := (hb_.block gT (by omega)).trans rT
          replace rK := (hb_.block gK (by omega)).trans rK
          replace rC := (hb_.block gC (by omega)).trans rC
          replace rS := (hb_.block gS (by omega)).trans rS
          replace hw := hgw
          have hszn := Nat.le_trans hsq hgr.size
          clear hb_ hgr hgw hOw rB hnews
          have hOw : OwnN q9 gR (.slice (some ⟨gR, 0, none⟩) (k + 1) d.length) (k + 1) (cry K nonce at_ d) := by unfold OwnN; rw [← hset.out]; exact hown2
          clear hown2
          refine wpAny_take (i := 11) (v := ?v18) rfl (by kernel_rfl) (by kernel_rfl) (by kernel_rfl) (fun _ _ _ h => h) (Or.inl ⟨by rfl, ?y18⟩) ?r18
          case y18 =>
            intro w_
            go_simp
            try with_reducible rfl
          simp only [Act.put, List.getElem_toArray, List.getElem_cons_succ, List.getElem_cons_zero, List.setIfInBounds_toArray, List.set_cons_succ, List.set_cons_zero]
          refine wpAny_done (by kernel_rfl) ?_ _
          refine NoPanic.normal ?_
          go_wp2
          refine ⟨⟨k + 1, pl + 1, q, by omega, by go_num, by go_num, by omega, hide (by have := hq.out; omega), rT, rK, rC, rS, hOw, hszn, hw, rfl⟩, by simp [intOf]; omega⟩
        · rw [if_pos (by kernel_rfl)]
          simp only [List.getElem_toArray, List.getElem_cons_succ, List.getElem_cons_zero]
          refine wp_pure_op (.int .u8 (bv x1)) (hx_load1 5 _ rfl ⟨gS, pl, none⟩ rfl _ _ (by kernel_rfl) (c1.2)) (hK _ _ ?_)
          simp only [Act.put, List.setIfInBounds_toArray, List.set_cons_succ, List.set_cons_zero]
          clear hK
          refine wpAny_ready (rs := [4]) (fuel := 4) (by kernel_rfl) (by simp) (AllReady.cons rfl (fun K' hK => ?_) AllReady.nil)
          rw [if_pos (by kernel_rfl)]
          simp only [List.getElem_toArray, List.getElem_cons_succ, List.getElem_cons_zero]
          refine wp_pure_op (.int .u8 (bv x0)) (hx_load1 5 _ rfl ⟨bb, off + k, none⟩ rfl _ _ (by kernel_rfl) (c0.2)) (hK _ _ ?_)
          simp only [Act.put, List.setIfInBounds_toArray, List.set_cons_succ, List.set_cons_zero]
          clear hK
          refine wpAny_take (i := 8) (v := ?v19) rfl (by kernel_rfl) (by kernel_rfl) (by kernel_rfl) (fun _ _ _ h => h) (Or.inl ⟨by rfl, ?y19⟩) ?r19
          case y19 =>
            intro w_
            go_simp
            try with_reducible rfl
          simp only [Act.put, List.getElem_toArray, List.getElem_cons_succ, List.getElem_cons_zero, List.setIfInBounds_toArray, List.set_cons_succ, List.set_cons_zero]
          refine wpAny_ready (rs := [9]) (fuel := 2) (by kernel_rfl) (by simp) (AllReady.cons rfl (fun K' hK => ?_) AllReady.nil)
          rw [if_pos (by kernel_rfl)]
          simp only [List.getElem_toArray, List.getElem_cons_succ, List.getElem_cons_zero]
          refine wp_world_op (.slice (some ⟨wd.heap.size, 0, none⟩) 1 1) (wd.alloc (.cells #[.int .u8 (bv x2)] 5)) (by kernel_rfl) (hK _ _ ?_)
          simp only [Act.put, List.setIfInBounds_toArray, List.set_cons_succ, List.set_cons_zero]
          clear hK
          have hb_ : Below wd.heap.size wd (wd.alloc (.cells #[.int .u8 (bv x2)] 5)) := (Below.refl _ _).alloc (Nat.le_refl _) _
          have rB := hp1_0 wd (.cells #[.int .u8 (bv x2)] 5)
          replace rT := keep hb_ rT
          replace rK := keep hb_ rK
          replace rC := keep hb_ rC
          replace rS := keep hb_ rS
          replace hOw := hOw.keep hb_
          replace c0 := c0.keep hb_
          replace c1 := c1.keep hb_
          replace hsq := hsq.keep hb_
          replace hw := Below.after hw hb_
          clear hb_
          generalize wd.alloc (.cells #[.int .u8 (bv x2)] 5) = q10 at *
          generalize wd.heap.size = g11 at *
          refine wpAny_ready (rs := [10]) (fuel := 1) (by kernel_rfl) (by simp) (AllReady.cons rfl (fun K' hK => ?_) AllReady.nil)
          rw [if_pos (by kernel_rfl)]
          simp only [List.getElem_toArray, List.getElem_cons_succ, List.getElem_cons_zero]
          have hnews : ∀ j u, [Value.int .u8 (bv x2)][j]? = some u → q10.cell? ((⟨g11, 0, none⟩ : Addr).add j) = some u := one_cell rB
          refine wp_append_own_spare (w := q10) (.tmp 48) (.tmp 57) 27 rfl gR 5 i0 1 Try.underlying27 hi hz1 gR k d.length ((bl ((cry K nonce at_ d).take k)).map (Value.int .u8)) rfl hOw ⟨g11, 0, none⟩ 1 1 [.int .u8 (bv x2)] rfl rfl hnews (by simp [Value.oneCell']) (by omega) (fun q12 hown2 hgr => hK _ _ ?_)
          simp only [Act.put, List.setIfInBounds_toArray, List.set_cons_succ, List.set_cons_zero]
          clear hK
          have hb_ : Below gR q10 q12 := (Below.refl gR q10).grown hgr hsq (fun k h => by cases h; exact Nat.le_refl _)
          have hgw := hw.grown hgr hw.size (fun k h => by cases h; omega)
          replace rT := (hb_.block gT (by omega)).trans rT
          replace rK := (hb_.block gK (by omega)).trans rK
          replace rC := (hb_.block gC (by omega)).trans rC
          replace rS := (hb_.block gS (by omega)).trans rS
          replace hw := hgw
          have hszn := Nat.le_trans hsq hgr.size
          clear hb_ hgr hgw hOw rB hnews
          have hOw : OwnN q12 gR (.slice (some ⟨gR, 0, none⟩) (k + 1) d.length) (k + 1) (cry K nonce at_ d) := by unfold OwnN; rw [← hset.out]; exact hown2
          clear hown2
          refine wpAny_take (i := 11) (v := ?v20) rfl (by kernel_rfl) (by kernel_rfl) (by kernel_rfl) (fun _ _ _ h => h) (Or.inl ⟨by rfl, ?y20⟩) ?r20
          case y20 =>
            intro w_
            go_simp
            try with_reducible rfl
          simp only [Act.put, List.getElem_toArray, List.getElem_cons_succ, List.getElem_cons_zero, List.setIfInBounds_toArray, List.set_cons_succ, List.set_cons_zero]
          refine wpAny_done (by kernel_rfl) ?_ _
          refine NoPanic.normal ?_
          go_wp2
          refine ⟨⟨k + 1, pl + 1, q, by omega, by go_num, by go_num, by omega, hide (by have := hq.out; omega), rT, rK, rC, rS, hOw, hszn, hw, rfl⟩, by simp [intOf]; omega⟩

    · obtain rfl : k = d.length := by omega
      have hd : decide ((d.length : Int) < (d.length : Int)) = false := by simp
      go_wp2
      go_ret
      refine ⟨_, rfl, ?_, hw⟩
      have hl_ := cry_len K nonce at_ d
      have := hOw
      rw [← hl_] at this
      exact (OwnN.full (by rw [hl_] at this ⊢; exact this)).base (by omega)

end Go.Proofs.Ytmldmlbmfbdjoab


namespace Go.Proofs.Ytmldmlbmfbdjoab
open Go Go.RowKit Go.Sort
attribute [local go_sem] setCell_drewN alloc_drewN


/-- What is asked. -/
def askr (key nonce : List B) (at_ : Nat) (v : Value) : Array Value := (irow .u8 (bl (key))) ++ ((irow .u8 (bl (nonce))) ++ #[.int .u64 (at_ : Int), v])
theorem ask_key (key nonce : List B) (at_ : Nat) (v : Value) : (askr key nonce at_ v).extract 0 (0 + (irow .u8 (bl (key))).size) = (irow .u8 (bl (key))) := by
  rw [askr, Nat.zero_add]; simp
theorem ask_nonce (key nonce : List B) (at_ : Nat) (v : Value) (hk : key.length = 32) : (askr key nonce at_ v).extract 32 (32 + (irow .u8 (bl (nonce))).size) = (irow .u8 (bl (nonce))) := by
  apply Array.ext'
  have h1 : ((irow .u8 (bl (key))).toList).length = 32 := by rw [Array.length_toList, irow_size, bl_len, hk]
  rw [askr, Array.toList_extract, Array.toList_append, Array.toList_append, List.extract_eq_take_drop, Nat.add_sub_cancel_left, List.drop_append_of_le_length (by omega), List.drop_of_length_le (by omega), List.nil_append, List.take_append_of_le_length (by rw [Array.length_toList]; exact Nat.le_refl _), List.take_of_length_le (by rw [Array.length_toList]; exact Nat.le_refl _)]
theorem ask_at {W : World} {g : Nat} {key nonce : List B} {at_ : Nat} {v : Value} {t : TypeId} (h : W.heap[g]? = some (.cells (askr key nonce at_ v) t (0, 0))) (hk : key.length = 32) (hn : nonce.length = 16) : W.cell? ⟨g, 48, none⟩ = some (.int .u64 (at_ : Int)) := by
  rw [cell_of_row W g 48 _ t (0, 0) h, askr, Array.getElem?_append_right (by rw [irow_size, bl_len, hk]; omega), irow_size, bl_len, hk, Array.getElem?_append_right (by rw [irow_size, bl_len, hn]; omega), irow_size, bl_len, hn]; rfl
theorem ask_data {W : World} {g : Nat} {key nonce : List B} {at_ : Nat} {v : Value} {t : TypeId} (h : W.heap[g]? = some (.cells (askr key nonce at_ v) t (0, 0))) (hk : key.length = 32) (hn : nonce.length = 16) : W.cell? ⟨g, 49, none⟩ = some v := by
  rw [cell_of_row W g 49 _ t (0, 0) h, askr, Array.getElem?_append_right (by rw [irow_size, bl_len, hk]; omega), irow_size, bl_len, hk, Array.getElem?_append_right (by rw [irow_size, bl_len, hn]; omega), irow_size, bl_len, hn]; rfl
theorem bAsk (cs : Array Value) (W : World) : (Instr.box 29 (.agg cs)).run Try.prog W = .ok (.pointer (some ⟨W.heap.size, 0, none⟩)) (W.alloc (.cells cs 29)) := by kernel_rfl
theorem Own.keep {W V : World} {b : Nat} {v : Value} {d : List B} (h : Own W b v d) (hb : Below W.heap.size W V) : Own V b v d := by
  obtain ⟨h1, h2 | ⟨g, cap, cur, rfl, hb2, hg, h3⟩⟩ := h
  · exact ⟨h1, .inl h2⟩
  · exact ⟨h1, .inr ⟨g, cap, cur, rfl, hb2, Go.Proofs.Ytmldmlbmfbdjoab.keep hb hg, h3⟩⟩
theorem Own.bys {W : World} {b : Nat} {v : Value} {d : List B} (h : Own W b v d) : Bys W v (bl d) := by
  rcases Nat.eq_zero_or_pos d.length with h0 | h0
  · obtain rfl : d = [] := List.length_eq_zero_iff.1 h0
    obtain ⟨ao, cap, rfl⟩ := slen_own h
    exact ⟨ao, cap, rfl, by decide, fun j hj => by simp [bl] at hj, bl_bnd _⟩
  · obtain ⟨g, cap, T, rfl, _, hg, hn, hm, _⟩ := own_row h h0
    refine ⟨some ⟨g, 0, none⟩, cap, by rw [bl_len], by rw [bl_len]; unfold maxLen at hm; omega, fun j hj => ?_, bl_bnd _⟩
    rw [bl_len] at hj
    refine ⟨g, 0, rfl, lt_of_row hg, ?_⟩
    rw [Nat.zero_add, bl_get]
    exact trow_cell hg hj
theorem Own.block {W : World} {b : Nat} {v : Value} {d : List B} (h : Own W b v d) (hv : v ≠ .slice none 0 0) : ∃ g cap cur, v = .slice (some ⟨g, 0, none⟩) d.length cap ∧ b ≤ g ∧ W.heap[g]? = some (.cells cur 5 (0, 0)) ∧ d.length ≤ cap ∧ cap ≤ maxLen ∧ cur.size = cap := by
  obtain ⟨h1, ⟨h2, _⟩ | ⟨g, cap, cur, rfl, hb2, hg, hn, hm, hs, _⟩⟩ := h
  · exact absurd h2 hv
  · exact ⟨g, cap, cur, rfl, hb2, hg, hn, hm, by rw [hs, Nat.mul_one]⟩
theorem Own.low {W : World} {b : Nat} {v : Value} {d : List B} (h : Own W b v d) : ∀ g l c, v = .slice (some ⟨g, 0, none⟩) l c → g < W.heap.size := by
  intro g l c hv
  obtain ⟨h1, ⟨rfl, _⟩ | ⟨g', cap, cur, rfl, hb2, hr, h3⟩⟩ := h
  · cases hv
  · cases hv; exact lt_of_row hr
theorem Own.grown {W V : World} {b gx : Nat} {v : Value} {d : List B} (h : Own W b v d) (hg : W.grownBy V (some gx)) (hx : ∀ g l c, v = .slice (some ⟨g, 0, none⟩) l c → g ≠ gx) : Own V b v d := by
  obtain ⟨h1, h2 | ⟨g, cap, cur, rfl, hb2, hr, h3⟩⟩ := h
  · exact ⟨h1, .inl h2⟩
  · exact ⟨h1, .inr ⟨g, cap, cur, rfl, hb2, (hg.block g (lt_of_row hr) (fun e => hx g _ _ rfl (Option.some.inj e))).trans hr, h3⟩⟩

theorem ex1 {f : FuncId} {args : Array Value} {w : World} {v : Value} {Bp : World → Prop} (h : Calls Try.prog f args w fun e w' => e = .returned v ∧ Bp w') : Calls Try.prog f args w fun e w' => ∃ v', e = .returned v' ∧ v' = v ∧ Bp w' := h.mono fun _ _ ⟨a, b⟩ => ⟨v, a, rfl, b⟩
theorem own_low {W : World} {b : Nat} {v : Value} {d : List B} (h : Own W b v d) : ∀ k, v.ownBlock = some k → b ≤ k := by
  obtain ⟨h1, ⟨rfl, _⟩ | ⟨g, cap, cur, rfl, hb, _⟩⟩ := h
  · intro k hk; cases hk
  · intro k hk
    have : g = k := by simpa [Value.ownBlock] using hk
    omega
theorem Own.bysB {W : World} {b : Nat} {v : Value} {d : List B} (h : Own W b v d) (hl : d.length ≤ 140737488351232) : BysB W v d := by
  refine ⟨h.bys, hl, fun a l c hv hn => ?_⟩
  obtain ⟨h1, ⟨rfl, _⟩ | ⟨g, cap, cur, rfl, hb, _⟩⟩ := h
  · cases hv; rfl
  · cases hv; cases hn
theorem own_high {W : World} {b : Nat} {v : Value} {d : List B} (h : Own W b v d) : ∀ k, v.ownBlock = some k → k < W.heap.size := by
  obtain ⟨h1, ⟨rfl, _⟩ | ⟨g, cap, cur, rfl, hb, hg, _⟩⟩ := h
  · intro k hk; cases hk
  · intro k hk
    have : g = k := by simpa [Value.ownBlock] using hk
    have := lt_of_row hg
    omega
theorem Own.grown2 {W V : World} {b : Nat} {v : Value} {d : List B} {ob : Option Nat} (h : Own W b v d) (hg : W.grownBy V ob) (hx : ∀ k, ob = some k → k < b) : Own V b v d := by
  obtain ⟨h1, h2 | ⟨g, cap, cur, rfl, hb2, hr, h3⟩⟩ := h
  · exact ⟨h1, .inl h2⟩
  · exact ⟨h1, .inr ⟨g, cap, cur, rfl, hb2, (hg.block g (lt_of_row hr) (fun e => by have := hx g e.symm; omega)).trans hr, h3⟩⟩
theorem bys_one (W : World) (x : B) : BysB (W.alloc (.cells #[.int .u8 (bv x)] 5)) (.slice (some ⟨W.heap.size, 0, none⟩) 1 1) [x] := by
  have hr : (W.alloc (.cells #[.int .u8 (bv x)] 5)).heap[W.heap.size]? = some (.cells #[.int .u8 (bv x)] 5 (0, 0)) := hp1_0 W _
  refine ⟨⟨some ⟨W.heap.size, 0, none⟩, 1, rfl, by simp [bl], fun j hj => ⟨W.heap.size, 0, rfl, lt_of_row hr, ?_⟩, bl_bnd _⟩, by simp, fun a l c h h2 => by cases h; cases h2⟩
  obtain rfl : j = 0 := by rw [bl_len, List.length_singleton] at hj; omega
  rw [cell_of_row _ W.heap.size _ _ 5 (0, 0) hr]
  rfl
theorem cell_one {W : World} {g : Nat} {y : B} {T : Array Value} (h : W.heap[g]? = some (.cells ((irow .u8 (bl ([y]))) ++ T) 5 (0, 0))) : W.cell? ⟨g, 0, none⟩ = some (.int .u8 (bv y)) := trow_cell (l := [y]) h Nat.zero_lt_one
theorem cry_one (K nonce : List B) (at_ : Nat) : ∃ s : B, Hid (∀ x : B, cry K nonce at_ [x] = [x ^^^ s]) := ⟨sby K nonce at_, hide (fun _ => rfl)⟩
theorem own_nil (W : World) : Own (W.alloc (.cells #[] 5)) W.heap.size (.slice (some ⟨W.heap.size, 0, none⟩) 0 0) [] := ⟨rfl, .inr ⟨W.heap.size, 0, #[], rfl, Nat.le_refl _, hp1_0 _ _, Nat.le_refl _, by decide, rfl, by simp [bl]⟩⟩
section
variable {P : Program} {ops : Array Oper} {Q : Exit → Act → World → Prop} {md : Region.Mode} {S : World → Prop}
/-- The one operation that may come up, where S is kept. -/
theorem wpAnyH_one {k : Nat} {o : Oper} {fuel : Nat} {listed : Array Bool} {a : Act} {w : World} (hr : Region.ready md ops listed = [k]) (hi : ops[k]? = some o) (hw : Region.wanted o (yielded ops a.tmps) = true)
    (h : ∀ K : Act → World → Prop, (∀ a' w', S w' → wpAnyH P md ops Q S fuel (listed.setIfInBounds k true) a' w' → K a' w') → o.wp P a w K Q) : wpAnyH P md ops Q S (fuel + 1) listed a w := by
  refine wpAnyH_all hr (by simp) (fun i hi' => ?_)
  obtain rfl : i = k := by simpa using hi'
  unfold wpOp
  simp only [hi, hw, if_true]
  exact .inl (h _ (fun a' w' hS hn => ⟨hS, hn⟩))
/-- Bytes laid behind a list of one's own. -/
theorem wp_append_bytes {o : Oper} {a : Act} {w : World} {K : Act → World → Prop} {Q : Exit → Act → World → Prop} (s x : Operand) (ho : o.op = .call { callee := .builtin .append, args := #[s, x], argTypes := #[27, 27] }) (base : Nat) (v : Value) (d : List B) (hs : a.eval s = v) (hO : Own w base v d) (y : Value) (e : List B) (hx : a.eval x = y) (hE : BysB w y e) (hlen : d.length + e.length ≤ 140737488351232) (hbase : base ≤ w.heap.size)
    (h : ∀ v' w', Own w' base v' (d ++ e) → w.grownBy w' v.ownBlock → K (a.put o.dst v') w') : o.wp Try.prog a w K Q := by
  obtain ⟨i0, hi, hz0, hz1, hz2⟩ := info8
  obtain ⟨⟨ao, cap, rfl, _, hc, _⟩, _, hnil⟩ := hE
  rw [bl_len] at hx hnil hc
  have hfin : ∀ v' w', w'.ownsRow base 5 1 v' (d.length + e.length) ((bl d).map (Value.int .u8) ++ (bl e).map (Value.int .u8)) → w.grownBy w' v.ownBlock → K (a.put o.dst v') w' := fun v' w' h1 h2 => h v' w' (by
    unfold Own
    rw [List.length_append, bl, List.map_append, List.map_append]
    exact h1) h2
  cases ao with
  | some ad =>
    refine wp_append_own w s x 27 ho base 5 i0 (.int .u8 0) 1 1 Try.underlying27 hi hz0 hz1 hz2 rfl (by decide) v d.length ((bl d).map (Value.int .u8)) hs hO ad e.length cap ((bl e).map (Value.int .u8)) hx (by rw [List.length_map, bl_len, Nat.mul_one]) (fun j u hu => ?_) (ints_one .u8 _) (by unfold maxLen; omega) (by omega) hbase (fun v' w' h2 h3 _ => hfin v' w' h2 h3)
    rw [List.getElem?_map] at hu
    obtain ⟨z, hz, rfl⟩ := Option.map_eq_some_iff.1 hu
    have hj : j < e.length := by have := (List.getElem?_eq_some_iff.1 hz).1; rwa [bl_len] at this
    obtain ⟨b, off, he, _, hcell⟩ := hc j hj
    obtain rfl := Option.some.inj he
    rw [addr_add, hcell, List.getD_eq_getElem?_getD, hz]
    rfl
  | none =>
    have hn0 : e.length = 0 := Nat.eq_zero_of_not_pos (fun h0 => by obtain ⟨b, off, he, _⟩ := hc 0 h0; cases he)
    obtain rfl := hnil _ _ _ rfl rfl
    have he0 : e = [] := List.length_eq_zero_iff.1 hn0
    subst he0
    have hrun := run_append_owned_none (P := Try.prog) w base 27 o.type 5 i0 1 Try.underlying27 hi _ d.length _ hO
    unfold Oper.wp
    simp [execOp, ho, resolve, invoke, builtin, hs, hx, hrun, Result.andThen]
    have h_ := hfin v w (by simpa [bl, Own] using hO) (World.grownBy.refl _ _)
    exact h_
/-- A part of a row, as it is read. -/
theorem run_load_part {o : Oper} {a : Act} {w : World} (ty : TypeId) (x : Operand) (ho : o.op = .load ty x) (g off : Nat) (hx : a.eval x = .pointer (some ⟨g, off, none⟩)) (t : TypeId) (cs : Array Value) (fr : Nat × Nat) (part : Array Value) (d : TypeDesc) (hg : w.heap[g]? = some (.cells cs t fr)) (hp : cs.extract off (off + part.size) = part)
    (hu : P.underlying ty = some d) (hd : d.isRow = true) (hi : (P.info? ty).map (·.size) = some part.size) : (execOp a.eval o).run P w = .ok (.value (.agg part)) w := by
  have hr := World.rangeAt_of_block hg off part.size
  rw [hp] at hr
  have hl := run_loadVar_mid (P := P) w g off ty part.toList d hr hu hd (by simpa using hi)
  unfold execOp
  simp only [ho, hx, Instr.loadAt, Instr.sureAddr, Sem.run_bind, Sem.run_pure, Result.andThen_ok, hl]
end

end Go.Proofs.Ytmldmlbmfbdjoab


namespace Go.Proofs.Ytmldmlbmfbdjoab
open Go Go.RowKit Go.Sort
attribute [local go_sem] setCell_drewN alloc_drewN


set_option maxRecDepth 100000 in
set_option maxHeartbeats 8000000 in
theorem stream_any (key nonce : List B) (hk : key.length = 32) (hno : nonce.length = 16) (at_ : Nat) (hat : at_ < 18446744073709551616) (d e : List B) (hdb : d.length ≤ 1048576) (heb : e.length ≤ 1048576) (x : B) (w : World) (v u : Value) (hB : BysB w v d) (hE : BysB w u e) : Calls Try.prog 3 #[.agg (askr key nonce at_ v), u, .int .u8 (bv x)] w fun r w' => r = .returned (.bool true) ∧ Below w.heap.size w w' := by
  obtain ⟨aod, capd, rfl⟩ : ∃ ao cap, v = .slice ao d.length cap := by
    obtain ⟨⟨ao, cap, h, _⟩, _⟩ := hB
    rw [bl_len] at h
    exact ⟨ao, cap, h⟩
  have R0 := hp1_0 w (.cells (askr key nonce at_ (.slice aod d.length capd)) 29)
  have hw : Below w.heap.size w (w.alloc (.cells (askr key nonce at_ (.slice aod d.length capd)) 29)) := ((Below.refl _ _).alloc (Nat.le_refl _) _)

  have hBh : Hid (∀ V, Below w.heap.size w V → BysB V (.slice aod d.length capd) d) := hide (fun V h => hB.keep h)
  have hEh : Hid (∀ V, Below w.heap.size w V → BysB V u e) := hide (fun V h => hE.keep h)
  clear hB hE
  have hiK := info_bl infoKy key hk
  have hiN := info_bl infoN nonce hno
  have hA2 : Hid (cry (ks key 60) nonce at_ (cry (ks key 60) nonce at_ d) = d) := hide (cry_cry _ _ _ _)
  have hA3 : Hid (cry (ks key 60) nonce at_ (d ++ e) = cry (ks key 60) nonce at_ d ++ cry (ks key 60) nonce (at_ + d.length) e) := hide (cry_app _ _ _ _ _)
  have hAl : Hid ((cry (ks key 60) nonce at_ d).length = d.length) := hide (cry_len _ _ _ _)
  go_enter Try.func3, Try.ntmps3
  go_wp2_with (first | (refine wpList_box rfl 29 _ rfl _ rfl (bAsk _) ?_; refine wpList_stay ?_) | fail)
  unfold WpStay
  try simp only [Act.put, List.setIfInBounds_toArray, List.set_cons_succ, List.set_cons_zero]
  generalize World.alloc _ _ = w0 at *
  have cd_ := ask_data R0 hk hno
  go_wp2_with (fail)
  clear cd_
  have hbd : Below w0.heap.size w0 w0.drew := below_drN (Below.refl _ _) 1
  replace R0 := keep hbd R0
  replace hw := Below.after hw hbd
  clear hbd
  refine wp_region_noPanic ?_
  refine wp_region_held (S := fun W => W.heap[w.heap.size]? = some (.cells (askr key nonce at_ (.slice aod d.length capd)) 29 (0, 0))) (by kernel_rfl) ?_
  change wpAnyH _ _ _ _ _ _ _ _ (World.drew _)
  generalize w0.drew = w1 at *
  refine wpAnyH_take (i := 0) (v := ?v1) rfl (by kernel_rfl) (by kernel_rfl) (by kernel_rfl) (fun _ _ _ h => h) (Or.inl ⟨by rfl, ?y1⟩) R0 ?r1
  case y1 =>
    intro w_ hS_
    go_simp
    try with_reducible rfl
  simp only [Act.put, List.getElem_toArray, List.getElem_cons_zero, List.setIfInBounds_toArray, List.set_cons_succ, List.set_cons_zero]
  refine wpAnyH_take (i := 1) (v := .agg (irow .u8 (bl (key)))) rfl (by kernel_rfl) (by kernel_rfl) (by kernel_rfl) (fun _ _ _ h => h) (Or.inl ⟨by rfl, ?y2⟩) R0 ?r2
  case y2 =>
    intro w_ hS_
    simp only [List.getElem_toArray, List.getElem_cons_succ, List.getElem_cons_zero]
    exact run_load_part 23 _ (by rfl) w.heap.size 0 (by rfl) 29 (askr key nonce at_ (.slice aod d.length capd)) (0, 0) (irow .u8 (bl (key))) _ hS_ (ask_key _ _ _ _) Try.underlying23 rfl hiK
  simp only [Act.put, List.getElem_toArray, List.getElem_cons_succ, List.getElem_cons_zero, List.setIfInBounds_toArray, List.set_cons_succ, List.set_cons_zero]
  refine wpAnyH_take (i := 2) (v := ?v3) rfl (by kernel_rfl) (by kernel_rfl) (by kernel_rfl) (fun _ _ _ h => h) (Or.inl ⟨by rfl, ?y3⟩) R0 ?r3
  case y3 =>
    intro w_ hS_
    go_simp
    try with_reducible rfl
  simp only [Act.put, List.getElem_toArray, List.getElem_cons_succ, List.getElem_cons_zero, List.setIfInBounds_toArray, List.set_cons_succ, List.set_cons_zero]
  refine wpAnyH_take (i := 3) (v := .agg (irow .u8 (bl (nonce)))) rfl (by kernel_rfl) (by kernel_rfl) (by kernel_rfl) (fun _ _ _ h => h) (Or.inl ⟨by rfl, ?y4⟩) R0 ?r4
  case y4 =>
    intro w_ hS_
    simp only [List.getElem_toArray, List.getElem_cons_succ, List.getElem_cons_zero]
    exact run_load_part 25 _ (by rfl) w.heap.size 32 (by rfl) 29 (askr key nonce at_ (.slice aod d.length capd)) (0, 0) (irow .u8 (bl (nonce))) _ hS_ (ask_nonce _ _ _ _ hk) Try.underlying25 rfl hiN
  simp only [Act.put, List.getElem_toArray, List.getElem_cons_succ, List.getElem_cons_zero, List.setIfInBounds_toArray, List.set_cons_succ, List.set_cons_zero]
  refine wpAnyH_take (i := 4) (v := ?v5) rfl (by kernel_rfl) (by kernel_rfl) (by kernel_rfl) (fun _ _ _ h => h) (Or.inl ⟨by rfl, ?y5⟩) R0 ?r5
  case y5 =>
    intro w_ hS_
    go_simp
    try with_reducible rfl
  simp only [Act.put, List.getElem_toArray, List.getElem_cons_succ, List.getElem_cons_zero, List.setIfInBounds_toArray, List.set_cons_succ, List.set_cons_zero]
  refine wpAnyH_take (i := 5) (v := .int .u64 (at_ : Int)) rfl (by kernel_rfl) (by kernel_rfl) (by kernel_rfl) (fun _ _ _ h => h) (Or.inl ⟨by rfl, ?y6⟩) R0 ?r6
  case y6 =>
    intro w_ hS_
    have c_ := ask_at hS_ hk hno
    go_simp
    try with_reducible rfl
  simp only [Act.put, List.getElem_toArray, List.getElem_cons_succ, List.getElem_cons_zero, List.setIfInBounds_toArray, List.set_cons_succ, List.set_cons_zero]
  refine wpAnyH_take (i := 7) (v := ?v7) rfl (by kernel_rfl) (by kernel_rfl) (by kernel_rfl) (fun _ _ _ h => h) (Or.inl ⟨by rfl, ?y7⟩) R0 ?r7
  case y7 =>
    intro w_ hS_
    go_simp
    try with_reducible rfl
  simp only [Act.put, List.getElem_toArray, List.getElem_cons_succ, List.getElem_cons_zero, List.setIfInBounds_toArray, List.set_cons_succ, List.set_cons_zero]
  refine wpAnyH_take (i := 8) (v := .slice aod d.length capd) rfl (by kernel_rfl) (by kernel_rfl) (by kernel_rfl) (fun _ _ _ h => h) (Or.inl ⟨by rfl, ?y8⟩) R0 ?r8
  case y8 =>
    intro w_ hS_
    have c_ := ask_data hS_ hk hno
    go_simp
    try with_reducible rfl
  simp only [Act.put, List.getElem_toArray, List.getElem_cons_succ, List.getElem_cons_zero, List.setIfInBounds_toArray, List.set_cons_succ, List.set_cons_zero]
  refine wpAnyH_one (k := 6) (fuel := 3) (by kernel_rfl) rfl (by kernel_rfl) (fun K_ hK => ?_)
  refine wp_world_op (.slice (some ⟨w1.heap.size, 0, none⟩) 0 0) (w1.alloc (.cells #[] 5)) (by kernel_rfl) ?_
  have hb1 : Below w1.heap.size w1 (w1.alloc (.cells #[] 5)) := (Below.refl _ _).alloc (Nat.le_refl _) _
  have hO_ := own_nil w1
  refine hK _ _ (keep hb1 R0) ?_
  simp only [Act.put, List.getElem_toArray, List.getElem_cons_succ, List.getElem_cons_zero, List.setIfInBounds_toArray, List.set_cons_succ, List.set_cons_zero]
  clear hK
  generalize w1.alloc (.cells #[] 5) = w2 at *
  refine wpAnyH_one (k := 9) (fuel := 2) (by kernel_rfl) rfl (by kernel_rfl) (fun K_ hK => ?_)
  refine wp_append_bytes (.tmp 22) (.tmp 24) rfl w1.heap.size _ [] rfl hO_ _ (d) rfl (hBh.out _ (Below.after hw hb1)) (by simp only [List.length_nil]; omega) hb1.size (fun v_ w3 hO hgr => ?_)
  have hb2 : Below w1.heap.size w1 w3 := hb1.grown hgr hb1.size (own_low hO_)
  rw [List.nil_append] at hO
  replace R0 := keep hb2 R0
  replace hw := Below.after hw hb2
  clear hgr hO_ hb1 hb2
  refine hK _ _ R0 ?_
  simp only [Act.put, List.getElem_toArray, List.getElem_cons_succ, List.getElem_cons_zero, List.setIfInBounds_toArray, List.set_cons_succ, List.set_cons_zero]
  clear hK
  refine wpAnyH_one (k := 10) (fuel := 1) (by kernel_rfl) rfl (by kernel_rfl) (fun K_ hK => ?_)
  have hz3 := lt_of_row R0
  refine wp_call_ex (f := 5) (by kernel_rfl) (a_crypt key nonce hk hno at_ hat d w3 _ (hO.bysB (by omega))) (fun v_ w4 hX_ => ?_)
  obtain ⟨hF, hb_⟩ := hX_
  have hq := hb_
  replace R0 := keep hb_ R0
  replace hw := Below.after hw hb_
  clear hb_
  clear hO
  refine hK _ _ R0 ?_
  simp only [Act.put, List.getElem_toArray, List.getElem_cons_succ, List.getElem_cons_zero, List.setIfInBounds_toArray, List.set_cons_succ, List.set_cons_zero]
  clear hK
  refine wpAnyH_take (i := 11) (v := ?v9) rfl (by kernel_rfl) (by kernel_rfl) (by kernel_rfl) (fun _ _ _ h => h) (Or.inl ⟨by rfl, ?y9⟩) R0 ?r9
  case y9 =>
    intro w_ hS_
    go_simp
    try with_reducible rfl
  simp only [Act.put, List.getElem_toArray, List.getElem_cons_succ, List.getElem_cons_zero, List.setIfInBounds_toArray, List.set_cons_succ, List.set_cons_zero]
  refine wpAnyH_done (by kernel_rfl) ?_ _
  refine NoPanic.normal ?_
  obtain ⟨aof, capf, rfl⟩ := slen_own hF
  rw [hAl.out] at hF ⊢
  generalize cry (ks key 60) nonce at_ d = A at *
  go_wp2_with (fail)
  have hbd : Below w4.heap.size w4 w4.drew := below_drN (Below.refl _ _) 1
  replace R0 := keep hbd R0
  replace hw := Below.after hw hbd
  replace hF := hF.keep hbd
  replace hq := Below.after hq hbd
  clear hbd
  refine wp_region_noPanic ?_
  refine wp_region_held (S := fun W => W.heap[w.heap.size]? = some (.cells (askr key nonce at_ (.slice aod d.length capd)) 29 (0, 0))) (by kernel_rfl) ?_
  change wpAnyH _ _ _ _ _ _ _ _ (World.drew _)
  generalize w4.drew = w5 at *
  refine wpAnyH_take (i := 0) (v := ?v10) rfl (by kernel_rfl) (by kernel_rfl) (by kernel_rfl) (fun _ _ _ h => h) (Or.inl ⟨by rfl, ?y10⟩) R0 ?r10
  case y10 =>
    intro w_ hS_
    go_simp
    try with_reducible rfl
  simp only [Act.put, List.getElem_toArray, List.getElem_cons_zero, List.setIfInBounds_toArray, List.set_cons_succ, List.set_cons_zero]
  refine wpAnyH_take (i := 1) (v := ?v11) rfl (by kernel_rfl) (by kernel_rfl) (by kernel_rfl) (fun _ _ _ h => h) (Or.inl ⟨by rfl, ?y11⟩) R0 ?r11
  case y11 =>
    intro w_ hS_
    go_simp
    try with_reducible rfl
  simp only [Act.put, List.getElem_toArray, List.getElem_cons_succ, List.getElem_cons_zero, List.setIfInBounds_toArray, List.set_cons_succ, List.set_cons_zero]
  refine wpAnyH_take (i := 2) (v := ?v12) rfl (by kernel_rfl) (by kernel_rfl) (by kernel_rfl) (fun _ _ _ h => h) (Or.inl ⟨by rfl, ?y12⟩) R0 ?r12
  case y12 =>
    intro w_ hS_
    go_simp
    try with_reducible rfl
  simp only [Act.put, List.getElem_toArray, List.getElem_cons_succ, List.getElem_cons_zero, List.setIfInBounds_toArray, List.set_cons_succ, List.set_cons_zero]
  refine wpAnyH_take (i := 3) (v := .slice aod d.length capd) rfl (by kernel_rfl) (by kernel_rfl) (by kernel_rfl) (fun _ _ _ h => h) (Or.inl ⟨by rfl, ?y13⟩) R0 ?r13
  case y13 =>
    intro w_ hS_
    have c_ := ask_data hS_ hk hno
    go_simp
    try with_reducible rfl
  simp only [Act.put, List.getElem_toArray, List.getElem_cons_succ, List.getElem_cons_zero, List.setIfInBounds_toArray, List.set_cons_succ, List.set_cons_zero]
  refine wpAnyH_take (i := 4) (v := ?v14) rfl (by kernel_rfl) (by kernel_rfl) (by kernel_rfl) (fun _ _ _ h => h) (Or.inl ⟨by rfl, ?y14⟩) R0 ?r14
  case y14 =>
    intro w_ hS_
    go_simp
    try with_reducible rfl
  simp only [Act.put, List.getElem_toArray, List.getElem_cons_succ, List.getElem_cons_zero, List.setIfInBounds_toArray, List.set_cons_succ, List.set_cons_zero]
  refine wpAnyH_take (i := 5) (v := ?v15) rfl (by kernel_rfl) (by kernel_rfl) (by kernel_rfl) (fun _ _ _ h => h) (Or.inl ⟨by rfl, ?y15⟩) R0 ?r15
  case y15 =>
    intro w_ hS_
    go_simp
    try with_reducible rfl
  simp only [Act.put, List.getElem_toArray, List.getElem_cons_succ, List.getElem_cons_zero, List.setIfInBounds_toArray, List.set_cons_succ, List.set_cons_zero]
  refine wpAnyH_take (i := 6) (v := ?v16) rfl (by kernel_rfl) (by kernel_rfl) (by kernel_rfl) (fun _ _ _ h => h) (Or.inl ⟨by rfl, ?y16⟩) R0 ?r16
  case y16 =>
    intro w_ hS_
    go_simp
    try with_reducible rfl
  simp only [Act.put, List.getElem_toArray, List.getElem_cons_succ, List.getElem_cons_zero, List.setIfInBounds_toArray, List.set_cons_succ, List.set_cons_zero]
  refine wpAnyH_take (i := 7) (v := ?v17) rfl (by kernel_rfl) (by kernel_rfl) (by kernel_rfl) (fun _ _ _ h => h) (Or.inl ⟨by rfl, ?y17⟩) R0 ?r17
  case y17 =>
    intro w_ hS_
    go_simp
    try with_reducible rfl
  simp only [Act.put, List.getElem_toArray, List.getElem_cons_succ, List.getElem_cons_zero, List.setIfInBounds_toArray, List.set_cons_succ, List.set_cons_zero]
  refine wpAnyH_take (i := 8) (v := .agg (irow .u8 (bl (key)))) rfl (by kernel_rfl) (by kernel_rfl) (by kernel_rfl) (fun _ _ _ h => h) (Or.inl ⟨by rfl, ?y18⟩) R0 ?r18
  case y18 =>
    intro w_ hS_
    simp only [List.getElem_toArray, List.getElem_cons_succ, List.getElem_cons_zero]
    exact run_load_part 23 _ (by rfl) w.heap.size 0 (by rfl) 29 (askr key nonce at_ (.slice aod d.length capd)) (0, 0) (irow .u8 (bl (key))) _ hS_ (ask_key _ _ _ _) Try.underlying23 rfl hiK
  simp only [Act.put, List.getElem_toArray, List.getElem_cons_succ, List.getElem_cons_zero, List.setIfInBounds_toArray, List.set_cons_succ, List.set_cons_zero]
  refine wpAnyH_take (i := 9) (v := ?v19) rfl (by kernel_rfl) (by kernel_rfl) (by kernel_rfl) (fun _ _ _ h => h) (Or.inl ⟨by rfl, ?y19⟩) R0 ?r19
  case y19 =>
    intro w_ hS_
    go_simp
    try with_reducible rfl
  simp only [Act.put, List.getElem_toArray, List.getElem_cons_succ, List.getElem_cons_zero, List.setIfInBounds_toArray, List.set_cons_succ, List.set_cons_zero]
  refine wpAnyH_take (i := 10) (v := .agg (irow .u8 (bl (nonce)))) rfl (by kernel_rfl) (by kernel_rfl) (by kernel_rfl) (fun _ _ _ h => h) (Or.inl ⟨by rfl, ?y20⟩) R0 ?r20
  case y20 =>
    intro w_ hS_
    simp only [List.getElem_toArray, List.getElem_cons_succ, List.getElem_cons_zero]
    exact run_load_part 25 _ (by rfl) w.heap.size 32 (by rfl) 29 (askr key nonce at_ (.slice aod d.length capd)) (0, 0) (irow .u8 (bl (nonce))) _ hS_ (ask_nonce _ _ _ _ hk) Try.underlying25 rfl hiN
  simp only [Act.put, List.getElem_toArray, List.getElem_cons_succ, List.getElem_cons_zero, List.setIfInBounds_toArray, List.set_cons_succ, List.set_cons_zero]
  refine wpAnyH_take (i := 11) (v := ?v21) rfl (by kernel_rfl) (by kernel_rfl) (by kernel_rfl) (fun _ _ _ h => h) (Or.inl ⟨by rfl, ?y21⟩) R0 ?r21
  case y21 =>
    intro w_ hS_
    go_simp
    try with_reducible rfl
  simp only [Act.put, List.getElem_toArray, List.getElem_cons_succ, List.getElem_cons_zero, List.setIfInBounds_toArray, List.set_cons_succ, List.set_cons_zero]
  refine wpAnyH_take (i := 12) (v := .int .u64 (at_ : Int)) rfl (by kernel_rfl) (by kernel_rfl) (by kernel_rfl) (fun _ _ _ h => h) (Or.inl ⟨by rfl, ?y22⟩) R0 ?r22
  case y22 =>
    intro w_ hS_
    have c_ := ask_at hS_ hk hno
    go_simp
    try with_reducible rfl
  simp only [Act.put, List.getElem_toArray, List.getElem_cons_succ, List.getElem_cons_zero, List.setIfInBounds_toArray, List.set_cons_succ, List.set_cons_zero]
  refine wpAnyH_take (i := 14) (v := ?v23) rfl (by kernel_rfl) (by kernel_rfl) (by kernel_rfl) (fun _ _ _ h => h) (Or.inl ⟨by rfl, ?y23⟩) R0 ?r23
  case y23 =>
    intro w_ hS_
    go_simp
    try with_reducible rfl
  simp only [Act.put, List.getElem_toArray, List.getElem_cons_succ, List.getElem_cons_zero, List.setIfInBounds_toArray, List.set_cons_succ, List.set_cons_zero]
  refine wpAnyH_take (i := 17) (v := ?v24) rfl (by kernel_rfl) (by kernel_rfl) (by kernel_rfl) (fun _ _ _ h => h) (Or.inl ⟨by rfl, ?y24⟩) R0 ?r24
  case y24 =>
    intro w_ hS_
    go_simp
    try with_reducible rfl
  simp only [Act.put, List.getElem_toArray, List.getElem_cons_succ, List.getElem_cons_zero, List.setIfInBounds_toArray, List.set_cons_succ, List.set_cons_zero]
  refine wpAnyH_take (i := 18) (v := .slice aod d.length capd) rfl (by kernel_rfl) (by kernel_rfl) (by kernel_rfl) (fun _ _ _ h => h) (Or.inl ⟨by rfl, ?y25⟩) R0 ?r25
  case y25 =>
    intro w_ hS_
    have c_ := ask_data hS_ hk hno
    go_simp
    try with_reducible rfl
  simp only [Act.put, List.getElem_toArray, List.getElem_cons_succ, List.getElem_cons_zero, List.setIfInBounds_toArray, List.set_cons_succ, List.set_cons_zero]
  refine wpAnyH_one (k := 13) (fuel := 5) (by kernel_rfl) rfl (by kernel_rfl) (fun K_ hK => ?_)
  refine wp_world_op (.slice (some ⟨w5.heap.size, 0, none⟩) 0 0) (w5.alloc (.cells #[] 5)) (by kernel_rfl) ?_
  have hb1 : Below w5.heap.size w5 (w5.alloc (.cells #[] 5)) := (Below.refl _ _).alloc (Nat.le_refl _) _
  have hO_ := own_nil w5
  refine hK _ _ (keep hb1 R0) ?_
  simp only [Act.put, List.getElem_toArray, List.getElem_cons_succ, List.getElem_cons_zero, List.setIfInBounds_toArray, List.set_cons_succ, List.set_cons_zero]
  clear hK
  generalize w5.alloc (.cells #[] 5) = w6 at *
  refine wpAnyH_one (k := 15) (fuel := 4) (by kernel_rfl) rfl (by kernel_rfl) (fun K_ hK => ?_)
  refine wp_append_bytes (.tmp 40) (.tmp 41) rfl w5.heap.size _ [] rfl hO_ _ (A) rfl ((hF.keep hb1).bysB (by rw [hAl.out]; omega)) (by rw [hAl.out, List.length_nil]; omega) hb1.size (fun v_ w7 hO hgr => ?_)
  have hb2 : Below w5.heap.size w5 w7 := hb1.grown hgr hb1.size (own_low hO_)
  rw [List.nil_append] at hO
  replace R0 := keep hb2 R0
  replace hw := Below.after hw hb2
  replace hF := hF.keep hb2
  replace hq := Below.after hq hb2
  clear hgr hO_ hb1 hb2
  refine hK _ _ R0 ?_
  simp only [Act.put, List.getElem_toArray, List.getElem_cons_succ, List.getElem_cons_zero, List.setIfInBounds_toArray, List.set_cons_succ, List.set_cons_zero]
  clear hK
  refine wpAnyH_one (k := 16) (fuel := 3) (by kernel_rfl) rfl (by kernel_rfl) (fun K_ hK => ?_)
  refine wp_call_ex (f := 5) (by kernel_rfl) (a_crypt key nonce hk hno at_ hat A w7 _ (hO.bysB (by rw [hAl.out]; omega))) (fun v_ w8 hX_ => ?_)
  obtain ⟨hG, hb_⟩ := hX_
  replace R0 := keep hb_ R0
  replace hw := Below.after hw hb_
  replace hF := hF.keep hb_
  replace hq := Below.after hq hb_
  clear hb_
  clear hO
  rw [hA2.out] at hG
  refine hK _ _ R0 ?_
  simp only [Act.put, List.getElem_toArray, List.getElem_cons_succ, List.getElem_cons_zero, List.setIfInBounds_toArray, List.set_cons_succ, List.set_cons_zero]
  clear hK
  refine wpAnyH_one (k := 19) (fuel := 2) (by kernel_rfl) rfl (by kernel_rfl) (fun K_ hK => ?_)
  refine wp_call_ex (f := 6) (by kernel_rfl) (ex1 (same_any (bl d) w8 _ _ hG.bys (hBh.out _ hw).1)) (fun v_ w9 hX_ => ?_)
  obtain ⟨rfl, hb_⟩ := hX_
  replace R0 := keep hb_ R0
  replace hw := Below.after hw hb_
  replace hF := hF.keep hb_
  replace hq := Below.after hq hb_
  clear hb_
  clear hG
  refine hK _ _ R0 ?_
  simp only [Act.put, List.getElem_toArray, List.getElem_cons_succ, List.getElem_cons_zero, List.setIfInBounds_toArray, List.set_cons_succ, List.set_cons_zero]
  clear hK
  refine wpAnyH_take (i := 20) (v := ?v26) rfl (by kernel_rfl) (by kernel_rfl) (by kernel_rfl) (fun _ _ _ h => h) (Or.inl ⟨by rfl, ?y26⟩) R0 ?r26
  case y26 =>
    intro w_ hS_
    go_simp
    try with_reducible rfl
  simp only [Act.put, List.getElem_toArray, List.getElem_cons_succ, List.getElem_cons_zero, List.setIfInBounds_toArray, List.set_cons_succ, List.set_cons_zero]
  refine wpAnyH_take (i := 21) (v := ?v27) rfl (by kernel_rfl) (by kernel_rfl) (by kernel_rfl) (fun _ _ _ h => h) (Or.inl ⟨by rfl, ?y27⟩) R0 ?r27
  case y27 =>
    intro w_ hS_
    go_simp
    try with_reducible rfl
  simp only [Act.put, List.getElem_toArray, List.getElem_cons_succ, List.getElem_cons_zero, List.setIfInBounds_toArray, List.set_cons_succ, List.set_cons_zero]
  refine wpAnyH_done (by kernel_rfl) ?_ _
  refine NoPanic.normal ?_
  clear hA2
  have ca_ := ask_at R0 hk hno
  go_wp2_with (fail)
  · go_ret
    exact ⟨rfl, hw⟩
  have hov : (at_ : Int) ≤ IntKind.u64.wrap ((at_ : Int) + (d.length : Int)) := by assumption
  have hsum : at_ + d.length < 18446744073709551616 := by rw [IntKind.wrap_u64] at hov; omega
  have hwr : Hid (((at_ + d.length : Nat) : Int) = IntKind.u64.wrap ((at_ : Int) + (d.length : Int))) := hide (by rw [IntKind.wrap_u64]; omega)
  clear hov ca_
  have hbd : Below w9.heap.size w9 w9.drew := below_drN (Below.refl _ _) 1
  replace R0 := keep hbd R0
  replace hw := Below.after hw hbd
  replace hF := hF.keep hbd
  replace hq := Below.after hq hbd
  clear hbd
  refine wp_region_noPanic ?_
  refine wp_region_held (S := fun W => W.heap[w.heap.size]? = some (.cells (askr key nonce at_ (.slice aod d.length capd)) 29 (0, 0))) (by kernel_rfl) ?_
  change wpAnyH _ _ _ _ _ _ _ _ (World.drew _)
  generalize w9.drew = wA at *
  refine wpAnyH_take (i := 0) (v := ?v28) rfl (by kernel_rfl) (by kernel_rfl) (by kernel_rfl) (fun _ _ _ h => h) (Or.inl ⟨by rfl, ?y28⟩) R0 ?r28
  case y28 =>
    intro w_ hS_
    go_simp
    try with_reducible rfl
  simp only [Act.put, List.getElem_toArray, List.getElem_cons_zero, List.setIfInBounds_toArray, List.set_cons_succ, List.set_cons_zero]
  refine wpAnyH_take (i := 1) (v := .agg (irow .u8 (bl (key)))) rfl (by kernel_rfl) (by kernel_rfl) (by kernel_rfl) (fun _ _ _ h => h) (Or.inl ⟨by rfl, ?y29⟩) R0 ?r29
  case y29 =>
    intro w_ hS_
    simp only [List.getElem_toArray, List.getElem_cons_succ, List.getElem_cons_zero]
    exact run_load_part 23 _ (by rfl) w.heap.size 0 (by rfl) 29 (askr key nonce at_ (.slice aod d.length capd)) (0, 0) (irow .u8 (bl (key))) _ hS_ (ask_key _ _ _ _) Try.underlying23 rfl hiK
  simp only [Act.put, List.getElem_toArray, List.getElem_cons_succ, List.getElem_cons_zero, List.setIfInBounds_toArray, List.set_cons_succ, List.set_cons_zero]
  refine wpAnyH_take (i := 2) (v := ?v30) rfl (by kernel_rfl) (by kernel_rfl) (by kernel_rfl) (fun _ _ _ h => h) (Or.inl ⟨by rfl, ?y30⟩) R0 ?r30
  case y30 =>
    intro w_ hS_
    go_simp
    try with_reducible rfl
  simp only [Act.put, List.getElem_toArray, List.getElem_cons_succ, List.getElem_cons_zero, List.setIfInBounds_toArray, List.set_cons_succ, List.set_cons_zero]
  refine wpAnyH_take (i := 3) (v := .agg (irow .u8 (bl (nonce)))) rfl (by kernel_rfl) (by kernel_rfl) (by kernel_rfl) (fun _ _ _ h => h) (Or.inl ⟨by rfl, ?y31⟩) R0 ?r31
  case y31 =>
    intro w_ hS_
    simp only [List.getElem_toArray, List.getElem_cons_succ, List.getElem_cons_zero]
    exact run_load_part 25 _ (by rfl) w.heap.size 32 (by rfl) 29 (askr key nonce at_ (.slice aod d.length capd)) (0, 0) (irow .u8 (bl (nonce))) _ hS_ (ask_nonce _ _ _ _ hk) Try.underlying25 rfl hiN
  simp only [Act.put, List.getElem_toArray, List.getElem_cons_succ, List.getElem_cons_zero, List.setIfInBounds_toArray, List.set_cons_succ, List.set_cons_zero]
  refine wpAnyH_take (i := 4) (v := ?v32) rfl (by kernel_rfl) (by kernel_rfl) (by kernel_rfl) (fun _ _ _ h => h) (Or.inl ⟨by rfl, ?y32⟩) R0 ?r32
  case y32 =>
    intro w_ hS_
    go_simp
    try with_reducible rfl
  simp only [Act.put, List.getElem_toArray, List.getElem_cons_succ, List.getElem_cons_zero, List.setIfInBounds_toArray, List.set_cons_succ, List.set_cons_zero]
  refine wpAnyH_take (i := 5) (v := .int .u64 (at_ : Int)) rfl (by kernel_rfl) (by kernel_rfl) (by kernel_rfl) (fun _ _ _ h => h) (Or.inl ⟨by rfl, ?y33⟩) R0 ?r33
  case y33 =>
    intro w_ hS_
    have c_ := ask_at hS_ hk hno
    go_simp
    try with_reducible rfl
  simp only [Act.put, List.getElem_toArray, List.getElem_cons_succ, List.getElem_cons_zero, List.setIfInBounds_toArray, List.set_cons_succ, List.set_cons_zero]
  refine wpAnyH_take (i := 7) (v := ?v34) rfl (by kernel_rfl) (by kernel_rfl) (by kernel_rfl) (fun _ _ _ h => h) (Or.inl ⟨by rfl, ?y34⟩) R0 ?r34
  case y34 =>
    intro w_ hS_
    go_simp
    try with_reducible rfl
  simp only [Act.put, List.getElem_toArray, List.getElem_cons_succ, List.getElem_cons_zero, List.setIfInBounds_toArray, List.set_cons_succ, List.set_cons_zero]
  refine wpAnyH_take (i := 8) (v := .slice aod d.length capd) rfl (by kernel_rfl) (by kernel_rfl) (by kernel_rfl) (fun _ _ _ h => h) (Or.inl ⟨by rfl, ?y35⟩) R0 ?r35
  case y35 =>
    intro w_ hS_
    have c_ := ask_data hS_ hk hno
    go_simp
    try with_reducible rfl
  simp only [Act.put, List.getElem_toArray, List.getElem_cons_succ, List.getElem_cons_zero, List.setIfInBounds_toArray, List.set_cons_succ, List.set_cons_zero]
  refine wpAnyH_take (i := 10) (v := ?v36) rfl (by kernel_rfl) (by kernel_rfl) (by kernel_rfl) (fun _ _ _ h => h) (Or.inl ⟨by rfl, ?y36⟩) R0 ?r36
  case y36 =>
    intro w_ hS_
    go_simp
    try with_reducible rfl
  simp only [Act.put, List.getElem_toArray, List.getElem_cons_succ, List.getElem_cons_zero, List.setIfInBounds_toArray, List.set_cons_succ, List.set_cons_zero]
  refine wpAnyH_one (k := 6) (fuel := 4) (by kernel_rfl) rfl (by kernel_rfl) (fun K_ hK => ?_)
  refine wp_world_op (.slice (some ⟨wA.heap.size, 0, none⟩) 0 0) (wA.alloc (.cells #[] 5)) (by kernel_rfl) ?_
  have hb1 : Below wA.heap.size wA (wA.alloc (.cells #[] 5)) := (Below.refl _ _).alloc (Nat.le_refl _) _
  have hO_ := own_nil wA
  refine hK _ _ (keep hb1 R0) ?_
  simp only [Act.put, List.getElem_toArray, List.getElem_cons_succ, List.getElem_cons_zero, List.setIfInBounds_toArray, List.set_cons_succ, List.set_cons_zero]
  clear hK
  generalize wA.alloc (.cells #[] 5) = wB at *
  refine wpAnyH_one (k := 9) (fuel := 3) (by kernel_rfl) rfl (by kernel_rfl) (fun K_ hK => ?_)
  refine wp_append_bytes (.tmp 62) (.tmp 64) rfl wA.heap.size _ [] rfl hO_ _ d rfl (hBh.out _ (Below.after hw hb1)) (by simp only [List.length_nil]; omega) hb1.size (fun v_ wC hO hgr => ?_)
  have hb2 : Below wA.heap.size wA wC := hb1.grown hgr hb1.size (own_low hO_)
  rw [List.nil_append] at hO
  clear hgr hO_ hb1
  refine hK _ _ (keep hb2 R0) ?_
  simp only [Act.put, List.getElem_toArray, List.getElem_cons_succ, List.getElem_cons_zero, List.setIfInBounds_toArray, List.set_cons_succ, List.set_cons_zero]
  clear hK
  refine wpAnyH_one (k := 11) (fuel := 2) (by kernel_rfl) rfl (by kernel_rfl) (fun K_ hK => ?_)
  refine wp_append_bytes (.tmp 65) (.tmp 66) rfl wA.heap.size _ d rfl hO _ e rfl (hEh.out _ (Below.after hw hb2)) (by omega) hb2.size (fun v_ wD hO2 hgr => ?_)
  have hb3 : Below wA.heap.size wA wD := hb2.grown hgr hb2.size (own_low hO)
  replace R0 := keep hb3 R0
  replace hw := Below.after hw hb3
  replace hF := hF.keep hb3
  replace hq := Below.after hq hb3
  clear hgr hO hb2 hb3
  refine hK _ _ R0 ?_
  simp only [Act.put, List.getElem_toArray, List.getElem_cons_succ, List.getElem_cons_zero, List.setIfInBounds_toArray, List.set_cons_succ, List.set_cons_zero]
  clear hK
  refine wpAnyH_one (k := 12) (fuel := 1) (by kernel_rfl) rfl (by kernel_rfl) (fun K_ hK => ?_)
  have hFh := own_high hF
  refine wp_call_ex (f := 5) (by kernel_rfl) (a_crypt key nonce hk hno at_ hat (d ++ e) wD _ (hO2.bysB (by rw [List.length_append]; omega))) (fun v_ wE hX_ => ?_)
  obtain ⟨hW, hb_⟩ := hX_
  replace R0 := keep hb_ R0
  replace hw := Below.after hw hb_
  replace hF := hF.keep hb_
  replace hq := Below.after hq hb_
  clear hb_
  clear hO2
  rw [hA3.out] at hW
  clear hA3
  refine hK _ _ R0 ?_
  simp only [Act.put, List.getElem_toArray, List.getElem_cons_succ, List.getElem_cons_zero, List.setIfInBounds_toArray, List.set_cons_succ, List.set_cons_zero]
  clear hK
  refine wpAnyH_take (i := 13) (v := ?v37) rfl (by kernel_rfl) (by kernel_rfl) (by kernel_rfl) (fun _ _ _ h => h) (Or.inl ⟨by rfl, ?y37⟩) R0 ?r37
  case y37 =>
    intro w_ hS_
    go_simp
    try with_reducible rfl
  simp only [Act.put, List.getElem_toArray, List.getElem_cons_succ, List.getElem_cons_zero, List.setIfInBounds_toArray, List.set_cons_succ, List.set_cons_zero]
  refine wpAnyH_done (by kernel_rfl) ?_ _
  refine NoPanic.normal ?_
  go_wp2_with (fail)
  have hbd : Below wE.heap.size wE wE.drew := below_drN (Below.refl _ _) 1
  replace R0 := keep hbd R0
  replace hw := Below.after hw hbd
  replace hF := hF.keep hbd
  replace hW := hW.keep hbd
  replace hq := Below.after hq hbd
  clear hbd
  refine wp_region_noPanic ?_
  refine wp_region_held (S := fun W => W.heap[w.heap.size]? = some (.cells (askr key nonce at_ (.slice aod d.length capd)) 29 (0, 0))) (by kernel_rfl) ?_
  change wpAnyH _ _ _ _ _ _ _ _ (World.drew _)
  generalize wE.drew = wF at *
  refine wpAnyH_take (i := 0) (v := ?v38) rfl (by kernel_rfl) (by kernel_rfl) (by kernel_rfl) (fun _ _ _ h => h) (Or.inl ⟨by rfl, ?y38⟩) R0 ?r38
  case y38 =>
    intro w_ hS_
    go_simp
    try with_reducible rfl
  simp only [Act.put, List.getElem_toArray, List.getElem_cons_zero, List.setIfInBounds_toArray, List.set_cons_succ, List.set_cons_zero]
  refine wpAnyH_take (i := 1) (v := ?v39) rfl (by kernel_rfl) (by kernel_rfl) (by kernel_rfl) (fun _ _ _ h => h) (Or.inl ⟨by rfl, ?y39⟩) R0 ?r39
  case y39 =>
    intro w_ hS_
    go_simp
    try with_reducible rfl
  simp only [Act.put, List.getElem_toArray, List.getElem_cons_succ, List.getElem_cons_zero, List.setIfInBounds_toArray, List.set_cons_succ, List.set_cons_zero]
  refine wpAnyH_take (i := 2) (v := ?v40) rfl (by kernel_rfl) (by kernel_rfl) (by kernel_rfl) (fun _ _ _ h => h) (Or.inl ⟨by rfl, ?y40⟩) R0 ?r40
  case y40 =>
    intro w_ hS_
    go_simp
    try with_reducible rfl
  simp only [Act.put, List.getElem_toArray, List.getElem_cons_succ, List.getElem_cons_zero, List.setIfInBounds_toArray, List.set_cons_succ, List.set_cons_zero]
  refine wpAnyH_take (i := 3) (v := .agg (irow .u8 (bl (key)))) rfl (by kernel_rfl) (by kernel_rfl) (by kernel_rfl) (fun _ _ _ h => h) (Or.inl ⟨by rfl, ?y41⟩) R0 ?r41
  case y41 =>
    intro w_ hS_
    simp only [List.getElem_toArray, List.getElem_cons_succ, List.getElem_cons_zero]
    exact run_load_part 23 _ (by rfl) w.heap.size 0 (by rfl) 29 (askr key nonce at_ (.slice aod d.length capd)) (0, 0) (irow .u8 (bl (key))) _ hS_ (ask_key _ _ _ _) Try.underlying23 rfl hiK
  simp only [Act.put, List.getElem_toArray, List.getElem_cons_succ, List.getElem_cons_zero, List.setIfInBounds_toArray, List.set_cons_succ, List.set_cons_zero]
  refine wpAnyH_take (i := 4) (v := ?v42) rfl (by kernel_rfl) (by kernel_rfl) (by kernel_rfl) (fun _ _ _ h => h) (Or.inl ⟨by rfl, ?y42⟩) R0 ?r42
  case y42 =>
    intro w_ hS_
    go_simp
    try with_reducible rfl
  simp only [Act.put, List.getElem_toArray, List.getElem_cons_succ, List.getElem_cons_zero, List.setIfInBounds_toArray, List.set_cons_succ, List.set_cons_zero]
  refine wpAnyH_take (i := 5) (v := .agg (irow .u8 (bl (nonce)))) rfl (by kernel_rfl) (by kernel_rfl) (by kernel_rfl) (fun _ _ _ h => h) (Or.inl ⟨by rfl, ?y43⟩) R0 ?r43
  case y43 =>
    intro w_ hS_
    simp only [List.getElem_toArray, List.getElem_cons_succ, List.getElem_cons_zero]
    exact run_load_part 25 _ (by rfl) w.heap.size 32 (by rfl) 29 (askr key nonce at_ (.slice aod d.length capd)) (0, 0) (irow .u8 (bl (nonce))) _ hS_ (ask_nonce _ _ _ _ hk) Try.underlying25 rfl hiN
  simp only [Act.put, List.getElem_toArray, List.getElem_cons_succ, List.getElem_cons_zero, List.setIfInBounds_toArray, List.set_cons_succ, List.set_cons_zero]
  refine wpAnyH_take (i := 6) (v := ?v44) rfl (by kernel_rfl) (by kernel_rfl) (by kernel_rfl) (fun _ _ _ h => h) (Or.inl ⟨by rfl, ?y44⟩) R0 ?r44
  case y44 =>
    intro w_ hS_
    go_simp
    try with_reducible rfl
  simp only [Act.put, List.getElem_toArray, List.getElem_cons_succ, List.getElem_cons_zero, List.setIfInBounds_toArray, List.set_cons_succ, List.set_cons_zero]
  refine wpAnyH_take (i := 7) (v := .int .u64 (at_ : Int)) rfl (by kernel_rfl) (by kernel_rfl) (by kernel_rfl) (fun _ _ _ h => h) (Or.inl ⟨by rfl, ?y45⟩) R0 ?r45
  case y45 =>
    intro w_ hS_
    have c_ := ask_at hS_ hk hno
    go_simp
    try with_reducible rfl
  simp only [Act.put, List.getElem_toArray, List.getElem_cons_succ, List.getElem_cons_zero, List.setIfInBounds_toArray, List.set_cons_succ, List.set_cons_zero]
  refine wpAnyH_take (i := 8) (v := ?v46) rfl (by kernel_rfl) (by kernel_rfl) (by kernel_rfl) (fun _ _ _ h => h) (Or.inl ⟨by rfl, ?y46⟩) R0 ?r46
  case y46 =>
    intro w_ hS_
    go_simp
    try with_reducible rfl
  simp only [Act.put, List.getElem_toArray, List.getElem_cons_succ, List.getElem_cons_zero, List.setIfInBounds_toArray, List.set_cons_succ, List.set_cons_zero]
  refine wpAnyH_take (i := 9) (v := ?v47) rfl (by kernel_rfl) (by kernel_rfl) (by kernel_rfl) (fun _ _ _ h => h) (Or.inl ⟨by rfl, ?y47⟩) R0 ?r47
  case y47 =>
    intro w_ hS_
    go_simp
    try with_reducible rfl
  simp only [Act.put, List.getElem_toArray, List.getElem_cons_succ, List.getElem_cons_zero, List.setIfInBounds_toArray, List.set_cons_succ, List.set_cons_zero]
  refine wpAnyH_take (i := 11) (v := ?v48) rfl (by kernel_rfl) (by kernel_rfl) (by kernel_rfl) (fun _ _ _ h => h) (Or.inl ⟨by rfl, ?y48⟩) R0 ?r48
  case y48 =>
    intro w_ hS_
    go_simp
    try with_reducible rfl
  simp only [Act.put, List.getElem_toArray, List.getElem_cons_succ, List.getElem_cons_zero, List.setIfInBounds_toArray, List.set_cons_succ, List.set_cons_zero]
  refine wpAnyH_one (k := 10) (fuel := 5) (by kernel_rfl) rfl (by kernel_rfl) (fun K_ hK => ?_)
  refine wp_world_op (.slice (some ⟨wF.heap.size, 0, none⟩) 0 0) (wF.alloc (.cells #[] 5)) (by kernel_rfl) ?_
  have hb1 : Below wF.heap.size wF (wF.alloc (.cells #[] 5)) := (Below.refl _ _).alloc (Nat.le_refl _) _
  have hO_ := own_nil wF
  refine hK _ _ (keep hb1 R0) ?_
  simp only [Act.put, List.getElem_toArray, List.getElem_cons_succ, List.getElem_cons_zero, List.setIfInBounds_toArray, List.set_cons_succ, List.set_cons_zero]
  clear hK
  generalize wF.alloc (.cells #[] 5) = wG at *
  refine wpAnyH_one (k := 12) (fuel := 4) (by kernel_rfl) rfl (by kernel_rfl) (fun K_ hK => ?_)
  refine wp_append_bytes (.tmp 79) (.tmp 80) rfl wF.heap.size _ [] rfl hO_ _ (e) rfl (hEh.out _ (Below.after hw hb1)) (by simp only [List.length_nil]; omega) hb1.size (fun v_ wH hO hgr => ?_)
  have hb2 : Below wF.heap.size wF wH := hb1.grown hgr hb1.size (own_low hO_)
  rw [List.nil_append] at hO
  replace R0 := keep hb2 R0
  replace hw := Below.after hw hb2
  replace hF := hF.keep hb2
  replace hW := hW.keep hb2
  replace hq := Below.after hq hb2
  clear hgr hO_ hb1 hb2
  refine hK _ _ R0 ?_
  simp only [Act.put, List.getElem_toArray, List.getElem_cons_succ, List.getElem_cons_zero, List.setIfInBounds_toArray, List.set_cons_succ, List.set_cons_zero]
  clear hK
  refine wpAnyH_one (k := 13) (fuel := 3) (by kernel_rfl) rfl (by kernel_rfl) (fun K_ hK => ?_)
  have cc := a_crypt key nonce hk hno (at_ + d.length) hsum e wH _ (hO.bysB (by omega))
  rw [hwr.out] at cc
  refine wp_call_ex (f := 5) (by kernel_rfl) (cc) (fun v_ wI hX_ => ?_)
  obtain ⟨hO2, hb_⟩ := hX_
  replace R0 := keep hb_ R0
  replace hw := Below.after hw hb_
  replace hF := hF.keep hb_
  replace hW := hW.keep hb_
  replace hq := Below.after hq hb_
  clear hb_
  clear hO cc
  refine hK _ _ R0 ?_
  simp only [Act.put, List.getElem_toArray, List.getElem_cons_succ, List.getElem_cons_zero, List.setIfInBounds_toArray, List.set_cons_succ, List.set_cons_zero]
  clear hK
  refine wpAnyH_one (k := 14) (fuel := 2) (by kernel_rfl) rfl (by kernel_rfl) (fun K_ hK => ?_)
  have hz4 := lt_of_row R0
  refine wp_append_bytes (.tmp 70) (.tmp 82) rfl w3.heap.size _ A rfl hF _ _ rfl (hO2.bysB (by rw [cry_len]; omega)) (by rw [hAl.out, cry_len]; omega) hq.size (fun v_ wJ hJ hgr => ?_)
  replace hw := hw.grown hgr hw.size (fun k h => by have := own_low hF k h; omega)
  replace R0 := (hgr.block w.heap.size (lt_of_row R0) (fun e_ => by have := own_low hF _ e_.symm; omega)).trans R0
  replace hW := hW.grown2 hgr hFh
  clear hgr hO2 hF hz4 hq
  refine hK _ _ R0 ?_
  simp only [Act.put, List.getElem_toArray, List.getElem_cons_succ, List.getElem_cons_zero, List.setIfInBounds_toArray, List.set_cons_succ, List.set_cons_zero]
  clear hK
  refine wpAnyH_one (k := 15) (fuel := 1) (by kernel_rfl) rfl (by kernel_rfl) (fun K_ hK => ?_)
  refine wp_call_ex (f := 6) (by kernel_rfl) (ex1 (same_any _ wJ _ _ hW.bys hJ.bys)) (fun v_ wK hX_ => ?_)
  obtain ⟨rfl, hb_⟩ := hX_
  replace R0 := keep hb_ R0
  replace hw := Below.after hw hb_
  clear hb_
  clear hW hJ
  refine hK _ _ R0 ?_
  simp only [Act.put, List.getElem_toArray, List.getElem_cons_succ, List.getElem_cons_zero, List.setIfInBounds_toArray, List.set_cons_succ, List.set_cons_zero]
  clear hK
  refine wpAnyH_take (i := 16) (v := ?v49) rfl (by kernel_rfl) (by kernel_rfl) (by kernel_rfl) (fun _ _ _ h => h) (Or.inl ⟨by rfl, ?y49⟩) R0 ?r49
  case y49 =>
    intro w_ hS_
    go_simp
    try with_reducible rfl
  simp only [Act.put, List.getElem_toArray, List.getElem_cons_succ, List.getElem_cons_zero, List.setIfInBounds_toArray, List.set_cons_succ, List.set_cons_zero]
  refine wpAnyH_done (by kernel_rfl) ?_ _
  refine NoPanic.normal ?_
  clear hsum hwr hFh hEh
  obtain ⟨s, hs⟩ := cry_one (ks key 60) nonce at_
  have ca_ := ask_at R0 hk hno
  go_wp2_with (first | (refine wpList_load_part rfl 23 _ rfl w.heap.size 0 rfl 29 (askr key nonce at_ (.slice aod d.length capd)) (0, 0) (irow .u8 (bl (key))) _ R0 (ask_key _ _ _ _) Try.underlying23 rfl hiK ?_) | (refine wpList_load_part rfl 25 _ rfl w.heap.size 32 rfl 29 (askr key nonce at_ (.slice aod d.length capd)) (0, 0) (irow .u8 (bl (nonce))) _ R0 (ask_nonce _ _ _ _ hk) Try.underlying25 rfl hiN ?_) | fail)
  refine (a_crypt key nonce hk hno at_ hat [x] _ _ (bys_one wK x)).mono ?_
  rintro _ wL ⟨u1, rfl, hO1, hb⟩
  replace hb : Below wK.heap.size wK wL := Below.after ((Below.refl _ _).alloc (Nat.le_refl _) _) hb
  replace R0 := keep hb R0
  replace hw := Below.after hw hb
  clear hb ca_
  rw [hs.out] at hO1
  obtain ⟨g1, cap1, T1, rfl, _, hg1, _, _, _⟩ := own_row hO1 Nat.zero_lt_one
  simp only [List.length_singleton]
  have ca_ := ask_at R0 hk hno
  go_wp2_with (first | (refine wpList_load_part rfl 23 _ rfl w.heap.size 0 rfl 29 (askr key nonce at_ (.slice aod d.length capd)) (0, 0) (irow .u8 (bl (key))) _ R0 (ask_key _ _ _ _) Try.underlying23 rfl hiK ?_) | (refine wpList_load_part rfl 25 _ rfl w.heap.size 32 rfl 29 (askr key nonce at_ (.slice aod d.length capd)) (0, 0) (irow .u8 (bl (nonce))) _ R0 (ask_nonce _ _ _ _ hk) Try.underlying25 rfl hiN ?_) | fail)
  refine (a_crypt key nonce hk hno at_ hat [0#8] _ _ (bys_one wL 0#8)).mono ?_
  rintro _ wM ⟨u2, rfl, hO2, hb⟩
  replace hb : Below wL.heap.size wL wM := Below.after ((Below.refl _ _).alloc (Nat.le_refl _) _) hb
  replace R0 := keep hb R0
  replace hw := Below.after hw hb
  replace hg1 := keep hb hg1
  clear hb ca_
  rw [hs.out, BitVec.zero_xor] at hO2
  obtain ⟨g2, cap2, T2, rfl, _, hg2, _, _, _⟩ := own_row hO2 Nat.zero_lt_one
  simp only [List.length_singleton]
  clear hO1 hO2
  go_wp2_with (fail)
  have hbd : Below wM.heap.size wM wM.drew := below_drN (Below.refl _ _) 1
  replace R0 := keep hbd R0
  replace hw := Below.after hw hbd
  replace hg1 := keep hbd hg1
  replace hg2 := keep hbd hg2
  clear hbd
  have hS12 := And.intro R0 (And.intro (cell_one hg1) (cell_one hg2))
  refine wp_region_noPanic ?_
  refine wp_region_held (S := fun W => W.heap[w.heap.size]? = some (.cells (askr key nonce at_ (.slice aod d.length capd)) 29 (0, 0)) ∧ W.cell? ⟨g1, 0, none⟩ = some (.int .u8 (bv (x ^^^ s))) ∧ W.cell? ⟨g2, 0, none⟩ = some (.int .u8 (bv s))) (by kernel_rfl) ?_
  change wpAnyH _ _ _ _ _ _ _ _ (World.drew _)
  generalize wM.drew = wN at *
  refine wpAnyH_take (i := 0) (v := ?v50) rfl (by kernel_rfl) (by kernel_rfl) (by kernel_rfl) (fun _ _ _ h => h) (Or.inl ⟨by rfl, ?y50⟩) hS12 ?r50
  case y50 =>
    intro w_ hS_
    go_simp
    try with_reducible rfl
  simp only [Act.put, List.getElem_toArray, List.getElem_cons_zero, List.setIfInBounds_toArray, List.set_cons_succ, List.set_cons_zero]
  refine wpAnyH_take (i := 1) (v := ?v51) rfl (by kernel_rfl) (by kernel_rfl) (by kernel_rfl) (fun _ _ _ h => h) (Or.inl ⟨by rfl, ?y51⟩) hS12 ?r51
  case y51 =>
    intro w_ hS_
    go_simp
    try with_reducible rfl
  simp only [Act.put, List.getElem_toArray, List.getElem_cons_succ, List.getElem_cons_zero, List.setIfInBounds_toArray, List.set_cons_succ, List.set_cons_zero]
  refine wpAnyH_take (i := 2) (v := ?v52) rfl (by kernel_rfl) (by kernel_rfl) (by kernel_rfl) (fun _ _ _ h => h) (Or.inl ⟨by rfl, ?y52⟩) hS12 ?r52
  case y52 =>
    intro w_ hS_
    go_simp
    try with_reducible rfl
  simp only [Act.put, List.getElem_toArray, List.getElem_cons_succ, List.getElem_cons_zero, List.setIfInBounds_toArray, List.set_cons_succ, List.set_cons_zero]
  refine wpAnyH_take (i := 3) (v := ?v53) rfl (by kernel_rfl) (by kernel_rfl) (by kernel_rfl) (fun _ _ _ h => h) (Or.inl ⟨by rfl, ?y53⟩) hS12 ?r53
  case y53 =>
    intro w_ hS_
    go_simp
    try with_reducible rfl
  simp only [Act.put, List.getElem_toArray, List.getElem_cons_succ, List.getElem_cons_zero, List.setIfInBounds_toArray, List.set_cons_succ, List.set_cons_zero]
  refine wpAnyH_take (i := 4) (v := ?v54) rfl (by kernel_rfl) (by kernel_rfl) (by kernel_rfl) (fun _ _ _ h => h) (Or.inl ⟨by rfl, ?y54⟩) hS12 ?r54
  case y54 =>
    intro w_ hS_
    go_simp
    try with_reducible rfl
  simp only [Act.put, List.getElem_toArray, List.getElem_cons_succ, List.getElem_cons_zero, List.setIfInBounds_toArray, List.set_cons_succ, List.set_cons_zero]
  refine wpAnyH_take (i := 5) (v := ?v55) rfl (by kernel_rfl) (by kernel_rfl) (by kernel_rfl) (fun _ _ _ h => h) (Or.inl ⟨by rfl, ?y55⟩) hS12 ?r55
  case y55 =>
    intro w_ hS_
    go_simp
    try with_reducible rfl
  simp only [Act.put, List.getElem_toArray, List.getElem_cons_succ, List.getElem_cons_zero, List.setIfInBounds_toArray, List.set_cons_succ, List.set_cons_zero]
  refine wpAnyH_take (i := 6) (v := ?v56) rfl (by kernel_rfl) (by kernel_rfl) (by kernel_rfl) (fun _ _ _ h => h) (Or.inl ⟨by rfl, ?y56⟩) hS12 ?r56
  case y56 =>
    intro w_ hS_
    go_simp
    try with_reducible rfl
  simp only [Act.put, List.getElem_toArray, List.getElem_cons_succ, List.getElem_cons_zero, List.setIfInBounds_toArray, List.set_cons_succ, List.set_cons_zero]
  refine wpAnyH_take (i := 7) (v := ?v57) rfl (by kernel_rfl) (by kernel_rfl) (by kernel_rfl) (fun _ _ _ h => h) (Or.inl ⟨by rfl, ?y57⟩) hS12 ?r57
  case y57 =>
    intro w_ hS_
    go_simp
    try with_reducible rfl
  simp only [Act.put, List.getElem_toArray, List.getElem_cons_succ, List.getElem_cons_zero, List.setIfInBounds_toArray, List.set_cons_succ, List.set_cons_zero]
  refine wpAnyH_take (i := 8) (v := ?v58) rfl (by kernel_rfl) (by kernel_rfl) (by kernel_rfl) (fun _ _ _ h => h) (Or.inl ⟨by rfl, ?y58⟩) hS12 ?r58
  case y58 =>
    intro w_ hS_
    go_simp
    try with_reducible rfl
  simp only [Act.put, List.getElem_toArray, List.getElem_cons_succ, List.getElem_cons_zero, List.setIfInBounds_toArray, List.set_cons_succ, List.set_cons_zero]
  refine wpAnyH_take (i := 9) (v := ?v59) rfl (by kernel_rfl) (by kernel_rfl) (by kernel_rfl) (fun _ _ _ h => h) (Or.inl ⟨by rfl, ?y59⟩) hS12 ?r59
  case y59 =>
    intro w_ hS_
    go_simp
    try with_reducible rfl
  simp only [Act.put, List.getElem_toArray, List.getElem_cons_succ, List.getElem_cons_zero, List.setIfInBounds_toArray, List.set_cons_succ, List.set_cons_zero]
  refine wpAnyH_take (i := 10) (v := ?v60) rfl (by kernel_rfl) (by kernel_rfl) (by kernel_rfl) (fun _ _ _ h => h) (Or.inl ⟨by rfl, ?y60⟩) hS12 ?r60
  case y60 =>
    intro w_ hS_
    go_simp
    try with_reducible rfl
  simp only [Act.put, List.getElem_toArray, List.getElem_cons_succ, List.getElem_cons_zero, List.setIfInBounds_toArray, List.set_cons_succ, List.set_cons_zero]
  refine wpAnyH_take (i := 11) (v := .int .u8 (bv (x ^^^ s))) rfl (by kernel_rfl) (by kernel_rfl) (by kernel_rfl) (fun _ _ _ h => h) (Or.inl ⟨by rfl, ?y61⟩) hS12 ?r61
  case y61 =>
    intro w_ hS_
    have c_ := hS_.2.1
    go_simp
    try with_reducible rfl
  simp only [Act.put, List.getElem_toArray, List.getElem_cons_succ, List.getElem_cons_zero, List.setIfInBounds_toArray, List.set_cons_succ, List.set_cons_zero]
  refine wpAnyH_take (i := 12) (v := ?v62) rfl (by kernel_rfl) (by kernel_rfl) (by kernel_rfl) (fun _ _ _ h => h) (Or.inl ⟨by rfl, ?y62⟩) hS12 ?r62
  case y62 =>
    intro w_ hS_
    go_simp
    try with_reducible rfl
  simp only [Act.put, List.getElem_toArray, List.getElem_cons_succ, List.getElem_cons_zero, List.setIfInBounds_toArray, List.set_cons_succ, List.set_cons_zero]
  refine wpAnyH_take (i := 13) (v := ?v63) rfl (by kernel_rfl) (by kernel_rfl) (by kernel_rfl) (fun _ _ _ h => h) (Or.inl ⟨by rfl, ?y63⟩) hS12 ?r63
  case y63 =>
    intro w_ hS_
    go_simp
    try with_reducible rfl
  simp only [Act.put, List.getElem_toArray, List.getElem_cons_succ, List.getElem_cons_zero, List.setIfInBounds_toArray, List.set_cons_succ, List.set_cons_zero]
  refine wpAnyH_take (i := 14) (v := .int .u8 (bv s)) rfl (by kernel_rfl) (by kernel_rfl) (by kernel_rfl) (fun _ _ _ h => h) (Or.inl ⟨by rfl, ?y64⟩) hS12 ?r64
  case y64 =>
    intro w_ hS_
    have c_ := hS_.2.2
    go_simp
    try with_reducible rfl
  simp only [Act.put, List.getElem_toArray, List.getElem_cons_succ, List.getElem_cons_zero, List.setIfInBounds_toArray, List.set_cons_succ, List.set_cons_zero]
  refine wpAnyH_take (i := 15) (v := .int .u8 (bv x)) rfl (by kernel_rfl) (by kernel_rfl) (by kernel_rfl) (fun _ _ _ h => h) (Or.inl ⟨by rfl, ?y65⟩) hS12 ?r65
  case y65 =>
    intro w_ hS_
    go_simp
    rw [xor8, BitVec.xor_assoc, BitVec.xor_self, BitVec.xor_zero]
  simp only [Act.put, List.getElem_toArray, List.getElem_cons_succ, List.getElem_cons_zero, List.setIfInBounds_toArray, List.set_cons_succ, List.set_cons_zero]
  refine wpAnyH_take (i := 16) (v := ?v66) rfl (by kernel_rfl) (by kernel_rfl) (by kernel_rfl) (fun _ _ _ h => h) (Or.inl ⟨by rfl, ?y66⟩) hS12 ?r66
  case y66 =>
    intro w_ hS_
    go_simp
    try with_reducible rfl
  simp only [Act.put, List.getElem_toArray, List.getElem_cons_succ, List.getElem_cons_zero, List.setIfInBounds_toArray, List.set_cons_succ, List.set_cons_zero]
  refine wpAnyH_take (i := 17) (v := ?v67) rfl (by kernel_rfl) (by kernel_rfl) (by kernel_rfl) (fun _ _ _ h => h) (Or.inl ⟨by rfl, ?y67⟩) hS12 ?r67
  case y67 =>
    intro w_ hS_
    go_simp
    try with_reducible rfl
  simp only [Act.put, List.getElem_toArray, List.getElem_cons_succ, List.getElem_cons_zero, List.setIfInBounds_toArray, List.set_cons_succ, List.set_cons_zero]
  refine wpAnyH_take (i := 18) (v := ?v68) rfl (by kernel_rfl) (by kernel_rfl) (by kernel_rfl) (fun _ _ _ h => h) (Or.inl ⟨by rfl, ?y68⟩) hS12 ?r68
  case y68 =>
    intro w_ hS_
    go_simp
    try with_reducible rfl
  simp only [Act.put, List.getElem_toArray, List.getElem_cons_succ, List.getElem_cons_zero, List.setIfInBounds_toArray, List.set_cons_succ, List.set_cons_zero]
  refine wpAnyH_take (i := 19) (v := ?v69) rfl (by kernel_rfl) (by kernel_rfl) (by kernel_rfl) (fun _ _ _ h => h) (Or.inl ⟨by rfl, ?y69⟩) hS12 ?r69
  case y69 =>
    intro w_ hS_
    go_simp
    try with_reducible rfl
  simp only [Act.put, List.getElem_toArray, List.getElem_cons_succ, List.getElem_cons_zero, List.setIfInBounds_toArray, List.set_cons_succ, List.set_cons_zero]
  refine wpAnyH_take (i := 20) (v := ?v70) rfl (by kernel_rfl) (by kernel_rfl) (by kernel_rfl) (fun _ _ _ h => h) (Or.inl ⟨by rfl, ?y70⟩) hS12 ?r70
  case y70 =>
    intro w_ hS_
    go_simp
    try with_reducible rfl
  simp only [Act.put, List.getElem_toArray, List.getElem_cons_succ, List.getElem_cons_zero, List.setIfInBounds_toArray, List.set_cons_succ, List.set_cons_zero]
  refine wpAnyH_take (i := 21) (v := ?v71) rfl (by kernel_rfl) (by kernel_rfl) (by kernel_rfl) (fun _ _ _ h => h) (Or.inl ⟨by rfl, ?y71⟩) hS12 ?r71
  case y71 =>
    intro w_ hS_
    go_simp
    try with_reducible rfl
  simp only [Act.put, List.getElem_toArray, List.getElem_cons_succ, List.getElem_cons_zero, List.setIfInBounds_toArray, List.set_cons_succ, List.set_cons_zero]
  refine wpAnyH_take (i := 22) (v := .int .u8 (bv s)) rfl (by kernel_rfl) (by kernel_rfl) (by kernel_rfl) (fun _ _ _ h => h) (Or.inl ⟨by rfl, ?y72⟩) hS12 ?r72
  case y72 =>
    intro w_ hS_
    have c_ := hS_.2.2
    go_simp
    try with_reducible rfl
  simp only [Act.put, List.getElem_toArray, List.getElem_cons_succ, List.getElem_cons_zero, List.setIfInBounds_toArray, List.set_cons_succ, List.set_cons_zero]
  refine wpAnyH_take (i := 23) (v := ?v73) rfl (by kernel_rfl) (by kernel_rfl) (by kernel_rfl) (fun _ _ _ h => h) (Or.inl ⟨by rfl, ?y73⟩) hS12 ?r73
  case y73 =>
    intro w_ hS_
    go_simp
    try with_reducible rfl
  simp only [Act.put, List.getElem_toArray, List.getElem_cons_succ, List.getElem_cons_zero, List.setIfInBounds_toArray, List.set_cons_succ, List.set_cons_zero]
  refine wpAnyH_take (i := 24) (v := .agg (irow .u8 (bl (key)))) rfl (by kernel_rfl) (by kernel_rfl) (by kernel_rfl) (fun _ _ _ h => h) (Or.inl ⟨by rfl, ?y74⟩) hS12 ?r74
  case y74 =>
    intro w_ hS_
    simp only [List.getElem_toArray, List.getElem_cons_succ, List.getElem_cons_zero]
    exact run_load_part 23 _ (by rfl) w.heap.size 0 (by rfl) 29 (askr key nonce at_ (.slice aod d.length capd)) (0, 0) (irow .u8 (bl (key))) _ hS_.1 (ask_key _ _ _ _) Try.underlying23 rfl hiK
  simp only [Act.put, List.getElem_toArray, List.getElem_cons_succ, List.getElem_cons_zero, List.setIfInBounds_toArray, List.set_cons_succ, List.set_cons_zero]
  refine wpAnyH_take (i := 25) (v := ?v75) rfl (by kernel_rfl) (by kernel_rfl) (by kernel_rfl) (fun _ _ _ h => h) (Or.inl ⟨by rfl, ?y75⟩) hS12 ?r75
  case y75 =>
    intro w_ hS_
    go_simp
    try with_reducible rfl
  simp only [Act.put, List.getElem_toArray, List.getElem_cons_succ, List.getElem_cons_zero, List.setIfInBounds_toArray, List.set_cons_succ, List.set_cons_zero]
  refine wpAnyH_take (i := 26) (v := .agg (irow .u8 (bl (nonce)))) rfl (by kernel_rfl) (by kernel_rfl) (by kernel_rfl) (fun _ _ _ h => h) (Or.inl ⟨by rfl, ?y76⟩) hS12 ?r76
  case y76 =>
    intro w_ hS_
    simp only [List.getElem_toArray, List.getElem_cons_succ, List.getElem_cons_zero]
    exact run_load_part 25 _ (by rfl) w.heap.size 32 (by rfl) 29 (askr key nonce at_ (.slice aod d.length capd)) (0, 0) (irow .u8 (bl (nonce))) _ hS_.1 (ask_nonce _ _ _ _ hk) Try.underlying25 rfl hiN
  simp only [Act.put, List.getElem_toArray, List.getElem_cons_succ, List.getElem_cons_zero, List.setIfInBounds_toArray, List.set_cons_succ, List.set_cons_zero]
  refine wpAnyH_take (i := 27) (v := ?v77) rfl (by kernel_rfl) (by kernel_rfl) (by kernel_rfl) (fun _ _ _ h => h) (Or.inl ⟨by rfl, ?y77⟩) hS12 ?r77
  case y77 =>
    intro w_ hS_
    go_simp
    try with_reducible rfl
  simp only [Act.put, List.getElem_toArray, List.getElem_cons_succ, List.getElem_cons_zero, List.setIfInBounds_toArray, List.set_cons_succ, List.set_cons_zero]
  refine wpAnyH_take (i := 28) (v := .int .u64 (at_ : Int)) rfl (by kernel_rfl) (by kernel_rfl) (by kernel_rfl) (fun _ _ _ h => h) (Or.inl ⟨by rfl, ?y78⟩) hS12 ?r78
  case y78 =>
    intro w_ hS_
    have c_ := ask_at hS_.1 hk hno
    go_simp
    try with_reducible rfl
  simp only [Act.put, List.getElem_toArray, List.getElem_cons_succ, List.getElem_cons_zero, List.setIfInBounds_toArray, List.set_cons_succ, List.set_cons_zero]
  refine wpAnyH_one (k := 29) (fuel := 6) (by kernel_rfl) rfl (by kernel_rfl) (fun K_ hK => ?_)
  refine wp_world_op (.slice (some ⟨wN.heap.size, 0, none⟩) 1 1) (wN.alloc (.cells #[.int .u8 (bv 0#8)] 5)) (by kernel_rfl) ?_
  have hb1 : Below wN.heap.size wN (wN.alloc (.cells #[.int .u8 (bv 0#8)] 5)) := (Below.refl _ _).alloc (Nat.le_refl _) _
  have hB0 := bys_one wN 0#8
  clear hS12
  replace R0 := keep hb1 R0
  replace hw := Below.after hw hb1
  replace hg1 := keep hb1 hg1
  replace hg2 := keep hb1 hg2
  clear hb1
  have hS12 := And.intro R0 (And.intro (cell_one hg1) (cell_one hg2))
  refine hK _ _ hS12 ?_
  simp only [Act.put, List.getElem_toArray, List.getElem_cons_succ, List.getElem_cons_zero, List.setIfInBounds_toArray, List.set_cons_succ, List.set_cons_zero]
  clear hK
  generalize wN.alloc (.cells #[.int .u8 (bv 0#8)] 5) = wO at *
  refine wpAnyH_one (k := 30) (fuel := 5) (by kernel_rfl) rfl (by kernel_rfl) (fun K_ hK => ?_)
  refine wp_call_ex (f := 7) (by kernel_rfl) (r_crypt key nonce hk hno at_ hat [0#8] wO _ hB0) (fun v_ wP hX_ => ?_)
  obtain ⟨hO3, hb⟩ := hX_
  clear hS12
  replace R0 := keep hb R0
  replace hw := Below.after hw hb
  replace hg1 := keep hb hg1
  replace hg2 := keep hb hg2
  clear hb
  rw [hs.out, BitVec.zero_xor] at hO3
  obtain ⟨g3, cap3, T3, rfl, _, hg3, _, _, _⟩ := own_row hO3 Nat.zero_lt_one
  have hS12 := And.intro R0 (And.intro (cell_one hg1) (cell_one hg2))
  refine hK _ _ hS12 ?_
  simp only [Act.put, List.getElem_toArray, List.getElem_cons_succ, List.getElem_cons_zero, List.setIfInBounds_toArray, List.set_cons_succ, List.set_cons_zero]
  clear hK
  simp only [List.length_singleton]
  clear hO3
  have c3_ := cell_one hg3
  refine wpAnyH_take (i := 31) (v := ?v79) rfl (by kernel_rfl) (by kernel_rfl) (by kernel_rfl) (fun _ _ _ h => h) (Or.inl ⟨by rfl, ?y79⟩) hS12 ?r79
  case y79 =>
    intro w_ hS_
    go_simp
    try with_reducible rfl
  simp only [Act.put, List.getElem_toArray, List.getElem_cons_succ, List.getElem_cons_zero, List.setIfInBounds_toArray, List.set_cons_succ, List.set_cons_zero]
  refine wpAnyH_one (k := 32) (fuel := 3) (by kernel_rfl) rfl (by kernel_rfl) (fun K_ hK => ?_)
  refine wp_world_op (.int .u8 (bv s)) wP (by go_simp) ?_
  refine hK _ _ hS12 ?_
  simp only [Act.put, List.getElem_toArray, List.getElem_cons_succ, List.getElem_cons_zero, List.setIfInBounds_toArray, List.set_cons_succ, List.set_cons_zero]
  clear hK
  refine wpAnyH_take (i := 33) (v := ?v80) rfl (by kernel_rfl) (by kernel_rfl) (by kernel_rfl) (fun _ _ _ h => h) (Or.inl ⟨by rfl, ?y80⟩) hS12 ?r80
  case y80 =>
    intro w_ hS_
    go_simp
    try with_reducible rfl
  simp only [Act.put, List.getElem_toArray, List.getElem_cons_succ, List.getElem_cons_zero, List.setIfInBounds_toArray, List.set_cons_succ, List.set_cons_zero]
  refine wpAnyH_take (i := 34) (v := ?v81) rfl (by kernel_rfl) (by kernel_rfl) (by kernel_rfl) (fun _ _ _ h => h) (Or.inl ⟨by rfl, ?y81⟩) hS12 ?r81
  case y81 =>
    intro w_ hS_
    go_simp
    try with_reducible rfl
  simp only [Act.put, List.getElem_toArray, List.getElem_cons_succ, List.getElem_cons_zero, List.setIfInBounds_toArray, List.set_cons_succ, List.set_cons_zero]
  refine wpAnyH_take (i := 35) (v := ?v82) rfl (by kernel_rfl) (by kernel_rfl) (by kernel_rfl) (fun _ _ _ h => h) (Or.inl ⟨by rfl, ?y82⟩) hS12 ?r82
  case y82 =>
    intro w_ hS_
    go_simp
    try with_reducible rfl
  simp only [Act.put, List.getElem_toArray, List.getElem_cons_succ, List.getElem_cons_zero, List.setIfInBounds_toArray, List.set_cons_succ, List.set_cons_zero]
  refine wpAnyH_done (by kernel_rfl) ?_ _
  refine NoPanic.normal ?_
  go_wp2_with (fail)
  go_ret
  exact ⟨rfl, hw⟩

end Go.Proofs.Ytmldmlbmfbdjoab


namespace Go.Proofs.Ytmldmlbmfbdjoab
open Go Go.RowKit Go.Sort Go.ChangeShapes Go.WideShapes Go.Deep

theorem cAsk : Try.prog.cellsOf 29 = 50 := by kernel_rfl
theorem cKeyA : Try.prog.cellsOf 23 = 32 := by kernel_rfl
theorem cNonceA : Try.prog.cellsOf 25 = 16 := by kernel_rfl
theorem cU64A : Try.prog.cellsOf 26 = 1 := by kernel_rfl
theorem cSlA : Try.prog.cellsOf 27 = 1 := by kernel_rfl
theorem cU8A : Try.prog.cellsOf 5 = 1 := by kernel_rfl
theorem bU8A : Try.prog.bytesOf 5 = 1 := by kernel_rfl
theorem bvA {z : Int} (h : 0 ≤ z ∧ z < 256) : ∃ x : B, z = bv x := by
  obtain ⟨n, rfl⟩ := Int.eq_ofNat_of_zero_le h.1
  exact ⟨BitVec.ofNat 8 n, by unfold bv; rw [BitVec.toNat_ofNat]; omega⟩
theorem blA : ∀ (l : List Int), (∀ z ∈ l, 0 ≤ z ∧ z < 256) → ∃ bs : List B, l = bl bs ∧ bs.length = l.length
  | [], _ => ⟨[], rfl, rfl⟩
  | z :: r, h => by
    obtain ⟨x, rfl⟩ := bvA (h z (by simp))
    obtain ⟨bs, rfl, e⟩ := blA r (fun y hy => h y (by simp [hy]))
    exact ⟨x :: bs, rfl, by simp [e]⟩
/-- Cells that are read as an array of bytes. -/
theorem cells_bytes {H : Type} {enc : TypeId × Value → H} {W : World} {m n : Nat} {t : TypeId} {cs : List Value} {x : DataW H × List MemPlace} (hu : Try.prog.underlying t = some (.array n 5)) (hc : Try.prog.cellsOf t = n) (h : DataW.trod enc Try.prog W 0 (fun _ => true) true m t cs = some x) : ∃ l : List B, l.length = n ∧ cs = (irow .u8 (bl l)).toList := by
  obtain ⟨xs, m, _, _, hlen, hn, hel⟩ := DataW.trod_array hu h
  rw [hc] at hlen
  obtain ⟨l, hl, hw⟩ := ints_of cs .u8 (fun i hi => by
    have hin : i < n := by omega
    have e1 := hel i hin
    rw [cU8A, List.getElem?_eq_getElem (show i < xs.length by omega)] at e1
    obtain ⟨a, q0, _, q2⟩ := DataW.trod_int Try.underlying5 e1
    simp only [Nat.mul_one] at q0
    rw [List.drop_eq_getElem_cons hi, List.take_succ_cons, List.take_zero] at q0
    injection q0 with q0 _
    exact ⟨a, q0, q2⟩)
  obtain ⟨bs, rfl, e⟩ := blA l (fun z hz => u8_of_wf (hw z hz))
  refine ⟨bs, ?_, by rw [hl]; simp [irow]⟩
  have := congrArg List.length hl
  rw [List.length_map, hlen] at this
  omega
theorem block_lt {w : World} {b o : Nat} {v : Value} (h : w.cell? ⟨b, o, none⟩ = some v) : b < w.heap.size := by
  rcases Nat.lt_or_ge b w.heap.size with q | q
  · exact q
  · simp [World.cell?, Array.getElem?_eq_none q] at h
/-- A list of bytes that is read. -/
theorem bys_of_trod {H : Type} {enc : TypeId × Value → H} {W : World} {m : Nat} {cs : List Value} {x : DataW H × List MemPlace} (hf : DataW.trod enc Try.prog W 0 (fun _ => true) true m 27 cs = some x) (hs : ∀ n ∈ x.1.weights Try.prog 27, n ≤ reachBytes) : ∃ v d, cs = [v] ∧ BysB W v d := by
  rcases open_ints Try.underlying27 Try.underlying5 cU8A hf with ⟨hcs, hx⟩ | ⟨a, len, cap, zs, hcs, _, hl, hm, hz, hx, hcell, hwz⟩
  · exact ⟨_, [], hcs, ⟨none, 0, rfl, by decide, fun j hj => by simp [bl] at hj, bl_bnd _⟩, by decide, fun a l c h _ => by cases h; rfl⟩
  · subst hx
    simp only [if_true] at hz
    have hb := hs ((lits (H := H) .u8 (zs.take len)).length + (lits (H := H) .u8 (zs.drop len)).length) (by simp [DataW.weights, Try.underlying27, bU8A])
    simp only [lits, List.length_map, List.length_take, List.length_drop, reachBytes] at hb
    have hlen : (zs.take len).length = len := by rw [List.length_take]; omega
    obtain ⟨d, hd, e⟩ := blA (zs.take len) (fun z h => u8_of_wf (hwz z (List.mem_of_mem_take h)))
    rw [hlen] at e
    refine ⟨_, d, hcs, ⟨some a, cap, by rw [bl_len, e], by rw [bl_len]; omega, fun j hj => ?_, bl_bnd _⟩, by omega, fun a l c h h2 => by cases h; cases h2⟩
    rw [bl_len, e] at hj
    have hc := hcell j (by omega)
    obtain ⟨bb, off, spot⟩ := a
    have hspot : spot = none := by simpa [Addr.add] using World.cell?_spot (hcell 0 (by omega))
    subst hspot
    rw [addr_add] at hc
    refine ⟨bb, off, rfl, block_lt hc, ?_⟩
    rw [hc, ← hd, List.getD_eq_getElem?_getD, List.getD_eq_getElem?_getD, List.getElem?_take_of_lt hj]
/-- What is asked, out of the data. -/
theorem ask_of_trod {H : Type} {enc : TypeId × Value → H} {W : World} {m : Nat} {cs : List Value} {x : DataW H × List MemPlace} (hf : DataW.trod enc Try.prog W 0 (fun _ => true) true m 29 cs = some x) (hs : ∀ n ∈ x.1.weights Try.prog 29, n ≤ reachBytes) : ∃ (key nonce : List B) (at_ : Nat) (v : Value) (d : List B), key.length = 32 ∧ nonce.length = 16 ∧ at_ < 18446744073709551616 ∧ cs = (askr key nonce at_ v).toList ∧ BysB W v d := by
  obtain ⟨xs, n, _, rfl, hl, hlen, hfld⟩ := DataW.trod_struct Try.underlying29 hf
  rw [cAsk] at hl
  match xs, hlen with
  | [y0, y1, y2, y3], _ =>
  have f0 : DataW.trod enc Try.prog W 0 (fun _ => true) true n 23 ((cs.drop 0).take (Try.prog.cellsOf 23)) = some y0 := hfld 0 _ rfl
  have f1 : DataW.trod enc Try.prog W 0 (fun _ => true) true n 25 ((cs.drop 32).take (Try.prog.cellsOf 25)) = some y1 := hfld 1 _ rfl
  have f2 : DataW.trod enc Try.prog W 0 (fun _ => true) true n 26 ((cs.drop 48).take (Try.prog.cellsOf 26)) = some y2 := hfld 2 _ rfl
  have f3 : DataW.trod enc Try.prog W 0 (fun _ => true) true n 27 ((cs.drop 49).take (Try.prog.cellsOf 27)) = some y3 := hfld 3 _ rfl
  simp only [cKeyA, cNonceA, cU64A, cSlA, List.drop_zero] at f0 f1 f2 f3
  obtain ⟨key, hk, e0⟩ := cells_bytes Try.underlying23 cKeyA f0
  obtain ⟨nonce, hn, e1⟩ := cells_bytes Try.underlying25 cNonceA f1
  obtain ⟨a, e2, _, wa⟩ := DataW.trod_int Try.underlying26 f2
  have ba := bounds_u64 wa
  obtain ⟨at_, rfl⟩ := Int.eq_ofNat_of_zero_le ba.1
  obtain ⟨v, d, e3, hB⟩ := bys_of_trod f3 (fun n hn => hs n (by
    simp only [DataW.weights, Try.underlying29]
    exact DataW.weights_mem_each (j := 3) rfl rfl n hn))
  refine ⟨key, nonce, at_, v, d, hk, hn, by omega, ?_, hB⟩
  have h1 := (List.take_append_drop 32 cs).symm
  have h2 := (List.take_append_drop 16 (cs.drop 32)).symm
  have h3 := (List.take_append_drop 1 (cs.drop 48)).symm
  have h4 : (cs.drop 49).take 1 = cs.drop 49 := List.take_of_length_le (by rw [List.length_drop]; omega)
  rw [List.drop_drop] at h2 h3
  rw [e0] at h1
  rw [e1] at h2
  rw [e2] at h3
  rw [e3] at h4
  rw [h1, h2]
  show _ ++ (_ ++ List.drop 48 cs) = _
  rw [h3]
  show _ ++ (_ ++ (_ ++ List.drop 49 cs)) = _
  rw [← h4, askr, Array.toList_append, Array.toList_append]
  rfl
end Go.Proofs.Ytmldmlbmfbdjoab
