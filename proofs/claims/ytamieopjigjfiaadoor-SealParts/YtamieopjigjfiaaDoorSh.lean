import Derived.Test.YtamieopjigjfiaaDoorProg
import Derived.WalkKit
import Derived.WalkSpells
import Derived.WalkLawsBesides
import Derived.Lib.QuietBelow
import Derived.BigQuiet
import Derived.OrdersHeld
import Derived.OwnWalk
import Derived.Deep.RegionHeld3
import Derived.Test.YtamieopjigjfiaaDoorKa
import Derived.Test.YtamieopjigjfiaaDoorSg
import Derived.Test.YtamieopjigjfiaaDoorSz
namespace Go.Proofs.YtamieopjigjfiaaDoor
set_option maxRecDepth 100000
open Go Go.RowKit Go.Sort
attribute [local go_sem] setCell_drewN alloc_drewN


set_option maxRecDepth 100000 in
set_option maxHeartbeats 4000000 in
theorem q_under (nonce extra text : List B) (hno : nonce.length = 16) (w : World) (ve vt : Value) (hE : BysB w ve extra) (hT : BysB w vt text) (hl : extra.length + text.length ≤ 140737488351000) : Calls Tryd.prog 48 #[.agg (irow .u8 (bl nonce)), ve, vt] w fun e w' => ∃ v, e = .returned v ∧ Own w' w.heap.size v (undB nonce extra text) ∧ Below w.heap.size w w' := by
  obtain ⟨ue, uec, rfl⟩ : ∃ ao cap, ve = .slice ao extra.length cap := by
    obtain ⟨⟨ao, cap, h, _⟩, _⟩ := hE
    rw [bl_len] at h
    exact ⟨ao, cap, h⟩
  obtain ⟨ut, utc, rfl⟩ : ∃ ao cap, vt = .slice ao text.length cap := by
    obtain ⟨⟨ao, cap, h, _⟩, _⟩ := hT
    rw [bl_len] at h
    exact ⟨ao, cap, h⟩
  have hnl : (bl nonce).length = 16 := by rw [bl_len, hno]
  have R0 := hp1_0 w (.cells (irow .u8 (bl nonce)) 28)
  have hw : Below w.heap.size w (w.alloc (.cells (irow .u8 (bl nonce)) 28)) := (Below.refl _ _).alloc (Nat.le_refl _) _
  have hz0 : (w.alloc (.cells (irow .u8 (bl nonce)) 28)).heap.size = w.heap.size + 1 := size_alloc1 _ _
  have hwr : IntKind.u64.wrap ((extra.length : Nat) : Int) = (extra.length : Int) := by rw [IntKind.wrap_u64]; omega
  have hmo : ((extra.length : Nat) : Int) % 18446744073709551616 = (extra.length : Int) := by omega
  have hEh : Hid (∀ V, Below w.heap.size w V → BysB V (.slice ue extra.length uec) extra) := hide (fun V h => hE.keep h)
  have hTh : Hid (∀ V, Below w.heap.size w V → BysB V (.slice ut text.length utc) text) := hide (fun V h => hT.keep h)
  clear hE hT
  have hO0 := own_none (w.alloc (.cells (irow .u8 (bl nonce)) 28)) (w.heap.size + 1)
  have e8 : Hid (lb (n8 extra.length) ++ extra ++ nonce ++ text = undB nonce extra text) := hide rfl
  have l8 : ∀ k, (lb ((n8 extra.length).take k)).length ≤ 8 := fun k => by rw [lb_len, List.length_take, n8_len]; omega
  go_enter Tryd.func48, Tryd.ntmps48
  go_wp2_with (first | (refine wpList_box rfl 28 _ rfl _ rfl (bNo _) ?_) | fail)
  generalize w.alloc (.cells (irow .u8 (bl nonce)) 28) = w0 at *
  clear hwr hmo
  go_loopw [7, 8, 9] (fun vb vn i wr => ∃ k : Nat, k ≤ 8 ∧ i = .int .i64 k ∧ vn = .int .u64 ((extra.length / 256 ^ k : Nat) : Int) ∧ Own wr (w.heap.size + 1) vb (lb ((n8 extra.length).take k)) ∧ wr.heap[w.heap.size]? = some (.cells (irow .u8 (bl nonce)) 28 (0, 0)) ∧ Below w.heap.size w wr) (fun _ _ i _ => 8 - (intOf i).toNat)
  case atStart => exact ⟨0, by omega, rfl, by simp, hO0, R0, hw⟩
  case round =>
    clear R0 hw hO0
    obtain ⟨k, hk2, rfl, rfl, hO, R0, hw⟩ := hrel
    obtain ⟨ao1, ac1, rfl⟩ := slen_own hO
    have hs1 : w.heap.size + 1 ≤ wr.heap.size := lt_of_row R0
    have l8k := l8 k
    by_cases hlt : k < 8
    · have hd : decide ((k : Int) < 8) = true := by simp; omega
      have hx : ((extra.length / 256 ^ k : Nat) : Int) % 256 = bv (BitVec.ofNat 8 (extra.length / 256 ^ k)) := by
        simp only [bv, BitVec.toNat_ofNat]; omega
      have hx2 : bv (BitVec.ofNat 8 (extra.length / 256 ^ k)) % 256 = bv (BitVec.ofNat 8 (extra.length / 256 ^ k)) := by rw [← hx]; omega
      have hq : ((extra.length / 256 ^ k : Nat) : Int) / 256 = ((extra.length / 256 ^ (k + 1) : Nat) : Int) := by
        rw [Nat.pow_succ, ← Nat.div_div_eq_div_mul]; omega
      have hap : lb ((n8 extra.length).take k) ++ [BitVec.ofNat 8 (extra.length / 256 ^ k)] = lb ((n8 extra.length).take (k + 1)) := by
        rw [n8_succ _ _ hlt]
        unfold lb
        rw [List.map_append]
        congr 1
        simp only [List.map_cons, List.map_nil, n8f]
        congr 1
        apply BitVec.eq_of_toNat_eq
        simp only [BitVec.toNat_ofNat]
        omega
      replace hap := hide hap
      have hm1 : IntKind.u64.wrap ((extra.length / 256 ^ (k + 1) : Nat) : Int) = ((extra.length / 256 ^ (k + 1) : Nat) : Int) := by
        have := Nat.div_le_self extra.length (256 ^ (k + 1))
        rw [IntKind.wrap_u64]
        generalize extra.length / 256 ^ (k + 1) = m1 at *
        omega
      generalize em1 : extra.length / 256 ^ (k + 1) = m1 at *
      replace em1 := hide em1
      generalize extra.length / 256 ^ k = m at *
      generalize BitVec.ofNat 8 m = x at *
      have hba : Below wr.heap.size wr (wr.alloc (.cells #[.int .u8 (bv x)] 5)) := (Below.refl _ _).alloc (Nat.le_refl _) _
      have hOa := hO.keep hba
      have hB1 := bys_one wr x
      go_wp2_with (at_builtin; refine wpList_append_B rfl (.tmp 17) (.tmp 21) rfl (w.heap.size + 1) _ _ rfl hOa _ [x] rfl hB1 (by simp only [List.length_singleton]; omega) (Nat.le_trans hs1 hba.size) ?_)
      intro v2 w2 hO2 hgr
      rw [hap.out] at hO2
      have R0a := keep hba R0
      replace R0 : w2.heap[w.heap.size]? = _ := (hgr.block w.heap.size (lt_of_row R0a) (fun e_ => by have := own_low hOa _ e_.symm; omega)).trans R0a
      have hwa := Below.after hw hba
      replace hw := hwa.grown hgr hwa.size (fun k h => by have := own_low hOa k h; omega)
      obtain ⟨ao2, ac2, rfl⟩ := slen_own hO2
      clear hgr hO hOa hB1 hba R0a hwa
      go_wp2_with (fail)
      refine ⟨⟨k + 1, by omega, by go_num, by rw [em1.out], hO2, R0, hw⟩, ?_⟩
      simp [intOf]; omega
    · obtain rfl : k = 8 := by omega
      have hd : decide ((8 : Int) < 8) = false := by decide
      have ht8 : (n8 extra.length).take 8 = n8 extra.length := List.take_of_length_le (by rw [n8_len]; exact Nat.le_refl _)
      rw [ht8] at hO l8k ⊢
      generalize lb (n8 extra.length) = L8 at *
      have sn := slice_n w.heap.size
      go_wp2_with (at_builtin; refine wpList_append_B rfl (.tmp 25) (.tmp 26) rfl (w.heap.size + 1) _ _ rfl hO _ extra rfl (hEh.out _ hw) (by omega) hs1 ?_)
      intro v2 w2 hO2 hgr
      have R0b : w2.heap[w.heap.size]? = _ := (hgr.block w.heap.size (lt_of_row R0) (fun e_ => by have := own_low hO _ e_.symm; omega)).trans R0
      replace hw := hw.grown hgr hw.size (fun k h => by have := own_low hO k h; omega)
      have hs2 : w.heap.size + 1 ≤ w2.heap.size := lt_of_row R0b
      have hl2 : (L8 ++ extra).length ≤ 8 + extra.length := by rw [List.length_append]; omega
      generalize L8 ++ extra = X2 at *
      obtain ⟨ao2, ac2, rfl⟩ := slen_own hO2
      clear hgr hO R0
      have hBn : BysB w2 (.slice (some ⟨w.heap.size, 0, none⟩) 16 16) nonce := by
        have h := Bys.of_row R0b (by omega) (bl_bnd _) 16
        rw [hnl] at h
        exact ⟨h, by omega, fun a l c h h2 => by cases h; cases h2⟩
      go_wp2_with (at_builtin; refine wpList_append_B rfl (.tmp 28) (.tmp 29) rfl (w.heap.size + 1) _ _ rfl hO2 _ nonce rfl hBn (by omega) hs2 ?_)
      intro v3 w3 hO3 hgr
      have hs3 := Nat.le_trans hs2 hgr.size
      replace hw := hw.grown hgr hw.size (fun k h => by have := own_low hO2 k h; omega)
      have hl3 : (X2 ++ nonce).length ≤ 24 + extra.length := by rw [List.length_append]; omega
      generalize X2 ++ nonce = X3 at *
      obtain ⟨ao3, ac3, rfl⟩ := slen_own hO3
      clear hgr hO2 hBn R0b
      go_wp2_with (at_builtin; refine wpList_append_B rfl (.tmp 31) (.tmp 32) rfl (w.heap.size + 1) _ _ rfl hO3 _ text rfl (hTh.out _ hw) (by omega) hs3 ?_)
      intro v4 w4 hO4 hgr
      replace hw := hw.grown hgr hw.size (fun k h => by have := own_low hO3 k h; omega)
      rw [e8.out] at hO4
      generalize eY : undB nonce extra text = X4 at *
      replace eY := hide eY
      obtain ⟨ao4, ac4, rfl⟩ := slen_own hO4
      clear hgr hO3
      go_wp2_with (fail)
      go_ret
      exact ⟨_, rfl, by rw [eY.out]; exact own_down hO4 (Nat.le_succ _), hw⟩

end Go.Proofs.YtamieopjigjfiaaDoor
