import Derived.Test.YtmiljapieehmgaaProg
import Derived.WalkKit
import Derived.WalkSpells
import Derived.WalkLawsBesides
import Derived.Lib.QuietBelow
import Derived.Laws.BitsAllLaws
import Derived.BigQuiet
import Derived.WalkMore
import Derived.Lib.SlBytesConst
import Derived.Test.YtmiljapieehmgaaKit
import Derived.Test.YtmiljapieehmgaaIo
namespace Go.Proofs.Ytmiljapieehmgaa
open Go Go.RowKit Go.Sort
attribute [local go_sem] setCell_drewN alloc_drewN
theorem upr_len (v : Nat) (d : List B) : (upr v d).length ≤ 1048576 := by
  unfold upr
  split
  · rename_i h
    rw [Bool.and_eq_true] at h
    have h2 := h.2
    unfold upo at h2
    simp only [Bool.and_eq_true, decide_eq_true_eq] at h2
    rw [List.length_take]
    omega
  · exact Nat.zero_le _
set_option maxRecDepth 100000 in
set_option maxHeartbeats 4000000 in
/-- P10.4: every Unpad. -/
theorem unpads_any (ver : Int) (h1 : -9223372036854775808 ≤ ver) (h2 : ver ≤ 9223372036854775807) (d : List B) (w : World) (dv : Value) (hD : BysB w dv d) (hcap0 : ∀ a l c, dv = .slice a l c → l ≤ c) : Calls Try.prog 5 #[.int .i64 ver, dv] w fun e w' => e = .returned (.bool true) ∧ Below w.heap.size w w' := by
  obtain ⟨v, hv, hv2⟩ := ver_nat ver
  obtain ⟨LA, eLA⟩ : ∃ L, upr v d = L := ⟨_, rfl⟩
  obtain ⟨LT, eLT⟩ : ∃ L, upr v d.reverse = L := ⟨_, rfl⟩
  have lA : Hid (LA.length ≤ 140737488350000) := hide (by have := upr_len v d; rw [eLA] at this; omega)
  obtain ⟨eA, heA⟩ : ∃ z, upe v d = z := ⟨_, rfl⟩
  obtain ⟨eT, heT⟩ : ∃ z, upe v d.reverse = z := ⟨_, rfl⟩
  replace eLA := hide eLA
  replace eLT := hide eLT
  replace heA := hide heA
  replace heT := hide heT
  have pA := hide (fun (W : World) (u : Value) (h : BysB W u d) (hc : ∀ a l c, u = .slice a l c → l ≤ c) => a_Unpad ver v hv hv2 d W u h hc)
  have pT := hide (fun (W : World) (u : Value) (h : BysB W u d.reverse) (hc : ∀ a l c, u = .slice a l c → l ≤ c) => a_Unpad ver v hv hv2 d.reverse W u h hc)
  have rA := hide (fun (W : World) (u : Value) (h : BysB W u d) (hc : ∀ a l c, u = .slice a l c → l ≤ c) => r_Unpad ver v hv h1 h2 d W u h hc)
  have rT := hide (fun (W : World) (u : Value) (h : BysB W u d.reverse) (hc : ∀ a l c, u = .slice a l c → l ≤ c) => r_Unpad ver v hv h1 h2 d.reverse W u h hc)
  rw [eLA.out, heA.out] at pA rA
  rw [eLT.out, heT.out] at pT rT
  clear hv hv2
  have hcap := hide hcap0
  clear hcap0
  have hDh := hide (fun V (h : Below w.heap.size w V) => hD.keep h)
  have hDl := hD.2.1
  obtain ⟨dao, dcap, rfl⟩ := hD.form
  have hw : Below w.heap.size w w := Below.refl _ _
  clear hD
  go_enter Try.func5, Try.ntmps5
  go_wp2_with (fail)
  have cX := sB_hand d w _ (hDh.out _ hw)
  refine cX.mono ?_
  rintro e_ w1 ⟨rfl, rI, hb⟩
  clear cX
  replace hw := Below.after hw hb
  have sz_w1 := hb.size
  clear hb
  have sIn := slice_to (some ⟨w.heap.size, 0, none⟩) (d.length + 80) (d.length + 80) d.length (by omega)
  have lgI := lt_of_row rI
  obtain ⟨lo, elo⟩ : ∃ n, n = w1.heap.size := ⟨_, rfl⟩
  have klo : w.heap.size < lo := by omega
  have hOs : Owns w1 lo [] w1.heap.size := by rw [elo]; exact Nat.le_refl _
  replace elo := hide elo
  go_wp2_with (fail)
  have cX := pA.out w1 (.slice (some ⟨w.heap.size, 0, none⟩) d.length (d.length + 80)) (head_bysB rI rfl hDl _) (fun a l c h => by cases h; omega)
  refine cX.mono ?_
  rintro e_ w2 ⟨va, rfl, hOva, hb⟩
  clear cX
  obtain ⟨ava, cva, rfl⟩ := slen_own hOva
  replace rI := keep hb rI
  replace hOs := hOs.keep hb
  replace hw := Below.after hw hb
  have sz_w2 := hb.size
  clear hb
  replace hOs := hOs.snoc hOva lA.out sz_w2
  simp only [List.nil_append] at hOs
  go_wp2_with (fail)
  have cX := pA.out w2 (.slice (some ⟨w.heap.size, 0, none⟩) d.length (d.length + 80)) (head_bysB rI rfl hDl _) (fun a l c h => by cases h; omega)
  refine cX.mono ?_
  rintro e_ w3 ⟨vb, rfl, hOvb, hb⟩
  clear cX
  obtain ⟨avb, cvb, rfl⟩ := slen_own hOvb
  replace rI := keep hb rI
  replace hOs := hOs.keep hb
  replace hOva := hOva.keep hb
  replace hw := Below.after hw hb
  have sz_w3 := hb.size
  clear hb
  replace hOs := hOs.snoc hOvb lA.out sz_w3
  simp only [List.nil_append, List.cons_append] at hOs
  go_wp2_with (fail)
  have cX := rA.out w3 _ (hDh.out _ hw) hcap.out
  refine cX.mono ?_
  rintro e_ w4 ⟨vx, rfl, hOvx, hb⟩
  clear cX
  obtain ⟨avx, cvx, rfl⟩ := slen_own hOvx
  replace rI := keep hb rI
  replace hOs := hOs.keep hb
  replace hOva := hOva.keep hb
  replace hOvb := hOvb.keep hb
  replace hw := Below.after hw hb
  have sz_w4 := hb.size
  clear hb
  have dec1 : (decide (LA = LA)) = true := decide_eq_true rfl
  go_wp2_with (fail)
  have cX := sB_same LA LA w4 _ _ hOva.bys hOvx.bys
  refine cX.mono ?_
  rintro e_ w5 ⟨rfl, hb⟩
  clear cX
  replace rI := keep hb rI
  replace hOs := hOs.keep hb
  replace hOva := hOva.keep hb
  replace hOvb := hOvb.keep hb
  replace hOvx := hOvx.keep hb
  replace hw := Below.after hw hb
  have sz_w5 := hb.size
  clear hb
  go_wp2_with (fail)
  have cX := sB_same LA LA w5 _ _ hOvb.bys hOvx.bys
  refine cX.mono ?_
  rintro e_ w6 ⟨rfl, hb⟩
  clear cX
  replace rI := keep hb rI
  replace hOs := hOs.keep hb
  replace hOva := hOva.keep hb
  replace hOvb := hOvb.keep hb
  replace hOvx := hOvx.keep hb
  replace hw := Below.after hw hb
  have sz_w6 := hb.size
  clear hb
  clear hOvx dec1 sIn
  go_wp2_with (fail)
  have hba : Below w6.heap.size w6 (w6.alloc (.cells #[.slice ava LA.length cva, .slice avb LA.length cvb] 26)) := (Below.refl _ _).alloc (Nat.le_refl _) _
  replace rI := keep hba rI
  replace hOs := hOs.keep hba
  replace hw := Below.after hw hba
  clear hba
  have hgl : (w6.alloc (.cells #[.slice ava LA.length cva, .slice avb LA.length cvb] 26)).heap[w6.heap.size]? = some (.cells (([(.slice ava LA.length cva, LA), (.slice avb LA.length cvb, LA)] : List (Value × List B)).map Prod.fst).toArray 26 (0, 0)) := hp1_0 w6 _
  have cX := s_aparts _ lo _ w6.heap.size (w6.alloc (.cells #[.slice ava LA.length cva, .slice avb LA.length cvb] 26)) hOs (by omega) (by simp) hgl
  refine cX.mono ?_
  rintro e_ w7 ⟨rfl, hb⟩
  clear cX hgl hOs hOva hOvb
  replace rI : w7.heap[w.heap.size]? = _ := (hb.block _ klo).trans rI
  replace hw := hw.trans (hb.mono (by omega))
  clear hb
  go_wp2_with (fail)
  have cX := sB_left d w.heap.size w7 _ (hDh.out _ hw) rI
  refine cX.mono ?_
  rintro e_ w8 ⟨rfl, hb⟩
  clear cX
  replace rI := keep hb rI
  replace hw := Below.after hw hb
  have sz_w8 := hb.size
  clear hb
  go_wp2_with (fail)
  have cX := sB_turned d w.heap.size w8 _ (hDh.out _ hw) rI
  refine cX.mono ?_
  rintro e_ w9 ⟨rfl, rT_, rI2, hgr⟩
  clear cX
  replace hw := hw.grown hgr hw.size (fun k h => by injection h with h; omega)
  clear hgr rI
  have rI := rI2
  clear rI2
  generalize w8.heap.size = gT at *
  have sIn := slice_to (some ⟨w.heap.size, 0, none⟩) (d.length + 80) (d.length + 80) d.length (by omega)
  go_wp2_with (fail)
  have cX := pT.out w9 (.slice (some ⟨w.heap.size, 0, none⟩) d.length (d.length + 80)) (head_bysB rI List.length_reverse hDl _) (fun a l c h => by cases h; omega)
  refine cX.mono ?_
  rintro e_ w10 ⟨vp, rfl, hOvp, hb⟩
  clear cX
  obtain ⟨avp, cvp, rfl⟩ := slen_own hOvp
  replace rI := keep hb rI
  replace rT_ := keep hb rT_
  replace hw := Below.after hw hb
  have sz_w10 := hb.size
  clear hb
  go_wp2_with (fail)
  have cX := rT.out w10 (.slice (some ⟨gT, 0, none⟩) d.length d.length) (row_bysB rT_ List.length_reverse hDl _) (fun a l c h => by cases h; exact Nat.le_refl _)
  refine cX.mono ?_
  rintro e_ w11 ⟨vq, rfl, hOvq, hb⟩
  clear cX
  obtain ⟨avq, cvq, rfl⟩ := slen_own hOvq
  replace rI := keep hb rI
  replace rT_ := keep hb rT_
  replace hOvp := hOvp.keep hb
  replace hw := Below.after hw hb
  have sz_w11 := hb.size
  clear hb
  have dec3 : (decide (LT = LT)) = true := decide_eq_true rfl
  go_wp2_with (fail)
  have cX := sB_same LT LT w11 _ _ hOvp.bys hOvq.bys
  refine cX.mono ?_
  rintro e_ w12 ⟨rfl, hb⟩
  clear cX
  replace rI := keep hb rI
  replace rT_ := keep hb rT_
  replace hOvp := hOvp.keep hb
  replace hOvq := hOvq.keep hb
  replace hw := Below.after hw hb
  have sz_w12 := hb.size
  clear hb
  go_wp2
  go_ret
  exact ⟨rfl, hw⟩
end Go.Proofs.Ytmiljapieehmgaa
