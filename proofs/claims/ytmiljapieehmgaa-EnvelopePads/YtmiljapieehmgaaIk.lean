import Derived.Test.YtmiljapieehmgaaProg
import Derived.WalkKit
import Derived.WalkSpells
import Derived.WalkLawsBesides
import Derived.Lib.QuietBelow
import Derived.Laws.BitsAllLaws
import Derived.BigQuiet
import Derived.WalkMore
import Derived.Lib.SlBytesConst
import Derived.Test.YtmiljapieehmgaaKit
import Derived.Test.YtmiljapieehmgaaIj
namespace Go.Proofs.Ytmiljapieehmgaa
open Go Go.RowKit Go.Sort
attribute [local go_sem] setCell_drewN alloc_drewN
theorem pdr_len (v : Nat) (d : List B) : (pdr v d).length ≤ 2097160 := by
  unfold pdr
  split
  · rename_i h
    obtain ⟨_, q1, q2⟩ := bke_ok h
    have h1 := bkd_bd v (d.length : Int) q1 q2
    rw [Int.toNat_natCast] at h1
    rw [pdb_len _ _ (bkd_ge (dg v) (4 + d.length) (dg_pos v) (dg_le v))]
    exact h1
  · exact Nat.zero_le _
theorem wrap_1 : IntKind.wrap .u64 1 = ((1 : Nat) : Int) := rfl
set_option maxRecDepth 100000 in
set_option maxHeartbeats 4000000 in
/-- P10.3: every Pad. -/
theorem pads_any (ver : Int) (h1 : -9223372036854775808 ≤ ver) (h2 : ver ≤ 9223372036854775807) (d : List B) (w : World) (dv : Value) (hD : BysB w dv d) : Calls Try.prog 4 #[.int .i64 ver, dv] w fun e w' => e = .returned (.bool true) ∧ Below w.heap.size w w' := by
  obtain ⟨v, hv, hv2⟩ := ver_nat ver
  obtain ⟨LA, eLA⟩ : ∃ L, pdr v d = L := ⟨_, rfl⟩
  obtain ⟨LO, eLO⟩ : ∃ L, pdr 1 [111#8, 116#8, 104#8, 101#8, 114#8] = L := ⟨_, rfl⟩
  obtain ⟨LT, eLT⟩ : ∃ L, pdr v d.reverse = L := ⟨_, rfl⟩
  have lA : Hid (LA.length ≤ 140737488350000) := hide (by have := pdr_len v d; rw [eLA] at this; omega)
  have lO : Hid (LO.length ≤ 140737488350000) := hide (by have := pdr_len 1 [111#8, 116#8, 104#8, 101#8, 114#8]; rw [eLO] at this; omega)
  obtain ⟨eA, heA⟩ : ∃ z, bke v (d.length : Int) = z := ⟨_, rfl⟩
  obtain ⟨eO, heO⟩ : ∃ z, bke 1 (([111#8, 116#8, 104#8, 101#8, 114#8] : List B).length : Int) = z := ⟨_, rfl⟩
  replace eLA := hide eLA
  replace eLO := hide eLO
  replace eLT := hide eLT
  replace heA := hide heA
  replace heO := hide heO
  have pA := hide (fun (W : World) (u : Value) (h : BysB W u d) => a_Pad ver v hv hv2 d W u h)
  have pO := hide (fun (W : World) (u : Value) (h : BysB W u [111#8, 116#8, 104#8, 101#8, 114#8]) => a_Pad 1 1 wrap_1 (by decide) [111#8, 116#8, 104#8, 101#8, 114#8] W u h)
  have pT := hide (fun (W : World) (u : Value) (h : BysB W u d.reverse) => a_Pad ver v hv hv2 d.reverse W u h)
  have rA := hide (fun (W : World) (u : Value) (h : BysB W u d) => r_Pad ver v hv h1 h2 d W u h)
  have rO := hide (fun (W : World) (u : Value) (h : BysB W u [111#8, 116#8, 104#8, 101#8, 114#8]) => r_Pad 1 1 wrap_1 (by decide) (by decide) [111#8, 116#8, 104#8, 101#8, 114#8] W u h)
  have rT := hide (fun (W : World) (u : Value) (h : BysB W u d.reverse) => r_Pad ver v hv h1 h2 d.reverse W u h)
  rw [eLA.out, heA.out] at pA rA
  rw [eLO.out, heO.out] at pO rO
  rw [eLT.out, List.length_reverse, heA.out] at pT rT
  clear hv hv2
  have hDh := hide (fun V (h : Below w.heap.size w V) => hD.keep h)
  have hDl := hD.2.1
  obtain ⟨dao, dcap, rfl⟩ := hD.form
  have hw : Below w.heap.size w w := Below.refl _ _
  clear hD
  go_enter Try.func4, Try.ntmps4
  go_wp2_with (fail)
  have cX := sB_hand d w _ (hDh.out _ hw)
  refine cX.mono ?_
  rintro e_ w1 ⟨rfl, rI, hb⟩
  clear cX
  replace hw := Below.after hw hb
  have sz_w1 := hb.size
  clear hb
  have sIn := slice_to (some ⟨w.heap.size, 0, none⟩) (d.length + 80) (d.length + 80) d.length (by omega)
  have lgI := lt_of_row rI
  obtain ⟨lo, elo⟩ : ∃ n, n = w1.heap.size := ⟨_, rfl⟩
  have klo : w.heap.size < lo := by omega
  have hOs : Owns w1 lo [] w1.heap.size := by rw [elo]; exact Nat.le_refl _
  replace elo := hide elo
  go_wp2_with (fail)
  have cX := pA.out w1 (.slice (some ⟨w.heap.size, 0, none⟩) d.length (d.length + 80)) (head_bysB rI rfl hDl _)
  refine cX.mono ?_
  rintro e_ w2 ⟨va, rfl, hOva, hb⟩
  clear cX
  obtain ⟨ava, cva, rfl⟩ := slen_own hOva
  replace rI := keep hb rI
  replace hOs := hOs.keep hb
  replace hw := Below.after hw hb
  have sz_w2 := hb.size
  clear hb
  replace hOs := hOs.snoc hOva lA.out sz_w2
  simp only [List.nil_append] at hOs
  have kc := fun (W : World) (C : Array Value) (n c : Nat) => Go.Lib.run_convert_bytes_const (P := Try.prog) W 26 5 C n c Try.underlying26 Try.underlying5
  go_wp2_with (fail)
  have hba : Below w2.heap.size w2 (w2.alloc (.cells #[.int .u8 111, .int .u8 116, .int .u8 104, .int .u8 101, .int .u8 114] 5 (5, 6))) := (Below.refl _ _).alloc (Nat.le_refl _) _
  have hBo := oth_bys w2
  replace rI := keep hba rI
  replace hOs := hOs.keep hba
  replace hOva := hOva.keep hba
  replace hw := Below.after hw hba
  have szo_w3 := hba.size
  clear hba
  have cX := pO.out (w2.alloc (.cells #[.int .u8 111, .int .u8 116, .int .u8 104, .int .u8 101, .int .u8 114] 5 (5, 6))) _ hBo
  refine cX.mono ?_
  rintro e_ w3 ⟨vo, rfl, hOvo, hb⟩
  clear cX hBo
  obtain ⟨avo, cvo, rfl⟩ := slen_own hOvo
  have hOd := own_down hOvo szo_w3
  replace rI := keep hb rI
  replace hOs := hOs.keep hb
  replace hOva := hOva.keep hb
  replace hw := Below.after hw hb
  have sz_w3 := hb.size
  clear hb
  replace hOs := hOs.snoc hOd lO.out (by omega)
  clear hOd
  simp only [List.nil_append, List.cons_append] at hOs
  go_wp2_with (fail)
  have cX := pA.out w3 (.slice (some ⟨w.heap.size, 0, none⟩) d.length (d.length + 80)) (head_bysB rI rfl hDl _)
  refine cX.mono ?_
  rintro e_ w4 ⟨vb, rfl, hOvb, hb⟩
  clear cX
  obtain ⟨avb, cvb, rfl⟩ := slen_own hOvb
  replace rI := keep hb rI
  replace hOs := hOs.keep hb
  replace hOva := hOva.keep hb
  replace hOvo := hOvo.keep hb
  replace hw := Below.after hw hb
  have sz_w4 := hb.size
  clear hb
  replace hOs := hOs.snoc hOvb lA.out sz_w4
  simp only [List.nil_append, List.cons_append] at hOs
  go_wp2_with (fail)
  have cX := rA.out w4 _ (hDh.out _ hw)
  refine cX.mono ?_
  rintro e_ w5 ⟨vx, rfl, hOvx, hb⟩
  clear cX
  obtain ⟨avx, cvx, rfl⟩ := slen_own hOvx
  replace rI := keep hb rI
  replace hOs := hOs.keep hb
  replace hOva := hOva.keep hb
  replace hOvo := hOvo.keep hb
  replace hOvb := hOvb.keep hb
  replace hw := Below.after hw hb
  have sz_w5 := hb.size
  clear hb
  go_wp2_with (fail)
  have hba : Below w5.heap.size w5 (w5.alloc (.cells #[.int .u8 111, .int .u8 116, .int .u8 104, .int .u8 101, .int .u8 114] 5 (5, 6))) := (Below.refl _ _).alloc (Nat.le_refl _) _
  have hBo := oth_bys w5
  replace rI := keep hba rI
  replace hOs := hOs.keep hba
  replace hOva := hOva.keep hba
  replace hOvo := hOvo.keep hba
  replace hOvb := hOvb.keep hba
  replace hOvx := hOvx.keep hba
  replace hw := Below.after hw hba
  have szo_w6 := hba.size
  clear hba
  have cX := rO.out (w5.alloc (.cells #[.int .u8 111, .int .u8 116, .int .u8 104, .int .u8 101, .int .u8 114] 5 (5, 6))) _ hBo
  refine cX.mono ?_
  rintro e_ w6 ⟨vy, rfl, hOvy, hb⟩
  clear cX hBo
  obtain ⟨avy, cvy, rfl⟩ := slen_own hOvy
  replace rI := keep hb rI
  replace hOs := hOs.keep hb
  replace hOva := hOva.keep hb
  replace hOvo := hOvo.keep hb
  replace hOvb := hOvb.keep hb
  replace hOvx := hOvx.keep hb
  replace hw := Below.after hw hb
  have sz_w6 := hb.size
  clear hb
  have dec1 : (decide (LA = LA)) = true := decide_eq_true rfl
  have dec2 : (decide (LO = LO)) = true := decide_eq_true rfl
  go_wp2_with (fail)
  have cX := sB_same LA LA w6 _ _ hOva.bys hOvx.bys
  refine cX.mono ?_
  rintro e_ w7 ⟨rfl, hb⟩
  clear cX
  replace rI := keep hb rI
  replace hOs := hOs.keep hb
  replace hOva := hOva.keep hb
  replace hOvo := hOvo.keep hb
  replace hOvb := hOvb.keep hb
  replace hOvx := hOvx.keep hb
  replace hOvy := hOvy.keep hb
  replace hw := Below.after hw hb
  have sz_w7 := hb.size
  clear hb
  go_wp2_with (fail)
  have cX := sB_same LA LA w7 _ _ hOvb.bys hOvx.bys
  refine cX.mono ?_
  rintro e_ w8 ⟨rfl, hb⟩
  clear cX
  replace rI := keep hb rI
  replace hOs := hOs.keep hb
  replace hOva := hOva.keep hb
  replace hOvo := hOvo.keep hb
  replace hOvb := hOvb.keep hb
  replace hOvx := hOvx.keep hb
  replace hOvy := hOvy.keep hb
  replace hw := Below.after hw hb
  have sz_w8 := hb.size
  clear hb
  go_wp2_with (fail)
  have cX := sB_same LO LO w8 _ _ hOvo.bys hOvy.bys
  refine cX.mono ?_
  rintro e_ w9 ⟨rfl, hb⟩
  clear cX
  replace rI := keep hb rI
  replace hOs := hOs.keep hb
  replace hOva := hOva.keep hb
  replace hOvo := hOvo.keep hb
  replace hOvb := hOvb.keep hb
  replace hOvx := hOvx.keep hb
  replace hOvy := hOvy.keep hb
  replace hw := Below.after hw hb
  have sz_w9 := hb.size
  clear hb
  clear hOvx hOvy dec1 dec2 kc sIn
  go_wp2_with (fail)
  have hba : Below w9.heap.size w9 (w9.alloc (.cells #[.slice ava LA.length cva, .slice avo LO.length cvo, .slice avb LA.length cvb] 26)) := (Below.refl _ _).alloc (Nat.le_refl _) _
  replace rI := keep hba rI
  replace hOs := hOs.keep hba
  replace hw := Below.after hw hba
  clear hba
  have hgl : (w9.alloc (.cells #[.slice ava LA.length cva, .slice avo LO.length cvo, .slice avb LA.length cvb] 26)).heap[w9.heap.size]? = some (.cells (([(.slice ava LA.length cva, LA), (.slice avo LO.length cvo, LO), (.slice avb LA.length cvb, LA)] : List (Value × List B)).map Prod.fst).toArray 26 (0, 0)) := hp1_0 w9 _
  have cX := s_aparts _ lo _ w9.heap.size (w9.alloc (.cells #[.slice ava LA.length cva, .slice avo LO.length cvo, .slice avb LA.length cvb] 26)) hOs (by omega) (by simp) hgl
  refine cX.mono ?_
  rintro e_ w10 ⟨rfl, hb⟩
  clear cX hgl hOs hOva hOvo hOvb
  replace rI : w10.heap[w.heap.size]? = _ := (hb.block _ klo).trans rI
  replace hw := hw.trans (hb.mono (by omega))
  clear hb
  go_wp2_with (fail)
  have cX := sB_left d w.heap.size w10 _ (hDh.out _ hw) rI
  refine cX.mono ?_
  rintro e_ w11 ⟨rfl, hb⟩
  clear cX
  replace rI := keep hb rI
  replace hw := Below.after hw hb
  have sz_w11 := hb.size
  clear hb
  go_wp2_with (fail)
  have cX := sB_turned d w.heap.size w11 _ (hDh.out _ hw) rI
  refine cX.mono ?_
  rintro e_ w12 ⟨rfl, rT_, rI2, hgr⟩
  clear cX
  replace hw := hw.grown hgr hw.size (fun k h => by injection h with h; omega)
  clear hgr rI
  have rI := rI2
  clear rI2
  generalize w11.heap.size = gT at *
  have sIn := slice_to (some ⟨w.heap.size, 0, none⟩) (d.length + 80) (d.length + 80) d.length (by omega)
  go_wp2_with (fail)
  have cX := pT.out w12 (.slice (some ⟨w.heap.size, 0, none⟩) d.length (d.length + 80)) (head_bysB rI List.length_reverse hDl _)
  refine cX.mono ?_
  rintro e_ w13 ⟨vp, rfl, hOvp, hb⟩
  clear cX
  obtain ⟨avp, cvp, rfl⟩ := slen_own hOvp
  replace rI := keep hb rI
  replace rT_ := keep hb rT_
  replace hw := Below.after hw hb
  have sz_w13 := hb.size
  clear hb
  go_wp2_with (fail)
  have cX := rT.out w13 (.slice (some ⟨gT, 0, none⟩) d.length d.length) (row_bysB rT_ List.length_reverse hDl _)
  refine cX.mono ?_
  rintro e_ w14 ⟨vq, rfl, hOvq, hb⟩
  clear cX
  obtain ⟨avq, cvq, rfl⟩ := slen_own hOvq
  replace rI := keep hb rI
  replace rT_ := keep hb rT_
  replace hOvp := hOvp.keep hb
  replace hw := Below.after hw hb
  have sz_w14 := hb.size
  clear hb
  have dec3 : (decide (LT = LT)) = true := decide_eq_true rfl
  go_wp2_with (fail)
  have cX := sB_same LT LT w14 _ _ hOvp.bys hOvq.bys
  refine cX.mono ?_
  rintro e_ w15 ⟨rfl, hb⟩
  clear cX
  replace rI := keep hb rI
  replace rT_ := keep hb rT_
  replace hOvp := hOvp.keep hb
  replace hOvq := hOvq.keep hb
  replace hw := Below.after hw hb
  have sz_w15 := hb.size
  clear hb
  go_wp2
  go_ret
  exact ⟨rfl, hw⟩
end Go.Proofs.Ytmiljapieehmgaa
