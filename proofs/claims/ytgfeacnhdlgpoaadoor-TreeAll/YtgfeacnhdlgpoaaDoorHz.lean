import Derived.Test.YtgfeacnhdlgpoaaDoorProg
import Derived.WalkKit
import Derived.WalkSpells
import Derived.WalkLawsBesides
import Derived.Lib.QuietBelow
import Derived.BigQuiet
import Derived.Test.YtgfeacnhdlgpoaaDoorKa
import Derived.Test.YtgfeacnhdlgpoaaDoorHy
namespace Go.Proofs.YtgfeacnhdlgpoaaDoor
set_option maxRecDepth 100000
open Go Go.RowKit Go.Sort
attribute [local go_sem] setCell_drewN alloc_drewN

theorem zH (W : World) : (Instr.alloc 106 true (.tuple #[])).run Tryd.prog W = .ok (.pointer (some ⟨W.heap.size, 0, none⟩)) (W.alloc (.cells (hcells (zr 8) (zr 64) 0) 106)) := by kernel_rfl
theorem bH (cs : Array Value) (W : World) : (Instr.box 106 (.agg cs)).run Tryd.prog W = .ok (.pointer (some ⟨W.heap.size, 0, none⟩)) (W.alloc (.cells cs 106)) := by kernel_rfl
theorem nbuilt : Tryd.prog.built 106 [(0, .agg (irow .u32 sl))] = some (hst []) := by kernel_rfl
theorem infoH (ws ps : List Int) (sz : Int) (h1 : ws.length = 8) (h2 : ps.length = 64) : (Tryd.prog.info? 106).map (·.size) = some (hcells ws ps sz).size := by
  rw [hcells_size _ _ _ h1 h2]; kernel_rfl
theorem infoS (bs : List Int) : (Tryd.prog.info? 106).map (·.size) = some (hst bs).size := infoH _ _ _ (hwords_len bs) (hpart_len bs)
theorem fitS (bs : List Int) : (hcells (zr 8) (zr 64) 0).size = (hst bs).size := by
  rw [hcells_size _ _ _ (zr_len 8) (zr_len 64), hst, hcells_size _ _ _ (hwords_len bs) (hpart_len bs)]
theorem fitSS (a b : List Int) : (hst a).size = (hst b).size := (fitS a).symm.trans (fitS b)
set_option maxRecDepth 100000 in
set_option maxHeartbeats 2000000 in
theorem a_new (w : World) (hS : Sta w) : Calls Tryd.prog 46 #[] w fun e w' => e = .returned (.pointer (some ⟨w.heap.size, 0, none⟩)) ∧ w'.heap[w.heap.size]? = some (.cells (hst []) 106 (0, 0)) ∧ Below w.heap.size w w' := by
  obtain ⟨t, fr, h⟩ := hS
  have R0 := hp1_0 w (.cells (hst []) 106)
  have HW : Below w.heap.size w (w.alloc (.cells (hst []) 106)) := (Below.refl _ _).alloc (Nat.le_refl _) _
  go_enter Tryd.func46, Tryd.ntmps46
  go_wp2_with (first | (refine wpList_load_want rfl 99 _ rfl 0 rfl t (irow .u32 sl) fr _ h Tryd.underlying99 rfl (info23 sl rfl) ?_) | (refine wpList_build_as rfl 106 _ rfl [(0, .agg (irow .u32 sl))] rfl (hst []) nbuilt ?_) | (refine wpList_box rfl 106 _ rfl _ rfl (bH _) ?_) | fail)
  go_ret
  exact ⟨rfl, R0, HW⟩
theorem sumW_eq (bs : List Int) : hwords (bs ++ padL bs.length) = sumW bs := rfl
set_option maxRecDepth 100000 in
set_option maxHeartbeats 4000000 in
theorem a_hsum (bs : List Int) (g : Nat) (w : World) (hK : Kon w) (rH : w.heap[g]? = some (.cells (hst bs) 106 (0, 0))) (hz : ∀ z ∈ bs, 0 ≤ z ∧ z < 256) (hlim : bs.length ≤ 4611686018427387000) : Calls Tryd.prog 48 #[.pointer (some ⟨g, 0, none⟩)] w fun e w' => e = .returned (.agg (irow .u8 (sumL bs))) ∧ Below w.heap.size w w' := by
  have lg := lt_of_row rH
  have hpb := plen_bd bs.length
  have hpl := padL_len bs.length
  have r0 := hp2_0 w (.cells (irow .u8 (zr 32)) 24) (.cells (hst bs) 106)
  have r1 := hp2_1 w (.cells (irow .u8 (zr 32)) 24) (.cells (hst bs) 106)
  have hw : Below w.heap.size w ((w.alloc (.cells (irow .u8 (zr 32)) 24)).alloc (.cells (hst bs) 106)) := ((Below.refl _ _).alloc (Nat.le_refl _) _).alloc (by simp) _
  have rH0 : (w.alloc (.cells (irow .u8 (zr 32)) 24)).heap[g]? = some (.cells (hst bs) 106 (0, 0)) := keep ((Below.refl _ _).alloc (Nat.le_refl _) _) rH
  have csz := cell_of (keep hw rH) (hcells_at _ _ _ (hwords_len bs) (hpart_len bs))
  have f4 := hK.below hw
  have hk1 := hK.sz
  have cP := a_pad bs.length (by omega)
  go_enter Tryd.func48, Tryd.ntmps48
  go_wp2_with (first | (refine wpList_alloc rfl 24 rfl (irow .u8 (zr 32)) zkey ?_) | (refine wpList_load_want rfl 106 _ rfl g rfl 106 (hst bs) (0, 0) _ rH0 Tryd.underlying106 rfl (infoS _) ?_) | (refine wpList_alloc rfl 106 rfl (hcells (zr 8) (zr 64) 0) zH ?_) | (refine wpList_store_row rfl 106 _ _ rfl ((w.alloc (.cells (irow .u8 (zr 32)) 24)).heap.size) (hst bs) rfl rfl 106 _ (hp1_0 (w.alloc (.cells (irow .u8 (zr 32)) 24)) _) (infoS _) (fitS _) (hcells_one _ _ _) ?_; rw [setRow_alloc_new _ _ _ _ _ _ rfl]) | fail)
  try simp only [size_alloc1, Act.put, List.setIfInBounds_toArray, List.set_cons_succ, List.set_cons_zero]
  have ysz : ((w.alloc (.cells (irow .u8 (zr 32)) 24)).alloc (.cells (hst bs) 106)).heap.size = w.heap.size + 1 + 1 := by rw [size_alloc1, size_alloc1]
  generalize ((w.alloc (.cells (irow .u8 (zr 32)) 24)).alloc (.cells (hst bs) 106)) = w0 at *
  refine (cP w0).mono ?_
  rintro e_ w1 ⟨vp, gp, rfl, rfl, hgp, rp, hb⟩
  replace r0 := keep hb r0
  replace r1 := keep hb r1
  replace f4 := f4.below hb
  replace hw := Below.after hw hb
  clear hb csz rH0 cP
  have hBp : Bys w1 (.slice (some ⟨gp, 0, none⟩) (plen bs.length) (plen bs.length)) (padL bs.length) := by rw [← hpl]; exact Bys.of_row rp (by omega) (padL_bd _) _
  have cW := a_write bs (padL bs.length) (w.heap.size + 1) w1 _ r1 hBp (fun a l c h _ => by cases h; show gp ≠ w.heap.size + 1; omega) (fun a l c h => by cases h; exact Nat.le_refl _) (by omega) f4 hz (by rw [hpl]; omega)
  go_wp2_with (fail)
  refine cW.mono ?_
  rintro e_ w2 ⟨rfl, r2, hgr⟩
  have l0 := lt_of_row r0
  replace r0 : w2.heap[w.heap.size]? = _ := (hgr.block _ l0 (by intro e; injection e with e; omega)).trans r0
  replace hw := hw.grown hgr hw.size (fun k h => by injection h with h; omega)
  clear hgr cW r1 hBp rp f4
  have hW8 := sumW_len bs
  have hWb := sumW_bd bs
  have hSl := sumL_len bs
  have cT := a_told (sumW bs) hW8 hWb
  rw [show byts (sumW bs) = sumL bs from rfl] at cT
  rw [hst, sumW_eq] at r2
  have hq64 := hpart_len (bs ++ padL bs.length)
  generalize hpart (bs ++ padL bs.length) = PS at *
  generalize (((bs ++ padL bs.length).length : Nat) : Int) = SZ at *
  generalize sumW bs = SW at *
  have hpw : (hcells SW PS SZ).extract 0 (0 + (irow .u32 SW).size) = irow .u32 SW := by rw [irow_size, hW8]; exact hcells_words _ _ _ hW8
  clear hWb hpl hpb
  go_wp2_with (first | (refine wpList_load_part rfl 99 _ rfl (w.heap.size + 1) 0 rfl 106 (hcells SW PS SZ) (0, 0) (irow .u32 SW) _ r2 hpw Tryd.underlying99 rfl (info23 _ hW8) ?_) | fail)
  refine (cT.at _).mono ?_
  rintro e_ w3 ⟨rfl, hb⟩
  replace r0 := keep hb r0
  replace hw := Below.after hw hb
  clear hb cT
  go_wp2_with (first | (refine wpList_store_row rfl 24 _ _ rfl (w.heap.size) (irow .u8 (sumL bs)) rfl rfl 24 _ r0 (infok8 _ hSl) (fit32 _ _ (zr_len 32) hSl) (irow_one _ _) ?_) | fail)
  replace r0 := setRow_heap w3 (w.heap.size) _ (irow .u8 (sumL bs)) _ _ r0
  replace hw := below_setRow hw (Nat.le_refl _) (irow .u8 (sumL bs))
  generalize w3.setRow (w.heap.size) (irow .u8 (sumL bs)) = w9 at *
  exact bodyPost_ret (v := .agg (irow .u8 (sumL bs))) (results_cell_row Tryd.results48 _ _ (w.heap.size) _ _ _ _ rfl r0 Tryd.underlying24 rfl (infok8 _ hSl)) rfl ⟨rfl, hw⟩
set_option maxRecDepth 100000 in
set_option maxHeartbeats 4000000 in
theorem a_sum (bs : List Int) (w : World) (v : Value) (hS : Sta w) (hK : Kon w) (hB : Bys w v bs) (hcap : ∀ a l c, v = .slice a l c → l ≤ c) (hlim : bs.length ≤ 4611686018427387000) : Calls Tryd.prog 21 #[v] w fun e w' => e = .returned (.agg (irow .u8 (sumL bs))) ∧ Below w.heap.size w w' := by
  have r0 := hp1_0 w (.cells (irow .u8 (zr 32)) 24)
  have hw : Below w.heap.size w (w.alloc (.cells (irow .u8 (zr 32)) 24)) := (Below.refl _ _).alloc (Nat.le_refl _) _
  have f0 := hS.below hw
  have f4 := hK.below hw
  have hk1 := hK.sz
  have hB0 := hB.keep hw
  obtain ⟨ao, cap, rfl, _, hc, hz⟩ := hB
  replace hcap := hcap _ _ _ rfl
  have hSl := sumL_len bs
  have hne : ∀ a, ao = some a → 0 < bs.length → a.block < w.heap.size := by
    rintro a rfl hl
    obtain ⟨b0, off, e, hb, _⟩ := hc 0 hl
    cases e
    exact hb
  clear hc
  go_enter Tryd.func21, Tryd.ntmps21
  go_wp2_with (first | (refine wpList_alloc rfl 24 rfl (irow .u8 (zr 32)) zkey ?_) | fail)
  try simp only [size_alloc1, Act.put, List.setIfInBounds_toArray, List.set_cons_succ, List.set_cons_zero]
  have ysz : (w.alloc (.cells (irow .u8 (zr 32)) 24)).heap.size = w.heap.size + 1 := size_alloc1 _ _
  generalize (w.alloc (.cells (irow .u8 (zr 32)) 24)) = w0 at *
  refine (a_new w0 f0).mono ?_
  rintro e_ w1 ⟨rfl, r1, hb⟩
  replace r0 := keep hb r0
  replace hB0 := hB0.keep hb
  replace f4 := f4.below hb
  replace hw := Below.after hw hb
  clear hb f0
  rw [ysz] at r1 ⊢
  clear ysz
  have cW := a_write [] bs (w.heap.size + 1) w1 _ r1 hB0 (fun a l c h hl => by cases h; have := hne a rfl hl; omega) (fun a l c h => by cases h; exact hcap) (by omega) f4 (by simp) (by simp; omega)
  rw [List.nil_append] at cW
  go_wp2_with (fail)
  refine cW.mono ?_
  rintro e_ w2 ⟨rfl, r2, hgr⟩
  have l0 := lt_of_row r0
  replace r0 : w2.heap[w.heap.size]? = _ := (hgr.block _ l0 (by intro e; injection e with e; omega)).trans r0
  replace f4 := f4.grown hgr (by omega)
  replace hw := hw.grown hgr hw.size (fun k h => by injection h with h; omega)
  clear hgr cW r1
  have cS := a_hsum bs (w.heap.size + 1) w2 f4 r2 hz hlim
  go_wp2_with (fail)
  refine cS.mono ?_
  rintro e_ w3 ⟨rfl, hb⟩
  replace r0 := keep hb r0
  replace hw := Below.after hw hb
  clear hb cS
  go_wp2_with (first | (refine wpList_store_row rfl 24 _ _ rfl (w.heap.size) (irow .u8 (sumL bs)) rfl rfl 24 _ r0 (infok8 _ hSl) (fit32 _ _ (zr_len 32) hSl) (irow_one _ _) ?_) | fail)
  replace r0 := setRow_heap w3 (w.heap.size) _ (irow .u8 (sumL bs)) _ _ r0
  replace hw := below_setRow hw (Nat.le_refl _) (irow .u8 (sumL bs))
  generalize w3.setRow (w.heap.size) (irow .u8 (sumL bs)) = w9 at *
  exact bodyPost_ret (v := .agg (irow .u8 (sumL bs))) (results_cell_row Tryd.results21 _ _ (w.heap.size) _ _ _ _ rfl r0 Tryd.underlying24 rfl (infok8 _ hSl)) rfl ⟨rfl, hw⟩

end Go.Proofs.YtgfeacnhdlgpoaaDoor

