import Derived.Test.YtilgicikcjcdjaaDoorProg
import Derived.WalkKit
import Derived.WalkSpells
import Derived.WalkLawsBesides
import Derived.Lib.QuietBelow
import Derived.BigQuiet
import Derived.Test.YtilgicikcjcdjaaDoorS0
import Derived.Test.YtilgicikcjcdjaaDoorS2
import Derived.Deep.RegionLaw
import Derived.Deep.RegionHeld3
namespace Go.Proofs.YtilgicikcjcdjaaDoor
set_option maxRecDepth 100000
open Go Go.RowKit Go.Sort
attribute [local go_sem] setCell_drewN alloc_drewN

set_option maxRecDepth 100000 in
set_option maxHeartbeats 4000000 in
theorem a_hsumR (R : List Value) (t : TypeId) (bs : List Int) (g : Nat) (w : World) (hK : Kon w) (rH : w.heap[g]? = some (.cells (hsx R bs) t (0, 0))) (hz : ∀ z ∈ bs, 0 ≤ z ∧ z < 256) (hlim : bs.length ≤ 4611686018427387000) : Calls Tryd.prog 41 #[.pointer (some ⟨g, 0, none⟩)] w fun e w' => e = .returned (.agg (irow .u8 (sumL bs))) ∧ Below w.heap.size w w' := by
  have lg := lt_of_row rH
  have hpH : (hsx R bs).extract 0 (0 + (hst bs).size) = hst bs := hcx_whole R _ _ _ (hwords_len bs) (hpart_len bs)
  have hpb := plen_bd bs.length
  have hpl := padL_len bs.length
  have r0 := hp2_0 w (.cells (irow .u8 (zr 32)) 26) (.cells (hst bs) 80)
  have r1 := hp2_1 w (.cells (irow .u8 (zr 32)) 26) (.cells (hst bs) 80)
  have hw : Below w.heap.size w ((w.alloc (.cells (irow .u8 (zr 32)) 26)).alloc (.cells (hst bs) 80)) := ((Below.refl _ _).alloc (Nat.le_refl _) _).alloc (by simp) _
  have rH0 : (w.alloc (.cells (irow .u8 (zr 32)) 26)).heap[g]? = some (.cells (hsx R bs) t (0, 0)) := keep ((Below.refl _ _).alloc (Nat.le_refl _) _) rH
  have csz := cell_of (keep hw rH) (hcx_at R _ _ _ (hwords_len bs) (hpart_len bs))
  have f4 := hK.below hw
  have hk1 := hK.sz
  have cP := a_pad bs.length (by omega)
  go_enter Tryd.func41, Tryd.ntmps41
  go_wp2_with (first | (refine wpList_alloc rfl 26 rfl (irow .u8 (zr 32)) zkey ?_) | (refine wpList_load_part rfl 80 _ rfl g 0 rfl t (hsx R bs) (0, 0) (hst bs) _ rH0 hpH Tryd.underlying80 rfl (infoS _) ?_) | (refine wpList_alloc rfl 80 rfl (hcells (zr 8) (zr 64) 0) zH ?_) | (refine wpList_store_row rfl 80 _ _ rfl ((w.alloc (.cells (irow .u8 (zr 32)) 26)).heap.size) (hst bs) rfl rfl 80 _ (hp1_0 (w.alloc (.cells (irow .u8 (zr 32)) 26)) _) (infoS _) (fitS _) (hcells_one _ _ _) ?_; rw [setRow_alloc_new _ _ _ _ _ _ rfl]) | fail)
  try simp only [size_alloc1, Act.put, List.setIfInBounds_toArray, List.set_cons_succ, List.set_cons_zero]
  have ysz : ((w.alloc (.cells (irow .u8 (zr 32)) 26)).alloc (.cells (hst bs) 80)).heap.size = w.heap.size + 1 + 1 := by rw [size_alloc1, size_alloc1]
  generalize ((w.alloc (.cells (irow .u8 (zr 32)) 26)).alloc (.cells (hst bs) 80)) = w0 at *
  refine (cP w0).mono ?_
  rintro e_ w1 ⟨vp, gp, rfl, rfl, hgp, rp, hb⟩
  replace r0 := keep hb r0
  replace r1 := keep hb r1
  replace f4 := f4.below hb
  replace hw := Below.after hw hb
  clear hb csz rH0 cP
  have hBp : Bys w1 (.slice (some ⟨gp, 0, none⟩) (plen bs.length) (plen bs.length)) (padL bs.length) := by rw [← hpl]; exact Bys.of_row rp (by omega) (padL_bd _) _
  have cW := a_write bs (padL bs.length) (w.heap.size + 1) w1 _ r1 hBp (fun a l c h _ => by cases h; show gp ≠ w.heap.size + 1; omega) (fun a l c h => by cases h; exact Nat.le_refl _) (by omega) f4 hz (by rw [hpl]; omega)
  go_wp2_with (fail)
  refine cW.mono ?_
  rintro e_ w2 ⟨rfl, r2, hgr⟩
  have l0 := lt_of_row r0
  replace r0 : w2.heap[w.heap.size]? = _ := (hgr.block _ l0 (by intro e; injection e with e; omega)).trans r0
  replace hw := hw.grown hgr hw.size (fun k h => by injection h with h; omega)
  clear hgr cW r1 hBp rp f4
  have hW8 := sumW_len bs
  have hWb := sumW_bd bs
  have hSl := sumL_len bs
  have cT := a_told (sumW bs) hW8 hWb
  rw [show byts (sumW bs) = sumL bs from rfl] at cT
  rw [hst, sumW_eq] at r2
  have hq64 := hpart_len (bs ++ padL bs.length)
  generalize hpart (bs ++ padL bs.length) = PS at *
  generalize (((bs ++ padL bs.length).length : Nat) : Int) = SZ at *
  generalize sumW bs = SW at *
  have hpw : (hcells SW PS SZ).extract 0 (0 + (irow .u32 SW).size) = irow .u32 SW := by rw [irow_size, hW8]; exact hcells_words _ _ _ hW8
  clear hWb hpl hpb
  go_wp2_with (first | (refine wpList_load_part rfl 77 _ rfl (w.heap.size + 1) 0 rfl 80 (hcells SW PS SZ) (0, 0) (irow .u32 SW) _ r2 hpw Tryd.underlying77 rfl (info23 _ hW8) ?_) | fail)
  refine (cT.at _).mono ?_
  rintro e_ w3 ⟨rfl, hb⟩
  replace r0 := keep hb r0
  replace hw := Below.after hw hb
  clear hb cT
  go_wp2_with (first | (refine wpList_store_row rfl 26 _ _ rfl (w.heap.size) (irow .u8 (sumL bs)) rfl rfl 26 _ r0 (infok8 _ hSl) (fit32 _ _ (zr_len 32) hSl) (irow_one _ _) ?_) | fail)
  replace r0 := setRow_heap w3 (w.heap.size) _ (irow .u8 (sumL bs)) _ _ r0
  replace hw := below_setRow hw (Nat.le_refl _) (irow .u8 (sumL bs))
  generalize w3.setRow (w.heap.size) (irow .u8 (sumL bs)) = w9 at *
  exact bodyPost_ret (v := .agg (irow .u8 (sumL bs))) (results_cell_row Tryd.results41 _ _ (w.heap.size) _ _ _ _ rfl r0 Tryd.underlying26 rfl (infok8 _ hSl)) rfl ⟨rfl, hw⟩
set_option maxRecDepth 100000 in
set_option maxHeartbeats 4000000 in
theorem a_cloneR (t : TypeId) (cs : Array Value) (o : Nat) (bs : List Int) (g : Nat) (w : World) (rH : w.heap[g]? = some (.cells cs t (0, 0))) (hpH : cs.extract o (o + (hst bs).size) = hst bs) : Calls Tryd.prog 42 #[.pointer (some ⟨g, o, none⟩)] w fun e w' => e = .returned (.pointer (some ⟨w.heap.size, 0, none⟩)) ∧ w'.heap[w.heap.size]? = some (.cells (hst bs) 80 (0, 0)) ∧ Below w.heap.size w w' := by
  have R0 := hp1_0 w (.cells (hst bs) 80)
  have HW : Below w.heap.size w (w.alloc (.cells (hst bs) 80)) := (Below.refl _ _).alloc (Nat.le_refl _) _
  go_enter Tryd.func42, Tryd.ntmps42
  go_wp2_with (first | (refine wpList_load_part rfl 80 _ rfl g o rfl t cs (0, 0) (hst bs) _ rH hpH Tryd.underlying80 rfl (infoS _) ?_) | (refine wpList_alloc rfl 80 rfl (hcells (zr 8) (zr 64) 0) zH ?_) | (refine wpList_store_row rfl 80 _ _ rfl (w.heap.size) (hst bs) rfl rfl 80 _ (hp1_0 w _) (infoS _) (fitS _) (hcells_one _ _ _) ?_; rw [setRow_alloc_new _ _ _ _ _ _ rfl]) | fail)
  go_ret
  exact ⟨rfl, R0, HW⟩
end Go.Proofs.YtilgicikcjcdjaaDoor

namespace Go.Proofs.YtilgicikcjcdjaaDoor
set_option maxRecDepth 100000
open Go Go.RowKit Go.Sort
attribute [local go_sem] setCell_drewN alloc_drewN

/-- Bytes, fewer than 2^47 + 2^46. -/
def BysM (W : World) (v : Value) (bs : List Int) : Prop := Bys W v bs ∧ bs.length ≤ 211106232532992 ∧ (∀ a l c, v = .slice a l c → a = none → c = 0)
theorem BysM.keep {W W' : World} {v : Value} {bs : List Int} (h : BysM W v bs) (hb : Below W.heap.size W W') : BysM W' v bs := ⟨h.1.keep hb, h.2⟩
theorem BysN.toM {W : World} {v : Value} {bs : List Int} (h : BysN W v bs) : BysM W v bs := ⟨h.1, by have := h.2.1; omega, h.2.2⟩
theorem own_nil {W : World} {b n : Nat} {e : TypeId} {v : Value} {xs : List Value} (h : W.ownsRow b e 1 v n xs) : ∀ a l c, v = .slice a l c → a = none → c = 0 := by
  rintro a l c rfl rfl
  obtain ⟨_, ⟨hv, _⟩ | ⟨g, cap, cur, hv, _⟩⟩ := h
  · injection hv
  · cases hv
theorem BysM.of_own {W : World} {b n : Nat} {v : Value} {l : List Int} (h : W.ownsRow b 5 1 v n (l.map (Value.int .u8))) (hl : l.length ≤ 211106232532992) (hz : ∀ z ∈ l, 0 ≤ z ∧ z < 256) : BysM W v l := ⟨Bys.of_own h (by omega) hz, hl, own_nil h⟩
set_option maxRecDepth 100000 in
set_option maxHeartbeats 4000000 in
theorem r_sumM (bs : List Int) (w : World) (v : Value) (hN : BysM w v bs) : Calls Tryd.prog 26 #[v] w fun e w' => e = .returned (.agg (irow .u8 (sumL bs))) ∧ Below w.heap.size w w' := by
  obtain ⟨hB, hlim, hnil⟩ := hN
  have r0 := hp1_0 w (.cells (irow .u8 (zr 32)) 26)
  have hw : Below w.heap.size w (w.alloc (.cells (irow .u8 (zr 32)) 26)) := ((Below.refl _ _).alloc (Nat.le_refl _) _)

  replace hB := hB.keep hw
  have hz := hB
  obtain ⟨ao, cap, rfl, _, _, hz⟩ := hz
  have hnone := bys_none hB hnil
  obtain ⟨i0, hi, hz0, hz1, hz2⟩ := info8
  have hpb := plen_bd bs.length
  have hpl := padL_len bs.length
  have cP := r_pad bs.length (by omega)
  clear hnil
  go_enter Tryd.func26, Tryd.ntmps26
  go_wp2_with (first | (refine wpList_alloc rfl 26 rfl (irow .u8 (zr 32)) zkey ?_) | (at_make; refine wpList_make_own _ rfl _ _ 67 rfl (w.heap.size + 1) 5 i0 (.int .u8 0) 1 Tryd.underlying67 hi hz0 hz1 _ _ _ (bs.length + 72) rfl rfl (by omega) (by rw [hz2]; omega) (by unfold maxLen; omega) (by rw [size_alloc1]; exact Nat.le_refl _) ?_) | fail)
  try simp only [size_alloc1]
  have ysz : (w.alloc (.cells (irow .u8 (zr 32)) 26)).heap.size = w.heap.size + 1 := size_alloc1 _ _
  generalize (w.alloc (.cells (irow .u8 (zr 32)) 26)) = w0 at *
  intro w1 hown hgr
  have hbel : Below w0.heap.size w0 w1 := (Below.refl _ _).grown hgr (Nat.le_refl _) (fun k h => by cases h)
  replace r0 := keep hbel r0
  replace hB := hB.keep hbel
  replace hw := Below.after hw hbel
  clear hbel hgr
  have hcell := bys_cells hB
  go_wp2_with (at_builtin; refine wpList_append_fits_any _ rfl (.tmp 8) (.tmp 9) 67 rfl (w.heap.size + 1) 5 i0 1 Tryd.underlying67 hi hz1 (w.heap.size + 1) 0 (bs.length + 72) [] rfl hown ao bs.length cap (bs.map (Value.int .u8)) rfl (by simp) hnone hcell (ints_one .u8 bs) (by omega) ?_)
  intro w2 hown2 hgr
  have lr0 := lt_of_row r0
  replace r0 : w2.heap[w.heap.size]? = _ := (hgr.block _ lr0 (by intro e; injection e with e; omega)).trans r0
  replace hw := hw.grown hgr hw.size (fun k h => by injection h with h; omega)
  clear hgr hcell hown hB hnone lr0
  go_wp2_with (fail)
  refine (cP w2).mono ?_
  rintro e_ w3 ⟨vp, rfl, hp, hb⟩
  replace r0 := keep hb r0
  replace hown2 := own_keep hown2 hb
  have hs2 := hw.size
  replace hw := Below.after hw hb
  clear hb cP
  obtain ⟨_, ⟨_, h0⟩ | ⟨gp, capp, curp, rfl, hgp, _⟩⟩ := id hp
  · omega
  have hcell := hp.cells (g := gp) rfl
  go_wp2_with (at_builtin; refine wpList_append_fits_any _ rfl (.tmp 11) (.tmp 15) 67 rfl (w.heap.size + 1) 5 i0 1 Tryd.underlying67 hi hz1 (w.heap.size + 1) bs.length (bs.length + 72) _ rfl hown2 (some ⟨gp, 0, none⟩) (plen bs.length) capp ((padL bs.length).map (Value.int .u8)) rfl (by simp [hpl]) (by intro h; cases h) (fun ad had => by cases had; exact hcell) (ints_one .u8 _) (by omega) ?_)
  intro w4 hown4 hgr
  have lr0 := lt_of_row r0
  replace r0 : w4.heap[w.heap.size]? = _ := (hgr.block _ lr0 (by intro e; injection e with e; omega)).trans r0
  replace hw := hw.grown hgr hw.size (fun k h => by injection h with h; omega)
  clear hgr hcell hown2 hp lr0
  have hwl : (bs ++ padL bs.length).length = bs.length + plen bs.length := by rw [List.length_append, hpl]
  have hbz := both_bd hz (padL_bd bs.length)
  rw [← List.map_append] at hown4
  have hBw := Bys.of_own hown4 (by omega) hbz
  clear hown4
  have hfin : sumL bs = byts (fol sl (bs ++ padL bs.length) ((bs ++ padL bs.length).length / 64)) := rfl
  have hFl : (fol sl (bs ++ padL bs.length) ((bs ++ padL bs.length).length / 64)).length = 8 := fol_len rfl _ _
  have cB := r_bytes _ hFl (fol_bd sl_bd (bs ++ padL bs.length) _)
  rw [← hfin] at cB
  have cF := fun (W : World) (x : Value) (h : Bys W x (bs ++ padL bs.length)) => r_fold sl (bs ++ padL bs.length) rfl W x h (by omega)
  generalize fol sl (bs ++ padL bs.length) ((bs ++ padL bs.length).length / 64) = FW at *
  clear hfin
  have hSl := sumL_len bs
  clear hpl hwl hbz hpb hFl
  go_wp2_with (fail)
  refine (r_start.at _).mono ?_
  rintro e_ w5 ⟨rfl, hb⟩
  replace r0 := keep hb r0
  replace hBw := hBw.keep hb
  replace hw := Below.after hw hb
  clear hb
  go_wp2_with (fail)
  refine (cF w5 _ hBw).mono ?_
  rintro e_ w6 ⟨rfl, hb⟩
  replace r0 := keep hb r0
  replace hw := Below.after hw hb
  clear hb hBw
  go_wp2_with (fail)
  refine (cB.at _).mono ?_
  rintro e_ w7 ⟨rfl, hb⟩
  replace r0 := keep hb r0
  replace hw := Below.after hw hb
  clear hb
  go_wp2_with (first | (refine wpList_store_row rfl 26 _ _ rfl (w.heap.size) (irow .u8 (sumL bs)) rfl rfl 26 _ r0 (infok8 _ hSl) (fit32 _ _ (zr_len 32) hSl) (irow_one _ _) ?_) | fail)
  replace r0 := setRow_heap w7 (w.heap.size) _ (irow .u8 (sumL bs)) _ _ r0
  replace hw := below_setRow hw (Nat.le_refl _) (irow .u8 (sumL bs))
  generalize w7.setRow (w.heap.size) (irow .u8 (sumL bs)) = w9 at *
  exact bodyPost_ret (v := .agg (irow .u8 (sumL bs))) (results_cell_row Tryd.results26 _ _ (w.heap.size) _ _ _ _ rfl r0 Tryd.underlying26 rfl (infok8 _ hSl)) rfl ⟨rfl, hw⟩

end Go.Proofs.YtilgicikcjcdjaaDoor


namespace Go.Proofs.YtilgicikcjcdjaaDoor
set_option maxRecDepth 100000
open Go Go.RowKit Go.Sort
attribute [local go_sem] setCell_drewN alloc_drewN

/-- An append to a row of one's own, whatever the shape of what is appended. -/
theorem wpList_append_own_any {P : Program} (w : World) {ops : Array Oper} {rest : List Oper} {o : Oper} {a : Act} {Q : Exit → Act → World → Prop} (hgd : o.guard = none) (s x : Operand) (t : TypeId)
    (ho : o.op = .call { callee := .builtin .append, args := #[s, x], argTypes := #[t, t] })
    (base : Nat) (e : TypeId) (i : TypeInfo) (z : Value) (ht : P.underlying t = some (.slice e)) (hi : P.info? e = some i) (hz : i.zero = some z)
    (hsize : i.size = 1) (hby : i.bytes = 1) (hzs : z.cells.size = 1)
    (v : Value) (n : Nat) (xs : List Value) (hs : a.eval s = v) (hown : w.ownsRow base e 1 v n xs)
    (ao : Option Addr) (m c : Nat) (news : List Value) (hx : a.eval x = .slice ao m c) (hl : news.length = m * 1) (hnone : ao = none → m = 0 ∧ c = 0) (hnews : ∀ ad, ao = some ad → ∀ j u, news[j]? = some u → w.cell? (ad.add j) = some u) (h1 : ∀ u ∈ news, u.oneCell' = true)
    (h63 : n + m ≤ maxLen) (hbytes : (n + m) * 1 ≤ 140737488355328) (hbase : base ≤ w.heap.size)
    (h : ∀ v' w', w'.ownsRow base e 1 v' (n + m) (xs ++ news) → w.grownBy w' v.ownBlock → wpList P ops Q rest (a.put o.dst v') w') : wpList P ops Q (o :: rest) a w := by
  cases ao with
  | some ad => exact wpList_append_own w hgd s x t ho base e i z 1 1 ht hi hz hsize hby hzs (by decide) v n xs hs hown ad m c news hx hl (hnews ad rfl) h1 h63 hbytes hbase (fun v' w' h2 h3 _ => h v' w' h2 h3)
  | none =>
    obtain ⟨rfl, rfl⟩ := hnone rfl
    have hn0 : news = [] := List.eq_nil_of_length_eq_zero (by simpa using hl)
    subst hn0
    refine wpList_plain hgd fun K hK' => ?_
    have hrun := run_append_owned_none (P := P) w base t o.type e i 1 ht hi _ n xs hown
    unfold Oper.wp
    simp [execOp, ho, resolve, invoke, builtin, hs, hx, hrun, Result.andThen]
    exact hK' _ _ (by simpa using h v w (by simpa using hown) (World.grownBy.refl _ _))
theorem own_at {W : World} {b n : Nat} {v : Value} {l : List Int} (h : W.ownsRow b 5 1 v n (l.map (Value.int .u8))) {j : Nat} (hj : j < n) : ∃ g cap, v = .slice (some ⟨g, 0, none⟩) n cap ∧ b ≤ g ∧ g < W.heap.size ∧ W.cell? ⟨g, j, none⟩ = some (.int .u8 (l.getD j 0)) ∧ W.frozen? ⟨g, j, none⟩ = false ∧ ∀ z, (W.setCell ⟨g, j, none⟩ (.int .u8 z)).ownsRow b 5 1 v n ((l.set j z).map (Value.int .u8)) := by
  obtain ⟨h1, ⟨rfl, rfl⟩ | ⟨g, cap, cur, rfl, hb, hg, hn, hm, hs, ht⟩⟩ := h
  · omega
  have hln : l.length = n := by simpa using h1
  simp only [Nat.mul_one] at ht hs
  refine ⟨g, cap, rfl, hb, lt_of_row hg, ?_, row_frozen hg j, fun z => ⟨by simpa using h1, .inr ⟨g, cap, _, rfl, hb, heap_setCell_same W g j cur _ _ hg, hn, hm, by simpa using hs, ?_⟩⟩⟩
  · rw [cell_of_row _ _ _ _ _ _ hg]
    have h2 := congrArg (fun q => q[j]?) ht
    rw [List.getElem?_take_of_lt hj, List.getElem?_map, List.getElem?_eq_getElem (show j < l.length by omega)] at h2
    rw [← Array.getElem?_toList, h2, List.getD_eq_getElem?_getD, List.getElem?_eq_getElem (show j < l.length by omega)]
    rfl
  · rw [Array.toList_setIfInBounds, Nat.mul_one, List.take_set, ht, List.map_set]
theorem own_other {W : World} {b n g j : Nat} {v u : Value} {xs : List Value} (h : W.ownsRow b 5 1 v n xs) (hg : g < b) : (W.setCell ⟨g, j, none⟩ u).ownsRow b 5 1 v n xs := by
  obtain ⟨h1, h2 | ⟨g', cap, cur, rfl, hb, hg', h3⟩⟩ := h
  · exact ⟨h1, .inl h2⟩
  · exact ⟨h1, .inr ⟨g', cap, cur, rfl, hb, heap_other hg' (by omega), h3⟩⟩
theorem own_empty (W : World) : (W.alloc (.cells #[] 5)).ownsRow W.heap.size 5 1 (.slice (some ⟨W.heap.size, 0, none⟩) 0 0) 0 [] := ⟨rfl, .inr ⟨W.heap.size, 0, #[], rfl, Nat.le_refl _, hp1_0 W _, Nat.le_refl _, by decide, rfl, rfl⟩⟩
theorem Bys.of_prefix {W : World} {g : Nat} {l m : List Int} {t : TypeId} (hg : W.heap[g]? = some (.cells (irow .u8 (l ++ m)) t (0, 0))) (hl : l.length ≤ 9223372036854775807) (hz : ∀ z ∈ l, 0 ≤ z ∧ z < 256) (cap : Nat) : Bys W (.slice (some ⟨g, 0, none⟩) l.length cap) l := by
  refine ⟨_, cap, rfl, hl, fun j hj => ⟨g, 0, rfl, lt_of_row hg, ?_⟩, hz⟩
  rw [Nat.zero_add, irow_cell hg (by rw [List.length_append]; omega), getD_append_lt _ _ _ hj]
/-- The first k of a, then what is left of c. -/
def mix (a c : List Int) (k : Nat) : List Int := a.take k ++ c.drop k
theorem mix_zero (a c : List Int) : mix a c 0 = c := by simp [mix]
theorem mix_all (a c : List Int) (h : a.length = c.length) : mix a c c.length = a := by
  unfold mix
  rw [← h, List.take_length, h, List.drop_length, List.append_nil]
theorem mix_length (a c : List Int) (k : Nat) (h : a.length = c.length) (hk : k ≤ c.length) : (mix a c k).length = c.length := by simp [mix]; omega
theorem mix_get (a c : List Int) (k : Nat) (h : a.length = c.length) (hk : k < c.length) : (mix a c k).getD k 0 = c.getD k 0 := by
  rw [List.getD_eq_getElem?_getD, List.getD_eq_getElem?_getD, mix, List.getElem?_append_right (by rw [List.length_take]; omega), List.getElem?_drop, List.length_take, show k + (k - min k a.length) = k by omega]
theorem mix_set (a c : List Int) (k : Nat) (h : a.length = c.length) (hk : k < c.length) : (mix a c k).set k (a.getD k 0) = mix a c (k + 1) := by
  apply List.ext_getElem?
  intro j
  have h1 : (a.take k).length = k := by simp; omega
  have h2 : (a.take (k + 1)).length = k + 1 := by simp; omega
  unfold mix
  rw [List.getElem?_set]
  by_cases e : k = j
  · subst e
    rw [if_pos rfl, if_pos (by simp; omega), List.getElem?_append_left (by omega), List.getElem?_take_of_lt (by omega)]
    rw [List.getD_eq_getElem?_getD, List.getElem?_eq_getElem (by omega)]
    rfl
  · rw [if_neg e]
    by_cases hj : j < k
    · rw [List.getElem?_append_left (by omega), List.getElem?_append_left (by omega), List.getElem?_take_of_lt hj, List.getElem?_take_of_lt (by omega)]
    · rw [List.getElem?_append_right (by omega), List.getElem?_append_right (by omega), List.getElem?_drop, List.getElem?_drop, h1, h2]
      congr 1
      omega
def xl (bs : List Int) (x : Int) : List Int := bs.map fun z => bits .xor .u8 z x
theorem xl_len (bs : List Int) (x : Int) : (xl bs x).length = bs.length := by simp [xl]
theorem bits8_bd (a b : Int) : 0 ≤ bits .xor .u8 a b ∧ bits .xor .u8 a b < 256 := by
  unfold bits
  simp only [IntKind.wrap, IntKind.bits, IntKind.signed]
  constructor
  · exact Int.emod_nonneg _ (by decide)
  · exact Int.emod_lt_of_pos _ (by decide)
theorem xl_bd (bs : List Int) (x : Int) : ∀ z ∈ xl bs x, 0 ≤ z ∧ z < 256 := by
  intro z hz
  obtain ⟨y, _, rfl⟩ := List.mem_map.1 hz
  exact bits8_bd _ _
theorem xl_get (bs : List Int) (x : Int) (k : Nat) (hk : k < bs.length) : (xl bs x).getD k 0 = bits .xor .u8 (bs.getD k 0) x := by
  rw [List.getD_eq_getElem?_getD, List.getD_eq_getElem?_getD, xl, List.getElem?_map, List.getElem?_eq_getElem hk]
  rfl
theorem eqK (l m : List Int) (hl : l.length = 32) (hm : m.length = 32) (w : World) : (Op.equalIn 10000 26 (.agg (irow .u8 l)) (.agg (irow .u8 m))).run Tryd.prog w = .ok (decide (l = m)) w := by
  obtain ⟨i0, hi, _⟩ := info8
  exact run_equal_ints w Tryd.underlying26 Tryd.underlying5 hi (by kernel_rfl) l m hl hm
theorem eqSum (bs : List Int) (W : World) : (Op.equalIn 10000 26 (.agg (irow .u8 (sumL bs))) (.agg (irow .u8 (sumL bs)))).run Tryd.prog W = .ok true W := by
  rw [eqK _ _ (sumL_len bs) (sumL_len bs)]; simp

end Go.Proofs.YtilgicikcjcdjaaDoor


namespace Go.Proofs.YtilgicikcjcdjaaDoor
set_option maxRecDepth 100000
open Go Go.RowKit Go.Sort

/-! The HMAC, on lists of numbers. -/
theorem sumL_bd (bs : List Int) : ∀ z ∈ sumL bs, 0 ≤ z ∧ z < 256 := byts_bd _
theorem zr_bd (k : Nat) : ∀ z ∈ zr k, 0 ≤ z ∧ z < 256 := by
  intro z hz
  rw [List.eq_of_mem_replicate hz]
  decide
/-- A key, no longer than a block. -/
def ksh (key : List Int) : List Int := if 64 < key.length then sumL key else key
def kb64 (key : List Int) : List Int := ksh key ++ zr (64 - (ksh key).length)
theorem ksh_len (key : List Int) : (ksh key).length ≤ 64 := by
  unfold ksh
  split
  · rw [sumL_len]; decide
  · omega
theorem ksh_bd {key : List Int} (h : ∀ z ∈ key, 0 ≤ z ∧ z < 256) : ∀ z ∈ ksh key, 0 ≤ z ∧ z < 256 := by
  unfold ksh
  split
  · exact sumL_bd _
  · exact h
theorem kb64_len (key : List Int) : (kb64 key).length = 64 := by
  have := ksh_len key
  simp only [kb64, List.length_append, zr_len]; omega
theorem kb64_bd {key : List Int} (h : ∀ z ∈ key, 0 ≤ z ∧ z < 256) : ∀ z ∈ kb64 key, 0 ≤ z ∧ z < 256 := both_bd (ksh_bd h) (zr_bd _)
theorem kb64_get (key : List Int) (i : Nat) : (kb64 key).getD i 0 = (ksh key).getD i 0 := by
  rw [List.getD_eq_getElem?_getD, List.getD_eq_getElem?_getD, kb64]
  by_cases h : i < (ksh key).length
  · rw [List.getElem?_append_left h]
  · rw [List.getElem?_append_right (by omega), List.getElem?_eq_none (show (ksh key).length ≤ i by omega)]
    simp only [zr, List.getElem?_replicate]
    split <;> rfl
def kin (key : List Int) : List Int := xl (kb64 key) 54
def kout (key : List Int) : List Int := xl (kb64 key) 92
theorem kin_len (key : List Int) : (kin key).length = 64 := (xl_len _ _).trans (kb64_len key)
theorem kout_len (key : List Int) : (kout key).length = 64 := (xl_len _ _).trans (kb64_len key)
theorem kin_bd (key : List Int) : ∀ z ∈ kin key, 0 ≤ z ∧ z < 256 := xl_bd _ _
theorem kout_bd (key : List Int) : ∀ z ∈ kout key, 0 ≤ z ∧ z < 256 := xl_bd _ _
/-- The HMAC. -/
def hm (key bs : List Int) : List Int := sumL (kout key ++ sumL (kin key ++ bs))
theorem hm_len (key bs : List Int) : (hm key bs).length = 32 := sumL_len _
theorem hm_bd (key bs : List Int) : ∀ z ∈ hm key bs, 0 ≤ z ∧ z < 256 := sumL_bd _
theorem kb64_sh (key : List Int) : kb64 (ksh key) = kb64 key := by
  have h := ksh_len key
  have e : ksh (ksh key) = ksh key := by rw [ksh, if_neg (by omega)]
  rw [kb64, kb64, e]
theorem kb64_zr (key : List Int) (n : Nat) (h : key.length + n ≤ 64) : kb64 (key ++ zr n) = kb64 key := by
  have e1 : ksh (key ++ zr n) = key ++ zr n := by rw [ksh, if_neg (by rw [List.length_append, zr_len]; omega)]
  have e2 : ksh key = key := by rw [ksh, if_neg (by omega)]
  rw [kb64, kb64, e1, e2, List.append_assoc, List.length_append, zr_len]
  congr 1
  simp only [zr]
  rw [List.replicate_append_replicate]
  congr 1
  omega
theorem hm_of (k l bs : List Int) (h : kb64 k = kb64 l) : hm k bs = hm l bs := by simp only [hm, kin, kout, h]
/-- The cells of a Mac behind its hash. -/
def mrest (key : List Int) : List Value := (hst (kin key)).toList ++ (hst (kout key)).toList
/-- The cells of a Mac. -/
def mst (key bs : List Int) : Array Value := hsx (mrest key) (kin key ++ bs)
theorem hst_size (bs : List Int) : (hst bs).size = 73 := hcells_size _ _ _ (hwords_len bs) (hpart_len bs)
theorem mrest_len (key : List Int) : (mrest key).length = 146 := by
  simp only [mrest, List.length_append, Array.length_toList, hst_size]
theorem mst_size (key bs : List Int) : (mst key bs).size = 219 := by
  rw [mst, hsx, hcx_size _ _ _ _ (hwords_len _) (hpart_len _), mrest_len]
theorem mst_list (key bs : List Int) : (mst key bs).toList = (hst (kin key ++ bs)).toList ++ ((hst (kin key)).toList ++ (hst (kout key)).toList) := by
  rw [mst, hsx_eq, Array.toList_append]; rfl
theorem mst_inner (key bs : List Int) : (mst key bs).extract 73 (73 + (hst (kin key)).size) = hst (kin key) := by
  apply Array.ext'
  have h1 : (hst (kin key ++ bs)).toList.length = 73 := by rw [Array.length_toList, hst_size]
  have h2 : (hst (kin key)).toList.length = 73 := by rw [Array.length_toList, hst_size]
  rw [hst_size, Array.toList_extract, mst_list]
  simp only [List.extract_eq_take_drop]
  rw [List.drop_left' h1, List.take_left' h2]
theorem mst_outer (key bs : List Int) : (mst key bs).extract 146 (146 + (hst (kout key)).size) = hst (kout key) := by
  apply Array.ext'
  have h1 : (hst (kin key ++ bs)).toList.length = 73 := by rw [Array.length_toList, hst_size]
  have h2 : (hst (kin key)).toList.length = 73 := by rw [Array.length_toList, hst_size]
  have h3 : (hst (kout key)).toList.length = 73 := by rw [Array.length_toList, hst_size]
  rw [hst_size, Array.toList_extract, mst_list]
  simp only [List.extract_eq_take_drop]
  rw [← List.append_assoc, List.drop_left' (by rw [List.length_append, h1, h2]), List.take_of_length_le (by omega)]
/-- The pieces of Expand. -/
def tp (key info : List Int) : Nat → List Int
  | 0 => []
  | i + 1 => hm key (tp key info i ++ (info ++ [((i + 1 : Nat) : Int)]))
def tall (key info : List Int) : Nat → List Int
  | 0 => []
  | i + 1 => tall key info i ++ tp key info (i + 1)
theorem tp_len (key info : List Int) (i : Nat) : (tp key info (i + 1)).length = 32 := hm_len _ _
theorem tp_le (key info : List Int) (i : Nat) : (tp key info i).length ≤ 32 := by
  cases i with
  | zero => exact Nat.zero_le _
  | succ i => rw [tp_len]; exact Nat.le_refl _
theorem tp_bd (key info : List Int) (i : Nat) : ∀ z ∈ tp key info i, 0 ≤ z ∧ z < 256 := by
  cases i with
  | zero => intro z h; cases h
  | succ i => exact hm_bd _ _
theorem tall_len (key info : List Int) : ∀ i, (tall key info i).length = 32 * i
  | 0 => rfl
  | i + 1 => by rw [tall, List.length_append, tall_len key info i, tp_len]; omega
theorem tall_bd (key info : List Int) : ∀ i, ∀ z ∈ tall key info i, 0 ≤ z ∧ z < 256
  | 0 => by intro z h; cases h
  | i + 1 => both_bd (tall_bd key info i) (tp_bd key info (i + 1))
/-- What Expand makes. -/
def xpd (key info : List Int) (n : Nat) : List Int := (tall key info ((n + 31) / 32)).take n
theorem xpd_len (key info : List Int) (n : Nat) : (xpd key info n).length = n := by
  rw [xpd, List.length_take, tall_len]; omega
theorem xpd_bd (key info : List Int) (n : Nat) : ∀ z ∈ xpd key info n, 0 ≤ z ∧ z < 256 := fun z h => tall_bd key info _ z (List.mem_of_mem_take h)
theorem tall_take (key info : List Int) (i : Nat) : ∀ k, (tall key info (i + k)).take (32 * i) = tall key info i
  | 0 => by rw [Nat.add_zero, List.take_of_length_le (by rw [tall_len]; omega)]
  | k + 1 => by
    rw [← Nat.add_assoc, tall, List.take_append_of_le_length (by rw [tall_len]; omega)]
    exact tall_take key info i k
theorem xpd_take (key info : List Int) (n m : Nat) (h : n ≤ m) : (xpd key info m).take n = xpd key info n := by
  have e : (m + 31) / 32 = (n + 31) / 32 + ((m + 31) / 32 - (n + 31) / 32) := by omega
  have h1 := tall_take key info ((n + 31) / 32) ((m + 31) / 32 - (n + 31) / 32)
  rw [← e] at h1
  rw [xpd, List.take_take, Nat.min_eq_left h, xpd, ← h1, List.take_take, Nat.min_eq_left (by omega)]
theorem xpd_at (key info : List Int) (m n : Nat) (h : 32 * m + 32 ≤ n) : ((xpd key info n).drop (32 * m)).take 32 = tp key info (m + 1) := by
  have h1 := xpd_take key info (32 * m + 32) n h
  have h2 : xpd key info (32 * m + 32) = tall key info (m + 1) := by
    rw [xpd, show (32 * m + 32 + 31) / 32 = m + 1 by omega, List.take_of_length_le (by rw [tall_len]; omega)]
  rw [h2, tall] at h1
  have h3 := congrArg (List.drop (32 * m)) h1
  rw [List.drop_left' (tall_len _ _ _), List.drop_take, show 32 * m + 32 - 32 * m = 32 by omega] at h3
  exact h3
end Go.Proofs.YtilgicikcjcdjaaDoor

namespace Go.Proofs.YtilgicikcjcdjaaDoor
set_option maxRecDepth 100000
open Go Go.RowKit Go.Sort
attribute [local go_sem] setCell_drewN alloc_drewN

theorem setRow_self {W : World} {g : Nat} {cs : Array Value} {t : TypeId} {fr : Nat × Nat} (hg : W.heap[g]? = some (.cells cs t fr)) : W.setRow g cs = W := by
  have hlt := lt_of_row hg
  have e : (W.setRow g cs).heap = W.heap := by
    apply Array.ext_getElem?
    intro i
    by_cases h : i = g
    · subst h; rw [setRow_heap W i _ cs _ _ hg, hg]
    · exact setRow_other W g i cs h
  show { W with heap := (W.setRow g cs).heap } = W
  rw [e]
theorem copy_bys {W : World} {g o dLen dCap : Nat} {v : Value} {l c : List Int} {t : TypeId} (hg : W.heap[g]? = some (.cells (irow .u8 l) t (0, 0))) (hB : Bys W v c) (hd : c.length ≤ dLen) (hf : o + c.length ≤ l.length) :
    (Builtin.copy_ #[67, 67] 3 #[.slice (some ⟨g, o, none⟩) dLen dCap, v]).run Tryd.prog W = .ok (goInt c.length) (W.setRow g (irow .u8 (l.take o ++ c ++ l.drop (o + c.length)))) := by
  obtain ⟨ao, cap, rfl, _, hc, _⟩ := hB
  rcases Nat.eq_zero_or_pos c.length with h0 | h0
  · have hc0 : c = [] := List.eq_nil_of_length_eq_zero h0
    subst hc0
    rw [run_copy_none W 67 67 3 5 _ _ _ _ _ _ Tryd.underlying67 (by kernel_rfl) (by simp)]
    rw [List.append_nil, List.length_nil, Nat.add_zero, List.take_append_drop, setRow_self hg]
    rfl
  · obtain ⟨b, off, rfl, _⟩ := hc 0 h0
    refine copy_irow hg (fun j hj => ?_) (Nat.min_eq_left hd).symm hf
    obtain ⟨b', off', e, _, h⟩ := hc j hj
    cases e
    exact h
theorem zr_take (a b : Nat) (h : a ≤ b) : (zr b).take a = zr a := by simp [zr, List.take_replicate, Nat.min_eq_left h]
theorem zr_drop (a b : Nat) : (zr b).drop a = zr (b - a) := by simp [zr]
theorem slice_arr (g : Nat) (W : World) : (Instr.sliceAt 78 (.pointer (some ⟨g, 0, none⟩)) none none none).run Tryd.prog W = .ok (.slice (some ⟨g, 0, none⟩) 64 64) W := by kernel_rfl
theorem info64 (l : List Int) (hl : l.length = 64) : (Tryd.prog.info? 78).map (·.size) = some (irow .u8 l).size := info24 l hl
set_option maxRecDepth 100000 in
set_option maxHeartbeats 4000000 in
theorem a_blockKey (key : List Int) (w : World) (v : Value) (hS : Sta w) (hK : Kon w) (hB : Bys w v key) (hcap : ∀ a l c, v = .slice a l c → l ≤ c) (hlim : key.length ≤ 4611686018427387000) : Calls Tryd.prog 37 #[v] w fun e w' => e = .returned (.agg (irow .u8 (kb64 key))) ∧ Below w.heap.size w w' := by
  have r0 := hp1_0 w (.cells (irow .u8 (zr 64)) 78)
  have hw : Below w.heap.size w (w.alloc (.cells (irow .u8 (zr 64)) 78)) := (Below.refl _ _).alloc (Nat.le_refl _) _
  have f0 := hS.below hw
  have f4 := hK.below hw
  replace hB := hB.keep hw
  have hkl := kb64_len key
  by_cases hlong : 64 < key.length
  · have hd : decide ((64 : Int) < (key.length : Int)) = true := by simp; omega
    have hkb : kb64 key = (zr 64).take 0 ++ sumL key ++ (zr 64).drop (0 + (sumL key).length) := by rw [kb64, ksh, if_pos hlong, sumL_len, zr_drop]; rfl
    have hSl := sumL_len key
    have hSb := sumL_bd key
    generalize kb64 key = KB at *
    replace hkb := hide hkb
    have cS := fun (W : World) a b (c : Bys W v key) => a_sum key W v a b c hcap hlim
    obtain ⟨ao, cap, rfl, _, _, hz⟩ := id hB
    go_enter Tryd.func37, Tryd.ntmps37
    go_wp2_with (first | (refine wpList_alloc rfl 78 rfl (irow .u8 (zr 64)) z24 ?_) | fail)
    have hs0 := size_alloc1 w (.cells (irow .u8 (zr 64)) 78)
    generalize w.alloc (.cells (irow .u8 (zr 64)) 78) = w0 at *
    refine (cS w0 f0 f4 hB).mono ?_
    rintro e_ w1 ⟨rfl, hb⟩
    replace r0 := keep hb r0
    replace hw := Below.after hw hb
    clear hb hB f0 f4 cS hs0
    generalize sumL key = K at *
    have l0 := lt_of_row r0
    have r1 := hp2_0 w1 (.cells (irow .u8 K) 26) (.cells (irow .u8 (zr 64)) 78)
    have r2 := hp2_1 w1 (.cells (irow .u8 K) 26) (.cells (irow .u8 (zr 64)) 78)
    have hba : Below w1.heap.size w1 ((w1.alloc (.cells (irow .u8 K) 26)).alloc (.cells (irow .u8 (zr 64)) 78)) := ((Below.refl _ _).alloc (Nat.le_refl _) _).alloc (by simp) _
    replace r0 := keep hba r0
    replace hw := Below.after hw hba
    have hcopy := copy_irow (dLen := 64) (dCap := 64) (o := 0) (m := 32) (cap := 32) (off := 0) (c := K) r2 (fun j hj => by rw [Nat.zero_add]; exact irow_cell r1 hj) (by rw [hSl]; rfl) (by rw [hSl, zr_len]; decide)
    rw [← hkb.out] at hcopy
    clear hkb
    go_wp2_with (first | (refine wpList_alloc rfl 26 rfl (irow .u8 (zr 32)) zkey ?_) | (refine wpList_store_row rfl 26 _ _ rfl (w1.heap.size) (irow .u8 K) rfl rfl 26 _ (hp1_0 w1 _) (infok8 _ hSl) (fit32 _ _ (zr_len 32) hSl) (irow_one _ _) ?_; rw [setRow_alloc_new _ _ _ _ _ _ rfl]) | (refine wpList_alloc rfl 78 rfl (irow .u8 (zr 64)) z24 ?_) | (refine wpList_load_want rfl 78 _ rfl (w1.heap.size + 1) rfl 78 (irow .u8 (KB)) (0, 0) _ (setRow_heap _ (w1.heap.size + 1) _ (irow .u8 (KB)) _ _ r2) Tryd.underlying78 rfl (info64 _ hkl) ?_) | (refine wpList_store_row rfl 78 _ _ rfl (w.heap.size) (irow .u8 (KB)) rfl rfl 78 _ ((setRow_other _ (w1.heap.size + 1) (w.heap.size) (irow .u8 (KB)) (by omega)).trans r0) (info64 _ hkl) (fit64 _ _ (zr_len 64) hkl) (irow_one _ _) ?_) | fail)
    replace r0 := setRow_heap _ (w.heap.size) _ (irow .u8 (KB)) _ _ ((setRow_other _ (w1.heap.size + 1) (w.heap.size) (irow .u8 (KB)) (by omega)).trans r0)
    replace hw := below_setRow (below_setRow hw (show w.heap.size ≤ w1.heap.size + 1 by omega) (irow .u8 (KB))) (Nat.le_refl _) (irow .u8 (KB))
    generalize World.setRow _ (w.heap.size) (irow .u8 (KB)) = w9 at *
    exact bodyPost_ret (v := .agg (irow .u8 (KB))) (results_cell_row Tryd.results37 _ _ (w.heap.size) _ _ _ _ rfl r0 Tryd.underlying78 rfl (info64 _ hkl)) rfl ⟨rfl, hw⟩
  · have hd : decide ((64 : Int) < (key.length : Int)) = false := by simp; omega
    have hkb : kb64 key = (zr 64).take 0 ++ key ++ (zr 64).drop (0 + key.length) := by rw [kb64, ksh, if_neg hlong, zr_drop, Nat.zero_add]; rfl
    have r1 := hp2_0 w (.cells (irow .u8 (zr 64)) 78) (.cells (irow .u8 (zr 64)) 78)
    have r2 := hp2_1 w (.cells (irow .u8 (zr 64)) 78) (.cells (irow .u8 (zr 64)) 78)
    have hba : Below w.heap.size w ((w.alloc (.cells (irow .u8 (zr 64)) 78)).alloc (.cells (irow .u8 (zr 64)) 78)) := ((Below.refl _ _).alloc (Nat.le_refl _) _).alloc (by simp) _
    have hcopy := copy_bys (dLen := 64) (dCap := 64) (o := 0) r2 (hB.keep ((Below.refl _ _).alloc (Nat.le_refl _) _)) (by omega) (by rw [zr_len]; omega)
    rw [← hkb] at hcopy
    clear hkb
    generalize kb64 key = KB at *
    obtain ⟨ao, cap, rfl, _, _, hz⟩ := id hB
    clear hB f0 f4 r0 hw
    go_enter Tryd.func37, Tryd.ntmps37
    go_wp2_with (first | (refine wpList_alloc rfl 78 rfl (irow .u8 (zr 64)) z24 ?_) | (refine wpList_load_want rfl 78 _ rfl (w.heap.size + 1) rfl 78 (irow .u8 (KB)) (0, 0) _ (setRow_heap _ (w.heap.size + 1) _ (irow .u8 (KB)) _ _ r2) Tryd.underlying78 rfl (info64 _ hkl) ?_) | (refine wpList_store_row rfl 78 _ _ rfl (w.heap.size) (irow .u8 (KB)) rfl rfl 78 _ ((setRow_other _ (w.heap.size + 1) (w.heap.size) (irow .u8 (KB)) (by omega)).trans r1) (info64 _ hkl) (fit64 _ _ (zr_len 64) hkl) (irow_one _ _) ?_) | fail)
    replace r1 := setRow_heap _ (w.heap.size) _ (irow .u8 (KB)) _ _ ((setRow_other _ (w.heap.size + 1) (w.heap.size) (irow .u8 (KB)) (by omega)).trans r1)
    have hw := below_setRow (below_setRow hba (show w.heap.size ≤ w.heap.size + 1 by omega) (irow .u8 (KB))) (Nat.le_refl _) (irow .u8 (KB))
    generalize World.setRow _ (w.heap.size) (irow .u8 (KB)) = w9 at *
    exact bodyPost_ret (v := .agg (irow .u8 (KB))) (results_cell_row Tryd.results37 _ _ (w.heap.size) _ _ _ _ rfl r1 Tryd.underlying78 rfl (info64 _ hkl)) rfl ⟨rfl, hw⟩

end Go.Proofs.YtilgicikcjcdjaaDoor

namespace Go.Proofs.YtilgicikcjcdjaaDoor
set_option maxRecDepth 100000
open Go Go.RowKit Go.Sort
attribute [local go_sem] setCell_drewN alloc_drewN

/-- A call that asks for both package variables. -/
def Gives2 (f : FuncId) (args : Array Value) (v : Value) : Prop := ∀ W, Sta W → Kon W → Calls Tryd.prog f args W fun e w' => e = .returned v ∧ Below W.heap.size W w'
theorem Gives2.re {f : FuncId} {args : Array Value} {v : Value} (h : Gives2 f args v) {w : World} {d : Nat} {os : Array Obj} (hs : Sta w) (hk : Kon w) : Calls Tryd.prog f args (grow (redrawn w d) os) fun e w'' => e = .returned v ∧ ∃ p : Regrown, w'' = grow (redrawn w p.d) p.os := Calls.regrown_of (h _ (hs.below (below_regrown w d os)) (hk.below (below_regrown w d os)))
set_option maxRecDepth 100000 in
set_option maxHeartbeats 4000000 in
theorem a_begun (k : List Int) (hk : k.length = 64) (m : Int) : Gives2 38 #[.agg (irow .u8 k), .int .u8 m] (.agg (hst (xl k m))) := by
  intro w hS hK
  have hk1 := hK.sz
  have hxl := xl_len k m
  have hxb := xl_bd k m
  have R0 := hp2_0 w (.cells (irow .u8 k) 78) (.cells (hcells (zr 8) (zr 64) 0) 80)
  have R1 := hp2_1 w (.cells (irow .u8 k) 78) (.cells (hcells (zr 8) (zr 64) 0) 80)
  have HW : Below w.heap.size w ((w.alloc (.cells (irow .u8 k) 78)).alloc (.cells (hcells (zr 8) (zr 64) 0) 80)) := (((Below.refl _ _).alloc (Nat.le_refl _) _).alloc (by simp) _)
  have f0 := hS.below HW
  have f4 := hK.below HW
  go_enter Tryd.func38, Tryd.ntmps38
  go_wp2_with (first | (refine wpList_box rfl 78 _ rfl _ rfl (b24 _) ?_) | (refine wpList_alloc rfl 80 rfl (hcells (zr 8) (zr 64) 0) zH ?_) | fail)
  try simp only [size_alloc1]
  generalize ((w.alloc (.cells (irow .u8 k) 78)).alloc (.cells (hcells (zr 8) (zr 64) 0) 80)) = w0 at *
  rw [← mix_zero (xl k m) k] at R0
  go_loopw [7] (fun i wr => ∃ j : Nat, j ≤ 64 ∧ i = .int .i64 j ∧ wr.heap[w.heap.size]? = some (.cells (irow .u8 (mix (xl k m) k j)) 78 (0, 0)) ∧ wr.heap[w.heap.size + 1]? = some (.cells (hcells (zr 8) (zr 64) 0) 80 (0, 0)) ∧ Sta wr ∧ Kon wr ∧ Below w.heap.size w wr) (fun i _ => 64 - (intOf i).toNat)
  case atStart => exact ⟨0, by omega, rfl, R0, R1, f0, f4, HW⟩
  case round =>
    clear R0 R1 f0 f4 HW
    obtain ⟨j, hj, rfl, r0, r1, f0, f4, hw⟩ := hrel
    by_cases hlt : j < 64
    · have hd : decide ((j : Int) < 64) = true := by simp; omega
      have hml := mix_length (xl k m) k j hxl (by omega)
      have hset := mix_set (xl k m) k j hxl (by omega)
      have cc := irow_cell r0 (j := j) (by omega)
      rw [mix_get _ _ _ hxl (by omega)] at cc
      have cf := row_frozen r0 j
      have hxg := xl_get k m j (by omega)
      rw [hxg] at hset
      have r2 := irow_set r0 j (bits .xor .u8 (k.getD j 0) m)
      rw [hset] at r2
      have r3 : (wr.setCell ⟨w.heap.size, j, none⟩ (.int .u8 (bits .xor .u8 (k.getD j 0) m))).heap[w.heap.size + 1]? = _ := heap_other r1 (by omega)
      have f0' := f0.belowN (n := 1) (by omega) ((Below.refl 1 wr).setCell (show 1 ≤ (⟨w.heap.size, j, none⟩ : Addr).block from (by show 1 ≤ w.heap.size; omega)) (.int .u8 (bits .xor .u8 (k.getD j 0) m)))
      have f4' := f4.belowN (n := 2) (by omega) ((Below.refl 2 wr).setCell (show 2 ≤ (⟨w.heap.size, j, none⟩ : Addr).block from (by show 2 ≤ w.heap.size; omega)) (.int .u8 (bits .xor .u8 (k.getD j 0) m)))
      have hw' := hw.setCell (show w.heap.size ≤ (⟨w.heap.size, j, none⟩ : Addr).block from Nat.le_refl _) (.int .u8 (bits .xor .u8 (k.getD j 0) m))
      clear hset hxg f0 f4 hw r0 r1
      generalize k.getD j 0 = z at *
      go_wp2
      refine ⟨⟨j + 1, by omega, by go_num, r2, r3, f0', f4', hw'⟩, ?_⟩
      simp [intOf]; omega
    · obtain rfl : j = 64 := by omega
      have hd : decide ((64 : Int) < 64) = false := by decide
      have e64 : mix (xl k m) k 64 = xl k m := by rw [← hk]; exact mix_all _ _ hxl
      rw [e64] at r0
      have ls := lt_of_row r1
      go_wp2_with (fail)
      refine (a_new wr f0).mono ?_
      rintro e_ w1 ⟨rfl, rH, hb⟩
      replace r0 := keep hb r0
      replace r1 := keep hb r1
      replace f4 := f4.below hb
      replace hw := Below.after hw hb
      clear hb f0
      have hB := Bys.of_row r0 (by omega) hxb 64
      rw [hxl, hk] at hB
      have cW := a_write [] (xl k m) wr.heap.size w1 _ rH hB (fun a l c h _ => by cases h; show w.heap.size ≠ wr.heap.size; omega) (fun a l c h => by cases h; exact Nat.le_refl _) (by omega) f4 (by simp) (by simp; omega)
      rw [List.nil_append] at cW
      go_wp2_with (fail)
      refine cW.mono ?_
      rintro e_ w2 ⟨rfl, r2, hgr⟩
      have l1 := lt_of_row r1
      replace r1 : w2.heap[w.heap.size + 1]? = _ := (hgr.block _ l1 (by intro e; injection e with e; omega)).trans r1
      replace hw := hw.grown hgr hw.size (fun k h => by injection h with h; omega)
      clear hgr cW hB r0 rH f4
      generalize wr.heap.size = G at *
      go_wp2_with (first | (refine wpList_load_want rfl 80 _ rfl G rfl 80 (hst (xl k m)) (0, 0) _ r2 Tryd.underlying80 rfl (infoS _) ?_) | (refine wpList_store_row rfl 80 _ _ rfl (w.heap.size + 1) (hst (xl k m)) rfl rfl 80 _ r1 (infoS _) (fitS _) (hcells_one _ _ _) ?_) | fail)
      replace r1 := setRow_heap w2 (w.heap.size + 1) _ (hst (xl k m)) _ _ r1
      replace hw := below_setRow hw (show w.heap.size ≤ w.heap.size + 1 by omega) (hst (xl k m))
      generalize w2.setRow (w.heap.size + 1) (hst (xl k m)) = w9 at *
      exact bodyPost_ret (v := .agg (hst (xl k m))) (results_cell_row Tryd.results38 _ _ (w.heap.size + 1) _ _ _ _ rfl r1 Tryd.underlying80 rfl (infoS _)) rfl ⟨rfl, hw⟩

end Go.Proofs.YtilgicikcjcdjaaDoor

namespace Go.Proofs.YtilgicikcjcdjaaDoor
set_option maxRecDepth 100000
open Go Go.RowKit Go.Sort
attribute [local go_sem] setCell_drewN alloc_drewN

/-- A Mac's cells, whatever its hash. -/
def mcl (h : Array Value) (key : List Int) : Array Value := (h.toList ++ mrest key).toArray
theorem mcl_st (key bs : List Int) : mcl (hst (kin key ++ bs)) key = mst key bs := by
  apply Array.ext'
  rw [mst_list]; rfl
theorem mcl_size (h : Array Value) (key : List Int) (hh : h.size = 73) : (mcl h key).size = 219 := by
  simp only [mcl, List.size_toArray, List.length_append, Array.length_toList, mrest_len, hh]
theorem mcl_inner (h : Array Value) (key : List Int) (hh : h.size = 73) : (mcl h key).extract 73 (73 + (hst (kin key)).size) = hst (kin key) := by
  apply Array.ext'
  have h1 : h.toList.length = 73 := by rw [Array.length_toList, hh]
  have h2 : (hst (kin key)).toList.length = 73 := by rw [Array.length_toList, hst_size]
  rw [hst_size, Array.toList_extract, mcl, mrest]
  simp only [List.extract_eq_take_drop]
  rw [List.drop_left' h1, List.take_left' h2]
theorem mcl_set (h h' : Array Value) (key : List Int) (hh : h.size = 73) (hh' : h'.size = 73) : ovw (mcl h key) 0 h'.toList = mcl h' key := by
  apply Array.ext'
  rw [ovw_list _ _ _ (by rw [mcl_size _ _ hh, Array.length_toList, hh']; decide), Array.length_toList, hh', mcl, mcl]
  rw [List.take_zero, List.nil_append, Nat.zero_add, List.drop_left' (by rw [Array.length_toList, hh])]
theorem hst_one (bs : List Int) : (hst bs).all (·.oneCell') = true := hcells_one _ _ _
set_option maxRecDepth 100000 in
set_option maxHeartbeats 4000000 in
theorem a_mresetH (h : Array Value) (hh : h.size = 73) (key : List Int) (g : Nat) (w : World) (rM : w.heap[g]? = some (.cells (mcl h key) 82 (0, 0))) : Calls Tryd.prog 39 #[.pointer (some ⟨g, 0, none⟩)] w fun e w' => e = .returned (.tuple #[]) ∧ w'.heap[g]? = some (.cells (mst key []) 82 (0, 0)) ∧ w.grownBy w' (some g) := by
  have cC := a_cloneR 82 (mcl h key) 73 (kin key) g w rM (mcl_inner h key hh)
  have lg := lt_of_row rM
  have hsz := hst_size (kin key)
  have hset := mcl_set h (hst (kin key)) key hh hsz
  have hfin := mcl_st key []
  have hms := mcl_size h key hh
  rw [List.append_nil] at hfin
  rw [hfin] at hset
  have hone := hst_one (kin key)
  have hinf := infoS (kin key)
  clear hfin
  generalize mcl h key = M at *
  generalize mst key [] = M' at *
  generalize hst (kin key) = H' at *
  go_enter Tryd.func39, Tryd.ntmps39
  go_wp2_with (fail)
  refine cC.mono ?_
  rintro e_ w1 ⟨rfl, rC, hb⟩
  replace rM := keep hb rM
  have hw := grown_below (World.grownBy.refl w (some g)) hb
  clear hb cC
  generalize w.heap.size = C at *
  go_wp2_with (first | (refine wpList_load_want rfl 80 _ rfl C rfl 80 H' (0, 0) _ rC Tryd.underlying80 rfl hinf ?_) | (refine wpList_store_part rfl 80 _ _ rfl g 0 H' rfl rfl 82 _ M' rM (by rw [hsz, hms]; decide) hset hinf hone ?_) | fail)
  go_end0
  exact ⟨rfl, setRow_heap w1 g _ _ _ _ rM, grown_setRow _ hw⟩
theorem a_mreset (key bs : List Int) (g : Nat) (w : World) (rM : w.heap[g]? = some (.cells (mst key bs) 82 (0, 0))) : Calls Tryd.prog 39 #[.pointer (some ⟨g, 0, none⟩)] w fun e w' => e = .returned (.tuple #[]) ∧ w'.heap[g]? = some (.cells (mst key []) 82 (0, 0)) ∧ w.grownBy w' (some g) := a_mresetH (hst (kin key ++ bs)) (hst_size _) key g w (by rw [mcl_st]; exact rM)
set_option maxRecDepth 100000 in
set_option maxHeartbeats 4000000 in
theorem a_msum (key bs : List Int) (g : Nat) (w : World) (hK : Kon w) (rM : w.heap[g]? = some (.cells (mst key bs) 82 (0, 0))) (hz : ∀ z ∈ bs, 0 ≤ z ∧ z < 256) (hlim : bs.length ≤ 4611686018427380000) : Calls Tryd.prog 32 #[.pointer (some ⟨g, 0, none⟩)] w fun e w' => e = .returned (.agg (irow .u8 (hm key bs))) ∧ Below w.heap.size w w' := by
  have r0 := hp1_0 w (.cells (irow .u8 (zr 32)) 26)
  have hw : Below w.heap.size w (w.alloc (.cells (irow .u8 (zr 32)) 26)) := (Below.refl _ _).alloc (Nat.le_refl _) _
  have f4 := hK.below hw
  have hk1 := hK.sz
  have lg := lt_of_row rM
  replace rM := keep hw rM
  have hkl := kin_len key
  have hol := kout_len key
  have cI := fun (W : World) a b => a_hsumR (mrest key) 82 (kin key ++ bs) g W a b (both_bd (kin_bd key) hz) (by rw [List.length_append]; omega)
  have cC := fun (W : World) a => a_cloneR 82 (mst key bs) 146 (kout key) g W a (mst_outer key bs)
  have hIl := sumL_len (kin key ++ bs)
  have hIb := sumL_bd (kin key ++ bs)
  have hHl := hm_len key bs
  have ehm : hm key bs = sumL (kout key ++ sumL (kin key ++ bs)) := rfl
  generalize sumL (kin key ++ bs) = I at *
  rw [show mst key bs = hsx (mrest key) (kin key ++ bs) from rfl] at *
  generalize hm key bs = H at *
  replace ehm := hide ehm
  go_enter Tryd.func32, Tryd.ntmps32
  go_wp2_with (first | (refine wpList_alloc rfl 26 rfl (irow .u8 (zr 32)) zkey ?_) | fail)
  generalize w.alloc (.cells (irow .u8 (zr 32)) 26) = w0 at *
  refine (cI w0 f4 rM).mono ?_
  rintro e_ w1 ⟨rfl, hb⟩
  replace r0 := keep hb r0
  replace rM := keep hb rM
  replace f4 := f4.below hb
  replace hw := Below.after hw hb
  clear hb cI
  have l0 := lt_of_row r0
  have r1 := hp1_0 w1 (.cells (irow .u8 I) 26)
  have hba : Below w1.heap.size w1 (w1.alloc (.cells (irow .u8 I) 26)) := (Below.refl _ _).alloc (Nat.le_refl _) _
  replace r0 := keep hba r0
  replace rM := keep hba rM
  replace f4 := f4.below hba
  replace hw := Below.after hw hba
  clear hba
  go_wp2_with (first | (refine wpList_alloc rfl 26 rfl (irow .u8 (zr 32)) zkey ?_) | (refine wpList_store_row rfl 26 _ _ rfl (w1.heap.size) (irow .u8 I) rfl rfl 26 _ (hp1_0 w1 _) (infok8 _ hIl) (fit32 _ _ (zr_len 32) hIl) (irow_one _ _) ?_; rw [setRow_alloc_new _ _ _ _ _ _ rfl]) | fail)
  generalize w1.alloc (.cells (irow .u8 I) 26) = w2 at *
  generalize w1.heap.size = G1 at *
  refine (cC w2 rM).mono ?_
  rintro e_ w3 ⟨rfl, rC, hb⟩
  have l2 := lt_of_row r1
  replace r0 := keep hb r0
  replace r1 := keep hb r1
  replace f4 := f4.below hb
  replace hw := Below.after hw hb
  clear hb cC rM
  generalize w2.heap.size = C at *
  have hB := Bys.of_row r1 (by omega) hIb 32
  rw [hIl] at hB
  have cW := a_write (kout key) I C w3 _ rC hB (fun a l c h _ => by cases h; show G1 ≠ C; omega) (fun a l c h => by cases h; exact Nat.le_refl _) (by omega) f4 (kout_bd key) (by omega)
  have cS := fun (W : World) a b => a_hsum (kout key ++ I) C W a b (both_bd (kout_bd key) hIb) (by rw [List.length_append]; omega)
  rw [← ehm.out] at cS
  clear ehm
  go_wp2_with (fail)
  refine cW.mono ?_
  rintro e_ w4 ⟨rfl, r4, hgr⟩
  have l0 := lt_of_row r0
  replace r0 : w4.heap[w.heap.size]? = _ := (hgr.block _ l0 (by intro e; injection e with e; omega)).trans r0
  replace f4 := f4.grown hgr (by omega)
  replace hw := hw.grown hgr hw.size (fun k h => by injection h with h; omega)
  clear hgr cW hB r1 rC
  go_wp2_with (fail)
  refine (cS w4 f4 r4).mono ?_
  rintro e_ w5 ⟨rfl, hb⟩
  replace r0 := keep hb r0
  replace hw := Below.after hw hb
  clear hb cS
  go_wp2_with (first | (refine wpList_store_row rfl 26 _ _ rfl (w.heap.size) (irow .u8 H) rfl rfl 26 _ r0 (infok8 _ hHl) (fit32 _ _ (zr_len 32) hHl) (irow_one _ _) ?_) | fail)
  replace r0 := setRow_heap w5 (w.heap.size) _ (irow .u8 H) _ _ r0
  replace hw := below_setRow hw (Nat.le_refl _) (irow .u8 H)
  generalize w5.setRow (w.heap.size) (irow .u8 H) = w9 at *
  exact bodyPost_ret (v := .agg (irow .u8 H)) (results_cell_row Tryd.results32 _ _ (w.heap.size) _ _ _ _ rfl r0 Tryd.underlying26 rfl (infok8 _ hHl)) rfl ⟨rfl, hw⟩

end Go.Proofs.YtilgicikcjcdjaaDoor

namespace Go.Proofs.YtilgicikcjcdjaaDoor
set_option maxRecDepth 100000
open Go Go.RowKit Go.Sort
attribute [local go_sem] setCell_drewN alloc_drewN

theorem foldl_ovw (off : Nat) : ∀ (vs : List Value) (k : Nat) (cs : Array Value), (vs.zipIdx k).foldl (fun cs (x : Value × Nat) => cs.setIfInBounds (off + x.2) x.1) cs = ovw cs (off + k) vs
  | [], _, _ => rfl
  | v :: r, k, cs => by
    rw [List.zipIdx_cons, List.foldl_cons, foldl_ovw off r (k + 1), ovw]
    rfl
theorem fill_agg (place : Nat → Option (Nat × Nat)) (cs a : Array Value) (i off : Nat) (rest : List (Nat × Value)) (hp : place i = some (off, a.size)) (hf : off + a.size ≤ cs.size) : Instr.fill place cs ((i, .agg a) :: rest) = Instr.fill place (ovw cs off a.toList) rest := by
  rw [Instr.fill, hp]
  have h1 : (Value.agg a).cells = a := rfl
  simp only [h1]
  rw [if_neg (by simp; omega)]
  congr 1
  have h2 := foldl_ovw off a.toList 0 cs
  rw [Nat.add_zero] at h2
  rw [← h2, ← Array.foldl_toList, Array.toList_zipIdx]
theorem ovw_size : ∀ (vs : List Value) (cs : Array Value) (o : Nat), (ovw cs o vs).size = cs.size
  | [], _, _ => rfl
  | v :: r, cs, o => by rw [ovw, ovw_size r, Array.size_setIfInBounds]
theorem mac_fill (parts : List (Nat × Value)) : Tryd.prog.built 82 parts = Instr.fill (#[(0, 73), (73, 73), (146, 73)][·]?) ((hcells (zr 8) (zr 64) 0).toList ++ ((hcells (zr 8) (zr 64) 0).toList ++ (hcells (zr 8) (zr 64) 0).toList)).toArray parts := by kernel_rfl
theorem z73 : (hcells (zr 8) (zr 64) 0).size = 73 := rfl
theorem mac_built (key : List Int) : Tryd.prog.built 82 [(1, .agg (hst (kin key))), (2, .agg (hst (kout key)))] = some (mcl (hcells (zr 8) (zr 64) 0) key) := by
  have h1 := hst_size (kin key)
  have h2 := hst_size (kout key)
  have h0 := z73
  rw [mac_fill]
  unfold mcl mrest
  generalize hst (kin key) = A at *
  generalize hst (kout key) = B at *
  generalize hcells (zr 8) (zr 64) 0 = Z at *
  rw [fill_agg _ _ A 1 73 _ (by rw [h1]; rfl) (by simp [h0, h1]), fill_agg _ _ B 2 146 _ (by rw [h2]; rfl) (by rw [ovw_size]; simp [h0, h2]), Instr.fill]
  congr 1
  apply Array.ext'
  rw [ovw_list _ _ _ (by rw [ovw_size]; simp [h0, h2]), ovw_list _ _ _ (by simp [h0, h1])]
  have e0 : Z.toList.length = 73 := by rw [Array.length_toList, h0]
  have e1 : A.toList.length = 73 := by rw [Array.length_toList, h1]
  have e2 : B.toList.length = 73 := by rw [Array.length_toList, h2]
  simp only [e1, e2]
  rw [List.take_left' e0]
  rw [← List.append_assoc Z.toList Z.toList, List.drop_left' (show (Z.toList ++ Z.toList).length = 73 + 73 by rw [List.length_append, e0])]
  rw [List.take_left' (show (Z.toList ++ A.toList).length = 146 by rw [List.length_append, e0, e1]), List.drop_eq_nil_of_le (by simp only [List.length_append, e0, e1]; decide)]
  simp
theorem bM (cs : Array Value) (W : World) : (Instr.box 82 (.agg cs)).run Tryd.prog W = .ok (.pointer (some ⟨W.heap.size, 0, none⟩)) (W.alloc (.cells cs 82)) := by kernel_rfl
set_option maxRecDepth 100000 in
set_option maxHeartbeats 4000000 in
theorem a_mnew (key : List Int) (w : World) (v : Value) (hS : Sta w) (hK : Kon w) (hB : Bys w v key) (hcap : ∀ a l c, v = .slice a l c → l ≤ c) (hlim : key.length ≤ 4611686018427387000) : Calls Tryd.prog 30 #[v] w fun e w' => ∃ g, e = .returned (.pointer (some ⟨g, 0, none⟩)) ∧ w.heap.size ≤ g ∧ w'.heap[g]? = some (.cells (mst key []) 82 (0, 0)) ∧ Below w.heap.size w w' := by
  have cK := a_blockKey key w v hS hK hB hcap hlim
  have hkl := kb64_len key
  have hbt := mac_built key
  have b1 := a_begun (kb64 key) hkl 54
  have b2 := a_begun (kb64 key) hkl 92
  rw [show xl (kb64 key) 54 = kin key from rfl] at b1
  rw [show xl (kb64 key) 92 = kout key from rfl] at b2
  have cR := fun (g : Nat) (W : World) r => a_mresetH (hcells (zr 8) (zr 64) 0) z73 key g W r
  generalize kb64 key = KB at *
  generalize mst key [] = M at *
  generalize mcl (hcells (zr 8) (zr 64) 0) key = M0 at *
  generalize hst (kin key) = A at *
  generalize hst (kout key) = B at *
  go_enter Tryd.func30, Tryd.ntmps30
  go_wp2_with (fail)
  refine cK.mono ?_
  rintro e_ w1 ⟨rfl, hw⟩
  clear cK
  have f0 := hS.below hw
  have f4 := hK.below hw
  have r1 := hp1_0 w1 (.cells (irow .u8 KB) 78)
  have hba : Below w1.heap.size w1 (w1.alloc (.cells (irow .u8 KB) 78)) := (Below.refl _ _).alloc (Nat.le_refl _) _
  replace f0 := f0.below hba
  replace f4 := f4.below hba
  have hs1 := hw.size
  replace hw := Below.after hw hba
  clear hba
  go_wp2_with (first | (refine wpList_alloc rfl 78 rfl (irow .u8 (zr 64)) z24 ?_) | (refine wpList_store_row rfl 78 _ _ rfl (w1.heap.size) (irow .u8 KB) rfl rfl 78 _ (hp1_0 w1 _) (info64 _ hkl) (fit64 _ _ (zr_len 64) hkl) (irow_one _ _) ?_; rw [setRow_alloc_new _ _ _ _ _ _ rfl]) | fail)
  generalize w1.alloc (.cells (irow .u8 KB) 78) = w2 at *
  generalize w1.heap.size = G1 at *
  refine wp_region_alloc_ex 5 5 [] (fun _ => .cells #[] 0 (0, 0)) (by kernel_rfl) (by decide) (by decide) (by kernel_rfl) (by kernel_rfl) (by kernel_rfl) (by kernel_rfl) (by kernel_rfl) (by kernel_rfl) (by kernel_rfl) (by kernel_rfl) (by decide) (by decide) ?_ ?_
  · intro s l u
    omega
  apply Exists.intro
  constructor
  · intro v_ hb
    have H1 := keepr (keep hb r1)
    have F0 := f0.below hb
    have F4 := f4.below hb
    clear hb; dsimp only [List.take]
    refine wpQuiet_load_row rfl 78 _ rfl G1 rfl 78 (irow .u8 KB) (0, 0) _ H1.out Tryd.underlying78 rfl (info64 _ hkl) ?_
    simp only [Act.put, List.setIfInBounds_toArray, List.set_cons_succ, List.set_cons_zero]
    go_big_quiet_step (exact b1.re F0 F4)
    refine wpQuiet_load_row rfl 78 _ rfl G1 rfl 78 (irow .u8 KB) (0, 0) _ H1.out Tryd.underlying78 rfl (info64 _ hkl) ?_
    simp only [Act.put, List.setIfInBounds_toArray, List.set_cons_succ, List.set_cons_zero]
    go_big_quiet_step (exact b2.re F0 F4)
    refine wpQuiet_build rfl 82 _ rfl [(1, .agg A), (2, .agg B)] rfl M0 hbt ?_
    simp only [Act.put, List.setIfInBounds_toArray, List.set_cons_succ, List.set_cons_zero]
    refine wpQuiet_nil ?_
    rfl
  intro w3 g_ hb _ _
  simp only [List.drop, puts, ptrs, List.map, List.foldl, Act.put]
  have hs2 := hw.size
  have hs3 := hb.size
  replace hw := Below.after hw hb
  have hba : Below w3.heap.size w3 (w3.alloc (.cells M0 82)) := (Below.refl _ _).alloc (Nat.le_refl _) _
  have r3 := hp1_0 w3 (.cells M0 82)
  replace hw := Below.after hw hba
  clear hba hb f0 f4 r1
  go_wp2_with (first | (refine wpList_box rfl 82 _ rfl _ rfl (bM _) ?_) | fail)
  generalize w3.alloc (.cells M0 82) = w4 at *
  refine (cR _ w4 r3).mono ?_
  rintro e_ w5 ⟨rfl, r5, hgr⟩
  replace hw := hw.grown hgr hw.size (fun k h => by injection h with h; omega)
  go_wp2
  go_ret
  exact ⟨_, rfl, by omega, r5, hw⟩
set_option maxRecDepth 100000 in
set_option maxHeartbeats 4000000 in
theorem a_macSum (key bs : List Int) (w : World) (v vb : Value) (hS : Sta w) (hK : Kon w) (hB : Bys w v key) (hcap : ∀ a l c, v = .slice a l c → l ≤ c) (hlim : key.length ≤ 4611686018427380000) (hBb : Bys w vb bs) (hcapb : ∀ a l c, vb = .slice a l c → l ≤ c) (hlimb : bs.length ≤ 4611686018427380000) : Calls Tryd.prog 25 #[v, vb] w fun e w' => e = .returned (.agg (irow .u8 (hm key bs))) ∧ Below w.heap.size w w' := by
  have r0 := hp1_0 w (.cells (irow .u8 (zr 32)) 26)
  have hw : Below w.heap.size w (w.alloc (.cells (irow .u8 (zr 32)) 26)) := (Below.refl _ _).alloc (Nat.le_refl _) _
  have f0 := hS.below hw
  have f4 := hK.below hw
  have hk1 := hK.sz
  have hne : ∀ a l c, vb = .slice (some a) l c → 0 < l → a.block < w.heap.size := by
    rintro a l c rfl hl
    obtain ⟨_, _, e, _, hc, _⟩ := hBb
    injection e with e1 e2 e3
    obtain ⟨b0, off, e, hb, _⟩ := hc 0 (by omega)
    rw [e] at e1
    injection e1 with e1
    rw [e1]
    exact hb
  replace hB := hB.keep hw
  replace hBb := hBb.keep hw
  have hkl := kin_len key
  have hHl := hm_len key bs
  have hbz : ∀ z ∈ bs, 0 ≤ z ∧ z < 256 := by obtain ⟨_, _, _, _, _, h⟩ := hBb; exact h
  have cN := fun (W : World) a b c => a_mnew key W v a b c hcap (by omega)
  have cW := fun (g : Nat) (W : World) (a : W.heap[g]? = some (.cells (mst key []) 82 (0, 0))) b c d e => a_writeR (mrest key) 82 (kin key ++ []) bs g W vb a b c hcapb d e (by rw [List.append_nil]; exact kin_bd key) (by rw [List.append_nil]; omega)
  rw [List.append_nil] at cW
  have cS := fun (g : Nat) (W : World) a b => a_msum key bs g W a b hbz hlimb
  rw [show hsx (mrest key) (kin key ++ bs) = mst key bs from rfl] at cW
  generalize mst key [] = M0 at *
  generalize mst key bs = M1 at *
  generalize hm key bs = H at *
  obtain ⟨ao, cap, rfl, _⟩ := id hB
  obtain ⟨aob, capb, rfl, _⟩ := id hBb
  go_enter Tryd.func25, Tryd.ntmps25
  go_wp2_with (first | (refine wpList_alloc rfl 26 rfl (irow .u8 (zr 32)) zkey ?_) | fail)
  have hs0 := size_alloc1 w (.cells (irow .u8 (zr 32)) 26)
  generalize w.alloc (.cells (irow .u8 (zr 32)) 26) = w0 at *
  refine (cN w0 f0 f4 hB).mono ?_
  rintro e_ w1 ⟨g, rfl, hg, rM, hb⟩
  replace r0 := keep hb r0
  replace hBb := hBb.keep hb
  replace f4 := f4.below hb
  replace hw := Below.after hw hb
  clear hb cN f0 hB
  rw [hs0] at hg
  clear hs0
  go_wp2_with (fail)
  refine (cW g w1 rM hBb (fun a l c h hl => by have := hne a l c h hl; omega) (by omega) f4).mono ?_
  rintro e_ w2 ⟨rfl, r2, hgr⟩
  have l0 := lt_of_row r0
  replace r0 : w2.heap[w.heap.size]? = _ := (hgr.block _ l0 (by intro e; injection e with e; omega)).trans r0
  replace f4 := f4.grown hgr (by omega)
  replace hw := hw.grown hgr hw.size (fun k h => by injection h with h; omega)
  clear hgr cW rM hBb
  go_wp2_with (fail)
  refine (cS g w2 f4 r2).mono ?_
  rintro e_ w3 ⟨rfl, hb⟩
  replace r0 := keep hb r0
  replace hw := Below.after hw hb
  clear hb cS
  go_wp2_with (first | (refine wpList_store_row rfl 26 _ _ rfl (w.heap.size) (irow .u8 H) rfl rfl 26 _ r0 (infok8 _ hHl) (fit32 _ _ (zr_len 32) hHl) (irow_one _ _) ?_) | fail)
  replace r0 := setRow_heap w3 (w.heap.size) _ (irow .u8 H) _ _ r0
  replace hw := below_setRow hw (Nat.le_refl _) (irow .u8 H)
  generalize w3.setRow (w.heap.size) (irow .u8 H) = w9 at *
  exact bodyPost_ret (v := .agg (irow .u8 H)) (results_cell_row Tryd.results25 _ _ (w.heap.size) _ _ _ _ rfl r0 Tryd.underlying26 rfl (infok8 _ hHl)) rfl ⟨rfl, hw⟩
end Go.Proofs.YtilgicikcjcdjaaDoor

namespace Go.Proofs.YtilgicikcjcdjaaDoor
set_option maxRecDepth 100000
open Go Go.RowKit Go.Sort
attribute [local go_sem] setCell_drewN alloc_drewN

theorem grownT {a b c : World} {g : Nat} (h : a.grownBy b (some g)) (hb : b.grownBy c (some g)) : a.grownBy c (some g) :=
  ⟨hb.os.trans h.os, hb.tape.trans h.tape, hb.output.trans h.output, Nat.le_trans h.size hb.size, fun k hk hn => (hb.block k (Nat.lt_of_lt_of_le hk h.size) hn).trans (h.block k hk hn)⟩
theorem grown_setRow_hi {a b : World} {g n : Nat} (cs : Array Value) (h : a.grownBy b (some g)) (hn : a.heap.size ≤ n) : a.grownBy (b.setRow n cs) (some g) := by
  refine ⟨h.os, h.tape, h.output, ?_, fun k hk hne => ?_⟩
  · have e : (b.setRow n cs).heap.size = b.heap.size := by simp
    rw [e]; exact h.size
  · rw [setRow_other b n k cs (by omega)]
    exact h.block k hk hne
theorem Bys.grown {W W' : World} {v : Value} {bs : List Int} {g : Nat} (h : Bys W v bs) (hb : W.grownBy W' (some g)) (hne : ∀ a l c, v = .slice (some a) l c → 0 < l → a.block ≠ g) : Bys W' v bs := by
  obtain ⟨ao, cap, rfl, hl, hc, hz⟩ := h
  refine ⟨ao, cap, rfl, hl, fun j hj => ?_, hz⟩
  obtain ⟨b, off, rfl, h1, h2⟩ := hc j hj
  have hn : b ≠ g := hne ⟨b, off, none⟩ _ _ rfl (by omega)
  exact ⟨b, off, rfl, Nat.lt_of_lt_of_le h1 hb.size, hb.cell h2 (by intro e; injection e with e; exact hn e)⟩
theorem bys_ne {W : World} {v : Value} {bs : List Int} (h : Bys W v bs) : ∀ a l c, v = .slice (some a) l c → 0 < l → a.block < W.heap.size := by
  rintro a l c rfl hl
  obtain ⟨_, _, e, _, hc, _⟩ := h
  injection e with e1 e2 e3
  obtain ⟨b0, off, e, hb, _⟩ := hc 0 (by omega)
  rw [e] at e1
  injection e1 with e1
  rw [e1]
  exact hb
theorem bys_nil (W : World) : Bys W (.slice none 0 0) [] := ⟨none, 0, rfl, by decide, fun j hj => by simp at hj, by simp⟩
theorem bys_bd {W : World} {v : Value} {bs : List Int} (h : Bys W v bs) : ∀ z ∈ bs, 0 ≤ z ∧ z < 256 := by
  obtain ⟨_, _, _, _, _, h⟩ := h; exact h
theorem bK (cs : Array Value) (W : World) : (Instr.box 26 (.agg cs)).run Tryd.prog W = .ok (.pointer (some ⟨W.heap.size, 0, none⟩)) (W.alloc (.cells cs 26)) := by kernel_rfl
/-- What Expand has written, k pieces behind it. -/
def xout (key info : List Int) (n k : Nat) : List Int := (tall key info k).take n ++ zr (n - 32 * k)
theorem xout_len (key info : List Int) (n k : Nat) : (xout key info n k).length = n := by
  rw [xout, List.length_append, List.length_take, tall_len, zr_len]; omega
theorem xout_step (key info : List Int) (n k : Nat) (h : 32 * k < n) : (xout key info n k).take (32 * k) ++ (tp key info (k + 1)).take (n - 32 * k) ++ (xout key info n k).drop (32 * k + ((tp key info (k + 1)).take (n - 32 * k)).length) = xout key info n (k + 1) := by
  have hl := tall_len key info k
  have hp := tp_len key info k
  have e1 : (tall key info k).take n = tall key info k := List.take_of_length_le (by omega)
  have e2 : (xout key info n k).take (32 * k) = tall key info k := by rw [xout, e1, List.take_left' hl]
  have e3 : ∀ m, (xout key info n k).drop (32 * k + m) = zr (n - 32 * k - m) := fun m => by
    rw [xout, e1, ← hl, ← List.drop_drop, List.drop_left, zr_drop]
  rw [e2, e3, xout, tall, List.take_append, e1, hl, List.length_take, hp]
  congr 2
  omega
theorem xout_end (key info : List Int) (n k : Nat) (hk : k ≤ (n + 31) / 32) (h : ¬ 32 * k < n) : xout key info n k = xpd key info n := by
  obtain rfl : k = (n + 31) / 32 := by omega
  rw [xout, xpd, show n - 32 * ((n + 31) / 32) = 0 by omega]
  simp [zr]
/-- What an answer of Expand or Derive is. -/
def XAns (W : World) (lo : Nat) (v : Value) (key info : List Int) (n : Int) : Prop := (∃ (m : Nat) (g : Nat), n = (m : Int) ∧ m ≤ 8160 ∧ v = .tuple #[.slice (some ⟨g, 0, none⟩) m m, .int .i64 0] ∧ lo ≤ g ∧ W.heap[g]? = some (.cells (irow .u8 (xpd key info m)) 5 (0, 0))) ∨ ((n < 0 ∨ 8160 < n) ∧ v = .tuple #[.slice none 0 0, .int .i64 (if n < 0 then 1 else 2)])
end Go.Proofs.YtilgicikcjcdjaaDoor

namespace Go.Proofs.YtilgicikcjcdjaaDoor
set_option maxRecDepth 100000
open Go Go.RowKit Go.Sort
attribute [local go_sem] setCell_drewN alloc_drewN

theorem wpList_append_own_want {P : Program} (w : World) {ops : Array Oper} {rest : List Oper} {o : Oper} {a : Act} {Q : Exit → Act → World → Prop} (hw : Region.wanted o (yielded ops a.tmps) = true) (s x : Operand) (t : TypeId)
    (ho : o.op = .call { callee := .builtin .append, args := #[s, x], argTypes := #[t, t] })
    (base : Nat) (e : TypeId) (i : TypeInfo) (z : Value) (ht : P.underlying t = some (.slice e)) (hi : P.info? e = some i) (hz : i.zero = some z)
    (hsize : i.size = 1) (hby : i.bytes = 1) (hzs : z.cells.size = 1)
    (v : Value) (n : Nat) (xs : List Value) (hs : a.eval s = v) (hown : w.ownsRow base e 1 v n xs)
    (ao : Option Addr) (m c : Nat) (news : List Value) (hx : a.eval x = .slice ao m c) (hl : news.length = m * 1) (hnone : ao = none → m = 0 ∧ c = 0) (hnews : ∀ ad, ao = some ad → ∀ j u, news[j]? = some u → w.cell? (ad.add j) = some u) (h1 : ∀ u ∈ news, u.oneCell' = true)
    (h63 : n + m ≤ maxLen) (hbytes : (n + m) * 1 ≤ 140737488355328) (hbase : base ≤ w.heap.size)
    (h : ∀ v' w', w'.ownsRow base e 1 v' (n + m) (xs ++ news) → w.grownBy w' v.ownBlock → wpList P ops Q rest (a.put o.dst v') w') : wpList P ops Q (o :: rest) a w := by
  refine BigFrame.wpList_want hw fun K hK' => ?_
  cases ao with
  | some ad => exact wp_append_own w s x t ho base e i z 1 1 ht hi hz hsize hby hzs (by decide) v n xs hs hown ad m c news hx hl (hnews ad rfl) h1 h63 hbytes hbase (fun v' w' h2 h3 _ => hK' _ _ (h v' w' h2 h3))
  | none =>
    obtain ⟨rfl, rfl⟩ := hnone rfl
    have hn0 : news = [] := List.eq_nil_of_length_eq_zero (by simpa using hl)
    subst hn0
    have hrun := run_append_owned_none (P := P) w base t o.type e i 1 ht hi _ n xs hown
    unfold Oper.wp
    simp [execOp, ho, resolve, invoke, builtin, hs, hx, hrun, Result.andThen]
    exact hK' _ _ (by simpa using h v w (by simpa using hown) (World.grownBy.refl _ _))
/-- Pieces of bytes, as they lie in a world. -/
def Pcs (W : World) (v : Value) (ps : List (List Int)) : Prop := ∃ ao cap, v = .slice ao ps.length cap ∧ ps.length ≤ 9223372036854775807 ∧ ∀ i, i < ps.length → ∃ b off u uc, ao = some ⟨b, off, none⟩ ∧ b < W.heap.size ∧ W.cell? ⟨b, off + i, none⟩ = some (.slice u (ps.getD i []).length uc) ∧ Bys W (.slice u (ps.getD i []).length uc) (ps.getD i []) ∧ (u = none → uc = 0)
/-- Bools, as they lie in a world. -/
def Bls (W : World) (v : Value) (qs : List Bool) : Prop := ∃ ao cap, v = .slice ao qs.length cap ∧ qs.length ≤ 9223372036854775807 ∧ ∀ i, i < qs.length → ∃ b off, ao = some ⟨b, off, none⟩ ∧ b < W.heap.size ∧ W.cell? ⟨b, off + i, none⟩ = some (.bool (qs.getD i false))
def flat (ps : List (List Int)) (k : Nat) : List Int := (ps.take k).flatten
theorem flat_next (ps : List (List Int)) (k : Nat) (hk : k < ps.length) : flat ps (k + 1) = flat ps k ++ ps.getD k [] := by
  unfold flat
  rw [List.take_add_one, List.flatten_append, List.getElem?_eq_getElem hk, List.getD_eq_getElem?_getD, List.getElem?_eq_getElem hk]
  simp
theorem flat_all (ps : List (List Int)) : flat ps ps.length = ps.flatten := by unfold flat; rw [List.take_length]
theorem flat_len (ps : List (List Int)) (k : Nat) : (flat ps k).length ≤ ps.flatten.length := by
  have h := congrArg List.flatten (List.take_append_drop k ps)
  rw [List.flatten_append] at h
  have := congrArg List.length h
  rw [List.length_append] at this
  unfold flat
  omega
theorem nilN (w : World) : BysN w (.slice none 0 0) [] := ⟨⟨none, 0, rfl, by decide, fun j hj => by simp at hj, by simp⟩, by decide, fun a l c h _ => by cases h; rfl⟩
theorem bys_none3 {W : World} {u : Option Addr} {uc : Nat} {bs : List Int} (hB : Bys W (.slice u bs.length uc) bs) (h : u = none → uc = 0) : u = none → bs.length = 0 ∧ uc = 0 := bys_none hB (fun a l c e ha => by injection e with e1 e2 e3; subst e1; rw [← e3]; exact h ha)
set_option maxRecDepth 100000 in
set_option maxHeartbeats 4000000 in
theorem r_joined (ps : List (List Int)) (w : World) (vp : Value) (hP : Pcs w vp ps) (hsz : ps.flatten.length ≤ 140737488355328) : Calls Tryd.prog 27 #[vp] w fun e w' => ∃ v, e = .returned v ∧ w'.ownsRow w.heap.size 5 1 v ps.flatten.length (ps.flatten.map (Value.int .u8)) ∧ Below w.heap.size w w' := by
  obtain ⟨pao, pcap, rfl, hpl, hpc⟩ := hP
  have hfl := flat_len ps
  have hfn := flat_next ps
  have hfa := flat_all ps
  obtain ⟨i0, hi, hz0, hz1, hz2⟩ := info8
  have hown0 : w.ownsRow w.heap.size 5 1 (.slice none 0 0) (flat ps 0).length ((flat ps 0).map (Value.int .u8)) := ⟨rfl, .inl ⟨rfl, rfl⟩⟩
  generalize enp : ps.length = np at *
  go_enter Tryd.func27, Tryd.ntmps27
  go_wp2_with (fail)
  go_loopw [3, 4] (fun x i wr => ∃ k : Nat, k ≤ np ∧ i = .int .i64 k ∧ wr.ownsRow w.heap.size 5 1 x (flat ps k).length ((flat ps k).map (Value.int .u8)) ∧ Below w.heap.size w wr) (fun _ i _ => np - (intOf i).toNat)
  case atStart => exact ⟨0, by omega, rfl, hown0, Below.refl _ _⟩
  case round =>
    clear hown0
    obtain ⟨k, hk, rfl, hown, hw⟩ := hrel
    obtain ⟨aox, capx, rfl⟩ := slen_own hown
    by_cases hlt : k < np
    · have hd : decide ((k : Int) < (np : Int)) = true := by simp; omega
      obtain ⟨b, off, u, uc, rfl, hb, hcell, hBk, hnu⟩ := hpc k hlt
      replace hcell := (hw.cell (p := ⟨b, off + k, none⟩) hb).trans hcell
      replace hBk := hBk.keep hw
      have hnone := bys_none3 hBk hnu
      have hnews := bys_cells hBk
      have h1 := hfl (k + 1)
      rw [hfn k (by omega), List.length_append] at h1
      have hfk := hfn k (by omega)
      clear hpc hfl hfn hBk
      generalize ps.getD k [] = P at *
      go_wp2_with (at_builtin; refine wpList_append_own_any _ rfl (.tmp 11) (.tmp 15) 67 rfl w.heap.size 5 i0 (.int .u8 0) Tryd.underlying67 hi hz0 hz1 hz2 rfl _ (flat ps k).length ((flat ps k).map (Value.int .u8)) rfl hown u P.length uc (P.map (Value.int .u8)) rfl (by simp) hnone hnews (ints_one .u8 _) (by unfold maxLen; omega) (by omega) hw.size ?_)
      intro v' w2 hown2 hgrow
      replace hw := hw.grown hgrow hw.size (fun k h => (hown.lt k h).1)
      rw [← List.map_append, ← List.length_append, ← hfk] at hown2
      clear hown hgrow
      obtain ⟨ao', cap', rfl⟩ := slen_own hown2
      go_wp2
      refine ⟨⟨k + 1, by omega, by go_num, hown2, hw⟩, ?_⟩
      simp [intOf]; omega
    · obtain rfl : k = np := by omega
      have hd : decide ((k : Int) < (k : Int)) = false := by simp
      replace hfa := hide hfa
      go_wp2
      go_ret
      rw [← hfa.out]
      exact ⟨_, rfl, hown, hw⟩
end Go.Proofs.YtilgicikcjcdjaaDoor

namespace Go.Proofs.YtilgicikcjcdjaaDoor
set_option maxRecDepth 100000
open Go Go.RowKit Go.Sort
attribute [local go_sem] setCell_drewN alloc_drewN

theorem zr_get (n j : Nat) : (zr n).getD j 0 = 0 := by
  rw [List.getD_eq_getElem?_getD]
  simp only [zr, List.getElem?_replicate]
  split <;> rfl
theorem getD_set_self (l : List Int) (j : Nat) (z : Int) (h : j < l.length) : (l.set j z).getD j 0 = z := by
  rw [List.getD_eq_getElem?_getD, List.getElem?_set_self h]; rfl
theorem cell_other (w : World) (a b : Addr) (v : Value) (h : b.block ≠ a.block) : (w.setCell a v).cell? b = w.cell? b := by
  simp only [World.cell?]
  rw [heap_setCell_other w a b.block v h]
set_option maxRecDepth 100000 in
set_option maxHeartbeats 4000000 in
theorem r_blockKey (key : List Int) (x : Int) (w : World) (v : Value) (hN : BysM w v key) : Calls Tryd.prog 28 #[v, .int .u8 x] w fun e w' => ∃ vr g, e = .returned vr ∧ vr = .slice (some ⟨g, 0, none⟩) 64 64 ∧ w.heap.size ≤ g ∧ w'.heap[g]? = some (.cells (irow .u8 (xl (kb64 key) x)) 5 (0, 0)) ∧ Below w.heap.size w w' := by
  have hmk : (Instr.makeSlice 67 (.int .i64 64) (.int .i64 64)).run Tryd.prog w = .ok (.slice (some ⟨w.heap.size, 0, none⟩) 64 64) (w.alloc (.cells (irow .u8 (zr 64)) 5)) := make_i64 64 (by decide) w
  have r0 := hp1_0 w (.cells (irow .u8 (zr 64)) 5)
  have hw : Below w.heap.size w (w.alloc (.cells (irow .u8 (zr 64)) 5)) := (Below.refl _ _).alloc (Nat.le_refl _) _
  have hne := bys_ne hN.1
  replace hN := hN.keep hw
  have hs0 := size_alloc1 w (.cells (irow .u8 (zr 64)) 5)
  by_cases hlong : 64 < key.length
  · have hd : decide ((64 : Int) < (key.length : Int)) = true := by simp; omega
    have hK : ksh key = sumL key := by rw [ksh, if_pos hlong]
    have hSl := sumL_len key
    have hSb := sumL_bd key
    rw [← hK] at hSl hSb
    have cS := fun (W : World) a => r_sumM key W v a
    rw [← hK] at cS
    clear hK
    obtain ⟨ao, cap, rfl, _⟩ := id hN.1
    go_enter Tryd.func28, Tryd.ntmps28
    go_wp2_with (fail)
    generalize w.alloc (.cells (irow .u8 (zr 64)) 5) = w0 at *
    refine (cS w0 hN).mono ?_
    rintro e_ w1 ⟨rfl, hb⟩
    replace r0 := keep hb r0
    replace hw := Below.after hw hb
    clear hb cS hN hs0
    have l0 := lt_of_row r0
    have r1 := hp1_0 w1 (.cells (irow .u8 (ksh key)) 26)
    have hba : Below w1.heap.size w1 (w1.alloc (.cells (irow .u8 (ksh key)) 26)) := (Below.refl _ _).alloc (Nat.le_refl _) _
    replace r0 := keep hba r0
    replace hw := Below.after hw hba
    have hBk := Bys.of_row r1 (by omega) hSb 32
    rw [hSl] at hBk
    have hnk : ∀ a : Addr, some (⟨w1.heap.size, 0, none⟩ : Addr) = some a → 0 < (ksh key).length → a.block ≠ w.heap.size := fun a h _ => by cases h; show w1.heap.size ≠ w.heap.size; omega
    clear hba r1
    go_wp2_with (first | (refine wpList_alloc rfl 26 rfl (irow .u8 (zr 32)) zkey ?_) | (refine wpList_store_row rfl 26 _ _ rfl (w1.heap.size) (irow .u8 (ksh key)) rfl rfl 26 _ (hp1_0 w1 _) (infok8 _ hSl) (fit32 _ _ (zr_len 32) hSl) (irow_one _ _) ?_; rw [setRow_alloc_new _ _ _ _ _ _ rfl]) | fail)
    generalize w1.alloc (.cells (irow .u8 (ksh key)) 26) = w2 at *
    generalize w1.heap.size = G1 at *
    have eN := hSl
    have hc : ∀ i, i < 32 → ∃ b off, some (⟨G1, 0, none⟩ : Addr) = some ⟨b, off, none⟩ ∧ b < w2.heap.size ∧ w2.cell? ⟨b, off + i, none⟩ = some (.int .u8 ((ksh key).getD i 0)) := by
      obtain ⟨ak, ck, ek, _, hc, _⟩ := hBk
      injection ek with ek1
      rw [ek1]
      rw [hSl] at hc
      exact hc
    have hKl : (ksh key).length ≤ 64 := ksh_len key
    have hget := kb64_get key
    have hkl := kb64_len key
    have hxl := xl_len (kb64 key) x
    have hxg := xl_get (kb64 key) x
    have hz64 := zr_len 64
    have hzg := zr_get 64
    rw [← mix_zero (xl (kb64 key) x) (zr 64)] at r0
    rw [eN] at hKl
    go_wp2
    go_loopw [8] (fun i wr => ∃ j : Nat, j ≤ 64 ∧ i = .int .i64 j ∧ wr.heap[w.heap.size]? = some (.cells (irow .u8 (mix (xl (kb64 key) x) (zr 64) j)) 5 (0, 0)) ∧ (∀ i, i < 32 → ∃ b off, some (⟨G1, 0, none⟩ : Addr) = some ⟨b, off, none⟩ ∧ b ≠ w.heap.size ∧ wr.cell? ⟨b, off + i, none⟩ = some (.int .u8 ((ksh key).getD i 0))) ∧ Below w.heap.size w wr) (fun i _ => 64 - (intOf i).toNat)
    case atStart => exact ⟨0, by omega, rfl, r0, (fun i hi => by obtain ⟨b, off, e, _, h⟩ := hc i hi; exact ⟨b, off, e, hnk ⟨b, off, none⟩ e (by omega), h⟩), hw⟩
    case round =>
      clear r0 hw hc
      obtain ⟨j, hj, rfl, r0, hc, hw⟩ := hrel
      by_cases hlt : j < 64
      · have hd : decide ((j : Int) < 64) = true := by simp; omega
        have hset := mix_set (xl (kb64 key) x) (zr 64) j (by rw [hxl, hkl, hz64]) (by omega)
        have hml := mix_length (xl (kb64 key) x) (zr 64) j (by rw [hxl, hkl, hz64]) (by omega)
        have hmg := mix_get (xl (kb64 key) x) (zr 64) j (by rw [hxl, hkl, hz64]) (by omega)
        rw [hxg j (by omega), hget j] at hset
        rw [hzg j] at hmg
        rw [hz64] at hml
        have c0 := irow_cell r0 (j := j) (by omega)
        rw [hmg] at c0
        have cf := row_frozen r0 j
        by_cases hin : j < 32
        · have hd2 : decide ((j : Int) < 32) = true := by simp; omega
          obtain ⟨b, off, eb, hbn, ck1⟩ := hc j hin
          cases eb
          try rw [Nat.zero_add] at ck1
          have r1 := irow_set r0 j ((ksh key).getD j 0)
          have c1 := irow_cell r1 (j := j) (by rw [List.length_set]; omega)
          rw [getD_set_self _ _ _ (by omega)] at c1
          have cf1 := row_frozen r1 j
          have r2 := irow_set r1 j (bits .xor .u8 ((ksh key).getD j 0) x)
          rw [List.set_set, hset] at r2
          have hc2 : ∀ i, i < 32 → ∃ b_ off_, some (⟨G1, 0, none⟩ : Addr) = some ⟨b_, off_, none⟩ ∧ b_ ≠ w.heap.size ∧ ((wr.setCell ⟨w.heap.size, j, none⟩ (.int .u8 ((ksh key).getD j 0))).setCell ⟨w.heap.size, j, none⟩ (.int .u8 (bits .xor .u8 ((ksh key).getD j 0) x))).cell? ⟨b_, off_ + i, none⟩ = some (.int .u8 ((ksh key).getD i 0)) := fun i hi => by
            obtain ⟨b', off', e, hbn', h⟩ := hc i hi
            refine ⟨b', off', e, hbn', ?_⟩
            rw [cell_other _ _ _ _ (by simp; omega), cell_other _ _ _ _ (by simp; omega)]
            exact h
          have hw' := (hw.setCell (show w.heap.size ≤ (⟨w.heap.size, j, none⟩ : Addr).block from Nat.le_refl _) (.int .u8 ((ksh key).getD j 0))).setCell (show w.heap.size ≤ (⟨w.heap.size, j, none⟩ : Addr).block from Nat.le_refl _) (.int .u8 (bits .xor .u8 ((ksh key).getD j 0) x))
          clear hset hmg hget hxg r0 r1 hw hc
          generalize (ksh key).getD j 0 = z at *
          go_wp2
          refine ⟨⟨j + 1, by omega, by go_num, r2, hc2, hw'⟩, ?_⟩
          simp [intOf]; omega
        · have hd2 : decide ((j : Int) < 32) = false := by simp; omega
          have e0 : (ksh key).getD j 0 = 0 := by rw [List.getD_eq_getElem?_getD, List.getElem?_eq_none (by omega)]; rfl
          rw [e0] at hset
          have r2 := irow_set r0 j (bits .xor .u8 0 x)
          rw [hset] at r2
          have hc2 : ∀ i, i < 32 → ∃ b_ off_, some (⟨G1, 0, none⟩ : Addr) = some ⟨b_, off_, none⟩ ∧ b_ ≠ w.heap.size ∧ (wr.setCell ⟨w.heap.size, j, none⟩ (.int .u8 (bits .xor .u8 0 x))).cell? ⟨b_, off_ + i, none⟩ = some (.int .u8 ((ksh key).getD i 0)) := fun i hi => by
            obtain ⟨b', off', e, hbn', h⟩ := hc i hi
            refine ⟨b', off', e, hbn', ?_⟩
            rw [cell_other _ _ _ _ (by simp; omega)]
            exact h
          have hw' := hw.setCell (show w.heap.size ≤ (⟨w.heap.size, j, none⟩ : Addr).block from Nat.le_refl _) (.int .u8 (bits .xor .u8 0 x))
          clear hset hmg hget hxg r0 hw hc e0
          go_wp2
          refine ⟨⟨j + 1, by omega, by go_num, r2, hc2, hw'⟩, ?_⟩
          simp [intOf]; omega
      · obtain rfl : j = 64 := by omega
        have hd : decide ((64 : Int) < 64) = false := by decide
        have e64 : mix (xl (kb64 key) x) (zr 64) 64 = xl (kb64 key) x := mix_all _ (zr 64) (by rw [hxl, hkl, hz64])
        rw [e64] at r0
        go_wp2
        go_ret
        exact ⟨_, _, rfl, rfl, Nat.le_refl _, r0, hw⟩
  · have hd : decide ((64 : Int) < (key.length : Int)) = false := by simp; omega
    have hK : ksh key = key := by rw [ksh, if_neg hlong]
    have hBk := hN.1
    obtain ⟨ao, cap, rfl, _⟩ := id hN.1
    have hnk : ∀ a : Addr, ao = some a → 0 < (ksh key).length → a.block ≠ w.heap.size := fun a h hl => by
      rw [hK] at hl
      have := hne a _ _ (by rw [h]) hl
      omega
    have eN : (ksh key).length = key.length := by rw [hK]
    have hc : ∀ i, i < key.length → ∃ b off, ao = some ⟨b, off, none⟩ ∧ b < (w.alloc (.cells (irow .u8 (zr 64)) 5)).heap.size ∧ (w.alloc (.cells (irow .u8 (zr 64)) 5)).cell? ⟨b, off + i, none⟩ = some (.int .u8 ((ksh key).getD i 0)) := by
      obtain ⟨ak, ck, ek, _, hc, _⟩ := hBk
      injection ek with ek1
      rw [ek1, hK]
      exact hc
    clear hK hBk hN hne
    generalize key.length = N at *
    go_enter Tryd.func28, Tryd.ntmps28
    go_wp2_with (fail)
    generalize w.alloc (.cells (irow .u8 (zr 64)) 5) = w2 at *
    have hKl : (ksh key).length ≤ 64 := ksh_len key
    have hget := kb64_get key
    have hkl := kb64_len key
    have hxl := xl_len (kb64 key) x
    have hxg := xl_get (kb64 key) x
    have hz64 := zr_len 64
    have hzg := zr_get 64
    rw [← mix_zero (xl (kb64 key) x) (zr 64)] at r0
    rw [eN] at hKl
    go_wp2
    go_loopw [8] (fun i wr => ∃ j : Nat, j ≤ 64 ∧ i = .int .i64 j ∧ wr.heap[w.heap.size]? = some (.cells (irow .u8 (mix (xl (kb64 key) x) (zr 64) j)) 5 (0, 0)) ∧ (∀ i, i < N → ∃ b off, ao = some ⟨b, off, none⟩ ∧ b ≠ w.heap.size ∧ wr.cell? ⟨b, off + i, none⟩ = some (.int .u8 ((ksh key).getD i 0))) ∧ Below w.heap.size w wr) (fun i _ => 64 - (intOf i).toNat)
    case atStart => exact ⟨0, by omega, rfl, r0, (fun i hi => by obtain ⟨b, off, e, _, h⟩ := hc i hi; exact ⟨b, off, e, hnk ⟨b, off, none⟩ e (by omega), h⟩), hw⟩
    case round =>
      clear r0 hw hc
      obtain ⟨j, hj, rfl, r0, hc, hw⟩ := hrel
      by_cases hlt : j < 64
      · have hd : decide ((j : Int) < 64) = true := by simp; omega
        have hset := mix_set (xl (kb64 key) x) (zr 64) j (by rw [hxl, hkl, hz64]) (by omega)
        have hml := mix_length (xl (kb64 key) x) (zr 64) j (by rw [hxl, hkl, hz64]) (by omega)
        have hmg := mix_get (xl (kb64 key) x) (zr 64) j (by rw [hxl, hkl, hz64]) (by omega)
        rw [hxg j (by omega), hget j] at hset
        rw [hzg j] at hmg
        rw [hz64] at hml
        have c0 := irow_cell r0 (j := j) (by omega)
        rw [hmg] at c0
        have cf := row_frozen r0 j
        by_cases hin : j < N
        · have hd2 : decide ((j : Int) < (N : Int)) = true := by simp; omega
          obtain ⟨b, off, eb, hbn, ck1⟩ := hc j hin
          subst eb
          try rw [Nat.zero_add] at ck1
          have r1 := irow_set r0 j ((ksh key).getD j 0)
          have c1 := irow_cell r1 (j := j) (by rw [List.length_set]; omega)
          rw [getD_set_self _ _ _ (by omega)] at c1
          have cf1 := row_frozen r1 j
          have r2 := irow_set r1 j (bits .xor .u8 ((ksh key).getD j 0) x)
          rw [List.set_set, hset] at r2
          have hc2 : ∀ i, i < N → ∃ b_ off_, some (⟨b, off, none⟩ : Addr) = some ⟨b_, off_, none⟩ ∧ b_ ≠ w.heap.size ∧ ((wr.setCell ⟨w.heap.size, j, none⟩ (.int .u8 ((ksh key).getD j 0))).setCell ⟨w.heap.size, j, none⟩ (.int .u8 (bits .xor .u8 ((ksh key).getD j 0) x))).cell? ⟨b_, off_ + i, none⟩ = some (.int .u8 ((ksh key).getD i 0)) := fun i hi => by
            obtain ⟨b', off', e, hbn', h⟩ := hc i hi
            refine ⟨b', off', e, hbn', ?_⟩
            rw [cell_other _ _ _ _ (by simp; omega), cell_other _ _ _ _ (by simp; omega)]
            exact h
          have hw' := (hw.setCell (show w.heap.size ≤ (⟨w.heap.size, j, none⟩ : Addr).block from Nat.le_refl _) (.int .u8 ((ksh key).getD j 0))).setCell (show w.heap.size ≤ (⟨w.heap.size, j, none⟩ : Addr).block from Nat.le_refl _) (.int .u8 (bits .xor .u8 ((ksh key).getD j 0) x))
          clear hset hmg hget hxg r0 r1 hw hc
          generalize (ksh key).getD j 0 = z at *
          go_wp2
          refine ⟨⟨j + 1, by omega, by go_num, r2, hc2, hw'⟩, ?_⟩
          simp [intOf]; omega
        · have hd2 : decide ((j : Int) < (N : Int)) = false := by simp; omega
          have e0 : (ksh key).getD j 0 = 0 := by rw [List.getD_eq_getElem?_getD, List.getElem?_eq_none (by omega)]; rfl
          rw [e0] at hset
          have r2 := irow_set r0 j (bits .xor .u8 0 x)
          rw [hset] at r2
          have hc2 : ∀ i, i < N → ∃ b_ off_, ao = some ⟨b_, off_, none⟩ ∧ b_ ≠ w.heap.size ∧ (wr.setCell ⟨w.heap.size, j, none⟩ (.int .u8 (bits .xor .u8 0 x))).cell? ⟨b_, off_ + i, none⟩ = some (.int .u8 ((ksh key).getD i 0)) := fun i hi => by
            obtain ⟨b', off', e, hbn', h⟩ := hc i hi
            refine ⟨b', off', e, hbn', ?_⟩
            rw [cell_other _ _ _ _ (by simp; omega)]
            exact h
          have hw' := hw.setCell (show w.heap.size ≤ (⟨w.heap.size, j, none⟩ : Addr).block from Nat.le_refl _) (.int .u8 (bits .xor .u8 0 x))
          clear hset hmg hget hxg r0 hw hc e0
          go_wp2
          refine ⟨⟨j + 1, by omega, by go_num, r2, hc2, hw'⟩, ?_⟩
          simp [intOf]; omega
      · obtain rfl : j = 64 := by omega
        have hd : decide ((64 : Int) < 64) = false := by decide
        have e64 : mix (xl (kb64 key) x) (zr 64) 64 = xl (kb64 key) x := mix_all _ (zr 64) (by rw [hxl, hkl, hz64])
        rw [e64] at r0
        go_wp2
        go_ret
        exact ⟨_, _, rfl, rfl, Nat.le_refl _, r0, hw⟩

end Go.Proofs.YtilgicikcjcdjaaDoor

namespace Go.Proofs.YtilgicikcjcdjaaDoor
set_option maxRecDepth 100000
open Go Go.RowKit Go.Sort
attribute [local go_sem] setCell_drewN alloc_drewN

/-- A call as one step of a region that draws, by a contract that names what it answers only behind it. -/
theorem step_call {P : Program} {ops : Array Oper} {o : Oper} {a : Act} {w : World} {K : Act → World → Prop} {Q : Exit → Act → World → Prop} {E : Prop} (f : FuncId) (args : Array Value) {R : Value → World → Prop}
    (hg : o.guard = none) (hx : (execOp a.eval o).run P w = .ok (.enter f args) w) (c : Calls P f args w fun e w' => ∃ v, e = .returned v ∧ R v w') (h : ∀ v w', R v w' → K (a.put o.dst v) w') :
    if Region.wanted o (yielded ops a.tmps) = true then Oper.wp P o a w K Q else E := by
  have hw : Region.wanted o (yielded ops a.tmps) = true := by simp [Region.wanted, hg]
  rw [if_pos hw]
  unfold Oper.wp
  rw [hx, Oper.upon_enter]
  exact c.mono fun e w' ⟨v, he, hb⟩ => by subst he; exact h v w' hb
/-- Bytes, and nil has no room. -/
def NB (W : World) (v : Value) (bs : List Int) : Prop := Bys W v bs ∧ (∀ a l c, v = .slice a l c → a = none → c = 0)
theorem NB.keep {W W' : World} {v : Value} {bs : List Int} (h : NB W v bs) (hb : Below W.heap.size W W') : NB W' v bs := ⟨h.1.keep hb, h.2⟩
theorem BysM.nb {W : World} {v : Value} {bs : List Int} (h : BysM W v bs) : NB W v bs := ⟨h.1, h.2.2⟩
theorem NB.m {W : World} {v : Value} {bs : List Int} (h : NB W v bs) (hl : bs.length ≤ 211106232532992) : BysM W v bs := ⟨h.1, hl, h.2⟩
theorem NB.of_row {W : World} {g : Nat} {l : List Int} {t : TypeId} (hg : W.heap[g]? = some (.cells (irow .u8 l) t (0, 0))) (hl : l.length ≤ 9223372036854775807) (hz : ∀ z ∈ l, 0 ≤ z ∧ z < 256) (n cap : Nat) (hn : l.length = n) : NB W (.slice (some ⟨g, 0, none⟩) n cap) l := ⟨by rw [← hn]; exact Bys.of_row hg hl hz cap, fun a _ _ h ha => by cases h; cases ha⟩
theorem NB.of_own {W : World} {b n : Nat} {v : Value} {l : List Int} (h : W.ownsRow b 5 1 v n (l.map (Value.int .u8))) (hl : l.length ≤ 9223372036854775807) (hz : ∀ z ∈ l, 0 ≤ z ∧ z < 256) : NB W v l := ⟨Bys.of_own h hl hz, own_nil h⟩
theorem nb_nil (W : World) : NB W (.slice none 0 0) [] := ⟨bys_nil W, fun a l c h _ => by cases h; rfl⟩
theorem NB.form {W : World} {v : Value} {bs : List Int} (h : NB W v bs) : ∃ u uc, v = .slice u bs.length uc ∧ (u = none → uc = 0) := by
  obtain ⟨⟨u, uc, rfl, _⟩, hn⟩ := h
  exact ⟨u, uc, rfl, hn _ _ _ rfl⟩
/-- A row of lists of bytes. -/
theorem Pcs.of_row {W : World} {g : Nat} {t : TypeId} {vs : List Value} {ps : List (List Int)} (hg : W.heap[g]? = some (.cells vs.toArray t (0, 0))) (hl : vs.length = ps.length) (hs : ps.length ≤ 9223372036854775807) (h : ∀ i v, vs[i]? = some v → NB W v (ps.getD i [])) (n : Nat) (hn : ps.length = n) : Pcs W (.slice (some ⟨g, 0, none⟩) n n) ps := by
  subst hn
  refine ⟨_, _, rfl, hs, fun i hi => ?_⟩
  have hv : vs[i]? = some vs[i] := List.getElem?_eq_getElem (by omega)
  have hb := h i _ hv
  obtain ⟨u, uc, e, hu⟩ := hb.form
  refine ⟨g, 0, u, uc, rfl, lt_of_row hg, ?_, by rw [← e]; exact hb.1, hu⟩
  rw [Nat.zero_add, cell_of hg (by rw [List.getElem?_toArray]; exact hv), e]
theorem Pcs.two {W : World} {g : Nat} {t : TypeId} {v0 v1 : Value} {a b : List Int} (hg : W.heap[g]? = some (.cells #[v0, v1] t (0, 0))) (h0 : NB W v0 a) (h1 : NB W v1 b) : Pcs W (.slice (some ⟨g, 0, none⟩) 2 2) [a, b] :=
  Pcs.of_row (vs := [v0, v1]) hg rfl (by simp) (fun i v hv => by
    match i, hv with
    | 0, hv => cases hv; exact h0
    | 1, hv => cases hv; exact h1
    | (k + 2), hv => simp at hv) 2 rfl
theorem Pcs.three {W : World} {g : Nat} {t : TypeId} {v0 v1 v2 : Value} {a b c : List Int} (hg : W.heap[g]? = some (.cells #[v0, v1, v2] t (0, 0))) (h0 : NB W v0 a) (h1 : NB W v1 b) (h2 : NB W v2 c) : Pcs W (.slice (some ⟨g, 0, none⟩) 3 3) [a, b, c] :=
  Pcs.of_row (vs := [v0, v1, v2]) hg rfl (by simp) (fun i v hv => by
    match i, hv with
    | 0, hv => cases hv; exact h0
    | 1, hv => cases hv; exact h1
    | 2, hv => cases hv; exact h2
    | (k + 3), hv => simp at hv) 3 rfl
theorem Pcs.one {W : World} {g : Nat} {t : TypeId} {v0 : Value} {a : List Int} (hg : W.heap[g]? = some (.cells #[v0] t (0, 0))) (h0 : NB W v0 a) : Pcs W (.slice (some ⟨g, 0, none⟩) 1 1) [a] :=
  Pcs.of_row (vs := [v0]) hg rfl (by simp) (fun i v hv => by
    match i, hv with
    | 0, hv => cases hv; exact h0
    | (k + 1), hv => simp at hv) 1 rfl
theorem slice_k (g : Nat) (W : World) : (Instr.sliceAt 26 (.pointer (some ⟨g, 0, none⟩)) none none none).run Tryd.prog W = .ok (.slice (some ⟨g, 0, none⟩) 32 32) W := by kernel_rfl
theorem storeK {W : World} {g : Nat} {old l : List Int} {t : TypeId} (hg : W.heap[g]? = some (.cells (irow .u8 old) t (0, 0))) (ho : old.length = 32) (hl : l.length = 32) : (storeCells ⟨g, 0, none⟩ (irow .u8 l).toList).run Tryd.prog W = .ok () (W.setRow g (irow .u8 l)) := by
  have h := run_storeCells_from (P := Tryd.prog) g t (irow .u8 l).toList 0 (irow .u8 old) W hg (by rw [Array.length_toList, irow_size, irow_size]; omega) (fun v hv => (Array.all_eq_true_iff_forall_mem.1 (irow_one .u8 l)) v (by simpa using hv))
  rw [h, List.take_zero, List.nil_append, Array.toArray_toList]
set_option maxRecDepth 100000 in
set_option maxHeartbeats 4000000 in
theorem r_sum4 (key bs : List Int) (w : World) (vk vb : Value) (hK : BysM w vk key) (hB : BysM w vb bs) (hbl : bs.length ≤ 140737488355264) : Calls Tryd.prog 22 #[vk, vb] w fun e w' => e = .returned (.agg (irow .u8 (hm key bs))) ∧ Below w.heap.size w w' := by
  have hL1 := sumL_len (kin key ++ bs)
  have hL2 := hm_len key bs
  have hB1 := sumL_bd (kin key ++ bs)
  have hil := kin_len key
  have hol := kout_len key
  have hbz := bys_bd hB.1
  have hB0 := hB
  have r4 := hp1_0 w (.cells (irow .u8 (zr 32)) 26)
  have hw : Below w.heap.size w (w.alloc (.cells (irow .u8 (zr 32)) 26)) := (Below.refl _ _).alloc (Nat.le_refl _) _
  replace hK := hK.keep hw
  replace hB := hB.keep hw
  go_enter Tryd.func22, Tryd.ntmps22
  go_wp2_with (first | (refine wpList_alloc rfl 26 rfl (irow .u8 (zr 32)) zkey ?_) | fail)
  generalize w.alloc (.cells (irow .u8 (zr 32)) 26) = w0 at *
  refine (r_blockKey key 54 w0 vk hK).mono ?_
  rintro e_ w1 ⟨vr, g1, rfl, rfl, hg1, r1, hb⟩
  replace r4 := keep hb r4
  replace hK := hK.keep hb
  replace hB := hB.keep hb
  replace hw := Below.after hw hb
  clear hb hg1
  change w1.heap[g1]? = some (.cells (irow .u8 (kin key)) 5 (0, 0)) at r1
  have hba : Below w1.heap.size w1 (w1.alloc (.cells #[.slice (some ⟨g1, 0, none⟩) 64 64, vb] 67)) := (Below.refl _ _).alloc (Nat.le_refl _) _
  have hP := Pcs.two (hp1_0 w1 (.cells #[.slice (some ⟨g1, 0, none⟩) 64 64, vb] 67)) (NB.of_row (keep hba r1) (by omega) (kin_bd key) 64 64 hil) (hB.nb.keep hba)
  replace r4 := keep hba r4
  replace hK := hK.keep hba
  replace hw := Below.after hw hba
  clear hba r1 hB
  obtain ⟨ub, ubc, rfl, _⟩ : ∃ u uc, vb = .slice u bs.length uc ∧ True := by obtain ⟨u, uc, e, _⟩ := hB0.1; exact ⟨u, uc, e, trivial⟩
  go_wp2_with (fail)
  generalize w1.alloc (.cells #[.slice (some ⟨g1, 0, none⟩) 64 64, .slice ub bs.length ubc] 67) = w2 at *
  refine (r_joined [kin key, bs] w2 _ hP (by simp; omega)).mono ?_
  rintro e_ w3 ⟨vj, rfl, hown, hb⟩
  replace r4 := keep hb r4
  replace hK := hK.keep hb
  replace hw := Below.after hw hb
  clear hb hP
  have ef : [kin key, bs].flatten = kin key ++ bs := by simp
  rw [ef] at hown
  have hM := NB.of_own hown (by rw [List.length_append]; omega) (both_bd (kin_bd key) hbz)
  clear hown ef
  go_wp2_with (fail)
  refine (r_sumM (kin key ++ bs) w3 vj (hM.m (by rw [List.length_append]; omega))).mono ?_
  rintro e_ w4 ⟨rfl, hb⟩
  replace r4 := keep hb r4
  replace hK := hK.keep hb
  replace hw := Below.after hw hb
  clear hb hM
  have eH : hm key bs = sumL (kout key ++ sumL (kin key ++ bs)) := rfl
  rw [eH] at hL2
  replace eH := hide eH
  generalize sumL (kin key ++ bs) = I at *
  have r5 := hp1_0 w4 (.cells (irow .u8 I) 26)
  have hba : Below w4.heap.size w4 (w4.alloc (.cells (irow .u8 I) 26)) := (Below.refl _ _).alloc (Nat.le_refl _) _
  replace r4 := keep hba r4
  replace hK := hK.keep hba
  have hw5 := Below.after hw hba
  clear hba
  go_wp2_with (first | (refine wpList_alloc rfl 26 rfl (irow .u8 (zr 32)) zkey ?_) | (refine wpList_store_row rfl 26 _ _ rfl (w4.heap.size) (irow .u8 I) rfl rfl 26 _ (hp1_0 w4 _) (infok8 _ hL1) (fit32 _ _ (zr_len 32) hL1) (irow_one _ _) ?_; rw [setRow_alloc_new _ _ _ _ _ _ rfl]) | fail)
  replace hw := hw5
  clear hw5
  generalize w4.alloc (.cells (irow .u8 I) 26) = w5 at *
  generalize w4.heap.size = G5 at *
  have sk := slice_k G5
  have hbd : Below w5.heap.size w5 w5.drew := below_drN (Below.refl _ _) 1
  replace r4 := keep hbd r4
  replace r5 := keep hbd r5
  replace hK := hK.keep hbd
  replace hw := Below.after hw hbd
  clear hbd
  refine wp_region_noPanic ?_
  have ef : [kout key, I].flatten = kout key ++ I := by simp
  go_region_law
    ((first
      | (refine step_call (R := fun v w' => ∃ g, v = .slice (some ⟨g, 0, none⟩) 64 64 ∧ w5.drew.heap.size ≤ g ∧ w'.heap[g]? = some (.cells (irow .u8 (kout key)) 5 (0, 0)) ∧ Below w5.drew.heap.size w5.drew w') 28 _ (by rfl) (by kernel_rfl) ((r_blockKey key 92 _ vk hK).mono fun e w' ⟨vr, g, e1, h⟩ => ⟨vr, e1, g, h⟩) ?_
         rintro v6 w6 ⟨g6, rfl, hg6, r6, hb6⟩
         have hba : Below w6.heap.size w6 (w6.alloc (.cells #[.slice (some ⟨g6, 0, none⟩) 64 64, .slice (some ⟨G5, 0, none⟩) 32 32] 67)) := (Below.refl _ _).alloc (Nat.le_refl _) _
         have hP := Pcs.two (hp1_0 w6 (.cells #[.slice (some ⟨g6, 0, none⟩) 64 64, .slice (some ⟨G5, 0, none⟩) 32 32] 67)) (NB.of_row (keep hba r6) (by omega) (kout_bd key) 64 64 hol) (NB.of_row (keep hba (keep hb6 r5)) (by omega) hB1 32 32 hL1)
         replace r4 := keep hba (keep hb6 r4)
         replace hw := Below.after (Below.after hw hb6) hba
         clear hba hb6)
      | (refine step_call (R := fun v w' => w'.ownsRow (w6.alloc (.cells #[.slice (some ⟨g6, 0, none⟩) 64 64, .slice (some ⟨G5, 0, none⟩) 32 32] 67)).heap.size 5 1 v [kout key, I].flatten.length ([kout key, I].flatten.map (Value.int .u8)) ∧ Below (w6.alloc (.cells #[.slice (some ⟨g6, 0, none⟩) 64 64, .slice (some ⟨G5, 0, none⟩) 32 32] 67)).heap.size (w6.alloc (.cells #[.slice (some ⟨g6, 0, none⟩) 64 64, .slice (some ⟨G5, 0, none⟩) 32 32] 67)) w') 27 _ (by rfl) (by kernel_rfl) (r_joined [kout key, I] _ _ hP (by simp; omega)) ?_
         rintro v8 w8 ⟨hown, hb8⟩
         rw [ef] at hown
         have hM := (NB.of_own hown (by rw [List.length_append]; omega) (both_bd (kout_bd key) hB1)).m (by rw [List.length_append]; omega)
         replace r4 := keep hb8 r4
         replace hw := Below.after hw hb8
         clear hown hb8)
      | (refine step_call (R := fun v w' => v = .agg (irow .u8 (sumL (kout key ++ I))) ∧ Below w8.heap.size w8 w') 26 _ (by rfl) (by kernel_rfl) ((r_sumM (kout key ++ I) _ v8 hM).mono fun e w' ⟨e1, h⟩ => ⟨_, e1, rfl, h⟩) ?_
         rintro v9 w9 ⟨rfl, hb9⟩
         replace r4 := keep hb9 r4
         replace hw := Below.after hw hb9
         have hsv := storeK r4 (zr_len 32) hL2
         have hsz := (irow_size .u8 (sumL (kout key ++ I))).trans hL2
         clear hb9)))
  refine NoPanic.normal ?_
  replace r4 := setRow_heap w9 (w.heap.size) _ (irow .u8 (sumL (kout key ++ I))) _ _ r4
  replace hw := below_setRow hw (Nat.le_refl _) (irow .u8 (sumL (kout key ++ I)))
  clear hsv
  generalize w9.setRow (w.heap.size) (irow .u8 (sumL (kout key ++ I))) = wz at *
  go_wp2
  exact bodyPost_ret (v := .agg (irow .u8 (sumL (kout key ++ I)))) (results_cell_row Tryd.results22 _ _ (w.heap.size) _ _ _ _ rfl r4 Tryd.underlying26 rfl (infok8 _ hL2)) rfl ⟨by rw [eH.out], hw⟩

end Go.Proofs.YtilgicikcjcdjaaDoor

namespace Go.Proofs.YtilgicikcjcdjaaDoor
set_option maxRecDepth 100000
open Go Go.RowKit Go.Sort
attribute [local go_sem] setCell_drewN alloc_drewN

theorem NB.grown {W W' : World} {v : Value} {bs : List Int} {row : Option Nat} (h : NB W v bs) (hb : W.grownBy W' row) (hne : ∀ a l c, v = .slice (some a) l c → 0 < l → row ≠ some a.block) : NB W' v bs := by
  obtain ⟨⟨ao, cap, rfl, hl, hc, hz⟩, hn⟩ := h
  refine ⟨⟨ao, cap, rfl, hl, fun j hj => ?_, hz⟩, hn⟩
  obtain ⟨b, off, rfl, h1, h2⟩ := hc j hj
  have hn' := hne ⟨b, off, none⟩ _ _ rfl (by omega)
  exact ⟨b, off, rfl, Nat.lt_of_lt_of_le h1 hb.size, hb.cell h2 (by intro e; exact hn' e.symm)⟩
theorem ex1 {f : FuncId} {args : Array Value} {w : World} {v : Value} {B : World → Prop} (h : Calls Tryd.prog f args w fun e w' => e = .returned v ∧ B w') : Calls Tryd.prog f args w fun e w' => ∃ u, e = .returned u ∧ (u = v ∧ B w') := h.mono fun _ _ ⟨h1, h2⟩ => ⟨v, h1, rfl, h2⟩
theorem wrap8 (x : Int) (h0 : 0 ≤ x) (h1 : x < 256) : IntKind.u8.wrap x = x := by
  simp [IntKind.wrap, IntKind.bits, IntKind.signed]
  exact Int.emod_eq_of_lt h0 h1
theorem fin_row {wr W : World} {g : Nat} {old P : Array Value} {t : TypeId} (hb : Below wr.heap.size wr W) (hg : wr.heap.size ≤ g) (r : W.heap[g]? = some (.cells old t (0, 0))) : ∃ Wf, Wf = W.setRow g P ∧ Wf.heap[g]? = some (.cells P t (0, 0)) ∧ Below wr.heap.size wr Wf ∧ wr.heap.size ≤ g := ⟨_, rfl, setRow_heap W g _ P _ _ r, below_setRow hb hg P, hg⟩
theorem own_cap {W : World} {b n : Nat} {T : TypeId} {v : Value} {xs : List Value} (h : W.ownsRow b T 1 v n xs) : ∀ a l c, v = .slice a l c → l ≤ c := by
  intro a l c e
  obtain ⟨_, ⟨rfl, _⟩ | ⟨g, cap, cur, rfl, _, _, h3, _⟩⟩ := h
  · cases e; exact Nat.le_refl _
  · cases e; exact h3
theorem slice_to (ao : Option Addr) (len cap n : Nat) (h : n ≤ cap) (W : World) : (Instr.sliceAt 67 (.slice ao len cap) none (some (.int .i64 (n : Int))) none).run Tryd.prog W = .ok (.slice ao n cap) W := by
  rw [run_sliceAt_slice _ _ _ _ _ _ elem8, run_slice_h W 67 ao len cap elem8 .i64 _ (by omega) (by omega), size8]
  show Result.ok (sliced _ _ _ _ 1) W = _
  rw [Int.toNat_natCast, sliced, Nat.zero_mul]
  by_cases e : cap = 0
  · rw [if_pos e]; rfl
  · rw [if_neg e]
    cases ao <;> rfl
theorem Bys.take {W : World} {ao : Option Addr} {cap n : Nat} {bs : List Int} (h : Bys W (.slice ao bs.length cap) bs) (hn : n ≤ bs.length) : Bys W (.slice ao n cap) (bs.take n) := by
  obtain ⟨ao', cap', e, hl, hc, hz⟩ := h
  cases e
  have hln : (bs.take n).length = n := by rw [List.length_take]; omega
  refine ⟨ao, cap, by rw [hln], by omega, fun j hj => ?_, fun z h => hz z (List.mem_of_mem_take h)⟩
  obtain ⟨b, off, e, h1, h2⟩ := hc j (by omega)
  refine ⟨b, off, e, h1, ?_⟩
  rw [h2, List.getD_eq_getElem?_getD, List.getD_eq_getElem?_getD, List.getElem?_take_of_lt (by omega)]
/-- What the two roads come to. -/
theorem bel2 (w : World) (a b : Obj) : Below w.heap.size w ((w.alloc a).alloc b) := ((Below.refl _ _).alloc (Nat.le_refl _) _).alloc (by simp) _
theorem bel3 (w : World) (a b c : Obj) : Below w.heap.size w (((w.alloc a).alloc b).alloc c) := (((Below.refl _ _).alloc (Nat.le_refl _) _).alloc (by simp) _).alloc (by simp; omega) _
theorem pieces3 {W V : World} {g1 g3 : Nat} {t t3 : TypeId} {v0 v1 : Value} {a b : List Int} {x : Int} (hb : Below W.heap.size W V) (h0 : NB W v0 a) (h1 : NB W v1 b) (r1 : V.heap[g1]? = some (.cells #[.int .u8 x] t (0, 0))) (hx : ∀ z ∈ [x], 0 ≤ z ∧ z < 256) (r3 : V.heap[g3]? = some (.cells #[v0, v1, .slice (some ⟨g1, 0, none⟩) 1 1] t3 (0, 0))) : Pcs V (.slice (some ⟨g3, 0, none⟩) 3 3) [a, b, [x]] :=
  Pcs.three r3 (h0.keep hb) (h1.keep hb) (NB.of_row (l := [x]) r1 (by simp) hx 1 1 rfl)
end Go.Proofs.YtilgicikcjcdjaaDoor

namespace Go.Proofs.YtilgicikcjcdjaaDoor
set_option maxRecDepth 100000
open Go Go.RowKit Go.Sort
attribute [local go_sem] setCell_drewN alloc_drewN

/-- What an answer of the reference's Expand or Derive is. -/
def RAns (W : World) (v : Value) (key info : List Int) (n : Int) : Prop := (∃ (m : Nat) (u : Value), n = (m : Int) ∧ m ≤ 8160 ∧ v = .tuple #[u, .int .i64 0] ∧ NB W u (xpd key info m)) ∨ ((n < 0 ∨ 8160 < n) ∧ v = .tuple #[.slice none 0 0, .int .i64 (if n < 0 then 1 else 2)])
end Go.Proofs.YtilgicikcjcdjaaDoor
