import Derived.Test.YtelildhjkknaiaaProg
import Derived.WalkKit
import Derived.WalkSpells
import Derived.WalkLawsBesides
import Derived.Lib.QuietBelow
import Derived.BigQuiet
import Derived.Test.YtelildhjkknaiaaS0
import Derived.Test.YtelildhjkknaiaaS2
import Derived.Deep.Cut
namespace Go.Proofs.Ytelildhjkknaiaa.Wi
open Go Go.RowKit Go.Sort
attribute [local go_sem] setCell_drewN alloc_drewN

theorem fol_concat (h a b : List Int) (q : Nat) (ha : a.length = 128 * q) : ∀ k, fol h (a ++ b) (q + k) = fol (fol h a q) b k
  | 0 => by rw [Nat.add_zero, fol_append h a b q (by omega)]; rfl
  | k + 1 => by
    rw [← Nat.add_assoc, fol, fol_concat h a b q ha k, fol]
    congr 1
    unfold chunk
    apply prq_congr
    intro j _ _
    rw [wat, wat, getD_append_ge a b _ (by omega)]
    congr 1
    omega
theorem bys_none2 {W : World} {ao : Option Addr} {m cap : Nat} {bs : List Int} (hB : Bys W (.slice ao m cap) bs) (hn : ao = none → cap = 0) : ao = none → m = 0 ∧ cap = 0 := by
  obtain ⟨ao', cap', e, _, hc, _⟩ := hB
  cases e
  intro h
  refine ⟨?_, hn h⟩
  rcases Nat.eq_zero_or_pos bs.length with e | e
  · exact e
  · obtain ⟨b, off, e', _⟩ := hc 0 e
    rw [h] at e'; cases e'
theorem bys_cells2 {W : World} {ao : Option Addr} {m cap : Nat} {bs : List Int} (hB : Bys W (.slice ao m cap) bs) : ∀ ad, ao = some ad → ∀ j u, (bs.map (Value.int .u8))[j]? = some u → W.cell? (ad.add j) = some u := by
  have e : m = bs.length := by obtain ⟨_, _, e, _⟩ := hB; cases e; rfl
  subst e
  exact bys_cells hB
theorem own_cap {W : World} {b n : Nat} {T : TypeId} {v : Value} {xs : List Value} (h : W.ownsRow b T 1 v n xs) : ∀ a l c, v = .slice a l c → l ≤ c := by
  intro a l c e
  obtain ⟨_, ⟨rfl, _⟩ | ⟨g, cap, cur, rfl, _, _, h3, _⟩⟩ := h
  · cases e; exact Nat.le_refl _
  · cases e; exact h3
theorem own_nil {W : World} {b n : Nat} {T : TypeId} {v : Value} {xs : List Value} (h : W.ownsRow b T 1 v n xs) : ∀ a l c, v = .slice a l c → a = none → c = 0 := by
  intro a l c e ha
  obtain ⟨_, ⟨rfl, _⟩ | ⟨g, cap, cur, rfl, _⟩⟩ := h
  · cases e; rfl
  · cases e; cases ha
theorem plen_fits (n e : Nat) (hn : n % 128 = 0) : (e + plen (n + e)) % 128 = 0 := by unfold plen; omega
theorem slice_to (ao : Option Addr) (len cap n : Nat) (h : n ≤ cap) (W : World) : (Instr.sliceAt 22 (.slice ao len cap) none (some (.int .i64 (n : Int))) none).run Try.prog W = .ok (.slice ao n cap) W := by
  rw [run_sliceAt_slice _ _ _ _ _ _ elem8, run_slice_h W 22 ao len cap elem8 .i64 _ (by omega) (by omega), size8]
  show Result.ok (sliced _ _ _ _ 1) W = _
  rw [Int.toNat_natCast, sliced, Nat.zero_mul]
  by_cases e : cap = 0
  · rw [if_pos e]; rfl
  · rw [if_neg e]
    cases ao <;> rfl
theorem Bys.take {W : World} {ao : Option Addr} {cap n : Nat} {bs : List Int} (h : Bys W (.slice ao bs.length cap) bs) (hn : n ≤ bs.length) : Bys W (.slice ao n cap) (bs.take n) := by
  obtain ⟨ao', cap', e, hl, hc, hz⟩ := h
  cases e
  have hln : (bs.take n).length = n := by rw [List.length_take]; omega
  refine ⟨ao, cap, by rw [hln], by omega, fun j hj => ?_, fun z h => hz z (List.mem_of_mem_take h)⟩
  obtain ⟨b, off, e, h1, h2⟩ := hc j (by omega)
  refine ⟨b, off, e, h1, ?_⟩
  rw [h2, List.getD_eq_getElem?_getD, List.getD_eq_getElem?_getD, List.getElem?_take_of_lt (by omega)]
/-- What the two roads come to. -/
theorem folds_same (a e : List Int) (ha : a.length % 128 = 0) : fol (fol sl a (a.length / 128)) (e ++ padL (a.length + e.length)) ((e ++ padL (a.length + e.length)).length / 128) = sumW (a ++ e) := by
  have hp := padL_len (a.length + e.length)
  have hf := plen_fits a.length e.length ha
  have hl : (e ++ padL (a.length + e.length)).length = e.length + plen (a.length + e.length) := by rw [List.length_append, hp]
  rw [← fol_concat sl a _ (a.length / 128) (by omega), sumW, List.append_assoc, show (a ++ e).length = a.length + e.length from List.length_append]
  congr 1
  rw [List.length_append, List.length_append, hp]
  omega
set_option maxRecDepth 100000 in
set_option maxHeartbeats 8000000 in
theorem folds_any (xs es : List Int) (w : World) (va ve : Value) (hNa : BysN w va xs) (hCa : ∀ a l c, va = .slice a l c → l ≤ c) (hNe : BysN w ve es) (hsz : xs.length + es.length ≤ 4194304) : Calls Try.prog 8 #[va, ve] w fun e w' => e = .returned (.bool true) ∧ Below w.heap.size w w' := by
  have hzs : ∀ z ∈ xs, 0 ≤ z ∧ z < 256 := by obtain ⟨⟨_, _, _, _, _, h⟩, _⟩ := hNa; exact h
  have hze : ∀ z ∈ es, 0 ≤ z ∧ z < 256 := by obtain ⟨⟨_, _, _, _, _, h⟩, _⟩ := hNe; exact h
  obtain ⟨hBa, _, hnilA⟩ := hNa
  obtain ⟨ao, cap, rfl, _, _, _⟩ := id hBa
  replace hCa := hCa _ _ _ rfl
  have hnA := bys_none hBa hnilA
  obtain ⟨hBe, _, hnilE⟩ := hNe
  obtain ⟨eo, ecap, rfl, _, _, _⟩ := id hBe
  have hnE := bys_none hBe hnilE
  obtain ⟨i0, hi, hz0, hz1, hz2⟩ := info8
  obtain ⟨n, en⟩ : ∃ n : Nat, n = xs.length - xs.length % 128 := ⟨_, rfl⟩
  have hcut := slice_to ao xs.length cap n (by omega)
  have hBt := Bys.take hBa (n := n) (by omega)
  have hnT : ao = none → n = 0 ∧ cap = 0 := fun h => by have := hnA h; omega
  have hlt : (xs.take n).length = n := by rw [List.length_take]; omega
  have hzt : ∀ z ∈ xs.take n, 0 ≤ z ∧ z < 256 := fun z h => hzs z (List.mem_of_mem_take h)
  have enI : (xs.length : Int) - (xs.length : Int) % 128 = (n : Int) := by omega
  have hn64 : n % 128 = 0 := by omega
  have hsz2 : n + es.length ≤ 4194304 := by omega
  clear hBa hnilA hnilE hnA hCa en hzs
  generalize xs.take n = A at *
  have hsame := folds_same A es (by omega)
  rw [hlt] at hsame
  have hpf := plen_fits n es.length hn64
  have hpb := plen_bd (n + es.length)
  have hpl := padL_len (n + es.length)
  have cW := a_words sl A rfl
  have cF := fun (W : World) (x : Value) (h : Bys W x A) => r_fold sl A rfl W x h sl_bd
  simp only [hlt] at cW cF
  have hHA8 : (fol sl A (n / 128)).length = 8 := fol_len rfl _ _
  have cW2 := a_words (fol sl A (n / 128)) (es ++ padL (n + es.length)) hHA8
  simp only [hsame] at cW2
  have hRl : (es ++ padL (n + es.length)).length = es.length + plen (n + es.length) := by rw [List.length_append, hpl]
  have hRz := both_bd hze (padL_bd (n + es.length))
  have hPz := padL_bd (n + es.length)
  have cB := r_bytes (sumW (A ++ es)) (sumW_len _) (sumW_bd _)
  rw [show byts (sumW (A ++ es)) = sumL (A ++ es) from rfl] at cB
  have heq := eqSum (A ++ es)
  have heq2 : ∀ W, (Op.equalIn 10000 31 (.agg (irow .u64 (fol sl A (n / 128)))) (.agg (irow .u64 (fol sl A (n / 128))))).run Try.prog W = .ok true W := fun W => by rw [eq23 _ _ hHA8 hHA8]; simp
  have hWl : (A ++ es).length = n + es.length := by rw [List.length_append, hlt]
  have hWz := both_bd hzt hze
  have cS := fun (W : World) (x : Value) h0 h1 => a_sum (A ++ es) W x h0 h1 (by omega)
  clear hsame
  generalize fol sl A (n / 128) = HA at *
  generalize sumW (A ++ es) = SW at *
  generalize sumL (A ++ es) = SL at *
  have cP := a_pad (n + es.length) (by omega)
  generalize eR : es ++ padL (n + es.length) = R at *
  generalize ePL : padL (n + es.length) = PL at *
  generalize plen (n + es.length) = pl at *
  go_enter Try.func8, Try.ntmps8
  go_wp2_with (fail)
  refine (r_start.at _).mono ?_
  rintro e_ w1 ⟨rfl, hw⟩
  replace hBt := hBt.keep hw
  replace hBe := hBe.keep hw
  go_wp2_with (fail)
  refine (cW w1 _ hBt (by omega)).mono ?_
  rintro e_ w2 ⟨rfl, hb⟩
  replace hBt := hBt.keep hb
  replace hBe := hBe.keep hb
  replace hw := Below.after hw hb
  clear hb
  go_upto_region 3 with (first | (refine wpList_alloc rfl 31 rfl (irow .u64 (zr 8)) zw8 ?_) | (refine wpList_store_row rfl 31 _ _ rfl (w2.heap.size) (irow .u64 HA) rfl rfl 31 _ (hp1_0 w2 _) (info23 _ hHA8) (fit8 _ _ (zr_len 8) hHA8) (irow_one _ _) ?_; rw [setRow_alloc_new _ _ _ _ _ _ rfl]) | fail)
  simp only [Act.put, List.setIfInBounds_toArray, List.set_cons_succ, List.set_cons_zero]
  have rh := hp1_0 w2 (.cells (irow .u64 HA) 31)
  have hb : Below w2.heap.size w2 (w2.alloc (.cells (irow .u64 HA) 31)) := (Below.refl _ _).alloc (Nat.le_refl _) _
  replace hBt := hBt.keep hb
  replace hBe := hBe.keep hb
  replace hw := Below.after hw hb
  clear hb
  generalize w2.alloc (.cells (irow .u64 HA) 31) = w3 at *
  generalize w2.heap.size = gH at *
  -- the end, and the padding behind it
  have hba : Below w3.heap.size w3 (w3.alloc (.cells #[] 5)) := (Below.refl _ _).alloc (Nat.le_refl _) _
  have hcell_ := bys_cells2 (hBe.keep hba)
  have hnone_ := hnE
  have hoe := own_empty w3
  have hbase_ := hba.size
  go_wp2_with (at_builtin; refine wpList_append_own_any _ rfl (.tmp 19) (.tmp 20) 22 rfl w3.heap.size 5 i0 (.int .u8 0) Try.underlying22 hi hz0 hz1 hz2 rfl _ 0 _ rfl hoe eo es.length ecap (es.map (Value.int .u8)) rfl (by rw [List.length_map]; omega) hnone_ hcell_ (ints_one .u8 _) (by unfold maxLen; omega) (by omega) hbase_ ?_)
  intro v1 w4 hown hgr
  try simp only [List.nil_append, Nat.zero_add] at hown
  replace hgr : (w3.alloc (.cells #[] 5)).grownBy w4 (some w3.heap.size) := hgr
  have hT : Below w3.heap.size w3 w4 := hba.grown hgr hba.size (fun k h => by injection h with h; omega)
  clear hba hcell_ hnone_ hoe hbase_ hgr
  obtain ⟨ao1, cap1, rfl⟩ := slen_own hown
  go_wp2_with (fail)
  refine (cP w4).mono ?_
  rintro e_ w5 ⟨vp, gp, rfl, rfl, hgp, rp, hb⟩
  have own1 := own_keep hown hb
  have hs4 := hT.size
  replace hT := hT.trans (hb.mono hs4)
  clear hown hb cP
  have hBp : Bys w5 (.slice (some ⟨gp, 0, none⟩) pl pl) PL := by rw [← hpl]; exact Bys.of_row rp (by omega) hPz _
  have hcell_ := bys_cells2 hBp
  have hnone_ : (some (⟨gp, 0, none⟩ : Addr)) = none → pl = 0 ∧ pl = 0 := fun h => by cases h
  have hbase_ := hT.size
  go_wp2_with (at_builtin; refine wpList_append_own_any _ rfl (.tmp 21) (.tmp 28) 22 rfl w3.heap.size 5 i0 (.int .u8 0) Try.underlying22 hi hz0 hz1 hz2 rfl _ es.length _ rfl own1 (some ⟨gp, 0, none⟩) pl pl (PL.map (Value.int .u8)) rfl (by rw [List.length_map]; omega) hnone_ hcell_ (ints_one .u8 _) (by unfold maxLen; omega) (by omega) hbase_ ?_)
  intro v2 w6 own2 hgr
  rw [← List.map_append, eR] at own2
  replace hT := hT.trans ((Below.refl w3.heap.size w5).grown hgr hbase_ (fun k h => (own1.lt k h).1))
  clear hcell_ hnone_ hbase_ hgr own1 hBp rp
  obtain ⟨ao2, cap2, rfl⟩ := slen_own own2
  have hd1 : (((es.length : Int) + (pl : Int)) % 128 != 0) = false := by simp; omega
  have hd2 : decide ((es.length : Int) + (pl : Int) < (es.length : Int) + 17) = false := by simp; omega
  have hs6 := hT.size
  replace hBt := hBt.keep hT
  replace hBe := hBe.keep hT
  replace rh := keep hT rh
  replace hw := Below.after hw hT
  -- the whole
  have hba : Below w6.heap.size w6 (w6.alloc (.cells #[] 5)) := (Below.refl _ _).alloc (Nat.le_refl _) _
  have hcell_ := bys_cells2 (hBt.keep hba)
  have hnone_ := hnT
  have hoe := own_empty w6
  have hbase_ := hba.size
  clear hT
  go_wp2_with (at_builtin; refine wpList_append_own_any _ rfl (.tmp 42) (.tmp 43) 22 rfl w6.heap.size 5 i0 (.int .u8 0) Try.underlying22 hi hz0 hz1 hz2 rfl _ 0 _ rfl hoe ao n cap (A.map (Value.int .u8)) rfl (by rw [List.length_map]; omega) hnone_ hcell_ (ints_one .u8 _) (by unfold maxLen; omega) (by omega) hbase_ ?_)
  intro v3 w7 hown hgr
  try simp only [List.nil_append, Nat.zero_add] at hown
  replace hgr : (w6.alloc (.cells #[] 5)).grownBy w7 (some w6.heap.size) := hgr
  have hT : Below w6.heap.size w6 w7 := hba.grown hgr hba.size (fun k h => by injection h with h; omega)
  clear hba hcell_ hnone_ hoe hbase_ hgr
  obtain ⟨ao3, cap3, rfl⟩ := slen_own hown
  have hcell_ := bys_cells2 (hBe.keep hT)
  have hnone_ := hnE
  have hbase_ := hT.size
  go_wp2_with (at_builtin; refine wpList_append_own_any _ rfl (.tmp 44) (.tmp 45) 22 rfl w6.heap.size 5 i0 (.int .u8 0) Try.underlying22 hi hz0 hz1 hz2 rfl _ n _ rfl hown eo es.length ecap (es.map (Value.int .u8)) rfl (by rw [List.length_map]; omega) hnone_ hcell_ (ints_one .u8 _) (by unfold maxLen; omega) (by omega) hbase_ ?_)
  intro v4 w8 own4 hgr
  rw [← List.map_append] at own4
  replace hT := hT.trans ((Below.refl w6.heap.size w7).grown hgr hbase_ (fun k h => (hown.lt k h).1))
  clear hcell_ hnone_ hbase_ hgr hown
  obtain ⟨ao4, cap4, rfl⟩ := slen_own own4
  replace hBt := hBt.keep hT
  replace rh := keep hT rh
  replace hw := Below.after hw hT
  replace own2 := own_keep own2 hT
  have hBr := Bys.of_own own2 (by omega) hRz
  have hBw := Bys.of_own own4 (by omega) hWz
  have hcw := own_cap own4
  clear hT own2 own4 hBe hd1 hd2 cW hcut
  have Hrh := keepr rh
  go_wp2
  refine wp_region_quiet_below (by kernel_rfl) (by kernel_rfl) ?_
  refine wpQuiet_load_row rfl 31 _ rfl (gH) rfl 31 (irow .u64 HA) (0, 0) _ Hrh.out Try.underlying31 rfl (info23 _ hHA8) ?_
  simp only [Act.put, List.setIfInBounds_toArray, List.set_cons_succ, List.set_cons_zero]
  go_big_quiet_step (fail)
  go_big_quiet_step (exact Calls.regrown_of (cW2 _ _ (hBr.keep (below_regrown _ _ _)) (by omega)))
  go_big_quiet_step (exact cB.re)
  go_big_quiet_step (fail)
  go_big_quiet_step (exact Calls.regrown_of (cS _ _ (hBw.keep (below_regrown _ _ _)) hcw))
  go_big_quiet_step (fail)
  go_big_quiet_step (fail)
  refine wpQuiet_load_want rfl 31 _ rfl (gH) rfl 31 (irow .u64 HA) (0, 0) _ Hrh.out Try.underlying31 rfl (info23 _ hHA8) ?_
  simp only [Act.put, List.setIfInBounds_toArray, List.set_cons_succ, List.set_cons_zero]
  go_big_quiet_step (exact r_start.re)
  go_big_quiet_step (fail)
  go_big_quiet_step (exact Calls.regrown_of (cF _ _ (hBt.keep (below_regrown _ _ _)) (by omega)))
  go_big_quiet_step (fail)
  go_big_quiet_step (fail)
  go_big_quiet_step (fail)
  refine wpQuiet_nil ?_
  rintro _ ⟨p, rfl⟩
  have hb := below_regrown w8 p.d p.os
  generalize grow (redrawn w8 p.d) p.os = w9 at *
  replace hw := Below.after hw hb
  clear hb

  go_wp2
  go_ret
  exact ⟨rfl, hw⟩

end Go.Proofs.Ytelildhjkknaiaa.Wi

