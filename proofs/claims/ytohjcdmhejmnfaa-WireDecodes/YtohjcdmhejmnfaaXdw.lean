import Derived.Test.YtohjcdmhejmnfaaProg
import Derived.WalkKit
import Derived.WalkSpells
import Derived.WalkLawsBesides
import Derived.Lib.QuietBelow
import Derived.Laws.BitsAllLaws
import Derived.BigQuiet
import Derived.WalkMore
import Derived.Test.YtohjcdmhejmnfaaKit
import Derived.Test.YtohjcdmhejmnfaaXdv
import Derived.Test.YtohjcdmhejmnfaaXsb
import Derived.Test.YtohjcdmhejmnfaaXdn
namespace Go.Proofs.Ytohjcdmhejmnfaa
open Go Go.RowKit Go.Sort
attribute [local go_sem] setCell_drewN alloc_drewN

/-- The mark of the item i. -/
def m7 (i : Nat) : B := BitVec.ofNat 8 (7 * i)
theorem bv_m7 (i : Nat) : (7 * (i : Int)) % 256 = bv (m7 i) := by
  rw [m7, bv, BitVec.toNat_ofNat]; omega
/-- The items up to i written over. -/
def k7 (ps : List (List B)) (i : Nat) : List (List B) := (List.range ps.length).map fun k => if k < i then List.replicate (gp ps k).length (m7 k) else gp ps k
theorem k7_len (ps : List (List B)) (i : Nat) : (k7 ps i).length = ps.length := by simp [k7]
theorem k7_gp (ps : List (List B)) (i k : Nat) (hk : k < ps.length) : gp (k7 ps i) k = if k < i then List.replicate (gp ps k).length (m7 k) else gp ps k := by
  rw [gp, k7, List.getD_eq_getElem?_getD, List.getElem?_map, List.getElem?_range hk]; rfl
theorem k7_zero (ps : List (List B)) : k7 ps 0 = ps := ext_gp (k7_len _ _) (fun k hk => by rw [k7_len] at hk; rw [k7_gp ps 0 k hk, if_neg (by omega)])
theorem k7_succ (ps : List (List B)) (i : Nat) (hi : i < ps.length) : (k7 ps i).set i (List.replicate (gp ps i).length (m7 i)) = k7 ps (i + 1) := by
  refine ext_gp (by rw [List.length_set, k7_len, k7_len]) (fun k hk => ?_)
  rw [List.length_set, k7_len] at hk
  rw [gp_set _ _ _ _ (by rw [k7_len]; exact hi), k7_gp _ _ _ hk, k7_gp _ _ _ hk]
  by_cases e : k = i
  · subst e; rw [if_pos rfl, if_pos (by omega)]
  · rw [if_neg e]
    by_cases q : k < i
    · rw [if_pos q, if_pos (by omega)]
    · rw [if_neg q, if_neg (by omega)]
theorem k7_len_at (ps : List (List B)) (i k : Nat) (hk : k < ps.length) : (gp (k7 ps i) k).length = (gp ps k).length := by
  rw [k7_gp _ _ _ hk]
  split
  · rw [List.length_replicate]
  · rfl
/-- Fields handed out whose data were written over. -/
def Dts (W : World) (base : Nat) (v : Value) (us : List Value) (fs : List Fd) (ds : List (List B)) : Prop :=
  W.ownsRow base 38 4 v fs.length (frs fs us) ∧ us.length = fs.length ∧ (∀ i, i < us.length → Own W base (gv us i) (gp ds i)) ∧
  (∀ i, i < us.length → ∀ k, (gv us i).ownBlock = some k → v.ownBlock ≠ some k) ∧ (∀ i j, i < j → j < us.length → ∀ k, (gv us i).ownBlock = some k → (gv us j).ownBlock ≠ some k)
theorem dfs_len2 (d : List B) : (dfs (dwh d)).length ≤ 64 := by
  cases hx : (dwh d).2 with
  | none => exact dfs_len d (by unfold der; rw [hx])
  | some x =>
    have e2 : dfs (dwh d) = [] := by unfold dfs; rw [hx]
    rw [e2]; simp
theorem gp_map (fs : List Fd) (i : Nat) (hi : i < fs.length) : gp (fs.map (·.dat)) i = (gf fs i).dat := by
  rw [gp, gf, List.getD_eq_getElem?_getD, List.getElem?_map, List.getD_eq_getElem?_getD, List.getElem?_eq_getElem hi]; rfl
theorem Fts.dts {W : World} {b : Nat} {v : Value} {us : List Value} {fs : List Fd} (h : Fts W b v us fs) : Dts W b v us fs (fs.map (·.dat)) :=
  ⟨h.1, h.2.1, fun i hi => by rw [gp_map _ _ (by have := h.2.1; omega)]; exact h.2.2.1 i hi, h.2.2.2⟩
theorem Dts.upd {W V : World} {b : Nat} {v : Value} {us : List Value} {fs : List Fd} {ds : List (List B)} {i : Nat} {p : List B} (h : Dts W b v us fs ds) (hl : ds.length = fs.length) (hi : i < fs.length) (hg : W.grownBy V (gv us i).ownBlock) (hO : Own V b (gv us i) p) : Dts V b v us fs (ds.set i p) := by
  obtain ⟨h1, h2, h3, h4, h5⟩ := h
  refine ⟨row_grown h1 hg (fun k e e2 => h4 i (by omega) k e2 e), h2, fun k hk => ?_, h4, h5⟩
  rw [gp_set _ _ _ _ (by omega)]
  split
  · rename_i e; subst e; exact hO
  · rename_i e
    refine row_grown (h3 k hk) hg (fun g hk2 e2 => ?_)
    rcases Nat.lt_or_ge k i with q | q
    · exact h5 k i q (by omega) g hk2 e2
    · exact h5 i k (by omega) hk g e2 hk2
theorem Dts.at {W : World} {b : Nat} {v : Value} {us : List Value} {fs : List Fd} {ds : List (List B)} (h : Dts W b v us fs ds) {i : Nat} (hi : i < fs.length) : ∃ gx off xc uo uc, v = .slice (some ⟨gx, off, none⟩) fs.length xc ∧ W.cell? ⟨gx, off + i * 4 + 3, none⟩ = some (gv us i) ∧ gv us i = .slice uo (gp ds i).length uc ∧ Own W b (gv us i) (gp ds i) := by
  obtain ⟨h1, h2, h3, _⟩ := h
  obtain ⟨uo, uc, hu⟩ := slen_own (h3 i (by omega))
  have h1' := h1
  rcases h1'.2 with ⟨_, h0⟩ | ⟨g, cp, cur, p2, pb, pg, p3⟩
  · omega
  · have := h1.cells (g := g) (by rw [p2]; rfl) (i * 4 + 3) (gv us i) (by rw [frs_at fs us i 3 h2 hi (by omega)]; rfl)
    rw [addr_add, ← Nat.add_assoc] at this
    exact ⟨g, 0, cp, uo, uc, p2, this, hu, h3 i (by omega)⟩

set_option maxRecDepth 100000 in
set_option maxHeartbeats 16000000 in
theorem decodes_any (d : List B) (W : World) (v : Value) (hB : BysB W v d) (hcap : ∀ a l c, v = .slice a l c → l ≤ c) : Calls Try.prog 4 #[v] W fun e w' => e = .returned (.bool true) ∧ Below W.heap.size W w' := by
  have hl := hB.2.1
  have hoks := dfs_oks d
  have hpl := dfs_len2 d
  have cL := l_lent d W v hB
  go_enter Try.func4, Try.ntmps4
  go_wp2_with (fail)
  refine cL.mono ?_
  rintro e_ w1 ⟨_, rfl, g, rfl, hgW, rg, hw⟩
  clear cL
  have hC := bysB_row rg (by omega) (d.length + 80)
  have lg := lt_of_row rg
  have cS := a_decode d w1 _ hC (fun a l c e => by cases e; omega)
  generalize hps : dfs (dwh d) = fs at *
  generalize hpa : dpl (dwh d) = pa at *
  generalize hpe : der (dwh d) = pe at *
  replace hoks := hide hoks
  go_wp2_with (fail)
  refine cS.mono ?_
  rintro e_ w2 ⟨x, us, rfl, hI, hb⟩
  have hHi := hide hI.high.2
  replace hw := Below.after hw hb
  have hbl := hb
  replace rg := keep hb rg
  replace hC := hC.keep hb
  clear hb cS
  have cS := a_decode d w2 _ hC (fun a l c e => by cases e; omega)
  rw [hps, hpa, hpe] at cS
  go_wp2_with (fail)
  refine cS.mono ?_
  rintro e_ w3 ⟨y, ys, rfl, hY, hb⟩
  replace hw := Below.after hw hb
  have hs2 := hb.size
  replace hbl := hbl.trans (hb.mono hbl.size)
  replace rg := keep hb rg
  replace hI := hI.keep hb
  clear hb cS hC
  have cR := r_decode d w3 v (hB.keep hw) hcap
  rw [hps, hpa, hpe] at cR
  clear hpa hpe
  go_wp2_with (fail)
  refine cR.mono ?_
  rintro e_ w4 ⟨z, zs, rfl, hJ, hb⟩
  replace hw := Below.after hw hb
  replace hbl := hbl.trans (hb.mono hbl.size)
  replace rg := keep hb rg
  replace hI := hI.keep hb
  replace hY := hY.keep hb
  replace hJ := hJ.down hs2
  clear hb cR
  have cI := l_alike fs w4 x z (hI.fds (by omega) hoks.out) (hJ.fds (by omega) hoks.out)
  go_wp2_with (fail)
  refine cI.mono ?_
  rintro e_ w5 ⟨rfl, hb⟩
  replace hw := Below.after hw hb
  replace hbl := hbl.trans (hb.mono hbl.size)
  replace rg := keep hb rg
  replace hI := hI.keep hb
  replace hY := hY.keep hb
  replace hJ := hJ.keep hb
  clear hb cI
  have cI := l_alike fs w5 y z (hY.fds (by omega) hoks.out) (hJ.fds (by omega) hoks.out)
  go_wp2_with (fail)
  refine cI.mono ?_
  rintro e_ w6 ⟨rfl, hb⟩
  replace hw := Below.after hw hb
  replace hbl := hbl.trans (hb.mono hbl.size)
  replace rg := keep hb rg
  replace hI := hI.keep hb
  replace hY := hY.keep hb
  replace hJ := hJ.keep hb
  clear hb cI
  have cK := l_kept d g w6 v (hB.keep hw) rg
  go_wp2_with (fail)
  refine cK.mono ?_
  rintro e_ w7 ⟨rfl, hb⟩
  replace hw := Below.after hw hb
  replace hbl := hbl.trans (hb.mono hbl.size)
  replace rg := keep hb rg
  replace hI := hI.keep hb
  replace hY := hY.keep hb
  replace hJ := hJ.keep hb
  clear hb cK
  obtain ⟨xo, xc, hxe⟩ := slen_own hI.1
  subst hxe
  have hWg : W.heap.size ≤ w1.heap.size := by omega
  have hus : us.length = fs.length := hI.2.1
  replace hI := hI.dts
  have hbnd : ∀ i, i < fs.length → (gp (fs.map (·.dat)) i).length ≤ 140737488351232 := fun i hi => by rw [gp_map _ _ hi]; exact (hoks.out i hi).2.1
  replace hbnd := hide hbnd
  have hpsl : (fs.map (·.dat)).length = fs.length := List.length_map _
  generalize fs.map (·.dat) = ps at *
  replace hpsl := hide hpsl
  replace hus := hide hus
  generalize hnf : fs.length = nf at *
  replace hnf := hide hnf
  go_wp2_with (fail)
  go_loopw [14] (fun i wr => ∃ k : Nat, k ≤ nf ∧ i = .int .i64 k ∧ Dts wr w1.heap.size (.slice xo nf xc) us fs (k7 ps k) ∧ (∀ g o, w2.heap.size ≤ g → w7.heap[g]? = some o → wr.heap[g]? = some o) ∧ Below w1.heap.size w7 wr) (fun i _ => nf - (intOf i).toNat)
  case atStart => exact ⟨0, by omega, rfl, by rw [k7_zero]; exact hI, fun _ _ _ h => h, Below.refl _ _⟩
  case round =>
    clear hI
    obtain ⟨k, hk, rfl, hI, hfr, hw8⟩ := hrel
    by_cases hlt : k < nf
    · have hd : decide ((k : Int) < (nf : Int)) = true := by simp; omega
      have hbk := hbnd.out k hlt
      go_wp2_with (fail)
      go_loopw [15] (fun i wr => ∃ j : Nat, j ≤ (gp ps k).length ∧ i = .int .i64 j ∧ Dts wr w1.heap.size (.slice xo nf xc) us fs ((k7 ps k).set k (List.replicate j (m7 k) ++ (gp ps k).drop j)) ∧ (∀ g o, w2.heap.size ≤ g → w7.heap[g]? = some o → wr.heap[g]? = some o) ∧ Below w1.heap.size w7 wr) (fun i _ => (gp ps k).length - (intOf i).toNat)
      case atStart =>
        refine ⟨0, by omega, rfl, ?_, hfr, hw8⟩
        have e := set_self (k7 ps k) k (by rw [k7_len, hpsl.out]; exact hlt)
        rw [k7_gp _ _ _ (by rw [hpsl.out]; exact hlt), if_neg (by omega)] at e
        simp only [List.replicate_zero, List.nil_append, List.drop_zero]
        rw [e]
        exact hI
      case round =>
        clear hI hw8 hfr
        obtain ⟨j, hj, rfl, hI, hfr, hw8⟩ := hrel
        have hll : ((k7 ps k).set k (List.replicate j (m7 k) ++ (gp ps k).drop j)).length = fs.length := by rw [List.length_set, k7_len, hpsl.out, hnf.out]
        have hgk : gp ((k7 ps k).set k (List.replicate j (m7 k) ++ (gp ps k).drop j)) k = List.replicate j (m7 k) ++ (gp ps k).drop j := by rw [gp_set _ _ _ _ (by rw [k7_len, hpsl.out]; exact hlt), if_pos rfl]
        obtain ⟨gx, off, xc2, uo, uc, hxe, hcx, hue, hOk⟩ := hI.at (i := k) (by rw [hnf.out]; exact hlt)
        rw [hgk] at hue hOk
        have hlk : (List.replicate j (m7 k) ++ (gp ps k).drop j).length = (gp ps k).length := by rw [List.length_append, List.length_replicate, List.length_drop]; omega
        rw [hnf.out] at hxe
        cases hxe
        have hk1 : 0 ≤ (k : Int) ∧ (k : Int) < (nf : Int) := by omega
        by_cases hltj : j < (gp ps k).length
        · have hdj : decide ((j : Int) < ((gp ps k).length : Int)) = true := by simp; omega
          obtain ⟨b, of2, uc2, hve, hb0, hbs, hcell, hfz, hset⟩ := hOk.setAt (j := j) (by omega)
          obtain ⟨hO2, hgr⟩ := hset (m7 k)
          have hbh : b < w2.heap.size := hHi.out k (by rw [hus.out]; exact hlt) b (by rw [hve]; rfl)
          have hI2 := hI.upd (i := k) hll (by rw [hnf.out]; exact hlt) hgr hO2
          rw [set_set', part_set _ _ _ hltj] at hI2
          have hw9 := hw8.setCell (p := ⟨b, of2 + j, none⟩) hb0 (.int .u8 (bv (m7 k)))
          have hfr9 : ∀ g o, w2.heap.size ≤ g → w7.heap[g]? = some o → (wr.setCell ⟨b, of2 + j, none⟩ (.int .u8 (bv (m7 k)))).heap[g]? = some o := fun g o h1 h2 => heap_other (hfr g o h1 h2) (by omega)
          rw [hlk] at hve
          rw [hve] at hcx
          have hj1 : 0 ≤ (j : Int) ∧ (j : Int) < ((gp ps k).length : Int) := by omega
          have hmb := bv_m7 k
          clear hI hOk hO2 hgr hset hgk hw8 hlk hll hve hue hfr
          generalize gb (List.replicate j (m7 k) ++ (gp ps k).drop j) j = z2 at *
          generalize hZ : bv (m7 k) = Z at *
          replace hfr9 := hide hfr9
          go_wp2_with (fail)
          refine ⟨⟨j + 1, by omega, by go_num, hI2, hfr9.out, hw9⟩, ?_⟩
          simp [intOf]; omega
        · obtain rfl : j = (gp ps k).length := by omega
          have hdj : decide (((gp ps k).length : Int) < ((gp ps k).length : Int)) = false := by simp
          rw [List.drop_length, List.append_nil, k7_succ ps k (by rw [hpsl.out]; exact hlt)] at hI
          rw [hlk] at hue
          rw [hue] at hcx
          clear hOk hgk hll hlk hue
          replace hfr := hide hfr
          go_wp2_with (fail)
          refine ⟨⟨k + 1, by omega, by go_num, hI, hfr.out, hw8⟩, ?_⟩
          simp [intOf]; omega
    · obtain rfl : k = nf := by omega
      have hd : decide ((k : Int) < (k : Int)) = false := by simp
      generalize hqs : k7 ps k = qs at *
      have hql : qs.length = fs.length := by rw [← hqs, k7_len, hpsl.out, hnf.out]
      have hqg : ∀ i, i < k → gp qs i = List.replicate (gp ps i).length (m7 i) := fun i hi => by rw [← hqs, k7_gp _ _ _ (by rw [hpsl.out]; exact hi), if_pos hi]
      replace hqg := hide hqg
      replace hqs := hide hqs
      replace hql := hide hql
      generalize hnn : k = n2 at *
      replace hfr := hide hfr
      go_wp2_with (fail)
      go_loopw [16] (fun i wr => ∃ k : Nat, k ≤ n2 ∧ i = .int .i64 k ∧ Dts wr w1.heap.size (.slice xo n2 xc) us fs qs ∧ (∀ g o, w2.heap.size ≤ g → w7.heap[g]? = some o → wr.heap[g]? = some o) ∧ Below w1.heap.size w7 wr) (fun i _ => n2 - (intOf i).toNat)
      case atStart => exact ⟨0, by omega, rfl, hI, hfr.out, hw8⟩
      case round =>
        clear hI hw8 hfr
        obtain ⟨k, hk, rfl, hI, hfr, hw8⟩ := hrel
        have hs8 := hw8.size
        by_cases hlt : k < n2
        · have hd2 : decide ((k : Int) < (n2 : Int)) = true := by simp; omega
          obtain ⟨gx, off, xc2, uo, uc, hxe, hcx, hue, hOk⟩ := hI.at (i := k) (by rw [hnf.out]; exact hlt)
          rw [hnf.out] at hxe
          cases hxe
          have hk1 : 0 ≤ (k : Int) ∧ (k : Int) < (n2 : Int) := by omega
          have hmb := bv_m7 k
          have hbk := hbnd.out k hlt
          have cF := l_fullM wr w1.heap.size (gv us k) (gp qs k) (m7 k) hOk (by rw [hqg.out k hlt, List.length_replicate]; omega)
          rw [hqg.out k hlt, List.length_replicate, ← hqg.out k hlt] at cF
          have hlo := own_low hOk
          have hhi2 := hHi.out k (by rw [hus.out]; exact hlt)
          clear hOk
          generalize hU : gv us k = U at *
          generalize hZ : bv (m7 k) = Z at *
          replace hue := hide hue
          replace hfr := hide hfr
          go_wp2_with (fail)
          refine cF.mono ?_
          rintro e_ w9 ⟨rfl, hgr, hO9⟩
          have hI9 := hI.upd (i := k) hql.out (by rw [hnf.out]; exact hlt) (by rw [hU]; exact hgr) (by rw [hU]; exact hO9)
          rw [set_self qs k (by rw [hql.out, hnf.out]; exact hlt)] at hI9
          have hw9 := hw8.grown hgr (by have := hbl.size; omega) (fun k' e => hlo k' e)
          have hfr9 : Hid (∀ g o, w2.heap.size ≤ g → w7.heap[g]? = some o → w9.heap[g]? = some o) := hide (fun g o h1 h2 => (hgr.block g (Nat.lt_of_lt_of_le (Array.getElem?_eq_some_iff.1 h2).1 hs8) (fun e => by have := hhi2 g e.symm; omega)).trans (hfr.out g o h1 h2))
          clear cF hI hw8 hgr hO9 hfr
          go_wp2_with (fail)
          refine ⟨⟨k + 1, by omega, by go_num, hI9, hfr9.out, hw9⟩, ?_⟩
          simp [intOf]; omega
        · obtain rfl : k = n2 := by omega
          have hd2 : decide ((k : Int) < (k : Int)) = false := by simp
          generalize hnn2 : k = n3 at *
          replace hfr := hide hfr
          go_wp2_with (fail)
          go_loopw [17] (fun i wr2 => ∃ k : Nat, k ≤ n3 ∧ i = .int .i64 k ∧ wr2 = wr) (fun i _ => n3 - (intOf i).toNat)
          case atStart => exact ⟨0, by omega, rfl, rfl⟩
          case round =>
            obtain ⟨k, hk, rfl, rfl⟩ := hrel
            by_cases hlt : k < n3
            · have hd3 : decide ((k : Int) < (n3 : Int)) = true := by simp; omega
              obtain ⟨gx, off, xc2, uo, uc, hxe, hcx, hue, hOk⟩ := hI.at (i := k) (by rw [hnf.out]; exact hlt)
              rw [hnf.out] at hxe
              cases hxe
              have hqk := hqg.out k hlt
              have hbk := hbnd.out k hlt
              rw [hqk, List.length_replicate] at hue
              rw [hue] at hcx
              have hk1 : 0 ≤ (k : Int) ∧ (k : Int) < (n3 : Int) := by omega
              have hmb := bv_m7 k
              replace hue := hide hue
              replace hqk := hide hqk
              go_wp2_with (fail)
              go_loopw [18] (fun i wr2 => ∃ j : Nat, j ≤ (gp ps k).length ∧ i = .int .i64 j ∧ wr2 = wr) (fun i _ => (gp ps k).length - (intOf i).toNat)
              case atStart => exact ⟨0, by omega, rfl, rfl⟩
              case round =>
                obtain ⟨j, hj, rfl, rfl⟩ := hrel
                by_cases hltj : j < (gp ps k).length
                · have hdj : decide ((j : Int) < ((gp ps k).length : Int)) = true := by simp; omega
                  obtain ⟨b, of2, uc2, hve, hb0, hbs, hcell, hfz, _⟩ := hOk.setAt (j := j) (by rw [hqk.out, List.length_replicate]; exact hltj)
                  have hzz : gb (gp qs k) j = m7 k := by rw [hqk.out, gb, List.getD_eq_getElem?_getD, List.getElem?_replicate, if_pos hltj]; rfl
                  rw [hzz] at hcell
                  rw [hqk.out, List.length_replicate, hue.out] at hve
                  cases hve
                  have hj1 : 0 ≤ (j : Int) ∧ (j : Int) < ((gp ps k).length : Int) := by omega
                  clear hzz hfz
                  generalize hZ : bv (m7 k) = Z at *
                  go_wp2_with (fail)
                  refine ⟨⟨j + 1, by omega, by go_num, trivial⟩, ?_⟩
                  simp [intOf]; omega
                · obtain rfl : j = (gp ps k).length := by omega
                  have hdj : decide (((gp ps k).length : Int) < ((gp ps k).length : Int)) = false := by simp
                  go_wp2_with (fail)
                  refine ⟨⟨k + 1, by omega, by go_num, trivial⟩, ?_⟩
                  simp [intOf]; omega
            · obtain rfl : k = n3 := by omega
              have hd3 : decide ((k : Int) < (k : Int)) = false := by simp
              have rg2 : wr.heap[g]? = _ := (hw8.block g lg).trans rg
              have hww : Below W.heap.size W wr := hw.trans (hw8.mono hWg)
              have hYw := hY.move hfr.out
              have hJw := hJ.move hfr.out
              have cI := l_alike fs wr y z (hYw.fds (by rw [hnf.out]; omega) (by intro i hi; rw [hnf.out] at hi; exact hoks.out i hi)) (hJw.fds (by rw [hnf.out]; omega) (by intro i hi; rw [hnf.out] at hi; exact hoks.out i hi))
              go_wp2_with (fail)
              refine cI.mono ?_
              rintro e_ w9 ⟨rfl, hb⟩
              have hw9 := Below.after hww hb
              replace rg2 := keep hb rg2
              clear cI hb
              have cK := l_kept d g w9 v (hB.keep hw9) rg2
              go_wp2_with (fail)
              refine cK.mono ?_
              rintro e_ w10 ⟨rfl, hb⟩
              have hw10 := Below.after hw9 hb
              clear cK hb
              go_wp2_with (fail)
              go_ret
              exact ⟨rfl, hw10⟩
end Go.Proofs.Ytohjcdmhejmnfaa
