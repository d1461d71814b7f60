import Derived.Test.YtmiljapieehmgaaProg
import Derived.WalkKit
import Derived.WalkSpells
import Derived.WalkLawsBesides
import Derived.Lib.QuietBelow
import Derived.Laws.BitsAllLaws
import Derived.BigQuiet
import Derived.WalkMore
import Derived.Test.YtmiljapieehmgaaKit
import Derived.Test.YtmiljapieehmgaaIl
namespace Go.Proofs.Ytmiljapieehmgaa
open Go Go.RowKit Go.Sort
attribute [local go_sem] setCell_drewN alloc_drewN

/-- A part of a slice. -/
def slc (ao : Option Addr) (cap m n : Nat) : Value := .slice (if cap = m then ao else ao.map (·.add (m * 1))) (n - m) (cap - m)
theorem sl_mid (ao : Option Addr) (len cap m n : Nat) (h1 : m ≤ n) (h2 : n ≤ cap) (W : World) : (Instr.sliceAt 26 (.slice ao len cap) (some (.int .i64 (m : Int))) (some (.int .i64 (n : Int))) none).run Try.prog W = .ok (slc ao cap m n) W := by
  rw [run_sliceAt_slice _ _ _ _ _ _ elem8, run_slice_lh W 26 ao len cap elem8 .i64 .i64 _ _ (by omega) (by omega) (by omega), size8]
  show Result.ok (sliced _ _ _ _ 1) W = _
  rw [Int.toNat_natCast, Int.toNat_natCast, sliced]
  rfl
theorem bysB_mid {W : World} {ao : Option Addr} {cap m n : Nat} {d : List B} (h : BysB W (.slice ao d.length cap) d) (hmn : m ≤ n) (hn : n ≤ d.length) (hc : d.length ≤ cap) : BysB W (slc ao cap m n) ((d.drop m).take (n - m)) := by
  obtain ⟨⟨ao', c', e, hl, hce, hz⟩, h2, h3⟩ := h
  rw [bl_len] at e
  cases e
  have hln : (bl ((d.drop m).take (n - m))).length = n - m := by rw [bl_len, List.length_take, List.length_drop]; omega
  rw [bl_len] at hl hce
  refine ⟨⟨if cap = m then ao else ao.map (·.add (m * 1)), cap - m, by rw [hln]; rfl, by rw [hln]; omega, fun j hj => ?_, bl_bnd _⟩, by rw [List.length_take, List.length_drop]; omega, fun a l c hv ha => ?_⟩
  · rw [hln] at hj
    obtain ⟨b2, off2, e2, hb, hcell⟩ := hce (m + j) (by omega)
    subst e2
    refine ⟨b2, off2 + m, ?_, hb, ?_⟩
    · rw [if_neg (by omega), Option.map_some, addr_add, Nat.mul_one]
    · rw [show off2 + m + j = off2 + (m + j) by omega, hcell, bl_get, bl_get, List.getD_eq_getElem?_getD, List.getD_eq_getElem?_getD, List.getElem?_take_of_lt hj, List.getElem?_drop]
  · unfold slc at hv
    injection hv with q1 q2 q3
    subst q3
    subst q1
    cases ao with
    | none =>
      have := h3 none _ _ rfl rfl
      omega
    | some x =>
      split at ha
      · cases ha
      · cases ha
theorem slc_form (ao : Option Addr) (cap m n : Nat) : ∃ u c, slc ao cap m n = .slice u (n - m) c := ⟨_, _, rfl⟩
/-- The rest of a slice. -/
theorem sl_rest (ao : Option Addr) (len cap m : Nat) (h : m ≤ len) (W : World) : (Instr.sliceAt 26 (.slice ao len cap) (some (.int .i64 (m : Int))) none none).run Try.prog W = .ok (slc ao cap m len) W := by
  rw [run_sliceAt_slice _ _ _ _ _ _ elem8, run_slice_l W 26 ao len cap elem8 .i64 _ (by omega) (by omega), size8]
  show Result.ok (sliced _ _ _ _ 1) W = _
  rw [Int.toNat_natCast, sliced]
  rfl
set_option maxRecDepth 100000 in
set_option maxHeartbeats 4000000 in
theorem a_Unpad (ver : Int) (v : Nat) (hv : IntKind.wrap .u64 ver = (v : Int)) (hv2 : v < 18446744073709551616) (d : List B) (w : World) (dv : Value) (hD : BysB w dv d) (hcap : ∀ a l c, dv = .slice a l c → l ≤ c) : Calls Try.prog 17 #[.int .i64 ver, dv] w fun e w' => ∃ u, e = .returned (.tuple #[u, .int .i64 (upe v d)]) ∧ Own w' w.heap.size u (upr v d) ∧ Below w.heap.size w w' := by
  have c1 := a_rulesOf v hv2 w
  obtain ⟨ao, cap, rfl⟩ := hD.form
  replace hcap := hcap _ _ _ rfl
  rcases hk : known v
  · rw [hk, bkf_not hk] at c1
    have e1 : upe v d = 100 := by unfold upe; simp [hk]
    have e2 : upr v d = [] := by unfold upr; simp [hk]
    rw [e1, e2]
    clear e1 e2 hk
    go_enter Try.func17, Try.ntmps17
    go_wp2_with (first | (simp only [hv]) | fail)
    refine c1.mono ?_
    rintro e_ w1 ⟨rfl, hb⟩
    clear c1
    have r0 := hp1_0 w1 (.cells #[Value.int IntKind.u64 0, Value.nilFunc] 38)
    have hb2 := hb.alloc (by have := hb.size; omega) (.cells #[Value.int IntKind.u64 0, Value.nilFunc] 38)
    have hb3 := below_setRow (g := w1.heap.size) hb2 (by have := hb.size; omega) #[Value.int IntKind.u64 (v : Int), Value.nilFunc]
    clear hb hb2
    go_wp2_with (first | (refine wpList_store_row rfl 38 _ _ rfl w1.heap.size #[.int .u64 (v : Int), Value.nilFunc] rfl rfl 38 _ r0 infoR rfl (oneN _) ?_) | fail)
    go_ret2
    exact ⟨_, rfl, own_none _ _, hb3⟩
  · rw [hk, bkf_known hk] at c1
    have hDh := hide (fun V (h : Below w.heap.size w V) => hD.keep h)
    have c2 := hide (fun (n : Nat) (hn : n ≤ 1152921504606846000) => a_bucketOf v n hk hn)
    rw [bkf_known hk] at c2
    have cC := hide (a_countIn d)
    have hdl := hD.2.1
    obtain ⟨U, hU⟩ : ∃ U, upe v d = U := ⟨_, rfl⟩
    obtain ⟨R, hR⟩ : ∃ R, upr v d = R := ⟨_, rfl⟩
    rw [hU, hR]
    have eU : Hid (U = if upo v d then 0 else 101) := hide (by rw [← hU, upe, hk, if_pos rfl])
    have eR : Hid (R = if upo v d then (d.drop 4).take (cnt d) else []) := hide (by rw [← hR, upr, hk, Bool.true_and])
    clear hU hR hk
    go_enter Try.func17, Try.ntmps17
    go_wp2_with (first | (simp only [hv]) | fail)
    refine c1.mono ?_
    rintro e_ w1 ⟨rfl, hb⟩
    clear c1 hD
    have r0 := hp1_0 w1 (.cells #[Value.int IntKind.u64 0, Value.nilFunc] 38)
    have hb2 := hb.alloc (by have := hb.size; omega) (.cells #[Value.int IntKind.u64 0, Value.nilFunc] 38)
    have hw := below_setRow (g := w1.heap.size) hb2 (by have := hb.size; omega) #[Value.int IntKind.u64 (v : Int), Value.func (Fn.func (bkn v)) #[] #[]]
    have r1 := setRow_heap _ w1.heap.size _ (#[.int .u64 (v : Int), Value.func (Fn.func (bkn v)) #[] #[]]) _ _ r0
    have szb := hb.size
    clear hb hb2
    generalize bkn v = f at *
    go_wp2_with (first | (refine wpList_store_row rfl 38 _ _ rfl w1.heap.size #[.int .u64 (v : Int), Value.func (Fn.func f) #[] #[]] rfl rfl 38 _ r0 infoR rfl (oneF _ _) ?_) | fail)
    refine (cC.out _ _ (hDh.out _ hw)).mono ?_
    rintro e_ w2 ⟨rfl, hb⟩
    replace r1 := keep hb r1
    replace hw := Below.after hw hb
    clear hb cC r0
    by_cases hok : (!decide (d.length < 4) && decide (cnt d ≤ 1048576)) = true
    · rw [hok]
      have h4 : ¬ d.length < 4 := by intro h; simp [h] at hok
      have hcn : cnt d ≤ 1048576 := by simp [h4] at hok; exact hok
      rw [if_neg h4]
      have cB := c2.out (cnt d) (by omega)
      by_cases hbk : bkd (dg v) (4 + cnt d) = d.length
      · rw [hbk] at cB
        have hle : 4 + cnt d ≤ d.length := by have := bkd_ge (dg v) (4 + cnt d) (dg_pos v) (dg_le v); omega
        have hu : upo v d = azr (d.drop (4 + cnt d)) := by
          unfold upo
          rw [hok, hbk, beq_self_eq_true, Bool.true_and, Bool.true_and]
        rw [hu] at eU eR
        have s1 := sl_mid ao d.length cap 4 (4 + cnt d) (by omega) (by omega)
        have s2 := sl_rest ao d.length cap (4 + cnt d) hle
        have b1 := hide (fun V (h : Below w.heap.size w V) => bysB_mid (hDh.out V h) (show 4 ≤ 4 + cnt d by omega) hle hcap)
        have b2 := hide (fun V (h : Below w.heap.size w V) => bysB_mid (hDh.out V h) hle (Nat.le_refl _) hcap)
        rw [show (d.drop 4).take (4 + cnt d - 4) = (d.drop 4).take (cnt d) by congr 1; omega] at b1
        rw [List.take_of_length_le (by rw [List.length_drop]; exact Nat.le_refl _)] at b2
        obtain ⟨o1, k1, e1⟩ := slc_form ao cap 4 (4 + cnt d)
        obtain ⟨o2, k2, e2⟩ := slc_form ao cap (4 + cnt d) d.length
        rw [e1] at s1 b1
        rw [e2] at s2 b2
        rw [show ((4 + cnt d : Nat) : Int) = 4 + (cnt d : Int) by omega] at s1 s2
        rw [show ((4 : Nat) : Int) = 4 from rfl] at s1
        obtain ⟨Z, hZ⟩ : ∃ z, azr (d.drop (4 + cnt d)) = z := ⟨_, rfl⟩
        have cZ := hide (a_allZero (d.drop (4 + cnt d)))
        rw [hZ] at eU eR cZ
        have cL := hide (a_clone ((d.drop 4).take (cnt d)))
        generalize hP : (d.drop 4).take (cnt d) = P at *
        generalize hT : d.drop (4 + cnt d) = T at *
        clear hZ e1 e2 hP hT hu
        generalize hcc : cnt d = cc at *
        clear hcc hbk
        generalize 4 + cc - 4 = n1 at *
        generalize d.length - (4 + cc) = n2 at *
        go_wp2_with (first | (refine wpList_load_want rfl 38 _ rfl w1.heap.size rfl 38 #[.int .u64 (v : Int), Value.func (Fn.func f) #[] #[]] (0, 0) _ r1 Try.underlying38 rfl infoR ?_) | fail)
        refine (cB.at _).mono ?_
        rintro e_ w3 ⟨rfl, hb⟩
        replace hw := Below.after hw hb
        clear hb cB r1
        go_wp2_with (fail)
        have hsn : ∀ p : Regrown, Below w.heap.size w (grow (redrawn w3 p.d) p.os) := fun p => Below.after hw (below_regrown w3 p.d p.os)
        refine wp_region_quiet_below (by kernel_rfl) (by kernel_rfl) ?_
        iterate 10 go_big_quiet_step (fail)
        refine wpQuiet_nil ?_
        rintro _ ⟨p, rfl⟩
        replace hw := hsn p
        clear hsn
        generalize grow (redrawn w3 p.d) p.os = w4 at *
        go_wp2_with (fail)
        refine (cZ.out _ _ (b2.out _ hw)).mono ?_
        rintro e_ w5 ⟨rfl, hb⟩
        replace hw := Below.after hw hb
        clear hb cZ s1 s2
        cases Z
        · rw [if_neg Bool.false_ne_true] at eU eR
          go_wp2
          go_ret2
          refine ⟨_, by rw [eU.out]; rfl, ?_, hw⟩
          rw [eR.out]
          exact own_none _ _
        · rw [if_pos rfl] at eU eR
          go_wp2_with (fail)
          refine (cL.out _ _ (b1.out _ hw)).mono ?_
          rintro e_ w6 ⟨u, rfl, hO, hb⟩
          have hO' := own_down hO hw.size
          replace hw := Below.after hw hb
          clear hb cL hO
          obtain ⟨ua, uc, rfl⟩ := slen_own hO'
          go_wp2
          go_ret2
          refine ⟨_, by rw [eU.out]; rfl, ?_, hw⟩
          rw [eR.out]
          exact hO'
      · have hu : upo v d = false := by
          unfold upo
          rw [hok, show (bkd (dg v) (4 + cnt d) == d.length) = false by simpa using hbk, Bool.true_and, Bool.false_and]
        rw [hu, if_neg Bool.false_ne_true] at eU eR
        have hne : ((bkd (dg v) (4 + cnt d) : Int) == (d.length : Int)) = false := by
          rw [beq_eq_false_iff_ne]
          omega
        generalize bkd (dg v) (4 + cnt d) = bb at *
        generalize cnt d = cc at *
        go_wp2_with (first | (refine wpList_load_want rfl 38 _ rfl w1.heap.size rfl 38 #[.int .u64 (v : Int), Value.func (Fn.func f) #[] #[]] (0, 0) _ r1 Try.underlying38 rfl infoR ?_) | fail)
        refine (cB.at _).mono ?_
        rintro e_ w3 ⟨rfl, hb⟩
        replace hw := Below.after hw hb
        clear hb cB r1
        go_wp2
        go_ret2
        refine ⟨_, by rw [eU.out]; rfl, ?_, hw⟩
        rw [eR.out]
        exact own_none _ _
    · have hok' := Bool.eq_false_iff.2 hok
      rw [hok']
      have hu : upo v d = false := by unfold upo; rw [hok', Bool.false_and, Bool.false_and]
      rw [hu, if_neg Bool.false_ne_true] at eU eR
      generalize (if d.length < 4 then (0 : Int) else (cnt d : Int)) = z at *
      go_wp2
      go_ret2
      refine ⟨_, by rw [eU.out]; rfl, ?_, hw⟩
      rw [eR.out]
      exact own_none _ _
end Go.Proofs.Ytmiljapieehmgaa
