import Derived.Test.YtjoohgkgkabbpaaGreatDoorUEvh
import Derived.Test.YtjoohgkgkabbpaaGreatDoorUQd1
import Derived.Test.YtjoohgkgkabbpaaGreatDoorUQa1
import Derived.Test.YtjoohgkgkabbpaaGreatDoorUQc0
import Derived.OwnWalk
import Derived.Deep.CutRange
import Derived.Deep.RegionHeld3
namespace Go.Proofs.YtjoohgkgkabbpaaGreatDoor
set_option maxRecDepth 100000
open Go Go.RowKit Go.Sort
attribute [local go_sem] setCell_drewN alloc_drewN
theorem row_ne {W : World} {g k : Nat} {cs ds : Array Value} {T U : TypeId} {fr gr : Nat × Nat} (h1 : W.heap[g]? = some (.cells cs T fr)) (h2 : W.heap[k]? = some (.cells ds U gr)) (hne : T ≠ U) : g ≠ k := by
 intro e
 subst e
 rw [h1] at h2
 injection h2 with h2
 injection h2 with _ h2
 exact hne h2
theorem own_neT {W : World} {b k : Nat} {v : Value} {l : List B} {ds : Array Value} {U : TypeId} {gr : Nat × Nat} (h : Own W b v l) (h2 : W.heap[k]? = some (.cells ds U gr)) (hne : 5 ≠ U) : v.ownBlock ≠ some k := by
 obtain ⟨h1, ⟨rfl, _⟩ | ⟨g, cap, cur, rfl, hb, hg, _⟩⟩ := h
 ·intro hk
  cases hk
 ·intro hk
  injection hk with hk
  exact row_ne hg h2 hne hk
theorem own_oth {W : World} {b g : Nat} {v : Value} {l : List B} (h : Own W b v l) (hg : v.ownBlock ≠ some g) (cs : Array Value) : Own (W.setRow g cs) b v l := by
 obtain ⟨h1, ⟨h2, h3⟩ | ⟨g', cap, cur, rfl, hb, h4, h5⟩⟩ := h
 ·exact ⟨h1, .inl ⟨h2, h3⟩⟩
 ·refine ⟨h1, .inr ⟨g', cap, cur, rfl, hb, ?_, h5⟩⟩
  rw [setRow_other W g g' cs (fun e => hg (by rw [e]; rfl))]
  exact h4
theorem Fy.other {W : World} {base : Nat} {E : Value} {F : Array Value} (h : Fy W base E F) {k : Nat} {ds : Array Value} {U : TypeId} {gr : Nat × Nat} (h2 : W.heap[k]? = some (.cells ds U gr)) (hne : 35 ≠ U) (C : Array Value) : Fy (W.setRow k C) base E F := by
 rcases h with h | ⟨g, x, h0, h1, h2', h3, h4⟩
 ·exact .inl h
 ·exact .inr ⟨g, x, h0, h1, h2', h3, (setRow_other W k g C (row_ne h4 h2 hne)).trans h4⟩
theorem Fy.down {W : World} {base b : Nat} {E : Value} {F : Array Value} (h : Fy W base E F) (hb : b ≤ base) : Fy W b E F := by
 rcases h with h | ⟨g, x, h0, h1⟩
 ·exact .inl h
 ·exact .inr ⟨g, x, Nat.le_trans hb h0, h1⟩
theorem frw_not {x : Flt3} (h : x.why ≠ 0) : frw x ≠ #[.int .i64 0, .int .i64 0, .int .i64 0] := by
 intro e
 unfold frw at e
 injection e with e
 injection e with _ e
 injection e with _ e
 injection e with e _
 injection e with _ e
 exact h e
theorem fP_none {d : List B} (h : fP d = #[.int .i64 0, .int .i64 0, .int .i64 0]) : paF d = none := by
 unfold fP at h
 cases hd : paF d with
 | none => rfl
 | some x =>
  rw [hd] at h
  exact absurd h (frw_not (paF_why hd))
theorem fP_some {d : List B} {x : Flt3} (h : fP d = frw x) (hx : x.why ≠ 0) : paF d ≠ none := by
 intro e
 unfold fP at h
 rw [e] at h
 exact frw_not hx h.symm
theorem vers_read {v u : Nat} {nonce hd bd : List B} (hk : known10 v = true) (hu : known10 u = true) (hn : nonce.length = 16) (h : pk10 v hd.length bd.length = none) (h0 : paF (8#8 :: (en u ++ etl nonce hd bd)) = none) : vP (8#8 :: (en u ++ etl nonce hd bd)) = (u : Int) ∧ nP (8#8 :: (en u ++ etl nonce hd bd)) = nonce ∧ hP (8#8 :: (en u ++ etl nonce hd bd)) = hd ∧ bP (8#8 :: (en u ++ etl nonce hd bd)) = bd := by
 obtain ⟨_, _, h3, h4, _⟩ := vers_two hk hu hn h
 unfold vP nP hP bP
 rw [h0, h3, h4]
 exact ⟨rfl, rfl, rfl, rfl⟩
theorem evl_set (a b : Int) (nonce : List B) (x y : Value) : (evl a nonce x y).setIfInBounds 0 (.int .i64 b) = evl b nonce x y := by
 unfold evl
 rw [Array.append_assoc, Array.append_assoc, Array.setIfInBounds_append_left (by simp)]
 rfl
theorem builtF100 : Tryz.prog.built 35 [(2, .int .i64 100)] = some #[.int .i64 0, .int .i64 0, .int .i64 100] := by kernel_rfl
theorem infoInt10 : (Tryz.prog.info? 3).map (·.size) = some 1 := by kernel_rfl
set_option maxRecDepth 100000 in
set_option maxHeartbeats 16000000 in
theorem versions_any (ver : Int) (h1 : -9223372036854775808 ≤ ver) (h2 : ver ≤ 9223372036854775807) (nonce hd bd : List B) (hn : nonce.length = 16) (ha : Option Addr) (hc : Nat) (ba : Option Addr) (bc : Nat) (vn : Nat) (hvn : vn < 18446744073709551616) (T : List B) (tv : Value) (w : World) (hE : Ety w) (hH : BysB w (.slice ha hd.length hc) hd) (hB : BysB w (.slice ba bd.length bc) bd) (hT : BysB w tv T) (b1 : hd.length ≤ 140737488351232) (b2 : bd.length ≤ 140737488351232) (b3 : T.length ≤ 140737488351232) : Calls Tryz.prog 7 #[.agg (evl ver nonce (.slice ha hd.length hc) (.slice ba bd.length bc)), .int .u64 (vn : Int), tv] w fun e w' => e = .returned (.bool true) ∧ Below w.heap.size w w' := by
 have hv : ∃ v : Nat, IntKind.wrap .u64 ver = (v : Int) := ⟨(ver % 18446744073709551616).toNat, by show ver % 18446744073709551616 = _; omega⟩
 obtain ⟨v, hv⟩ := hv
 have hTl := hT.2.1
 obtain ⟨ta, tc, rfl⟩ := hT.form
 have R1 := hp1_0 w (.cells (evl ver nonce (.slice ha hd.length hc) (.slice ba bd.length bc)) 51)
 have hw : Below w.heap.size w (w.alloc (.cells (evl ver nonce (.slice ha hd.length hc) (.slice ba bd.length bc)) 51)) := (Below.refl _ _).alloc (Nat.le_refl _) _
 replace hE := hE.keep hw rfl
 have hEh := hide (fun V (h : Below (w.alloc (.cells (evl ver nonce (.slice ha hd.length hc) (.slice ba bd.length bc)) 51)).heap.size (w.alloc (.cells (evl ver nonce (.slice ha hd.length hc) (.slice ba bd.length bc)) 51)) V) => hE.keep h rfl)
 have hHh := hide (fun V (h : Below w.heap.size w V) => hH.keep h)
 have hBh := hide (fun V (h : Below w.heap.size w V) => hB.keep h)
 have hTh := hide (fun V (h : Below w.heap.size w V) => hT.keep h)
 clear hH hB hT
 have hw0 : Below (w.alloc (.cells (evl ver nonce (.slice ha hd.length hc) (.slice ba bd.length bc)) 51)).heap.size (w.alloc (.cells (evl ver nonce (.slice ha hd.length hc) (.slice ba bd.length bc)) 51)) (w.alloc (.cells (evl ver nonce (.slice ha hd.length hc) (.slice ba bd.length bc)) 51)) := Below.refl _ _
 go_enter Tryz.func7, Tryz.ntmps7
 go_wp2_with (first | (refine wpList_box rfl 51 _ rfl _ rfl (bEv _) ?_) | fail)
 refine (l_lives _ hE).mono ?_
 rintro e_ w1 ⟨rfl, hb⟩
 generalize w.alloc (.cells (evl ver nonce (.slice ha hd.length hc) (.slice ba bd.length bc)) 51) = w0 at *
 replace R1 := keep hb R1
 replace hw := Below.after hw hb
 replace hw0 := hb
 clear hE hb
 have z8 : (w1.alloc (.cells #[.int .u8 8] 5)).heap[w1.heap.size]? = some (.cells (irow .u8 (bl [8#8])) 5 (0, 0)) := hp1_0 w1 _
 have hba : Below w1.heap.size w1 (w1.alloc (.cells #[.int .u8 8] 5)) := (Below.refl _ _).alloc (Nat.le_refl _) _
 have cP := hide (a_put [8#8] vn hvn (w1.alloc (.cells #[.int .u8 8] 5)) (.slice (some ⟨w1.heap.size, 0, none⟩) 1 1) (row_bysB z8 rfl (by decide) 1))
 replace R1 := keep hba R1
 replace hw := Below.after hw hba
 replace hw0 := Below.after hw0 hba
 clear hba z8
 go_wp2_with (fail)
 refine cP.out.mono ?_
 rintro e_ w2 ⟨u, rfl, oU, hb⟩
 generalize w1.alloc (.cells #[.int .u8 8] 5) = w1b at *
 replace R1 := keep hb R1
 replace hw := Below.after hw hb
 replace hw0 := Below.after hw0 hb
 clear cP hb
 have lE : ([8#8] ++ en vn).length ≤ 11 := by
  have := (en_len vn 10 (by decide)).2 (by omega)
  simp only [List.length_append, List.length_singleton]
  omega
 obtain ⟨hh, hhe⟩ : ∃ l, [8#8] ++ en vn = l := ⟨_, rfl⟩
 rw [hhe] at oU lE
 obtain ⟨ua, uc, rfl⟩ := slen_own oU
 have hE2 := hEh.out _ hw0
 have lR1 := lt_of_row R1
 have hOut := hide (fun V (h : Below w2.heap.size w2 V) => hw.trans (h.mono (show w.heap.size ≤ w2.heap.size by omega)))
 have hUh := hide (fun V (h : Below w2.heap.size w2 V) => (oU.keep h).bysB (show hh.length ≤ 140737488355000 by omega))
 replace hEh := hide (fun V (h : Below w2.heap.size w2 V) => hE2.keep h rfl)
 have hRh := hide (fun V (h : Below w2.heap.size w2 V) => keep h R1)
 clear oU hE2 R1 hw hw0
 have hw : Below w2.heap.size w2 w2 := Below.refl _ _
 cases hk : known10 vn with
 | false =>
  have v1 : ((vn : Int) != 1) = true := by unfold known10 at hk; simp at hk; simp; omega
  have v2 : ((vn : Int) != 2) = true := by unfold known10 at hk; simp at hk; simp; omega
  have hD : Hid (hh ++ T = 8#8 :: (en vn ++ T)) := hide (by rw [← hhe]; simp)
  have hDl : Hid ((hh ++ T).length ≤ 140737488355000) := hide (by rw [List.length_append]; omega)
  have hvb := hide (fun h => vers_bad (t := T) hvn hk h)
  have hfi := hide (fun h => (first10 (t := T) hvn h).1)
  obtain ⟨D, hDe⟩ : ∃ D, 8#8 :: (en vn ++ T) = D := ⟨_, rfl⟩
  rw [hDe] at hD hvb hfi
  clear hk hDe hhe hvn hHh hBh hRh
  have hb0 : Below w2.heap.size w2 (w2.alloc (.cells #[] 5)) := (Below.refl _ _).alloc (Nat.le_refl _) _
  have szW := hw.size
  replace hw := Below.after hw hb0
  clear hb0
  have hO0 := own_down (own_nil w2) szW
  go_wp2_with (at_builtin; refine wpList_append_B rfl (.tmp 29) (.tmp 30) rfl w2.heap.size _ [] rfl hO0 _ hh rfl (hUh.out _ hw) (by simp only [List.length_nil]; omega) hw.size ?_)
  intro v1_ x1 hO1 hgr
  replace hw := hw.grown hgr hw.size (fun k h => (own_low hO0 k h))
  replace hO1 : Own x1 w2.heap.size v1_ hh := hO1
  clear hgr hO0
  generalize w2.alloc (.cells #[] 5) = w2z at *
  obtain ⟨a1_, c1_, rfl⟩ := slen_own hO1
  go_wp2_with (at_builtin; refine wpList_append_B rfl (.tmp 31) (.tmp 32) rfl w2.heap.size _ hh rfl hO1 _ T rfl (hTh.out _ (hOut.out _ hw)) (by omega) hw.size ?_)
  intro v2_ x2 hO2 hgr
  replace hw := hw.grown hgr hw.size (fun k h => (own_low hO1 k h))
  clear hgr hO1
  have hcp := own_cap hO2
  have hBD := hO2.bysB hDl.out
  clear hO2 szW
  rw [hD.out] at hBD
  have cX := hide (a_decode D x2 _ hBD hcp)
  go_wp2_with (fail)
  refine cX.out.mono ?_
  rintro e_ x3 ⟨u3, us, rfl, hF, hb⟩
  replace hw := Below.after hw hb
  clear cX hb hBD hcp
  obtain ⟨fo, fc, rfl⟩ := own_form_row hF.1
  clear hF
  obtain ⟨E0, hE0⟩ : ∃ E, der (dwh D) = E := ⟨_, rfl⟩
  obtain ⟨P0, hP0⟩ : ∃ P, dpl (dwh D) = P := ⟨_, rfl⟩
  obtain ⟨m0, hm0⟩ : ∃ m, (dfs (dwh D)).length = m := ⟨_, rfl⟩
  rw [hE0, hP0, hm0]
  rw [hE0] at hvb hfi
  rw [hm0] at hfi
  clear hE0 hP0 hm0 us
  have hb0 : Below x3.heap.size x3 (x3.alloc (.cells #[] 5)) := (Below.refl _ _).alloc (Nat.le_refl _) _
  have szW := hw.size
  replace hw := Below.after hw hb0
  clear hb0
  have hO0 := own_down (own_nil x3) szW
  go_wp2_with (at_builtin; refine wpList_append_B rfl (.tmp 39) (.tmp 40) rfl w2.heap.size _ [] rfl hO0 _ hh rfl (hUh.out _ hw) (by simp only [List.length_nil]; omega) hw.size ?_)
  intro v1_ x4 hO1 hgr
  replace hw := hw.grown hgr hw.size (fun k h => (own_low hO0 k h))
  replace hO1 : Own x4 w2.heap.size v1_ hh := hO1
  clear hgr hO0
  generalize x3.alloc (.cells #[] 5) = x3z at *
  obtain ⟨a1_, c1_, rfl⟩ := slen_own hO1
  go_wp2_with (at_builtin; refine wpList_append_B rfl (.tmp 41) (.tmp 42) rfl w2.heap.size _ hh rfl hO1 _ T rfl (hTh.out _ (hOut.out _ hw)) (by omega) hw.size ?_)
  intro v2_ x5 hO2 hgr
  replace hw := hw.grown hgr hw.size (fun k h => (own_low hO1 k h))
  clear hgr hO1
  have hcp := own_cap hO2
  have hBD := hO2.bysB hDl.out
  clear hO2 szW
  rw [hD.out] at hBD
  have cX := hide (a_ParseEF D _ x5 hBD hcp)
  go_wp2_with (fail)
  refine cX.out.mono ?_
  rintro e_ x6 ⟨ya, yc, yb, yd, E, rfl, _, _, _, hFy, hb⟩
  replace hw := Below.after hw hb
  clear cX hb hBD hcp
  have z_ := hp1_0 x6 (.cells (evl 0 n16 (.slice none 0 0) (.slice none 0 0)) 51)
  have hb' : Hid (Below x6.heap.size x6 ((x6.alloc (.cells (evl 0 n16 (.slice none 0 0) (.slice none 0 0)) 51)).setRow x6.heap.size (evl (vP D) (nP D) (.slice ya (hP D).length yc) (.slice yb (bP D).length yd)))) := hide (below_setRow ((Below.refl _ _).alloc (Nat.le_refl _) _) (Nat.le_refl _) _)
  go_wp2_with (first | (refine wpList_alloc rfl 51 rfl (evl 0 n16 (.slice none 0 0) (.slice none 0 0)) zEnv ?_) | (refine wpList_store_row rfl 51 _ _ rfl x6.heap.size (evl (vP D) (nP D) (.slice ya (hP D).length yc) (.slice yb (bP D).length yd)) rfl rfl 51 _ z_ (evl_info _ _ (nP_len _) _ _) (by rw [evl_size _ _ n16_len, evl_size _ _ (nP_len _)]) (evl_one _ _ _ _ _ _ _ _) ?_; refine wpList_stay ?_) | fail)
  unfold WpStay
  try simp only [Act.put, List.setIfInBounds_toArray, List.set_cons_succ, List.set_cons_zero]
  have hb := hb'.out
  replace hFy := hFy.keep hb
  replace hw := Below.after hw hb
  clear z_ hb' hb
  generalize (x6.alloc (.cells (evl 0 n16 (.slice none 0 0) (.slice none 0 0)) 51)).setRow x6.heap.size (evl (vP D) (nP D) (.slice ya (hP D).length yc) (.slice yb (bP D).length yd)) = x7 at *
  by_cases h0 : E0 = 0
  ·have hm : m0 ≠ 0 := hfi.out h0
   have hf : fP D = #[.int .i64 0, .int .i64 0, .int .i64 100] := by unfold fP; rw [hvb.out h0]; rfl
   rw [hf] at hFy
   subst h0
   have hm' : ((m0 : Int) == 0) = false := by simpa using hm
   clear hvb hfi hf hm
   have cX := hide (l_faulty x7 (hEh.out _ hw) hFy)
   go_wp2_with (first | (refine wpList_build_want rfl 35 _ rfl [(2, .int .i64 100)] rfl #[.int .i64 0, .int .i64 0, .int .i64 100] builtF100 ?_) | fail)
   refine cX.out.mono ?_
   rintro e_ x8 ⟨rfl, hb⟩
   replace hw := Below.after hw hb
   clear cX hb
   go_wp2_with (fail)
   go_ret
   exact ⟨rfl, hOut.out _ hw⟩
  ·have h0' : (E0 != 0) = true := by simpa using h0
   clear hvb hfi h0 hFy
   go_wp2_with (fail)
   go_ret
   exact ⟨rfl, hOut.out _ hw⟩
 | true =>
  have hk2 : vn = 1 ∨ vn = 2 := by unfold known10 at hk; simpa using hk
  clear hTh hTl
  go_upto_region 4 with (fail)
  go_cut [27] from 17 to 91 (fun c wx => c = .bool false ∧ wx = w2)
  case first =>
   rcases hk2 with h_ | h_
   ·have d1 : ((vn : Int) != 1) = false := by rw [h_]; rfl
    clear h_
    go_wp2_with (fail)
    go_meet
    case rel => exact ⟨rfl, rfl⟩
   ·have d1 : ((vn : Int) != 1) = true := by rw [h_]; rfl
    have d2 : ((vn : Int) != 2) = false := by rw [h_]; rfl
    clear h_
    go_wp2_with (fail)
    go_meet
    case rel => exact ⟨rfl, rfl⟩
  case rest =>
   obtain ⟨rfl, rfl⟩ := hcut
   have R1 := hRh.out _ hw
   have hwo := hOut.out _ hw
   have cP := hide (a_PackE ver v hv h1 h2 nonce hn ha hd.length hc ba bd.length bc hd bd wc (hEh.out _ hw) (hHh.out _ hwo) (hBh.out _ hwo) rfl rfl b1 b2)
   go_wp2_with (first | (refine wpList_load_want rfl 51 _ rfl (w.heap.size) rfl 51 (evl ver nonce (.slice ha hd.length hc) (.slice ba bd.length bc)) (0, 0) _ R1 Tryz.underlying51 rfl (evl_info _ _ hn _ _) ?_) | fail)
   refine cP.out.mono ?_
   rintro e_ w3 ⟨hEn, hb⟩
   replace hw := Below.after hw hb
   clear cP R1 hwo
   cases hF : pkO v hd.length bd.length with
   | some x =>
    rw [hF] at hEn
    obtain ⟨g, rfl, _, _⟩ := hEn
    have hne := neq_fault (.pointer (some ⟨g, 0, none⟩))
    clear hF
    go_wp2_with (fail)
    go_ret
    exact ⟨rfl, hOut.out _ hw⟩
   | none =>
    rw [hF] at hEn
    obtain ⟨u, rfl, hO⟩ := hEn
    have hkv : known10 v = true := by
     cases hk : known10 v with
     | true => rfl
     | false => unfold pkO at hF; rw [hk] at hF; cases hF
    have hp : pk10 v hd.length bd.length = none := by unfold pkO at hF; rw [if_pos hkv] at hF; exact hF
    have hle : (eout (efs v nonce hd bd)).length ≤ 3000000 := by
     rw [(there10 hkv hn hp).2.2.2.1]
     have q := (pk_ok hp).2.2.1
     have := mo_le v
     have := en_le4 (n := bd.length) (by omega)
     omega
    obtain ⟨q1, _, _, _, q5, q6⟩ := vers_two (u := vn) hkv hk hn hp
    have hsm := hide q6
    have hrd := hide (fun h => vers_read hkv hk hn hp h)
    obtain ⟨L, hL⟩ : ∃ L, eout (efs v nonce hd bd) = L := ⟨_, rfl⟩
    obtain ⟨tl_, htl⟩ : ∃ l, etl nonce hd bd = l := ⟨_, rfl⟩
    rw [hL] at hO hle q1
    rw [htl] at q1 hsm hrd
    have hL2 : L.length = tl_.length + 2 := by rw [q1, List.length_cons, List.length_append, q5]; omega
    have hdr : L.drop 2 = tl_ := by
     rw [q1]
     obtain ⟨x0, hx0⟩ : ∃ x0, en v = [x0] := List.length_eq_one_iff.1 q5
     rw [hx0]
     rfl
    obtain ⟨ba2, bc2, rfl⟩ := slen_own hO
    have hcp := own_cap hO _ _ _ rfl
    have hBL := hO.bysB (Nat.le_trans hle (by decide))
    have hBt : BysB w3 (slc10 ba2 bc2 2 L.length) tl_ := by
     have := bysB_mid10 (m := 2) (n := L.length) hBL (by omega) (Nat.le_refl _) hcp
     rw [hdr, List.take_of_length_le (by omega)] at this
     exact this
    have s2 : ∀ W : World, (Instr.sliceAt 22 (.slice ba2 L.length bc2) (some (.int .i64 2)) none none).run Tryz.prog W = .ok (slc10 ba2 bc2 2 L.length) W := fun W => sl_rest ba2 L.length bc2 2 (by omega) W
    have hD : Hid (hh ++ tl_ = 8#8 :: (en vn ++ tl_)) := hide (by rw [← hhe]; simp)
    have hDl : Hid ((8#8 :: (en vn ++ tl_)).length ≤ 140737488355000) := hide (by rw [← hD.out, List.length_append]; omega)
    have hLl : Hid (hh.length + tl_.length ≤ 140737488355000) := hide (by omega)
    obtain ⟨D, hDe⟩ : ∃ D, 8#8 :: (en vn ++ tl_) = D := ⟨_, rfl⟩
    rw [hDe] at hD hDl hrd hsm
    have lR3 : w.heap.size < w3.heap.size := by have := hb.size; omega
    have hOut3 := hide (fun V (h : Below w3.heap.size w3 V) => hOut.out V (Below.after hw h))
    have hRh3 := hide (fun V (h : Below w3.heap.size w3 V) => hRh.out V (Below.after hw h))
    have hUh3 := hide (fun V (h : Below w3.heap.size w3 V) => hUh.out V (Below.after hw h))
    have hBh3 := hide (fun V (h : Below w3.heap.size w3 V) => hBt.keep h)
    have hnn := neq_nils
    have d3 : decide ((L.length : Int) < 2) = false := decide_eq_false (by omega)
    clear hDe hBt hBL hcp hdr q1 q5 q6 hle hL htl hO hp hkv hF hRh hUh hOut hEh hhe hb hL2 hw
    have hw : Below w3.heap.size w3 w3 := Below.refl _ _
    go_upto_region 13 with (fail)
    clear hnn d3
    go_cut [15, 16] from 17 to 91 (fun s15 s16 wx => ∃ gx ya yc yb yd E, s15 = .pointer (some ⟨gx, 0, none⟩) ∧ s16 = E ∧ wx.heap[gx]? = some (.cells (evl (vP D) (nP D) (.slice ya (hP D).length yc) (.slice yb (bP D).length yd)) 51 (0, 0)) ∧ w3.heap.size ≤ gx ∧ Own wx w3.heap.size (.slice ya (hP D).length yc) (hP D) ∧ Own wx w3.heap.size (.slice yb (bP D).length yd) (bP D) ∧ Fy wx w3.heap.size E (fP D) ∧ Below w3.heap.size w3 wx)
    case first =>
     have hbd : Below w3.heap.size w3 w3.drew := below_drN (Below.refl _ _) 1
     replace hw := Below.after hw hbd
     clear hbd
     refine wp_region_noPanic ?_
     refine wp_region_held (S := fun _ : World => True) (by kernel_rfl) ?_
     change wpAnyH _ _ _ _ _ _ _ _ (World.drew _)
     generalize w3.drew = y1 at *
     refine wpAnyH_take (i := 1) (v := ?v1) rfl (by kernel_rfl) (by kernel_rfl) (by kernel_rfl) (fun _ _ _ h => h) (Or.inl ⟨by rfl, ?y1⟩) (trivial) ?r1
     case y1 =>
      intro w_ hS_
      go_simp
      try with_reducible rfl
     simp only [Act.put, List.getElem_toArray, List.getElem_cons_succ, List.getElem_cons_zero, List.setIfInBounds_toArray, List.set_cons_succ, List.set_cons_zero]
     refine wpAnyH_take (i := 3) (v := ?v2) rfl (by kernel_rfl) (by kernel_rfl) (by kernel_rfl) (fun _ _ _ h => h) (Or.inl ⟨by rfl, ?y2⟩) (trivial) ?r2
     case y2 =>
      intro w_ hS_
      go_simp
      try with_reducible rfl
     simp only [Act.put, List.getElem_toArray, List.getElem_cons_succ, List.getElem_cons_zero, List.setIfInBounds_toArray, List.set_cons_succ, List.set_cons_zero]
     refine wpAnyH_take (i := 4) (v := slc10 ba2 bc2 2 L.length) rfl (by kernel_rfl) (by kernel_rfl) (by kernel_rfl) (fun _ _ _ h => h) (Or.inl ⟨by rfl, ?y3⟩) (trivial) ?r3
     case y3 =>
      intro w_ hS_
      go_simp
      try with_reducible rfl
     simp only [Act.put, List.getElem_toArray, List.getElem_cons_succ, List.getElem_cons_zero, List.setIfInBounds_toArray, List.set_cons_succ, List.set_cons_zero]
     refine wpAnyH_two (j := 0) (k := 10) (fuel := 9) (by kernel_rfl) rfl rfl (by kernel_rfl) (by kernel_rfl) (fun K_ hK_ => ?_) (fun K_ hK_ => ?_)
     ·refine wp_world_op (.slice (some ⟨y1.heap.size, 0, none⟩) 0 0) (y1.alloc (.cells #[] 5)) (by kernel_rfl) ?_
      have hb_ : Below y1.heap.size y1 (y1.alloc (.cells #[] 5)) := (Below.refl _ _).alloc (Nat.le_refl _) _
      have hO := own_down (own_nil y1) hw.size
      replace hw := Below.after hw hb_
      clear hb_
      refine hK_ _ _ trivial ?_
      simp only [Act.put, List.getElem_toArray, List.getElem_cons_zero, List.setIfInBounds_toArray, List.set_cons_succ, List.set_cons_zero]
      clear hK_
      generalize y1.alloc (.cells #[] 5) = q1 at *
      generalize y1.heap.size = g2 at *
      refine wpAnyH_two (j := 2) (k := 10) (fuel := 8) (by kernel_rfl) rfl rfl (by kernel_rfl) (by kernel_rfl) (fun K_ hK_ => ?_) (fun K_ hK_ => ?_)
      ·refine wp_append_bytes _ _ rfl w3.heap.size _ [] rfl hO _ hh rfl (hUh3.out _ hw) (by simp only [List.length_nil]; omega) hw.size (fun v_ q3 hO2 hgr => ?_)
       replace hw := hw.grown hgr hw.size (fun k h => own_low hO k h)
       clear hgr hO
       have hO := hO2
       clear hO2
       replace hO : Own q3 w3.heap.size v_ hh := hO
       obtain ⟨a4, c5, rfl⟩ := slen_own hO
       refine hK_ _ _ trivial ?_
       simp only [Act.put, List.getElem_toArray, List.getElem_cons_succ, List.getElem_cons_zero, List.setIfInBounds_toArray, List.set_cons_succ, List.set_cons_zero]
       clear hK_
       refine wpAnyH_two (j := 5) (k := 10) (fuel := 7) (by kernel_rfl) rfl rfl (by kernel_rfl) (by kernel_rfl) (fun K_ hK_ => ?_) (fun K_ hK_ => ?_)
       ·refine wp_append_bytes _ _ rfl w3.heap.size _ hh rfl hO _ tl_ rfl (hBh3.out _ hw) (by have := hLl.out; omega) hw.size (fun v_ q6 hO2 hgr => ?_)
        replace hw := hw.grown hgr hw.size (fun k h => own_low hO k h)
        clear hgr hO
        have hO := hO2
        clear hO2
        rw [hD.out] at hO
        obtain ⟨a7, c8, rfl⟩ := slen_own hO
        refine hK_ _ _ trivial ?_
        simp only [Act.put, List.getElem_toArray, List.getElem_cons_succ, List.getElem_cons_zero, List.setIfInBounds_toArray, List.set_cons_succ, List.set_cons_zero]
        clear hK_
        refine wpAnyH_two (j := 6) (k := 10) (fuel := 6) (by kernel_rfl) rfl rfl (by kernel_rfl) (by kernel_rfl) (fun K_ hK_ => ?_) (fun K_ hK_ => ?_)
        ·refine wp_call_ex (f := 22) (R := fun v w' => ∃ xa xc xb xd xE, v = .tuple #[.agg (evl (vP D) (nP D) (.slice xa (hP D).length xc) (.slice xb (bP D).length xd)), xE] ∧ Own w' q6.heap.size (.slice xa (hP D).length xc) (hP D) ∧ Own w' q6.heap.size (.slice xb (bP D).length xd) (bP D) ∧ (∀ k, (Value.slice xa (hP D).length xc).ownBlock = some k → (Value.slice xb (bP D).length xd).ownBlock ≠ some k) ∧ Fy w' q6.heap.size xE (fP D) ∧ Below q6.heap.size q6 w') (by kernel_rfl) ((a_ParseEF D _ q6 (hO.bysB hDl.out) (own_cap hO)).mono (fun e w' h => (by obtain ⟨xa, xc, xb, xd, xE, h1, h2⟩ := h; exact ⟨_, h1, xa, xc, xb, xd, xE, rfl, h2⟩))) (fun v_ q9 hX_ => ?_)
         obtain ⟨ya, yc, yb, yd, E, rfl, oyh, oyb, _, hFy, hb_⟩ := hX_
         replace oyh := own_down oyh hw.size
         replace oyb := own_down oyb hw.size
         replace hFy := hFy.down hw.size
         clear hO
         replace hw := Below.after hw hb_
         clear hb_
         refine hK_ _ _ trivial ?_
         simp only [Act.put, List.getElem_toArray, List.getElem_cons_succ, List.getElem_cons_zero, List.setIfInBounds_toArray, List.set_cons_succ, List.set_cons_zero]
         clear hK_
         refine wpAnyH_take (i := 7) (v := ?v4) rfl (by kernel_rfl) (by kernel_rfl) (by kernel_rfl) (fun _ _ _ h => h) (Or.inl ⟨by rfl, ?y4⟩) (trivial) ?r4
         case y4 =>
          intro w_ hS_
          go_simp
          try with_reducible rfl
         simp only [Act.put, List.getElem_toArray, List.getElem_cons_succ, List.getElem_cons_zero, List.setIfInBounds_toArray, List.set_cons_succ, List.set_cons_zero]
         refine wpAnyH_take (i := 8) (v := ?v5) rfl (by kernel_rfl) (by kernel_rfl) (by kernel_rfl) (fun _ _ _ h => h) (Or.inl ⟨by rfl, ?y5⟩) (trivial) ?r5
         case y5 =>
          intro w_ hS_
          go_simp
          try with_reducible rfl
         simp only [Act.put, List.getElem_toArray, List.getElem_cons_succ, List.getElem_cons_zero, List.setIfInBounds_toArray, List.set_cons_succ, List.set_cons_zero]
         refine wpAnyH_take (i := 9) (v := ?v6) rfl (by kernel_rfl) (by kernel_rfl) (by kernel_rfl) (fun _ _ _ h => h) (Or.inl ⟨by rfl, ?y6⟩) (trivial) ?r6
         case y6 =>
          intro w_ hS_
          go_simp
          try with_reducible rfl
         simp only [Act.put, List.getElem_toArray, List.getElem_cons_succ, List.getElem_cons_zero, List.setIfInBounds_toArray, List.set_cons_succ, List.set_cons_zero]
         refine wpAnyH_one (k := 10) (fuel := 2) (by kernel_rfl) rfl (by kernel_rfl) (fun K_ hK_ => ?_)
         refine wp_world_op (.pointer (some ⟨q9.heap.size, 0, none⟩)) (q9.alloc (.cells (evl 0 n16 (.slice none 0 0) (.slice none 0 0)) 51)) (by kernel_rfl) ?_
         have hb_ : Below q9.heap.size q9 (q9.alloc (.cells (evl 0 n16 (.slice none 0 0) (.slice none 0 0)) 51)) := (Below.refl _ _).alloc (Nat.le_refl _) _
         have lgx : w3.heap.size ≤ q9.heap.size := hw.size
         have RX := hp1_0 q9 (.cells (evl 0 n16 (.slice none 0 0) (.slice none 0 0)) 51)
         replace oyh := oyh.keep hb_
         replace oyb := oyb.keep hb_
         replace hFy := hFy.keep hb_
         replace hw := Below.after hw hb_
         clear hb_
         refine hK_ _ _ trivial ?_
         simp only [Act.put, List.getElem_toArray, List.getElem_cons_succ, List.getElem_cons_zero, List.setIfInBounds_toArray, List.set_cons_succ, List.set_cons_zero]
         clear hK_
         generalize q9.alloc (.cells (evl 0 n16 (.slice none 0 0) (.slice none 0 0)) 51) = q10 at *
         generalize q9.heap.size = gx at *
         refine wpAnyH_one (k := 11) (fuel := 1) (by kernel_rfl) rfl (by kernel_rfl) (fun K_ hK_ => ?_)
         refine wp_store_row 51 _ _ rfl gx (evl (vP D) (nP D) (.slice ya (hP D).length yc) (.slice yb (bP D).length yd)) rfl rfl 51 _ RX (evl_info _ _ (nP_len _) _ _) (by rw [evl_size _ _ n16_len, evl_size _ _ (nP_len _)]) (evl_one _ _ _ _ _ _ _ _) ?_
         replace oyh := own_oth oyh (own_neT oyh RX (by decide)) (evl (vP D) (nP D) (.slice ya (hP D).length yc) (.slice yb (bP D).length yd))
         replace oyb := own_oth oyb (own_neT oyb RX (by decide)) (evl (vP D) (nP D) (.slice ya (hP D).length yc) (.slice yb (bP D).length yd))
         replace hFy := hFy.other RX (by decide) (evl (vP D) (nP D) (.slice ya (hP D).length yc) (.slice yb (bP D).length yd))
         replace RX := setRow_heap q10 gx _ (evl (vP D) (nP D) (.slice ya (hP D).length yc) (.slice yb (bP D).length yd)) _ _ RX
         replace hw := below_setRow hw lgx (evl (vP D) (nP D) (.slice ya (hP D).length yc) (.slice yb (bP D).length yd))
         refine hK_ _ _ trivial ?_
         simp only [Act.put, List.getElem_toArray, List.getElem_cons_succ, List.getElem_cons_zero]
         clear hK_
         generalize q10.setRow gx (evl (vP D) (nP D) (.slice ya (hP D).length yc) (.slice yb (bP D).length yd)) = q11 at *
         refine wpAnyH_take (i := 12) (v := ?v7) rfl (by kernel_rfl) (by kernel_rfl) (by kernel_rfl) (fun _ _ _ h => h) (Or.inl ⟨by rfl, ?y7⟩) (trivial) ?r7
         case y7 =>
          intro w_ hS_
          go_simp
          try with_reducible rfl
         simp only [Act.put, List.getElem_toArray, List.getElem_cons_succ, List.getElem_cons_zero, List.setIfInBounds_toArray, List.set_cons_succ, List.set_cons_zero]
         refine wpAnyH_done (by kernel_rfl) ?_ _
         refine NoPanic.normal ?_
         go_wp2_with (fail)
         go_meet
         case rel => exact ⟨gx, ya, yc, yb, yd, E, rfl, rfl, RX, lgx, oyh, oyb, hFy, hw⟩
        ·refine wp_world_op (.pointer (some ⟨q6.heap.size, 0, none⟩)) (q6.alloc (.cells (evl 0 n16 (.slice none 0 0) (.slice none 0 0)) 51)) (by kernel_rfl) ?_
         have hb_ : Below q6.heap.size q6 (q6.alloc (.cells (evl 0 n16 (.slice none 0 0) (.slice none 0 0)) 51)) := (Below.refl _ _).alloc (Nat.le_refl _) _
         have lgx : w3.heap.size ≤ q6.heap.size := hw.size
         have RX := hp1_0 q6 (.cells (evl 0 n16 (.slice none 0 0) (.slice none 0 0)) 51)
         replace hO := hO.keep hb_
         replace hw := Below.after hw hb_
         clear hb_
         refine hK_ _ _ trivial ?_
         simp only [Act.put, List.getElem_toArray, List.getElem_cons_succ, List.getElem_cons_zero, List.setIfInBounds_toArray, List.set_cons_succ, List.set_cons_zero]
         clear hK_
         generalize q6.alloc (.cells (evl 0 n16 (.slice none 0 0) (.slice none 0 0)) 51) = q12 at *
         generalize q6.heap.size = gx at *
         refine wpAnyH_one (k := 6) (fuel := 5) (by kernel_rfl) rfl (by kernel_rfl) (fun K_ hK_ => ?_)
         refine wp_call_ex (f := 22) (R := fun v w' => ∃ xa xc xb xd xE, v = .tuple #[.agg (evl (vP D) (nP D) (.slice xa (hP D).length xc) (.slice xb (bP D).length xd)), xE] ∧ Own w' q12.heap.size (.slice xa (hP D).length xc) (hP D) ∧ Own w' q12.heap.size (.slice xb (bP D).length xd) (bP D) ∧ (∀ k, (Value.slice xa (hP D).length xc).ownBlock = some k → (Value.slice xb (bP D).length xd).ownBlock ≠ some k) ∧ Fy w' q12.heap.size xE (fP D) ∧ Below q12.heap.size q12 w') (by kernel_rfl) ((a_ParseEF D _ q12 (hO.bysB hDl.out) (own_cap hO)).mono (fun e w' h => (by obtain ⟨xa, xc, xb, xd, xE, h1, h2⟩ := h; exact ⟨_, h1, xa, xc, xb, xd, xE, rfl, h2⟩))) (fun v_ q13 hX_ => ?_)
         obtain ⟨ya, yc, yb, yd, E, rfl, oyh, oyb, _, hFy, hb_⟩ := hX_
         replace oyh := own_down oyh hw.size
         replace oyb := own_down oyb hw.size
         replace hFy := hFy.down hw.size
         clear hO
         replace RX := keep hb_ RX
         replace hw := Below.after hw hb_
         clear hb_
         refine hK_ _ _ trivial ?_
         simp only [Act.put, List.getElem_toArray, List.getElem_cons_succ, List.getElem_cons_zero, List.setIfInBounds_toArray, List.set_cons_succ, List.set_cons_zero]
         clear hK_
         refine wpAnyH_take (i := 7) (v := ?v8) rfl (by kernel_rfl) (by kernel_rfl) (by kernel_rfl) (fun _ _ _ h => h) (Or.inl ⟨by rfl, ?y8⟩) (trivial) ?r8
         case y8 =>
          intro w_ hS_
          go_simp
          try with_reducible rfl
         simp only [Act.put, List.getElem_toArray, List.getElem_cons_succ, List.getElem_cons_zero, List.setIfInBounds_toArray, List.set_cons_succ, List.set_cons_zero]
         refine wpAnyH_take (i := 8) (v := ?v9) rfl (by kernel_rfl) (by kernel_rfl) (by kernel_rfl) (fun _ _ _ h => h) (Or.inl ⟨by rfl, ?y9⟩) (trivial) ?r9
         case y9 =>
          intro w_ hS_
          go_simp
          try with_reducible rfl
         simp only [Act.put, List.getElem_toArray, List.getElem_cons_succ, List.getElem_cons_zero, List.setIfInBounds_toArray, List.set_cons_succ, List.set_cons_zero]
         refine wpAnyH_take (i := 9) (v := ?v10) rfl (by kernel_rfl) (by kernel_rfl) (by kernel_rfl) (fun _ _ _ h => h) (Or.inl ⟨by rfl, ?y10⟩) (trivial) ?r10
         case y10 =>
          intro w_ hS_
          go_simp
          try with_reducible rfl
         simp only [Act.put, List.getElem_toArray, List.getElem_cons_succ, List.getElem_cons_zero, List.setIfInBounds_toArray, List.set_cons_succ, List.set_cons_zero]
         refine wpAnyH_one (k := 11) (fuel := 1) (by kernel_rfl) rfl (by kernel_rfl) (fun K_ hK_ => ?_)
         refine wp_store_row 51 _ _ rfl gx (evl (vP D) (nP D) (.slice ya (hP D).length yc) (.slice yb (bP D).length yd)) rfl rfl 51 _ RX (evl_info _ _ (nP_len _) _ _) (by rw [evl_size _ _ n16_len, evl_size _ _ (nP_len _)]) (evl_one _ _ _ _ _ _ _ _) ?_
         replace oyh := own_oth oyh (own_neT oyh RX (by decide)) (evl (vP D) (nP D) (.slice ya (hP D).length yc) (.slice yb (bP D).length yd))
         replace oyb := own_oth oyb (own_neT oyb RX (by decide)) (evl (vP D) (nP D) (.slice ya (hP D).length yc) (.slice yb (bP D).length yd))
         replace hFy := hFy.other RX (by decide) (evl (vP D) (nP D) (.slice ya (hP D).length yc) (.slice yb (bP D).length yd))
         replace RX := setRow_heap q13 gx _ (evl (vP D) (nP D) (.slice ya (hP D).length yc) (.slice yb (bP D).length yd)) _ _ RX
         replace hw := below_setRow hw lgx (evl (vP D) (nP D) (.slice ya (hP D).length yc) (.slice yb (bP D).length yd))
         refine hK_ _ _ trivial ?_
         simp only [Act.put, List.getElem_toArray, List.getElem_cons_succ, List.getElem_cons_zero]
         clear hK_
         generalize q13.setRow gx (evl (vP D) (nP D) (.slice ya (hP D).length yc) (.slice yb (bP D).length yd)) = q14 at *
         refine wpAnyH_take (i := 12) (v := ?v11) rfl (by kernel_rfl) (by kernel_rfl) (by kernel_rfl) (fun _ _ _ h => h) (Or.inl ⟨by rfl, ?y11⟩) (trivial) ?r11
         case y11 =>
          intro w_ hS_
          go_simp
          try with_reducible rfl
         simp only [Act.put, List.getElem_toArray, List.getElem_cons_succ, List.getElem_cons_zero, List.setIfInBounds_toArray, List.set_cons_succ, List.set_cons_zero]
         refine wpAnyH_done (by kernel_rfl) ?_ _
         refine NoPanic.normal ?_
         go_wp2_with (fail)
         go_meet
         case rel => exact ⟨gx, ya, yc, yb, yd, E, rfl, rfl, RX, lgx, oyh, oyb, hFy, hw⟩
       ·refine wp_world_op (.pointer (some ⟨q3.heap.size, 0, none⟩)) (q3.alloc (.cells (evl 0 n16 (.slice none 0 0) (.slice none 0 0)) 51)) (by kernel_rfl) ?_
        have hb_ : Below q3.heap.size q3 (q3.alloc (.cells (evl 0 n16 (.slice none 0 0) (.slice none 0 0)) 51)) := (Below.refl _ _).alloc (Nat.le_refl _) _
        have lgx : w3.heap.size ≤ q3.heap.size := hw.size
        have RX := hp1_0 q3 (.cells (evl 0 n16 (.slice none 0 0) (.slice none 0 0)) 51)
        replace hO := hO.keep hb_
        replace hw := Below.after hw hb_
        clear hb_
        refine hK_ _ _ trivial ?_
        simp only [Act.put, List.getElem_toArray, List.getElem_cons_succ, List.getElem_cons_zero, List.setIfInBounds_toArray, List.set_cons_succ, List.set_cons_zero]
        clear hK_
        generalize q3.alloc (.cells (evl 0 n16 (.slice none 0 0) (.slice none 0 0)) 51) = q15 at *
        generalize q3.heap.size = gx at *
        refine wpAnyH_one (k := 5) (fuel := 6) (by kernel_rfl) rfl (by kernel_rfl) (fun K_ hK_ => ?_)
        refine wp_append_bytes _ _ rfl w3.heap.size _ hh rfl hO _ tl_ rfl (hBh3.out _ hw) (by have := hLl.out; omega) hw.size (fun v_ q16 hO2 hgr => ?_)
        replace RX := (hgr.block _ (lt_of_row RX) (fun h => own_neT hO RX (by decide) h.symm)).trans RX
        replace hw := hw.grown hgr hw.size (fun k h => own_low hO k h)
        clear hgr hO
        have hO := hO2
        clear hO2
        rw [hD.out] at hO
        obtain ⟨a17, c18, rfl⟩ := slen_own hO
        refine hK_ _ _ trivial ?_
        simp only [Act.put, List.getElem_toArray, List.getElem_cons_succ, List.getElem_cons_zero, List.setIfInBounds_toArray, List.set_cons_succ, List.set_cons_zero]
        clear hK_
        refine wpAnyH_one (k := 6) (fuel := 5) (by kernel_rfl) rfl (by kernel_rfl) (fun K_ hK_ => ?_)
        refine wp_call_ex (f := 22) (R := fun v w' => ∃ xa xc xb xd xE, v = .tuple #[.agg (evl (vP D) (nP D) (.slice xa (hP D).length xc) (.slice xb (bP D).length xd)), xE] ∧ Own w' q16.heap.size (.slice xa (hP D).length xc) (hP D) ∧ Own w' q16.heap.size (.slice xb (bP D).length xd) (bP D) ∧ (∀ k, (Value.slice xa (hP D).length xc).ownBlock = some k → (Value.slice xb (bP D).length xd).ownBlock ≠ some k) ∧ Fy w' q16.heap.size xE (fP D) ∧ Below q16.heap.size q16 w') (by kernel_rfl) ((a_ParseEF D _ q16 (hO.bysB hDl.out) (own_cap hO)).mono (fun e w' h => (by obtain ⟨xa, xc, xb, xd, xE, h1, h2⟩ := h; exact ⟨_, h1, xa, xc, xb, xd, xE, rfl, h2⟩))) (fun v_ q19 hX_ => ?_)
        obtain ⟨ya, yc, yb, yd, E, rfl, oyh, oyb, _, hFy, hb_⟩ := hX_
        replace oyh := own_down oyh hw.size
        replace oyb := own_down oyb hw.size
        replace hFy := hFy.down hw.size
        clear hO
        replace RX := keep hb_ RX
        replace hw := Below.after hw hb_
        clear hb_
        refine hK_ _ _ trivial ?_
        simp only [Act.put, List.getElem_toArray, List.getElem_cons_succ, List.getElem_cons_zero, List.setIfInBounds_toArray, List.set_cons_succ, List.set_cons_zero]
        clear hK_
        refine wpAnyH_take (i := 7) (v := ?v12) rfl (by kernel_rfl) (by kernel_rfl) (by kernel_rfl) (fun _ _ _ h => h) (Or.inl ⟨by rfl, ?y12⟩) (trivial) ?r12
        case y12 =>
         intro w_ hS_
         go_simp
         try with_reducible rfl
        simp only [Act.put, List.getElem_toArray, List.getElem_cons_succ, List.getElem_cons_zero, List.setIfInBounds_toArray, List.set_cons_succ, List.set_cons_zero]
        refine wpAnyH_take (i := 8) (v := ?v13) rfl (by kernel_rfl) (by kernel_rfl) (by kernel_rfl) (fun _ _ _ h => h) (Or.inl ⟨by rfl, ?y13⟩) (trivial) ?r13
        case y13 =>
         intro w_ hS_
         go_simp
         try with_reducible rfl
        simp only [Act.put, List.getElem_toArray, List.getElem_cons_succ, List.getElem_cons_zero, List.setIfInBounds_toArray, List.set_cons_succ, List.set_cons_zero]
        refine wpAnyH_take (i := 9) (v := ?v14) rfl (by kernel_rfl) (by kernel_rfl) (by kernel_rfl) (fun _ _ _ h => h) (Or.inl ⟨by rfl, ?y14⟩) (trivial) ?r14
        case y14 =>
         intro w_ hS_
         go_simp
         try with_reducible rfl
        simp only [Act.put, List.getElem_toArray, List.getElem_cons_succ, List.getElem_cons_zero, List.setIfInBounds_toArray, List.set_cons_succ, List.set_cons_zero]
        refine wpAnyH_one (k := 11) (fuel := 1) (by kernel_rfl) rfl (by kernel_rfl) (fun K_ hK_ => ?_)
        refine wp_store_row 51 _ _ rfl gx (evl (vP D) (nP D) (.slice ya (hP D).length yc) (.slice yb (bP D).length yd)) rfl rfl 51 _ RX (evl_info _ _ (nP_len _) _ _) (by rw [evl_size _ _ n16_len, evl_size _ _ (nP_len _)]) (evl_one _ _ _ _ _ _ _ _) ?_
        replace oyh := own_oth oyh (own_neT oyh RX (by decide)) (evl (vP D) (nP D) (.slice ya (hP D).length yc) (.slice yb (bP D).length yd))
        replace oyb := own_oth oyb (own_neT oyb RX (by decide)) (evl (vP D) (nP D) (.slice ya (hP D).length yc) (.slice yb (bP D).length yd))
        replace hFy := hFy.other RX (by decide) (evl (vP D) (nP D) (.slice ya (hP D).length yc) (.slice yb (bP D).length yd))
        replace RX := setRow_heap q19 gx _ (evl (vP D) (nP D) (.slice ya (hP D).length yc) (.slice yb (bP D).length yd)) _ _ RX
        replace hw := below_setRow hw lgx (evl (vP D) (nP D) (.slice ya (hP D).length yc) (.slice yb (bP D).length yd))
        refine hK_ _ _ trivial ?_
        simp only [Act.put, List.getElem_toArray, List.getElem_cons_succ, List.getElem_cons_zero]
        clear hK_
        generalize q19.setRow gx (evl (vP D) (nP D) (.slice ya (hP D).length yc) (.slice yb (bP D).length yd)) = q20 at *
        refine wpAnyH_take (i := 12) (v := ?v15) rfl (by kernel_rfl) (by kernel_rfl) (by kernel_rfl) (fun _ _ _ h => h) (Or.inl ⟨by rfl, ?y15⟩) (trivial) ?r15
        case y15 =>
         intro w_ hS_
         go_simp
         try with_reducible rfl
        simp only [Act.put, List.getElem_toArray, List.getElem_cons_succ, List.getElem_cons_zero, List.setIfInBounds_toArray, List.set_cons_succ, List.set_cons_zero]
        refine wpAnyH_done (by kernel_rfl) ?_ _
        refine NoPanic.normal ?_
        go_wp2_with (fail)
        go_meet
        case rel => exact ⟨gx, ya, yc, yb, yd, E, rfl, rfl, RX, lgx, oyh, oyb, hFy, hw⟩
      ·refine wp_world_op (.pointer (some ⟨q1.heap.size, 0, none⟩)) (q1.alloc (.cells (evl 0 n16 (.slice none 0 0) (.slice none 0 0)) 51)) (by kernel_rfl) ?_
       have hb_ : Below q1.heap.size q1 (q1.alloc (.cells (evl 0 n16 (.slice none 0 0) (.slice none 0 0)) 51)) := (Below.refl _ _).alloc (Nat.le_refl _) _
       have lgx : w3.heap.size ≤ q1.heap.size := hw.size
       have RX := hp1_0 q1 (.cells (evl 0 n16 (.slice none 0 0) (.slice none 0 0)) 51)
       replace hO := hO.keep hb_
       replace hw := Below.after hw hb_
       clear hb_
       refine hK_ _ _ trivial ?_
       simp only [Act.put, List.getElem_toArray, List.getElem_cons_succ, List.getElem_cons_zero, List.setIfInBounds_toArray, List.set_cons_succ, List.set_cons_zero]
       clear hK_
       generalize q1.alloc (.cells (evl 0 n16 (.slice none 0 0) (.slice none 0 0)) 51) = q21 at *
       generalize q1.heap.size = gx at *
       refine wpAnyH_one (k := 2) (fuel := 7) (by kernel_rfl) rfl (by kernel_rfl) (fun K_ hK_ => ?_)
       refine wp_append_bytes _ _ rfl w3.heap.size _ [] rfl hO _ hh rfl (hUh3.out _ hw) (by simp only [List.length_nil]; omega) hw.size (fun v_ q22 hO2 hgr => ?_)
       replace RX := (hgr.block _ (lt_of_row RX) (fun h => own_neT hO RX (by decide) h.symm)).trans RX
       replace hw := hw.grown hgr hw.size (fun k h => own_low hO k h)
       clear hgr hO
       have hO := hO2
       clear hO2
       replace hO : Own q22 w3.heap.size v_ hh := hO
       obtain ⟨a23, c24, rfl⟩ := slen_own hO
       refine hK_ _ _ trivial ?_
       simp only [Act.put, List.getElem_toArray, List.getElem_cons_succ, List.getElem_cons_zero, List.setIfInBounds_toArray, List.set_cons_succ, List.set_cons_zero]
       clear hK_
       refine wpAnyH_one (k := 5) (fuel := 6) (by kernel_rfl) rfl (by kernel_rfl) (fun K_ hK_ => ?_)
       refine wp_append_bytes _ _ rfl w3.heap.size _ hh rfl hO _ tl_ rfl (hBh3.out _ hw) (by have := hLl.out; omega) hw.size (fun v_ q25 hO2 hgr => ?_)
       replace RX := (hgr.block _ (lt_of_row RX) (fun h => own_neT hO RX (by decide) h.symm)).trans RX
       replace hw := hw.grown hgr hw.size (fun k h => own_low hO k h)
       clear hgr hO
       have hO := hO2
       clear hO2
       rw [hD.out] at hO
       obtain ⟨a26, c27, rfl⟩ := slen_own hO
       refine hK_ _ _ trivial ?_
       simp only [Act.put, List.getElem_toArray, List.getElem_cons_succ, List.getElem_cons_zero, List.setIfInBounds_toArray, List.set_cons_succ, List.set_cons_zero]
       clear hK_
       refine wpAnyH_one (k := 6) (fuel := 5) (by kernel_rfl) rfl (by kernel_rfl) (fun K_ hK_ => ?_)
       refine wp_call_ex (f := 22) (R := fun v w' => ∃ xa xc xb xd xE, v = .tuple #[.agg (evl (vP D) (nP D) (.slice xa (hP D).length xc) (.slice xb (bP D).length xd)), xE] ∧ Own w' q25.heap.size (.slice xa (hP D).length xc) (hP D) ∧ Own w' q25.heap.size (.slice xb (bP D).length xd) (bP D) ∧ (∀ k, (Value.slice xa (hP D).length xc).ownBlock = some k → (Value.slice xb (bP D).length xd).ownBlock ≠ some k) ∧ Fy w' q25.heap.size xE (fP D) ∧ Below q25.heap.size q25 w') (by kernel_rfl) ((a_ParseEF D _ q25 (hO.bysB hDl.out) (own_cap hO)).mono (fun e w' h => (by obtain ⟨xa, xc, xb, xd, xE, h1, h2⟩ := h; exact ⟨_, h1, xa, xc, xb, xd, xE, rfl, h2⟩))) (fun v_ q28 hX_ => ?_)
       obtain ⟨ya, yc, yb, yd, E, rfl, oyh, oyb, _, hFy, hb_⟩ := hX_
       replace oyh := own_down oyh hw.size
       replace oyb := own_down oyb hw.size
       replace hFy := hFy.down hw.size
       clear hO
       replace RX := keep hb_ RX
       replace hw := Below.after hw hb_
       clear hb_
       refine hK_ _ _ trivial ?_
       simp only [Act.put, List.getElem_toArray, List.getElem_cons_succ, List.getElem_cons_zero, List.setIfInBounds_toArray, List.set_cons_succ, List.set_cons_zero]
       clear hK_
       refine wpAnyH_take (i := 7) (v := ?v16) rfl (by kernel_rfl) (by kernel_rfl) (by kernel_rfl) (fun _ _ _ h => h) (Or.inl ⟨by rfl, ?y16⟩) (trivial) ?r16
       case y16 =>
        intro w_ hS_
        go_simp
        try with_reducible rfl
       simp only [Act.put, List.getElem_toArray, List.getElem_cons_succ, List.getElem_cons_zero, List.setIfInBounds_toArray, List.set_cons_succ, List.set_cons_zero]
       refine wpAnyH_take (i := 8) (v := ?v17) rfl (by kernel_rfl) (by kernel_rfl) (by kernel_rfl) (fun _ _ _ h => h) (Or.inl ⟨by rfl, ?y17⟩) (trivial) ?r17
       case y17 =>
        intro w_ hS_
        go_simp
        try with_reducible rfl
       simp only [Act.put, List.getElem_toArray, List.getElem_cons_succ, List.getElem_cons_zero, List.setIfInBounds_toArray, List.set_cons_succ, List.set_cons_zero]
       refine wpAnyH_take (i := 9) (v := ?v18) rfl (by kernel_rfl) (by kernel_rfl) (by kernel_rfl) (fun _ _ _ h => h) (Or.inl ⟨by rfl, ?y18⟩) (trivial) ?r18
       case y18 =>
        intro w_ hS_
        go_simp
        try with_reducible rfl
       simp only [Act.put, List.getElem_toArray, List.getElem_cons_succ, List.getElem_cons_zero, List.setIfInBounds_toArray, List.set_cons_succ, List.set_cons_zero]
       refine wpAnyH_one (k := 11) (fuel := 1) (by kernel_rfl) rfl (by kernel_rfl) (fun K_ hK_ => ?_)
       refine wp_store_row 51 _ _ rfl gx (evl (vP D) (nP D) (.slice ya (hP D).length yc) (.slice yb (bP D).length yd)) rfl rfl 51 _ RX (evl_info _ _ (nP_len _) _ _) (by rw [evl_size _ _ n16_len, evl_size _ _ (nP_len _)]) (evl_one _ _ _ _ _ _ _ _) ?_
       replace oyh := own_oth oyh (own_neT oyh RX (by decide)) (evl (vP D) (nP D) (.slice ya (hP D).length yc) (.slice yb (bP D).length yd))
       replace oyb := own_oth oyb (own_neT oyb RX (by decide)) (evl (vP D) (nP D) (.slice ya (hP D).length yc) (.slice yb (bP D).length yd))
       replace hFy := hFy.other RX (by decide) (evl (vP D) (nP D) (.slice ya (hP D).length yc) (.slice yb (bP D).length yd))
       replace RX := setRow_heap q28 gx _ (evl (vP D) (nP D) (.slice ya (hP D).length yc) (.slice yb (bP D).length yd)) _ _ RX
       replace hw := below_setRow hw lgx (evl (vP D) (nP D) (.slice ya (hP D).length yc) (.slice yb (bP D).length yd))
       refine hK_ _ _ trivial ?_
       simp only [Act.put, List.getElem_toArray, List.getElem_cons_succ, List.getElem_cons_zero]
       clear hK_
       generalize q28.setRow gx (evl (vP D) (nP D) (.slice ya (hP D).length yc) (.slice yb (bP D).length yd)) = q29 at *
       refine wpAnyH_take (i := 12) (v := ?v19) rfl (by kernel_rfl) (by kernel_rfl) (by kernel_rfl) (fun _ _ _ h => h) (Or.inl ⟨by rfl, ?y19⟩) (trivial) ?r19
       case y19 =>
        intro w_ hS_
        go_simp
        try with_reducible rfl
       simp only [Act.put, List.getElem_toArray, List.getElem_cons_succ, List.getElem_cons_zero, List.setIfInBounds_toArray, List.set_cons_succ, List.set_cons_zero]
       refine wpAnyH_done (by kernel_rfl) ?_ _
       refine NoPanic.normal ?_
       go_wp2_with (fail)
       go_meet
       case rel => exact ⟨gx, ya, yc, yb, yd, E, rfl, rfl, RX, lgx, oyh, oyb, hFy, hw⟩
     ·refine wp_world_op (.pointer (some ⟨y1.heap.size, 0, none⟩)) (y1.alloc (.cells (evl 0 n16 (.slice none 0 0) (.slice none 0 0)) 51)) (by kernel_rfl) ?_
      have hb_ : Below y1.heap.size y1 (y1.alloc (.cells (evl 0 n16 (.slice none 0 0) (.slice none 0 0)) 51)) := (Below.refl _ _).alloc (Nat.le_refl _) _
      have lgx : w3.heap.size ≤ y1.heap.size := hw.size
      have RX := hp1_0 y1 (.cells (evl 0 n16 (.slice none 0 0) (.slice none 0 0)) 51)
      replace hw := Below.after hw hb_
      clear hb_
      refine hK_ _ _ trivial ?_
      simp only [Act.put, List.getElem_toArray, List.getElem_cons_succ, List.getElem_cons_zero, List.setIfInBounds_toArray, List.set_cons_succ, List.set_cons_zero]
      clear hK_
      generalize y1.alloc (.cells (evl 0 n16 (.slice none 0 0) (.slice none 0 0)) 51) = q30 at *
      generalize y1.heap.size = gx at *
      refine wpAnyH_one (k := 0) (fuel := 8) (by kernel_rfl) rfl (by kernel_rfl) (fun K_ hK_ => ?_)
      refine wp_world_op (.slice (some ⟨q30.heap.size, 0, none⟩) 0 0) (q30.alloc (.cells #[] 5)) (by kernel_rfl) ?_
      have hb_ : Below q30.heap.size q30 (q30.alloc (.cells #[] 5)) := (Below.refl _ _).alloc (Nat.le_refl _) _
      have hO := own_down (own_nil q30) hw.size
      replace RX := keep hb_ RX
      replace hw := Below.after hw hb_
      clear hb_
      refine hK_ _ _ trivial ?_
      simp only [Act.put, List.getElem_toArray, List.getElem_cons_zero, List.setIfInBounds_toArray, List.set_cons_succ, List.set_cons_zero]
      clear hK_
      generalize q30.alloc (.cells #[] 5) = q31 at *
      generalize q30.heap.size = g32 at *
      refine wpAnyH_one (k := 2) (fuel := 7) (by kernel_rfl) rfl (by kernel_rfl) (fun K_ hK_ => ?_)
      refine wp_append_bytes _ _ rfl w3.heap.size _ [] rfl hO _ hh rfl (hUh3.out _ hw) (by simp only [List.length_nil]; omega) hw.size (fun v_ q33 hO2 hgr => ?_)
      replace RX := (hgr.block _ (lt_of_row RX) (fun h => own_neT hO RX (by decide) h.symm)).trans RX
      replace hw := hw.grown hgr hw.size (fun k h => own_low hO k h)
      clear hgr hO
      have hO := hO2
      clear hO2
      replace hO : Own q33 w3.heap.size v_ hh := hO
      obtain ⟨a34, c35, rfl⟩ := slen_own hO
      refine hK_ _ _ trivial ?_
      simp only [Act.put, List.getElem_toArray, List.getElem_cons_succ, List.getElem_cons_zero, List.setIfInBounds_toArray, List.set_cons_succ, List.set_cons_zero]
      clear hK_
      refine wpAnyH_one (k := 5) (fuel := 6) (by kernel_rfl) rfl (by kernel_rfl) (fun K_ hK_ => ?_)
      refine wp_append_bytes _ _ rfl w3.heap.size _ hh rfl hO _ tl_ rfl (hBh3.out _ hw) (by have := hLl.out; omega) hw.size (fun v_ q36 hO2 hgr => ?_)
      replace RX := (hgr.block _ (lt_of_row RX) (fun h => own_neT hO RX (by decide) h.symm)).trans RX
      replace hw := hw.grown hgr hw.size (fun k h => own_low hO k h)
      clear hgr hO
      have hO := hO2
      clear hO2
      rw [hD.out] at hO
      obtain ⟨a37, c38, rfl⟩ := slen_own hO
      refine hK_ _ _ trivial ?_
      simp only [Act.put, List.getElem_toArray, List.getElem_cons_succ, List.getElem_cons_zero, List.setIfInBounds_toArray, List.set_cons_succ, List.set_cons_zero]
      clear hK_
      refine wpAnyH_one (k := 6) (fuel := 5) (by kernel_rfl) rfl (by kernel_rfl) (fun K_ hK_ => ?_)
      refine wp_call_ex (f := 22) (R := fun v w' => ∃ xa xc xb xd xE, v = .tuple #[.agg (evl (vP D) (nP D) (.slice xa (hP D).length xc) (.slice xb (bP D).length xd)), xE] ∧ Own w' q36.heap.size (.slice xa (hP D).length xc) (hP D) ∧ Own w' q36.heap.size (.slice xb (bP D).length xd) (bP D) ∧ (∀ k, (Value.slice xa (hP D).length xc).ownBlock = some k → (Value.slice xb (bP D).length xd).ownBlock ≠ some k) ∧ Fy w' q36.heap.size xE (fP D) ∧ Below q36.heap.size q36 w') (by kernel_rfl) ((a_ParseEF D _ q36 (hO.bysB hDl.out) (own_cap hO)).mono (fun e w' h => (by obtain ⟨xa, xc, xb, xd, xE, h1, h2⟩ := h; exact ⟨_, h1, xa, xc, xb, xd, xE, rfl, h2⟩))) (fun v_ q39 hX_ => ?_)
      obtain ⟨ya, yc, yb, yd, E, rfl, oyh, oyb, _, hFy, hb_⟩ := hX_
      replace oyh := own_down oyh hw.size
      replace oyb := own_down oyb hw.size
      replace hFy := hFy.down hw.size
      clear hO
      replace RX := keep hb_ RX
      replace hw := Below.after hw hb_
      clear hb_
      refine hK_ _ _ trivial ?_
      simp only [Act.put, List.getElem_toArray, List.getElem_cons_succ, List.getElem_cons_zero, List.setIfInBounds_toArray, List.set_cons_succ, List.set_cons_zero]
      clear hK_
      refine wpAnyH_take (i := 7) (v := ?v20) rfl (by kernel_rfl) (by kernel_rfl) (by kernel_rfl) (fun _ _ _ h => h) (Or.inl ⟨by rfl, ?y20⟩) (trivial) ?r20
      case y20 =>
       intro w_ hS_
       go_simp
       try with_reducible rfl
      simp only [Act.put, List.getElem_toArray, List.getElem_cons_succ, List.getElem_cons_zero, List.setIfInBounds_toArray, List.set_cons_succ, List.set_cons_zero]
      refine wpAnyH_take (i := 8) (v := ?v21) rfl (by kernel_rfl) (by kernel_rfl) (by kernel_rfl) (fun _ _ _ h => h) (Or.inl ⟨by rfl, ?y21⟩) (trivial) ?r21
      case y21 =>
       intro w_ hS_
       go_simp
       try with_reducible rfl
      simp only [Act.put, List.getElem_toArray, List.getElem_cons_succ, List.getElem_cons_zero, List.setIfInBounds_toArray, List.set_cons_succ, List.set_cons_zero]
      refine wpAnyH_take (i := 9) (v := ?v22) rfl (by kernel_rfl) (by kernel_rfl) (by kernel_rfl) (fun _ _ _ h => h) (Or.inl ⟨by rfl, ?y22⟩) (trivial) ?r22
      case y22 =>
       intro w_ hS_
       go_simp
       try with_reducible rfl
      simp only [Act.put, List.getElem_toArray, List.getElem_cons_succ, List.getElem_cons_zero, List.setIfInBounds_toArray, List.set_cons_succ, List.set_cons_zero]
      refine wpAnyH_one (k := 11) (fuel := 1) (by kernel_rfl) rfl (by kernel_rfl) (fun K_ hK_ => ?_)
      refine wp_store_row 51 _ _ rfl gx (evl (vP D) (nP D) (.slice ya (hP D).length yc) (.slice yb (bP D).length yd)) rfl rfl 51 _ RX (evl_info _ _ (nP_len _) _ _) (by rw [evl_size _ _ n16_len, evl_size _ _ (nP_len _)]) (evl_one _ _ _ _ _ _ _ _) ?_
      replace oyh := own_oth oyh (own_neT oyh RX (by decide)) (evl (vP D) (nP D) (.slice ya (hP D).length yc) (.slice yb (bP D).length yd))
      replace oyb := own_oth oyb (own_neT oyb RX (by decide)) (evl (vP D) (nP D) (.slice ya (hP D).length yc) (.slice yb (bP D).length yd))
      replace hFy := hFy.other RX (by decide) (evl (vP D) (nP D) (.slice ya (hP D).length yc) (.slice yb (bP D).length yd))
      replace RX := setRow_heap q39 gx _ (evl (vP D) (nP D) (.slice ya (hP D).length yc) (.slice yb (bP D).length yd)) _ _ RX
      replace hw := below_setRow hw lgx (evl (vP D) (nP D) (.slice ya (hP D).length yc) (.slice yb (bP D).length yd))
      refine hK_ _ _ trivial ?_
      simp only [Act.put, List.getElem_toArray, List.getElem_cons_succ, List.getElem_cons_zero]
      clear hK_
      generalize q39.setRow gx (evl (vP D) (nP D) (.slice ya (hP D).length yc) (.slice yb (bP D).length yd)) = q40 at *
      refine wpAnyH_take (i := 12) (v := ?v23) rfl (by kernel_rfl) (by kernel_rfl) (by kernel_rfl) (fun _ _ _ h => h) (Or.inl ⟨by rfl, ?y23⟩) (trivial) ?r23
      case y23 =>
       intro w_ hS_
       go_simp
       try with_reducible rfl
      simp only [Act.put, List.getElem_toArray, List.getElem_cons_succ, List.getElem_cons_zero, List.setIfInBounds_toArray, List.set_cons_succ, List.set_cons_zero]
      refine wpAnyH_done (by kernel_rfl) ?_ _
      refine NoPanic.normal ?_
      go_wp2_with (fail)
      go_meet
      case rel => exact ⟨gx, ya, yc, yb, yd, E, rfl, rfl, RX, lgx, oyh, oyb, hFy, hw⟩
    case rest =>
     obtain ⟨gx, ya, yc, yb, yd, E, rfl, rfl, RX, lgx, oyh, oyb, hFy, hw⟩ := hcut
     clear s2 hUh3 hBh3 hD hDl hLl
     have R1 := hRh3.out _ hw
     have hwo := hOut3.out _ hw
     have c0 : wc.cell? ⟨w.heap.size, 0, none⟩ = some (.int .i64 ver) := by rw [cell_of_row _ _ _ _ _ _ R1]; exact evl_0 _ _ _ _
     rcases hFy with ⟨hE1, hf⟩ | ⟨g, x, _, hE1, hf, hx, _⟩
     ·subst hE1
      obtain ⟨e1, e2, e3, e4⟩ := hrd.out (fP_none hf)
      rw [e1, e2, e3, e4] at RX
      rw [e3] at oyh
      rw [e4] at oyb
      clear e1 e2 e3 e4 hf hrd hsm
      have hnn := neq_nils
      have hwv : IntKind.wrap .i64 (vn : Int) = (vn : Int) := by rw [IntKind.wrap_i64]; omega
      have hlx : w.heap.size ≠ gx := by omega
      have R1b := hide (setRow_heap wc (w.heap.size) _ (evl (vn : Int) nonce (.slice ha hd.length hc) (.slice ba bd.length bc)) _ _ R1)
      have RXb := hide ((setRow_other wc (w.heap.size) gx (evl (vn : Int) nonce (.slice ha hd.length hc) (.slice ba bd.length bc)) (Ne.symm hlx)).trans RX)
      have oh2 := hide (own_setRow (g := w.heap.size) oyh (by omega) (evl (vn : Int) nonce (.slice ha hd.length hc) (.slice ba bd.length bc)))
      have ob2 := hide (own_setRow (g := w.heap.size) oyb (by omega) (evl (vn : Int) nonce (.slice ha hd.length hc) (.slice ba bd.length bc)))
      have hw2 := hide (below_setRow (g := w.heap.size) hwo (Nat.le_refl _) (evl (vn : Int) nonce (.slice ha hd.length hc) (.slice ba bd.length bc)))
      have hBB := hide (hHh.out _ hw2.out)
      have hBC := hide (hBh.out _ hw2.out)
      have hEs := evl_set ver vn nonce (.slice ha hd.length hc) (.slice ba bd.length bc)
      have hlt : 0 < (evl ver nonce (.slice ha hd.length hc) (.slice ba bd.length bc)).size := by rw [evl_size _ _ hn]; decide
      clear RX oyh oyb hwo
      go_wp2_with (first | (refine wpList_store_cell rfl 3 _ _ rfl (w.heap.size) 0 (.int .i64 (vn : Int)) rfl (by go_simp) 51 (evl ver nonce (.slice ha hd.length hc) (.slice ba bd.length bc)) (evl (vn : Int) nonce (.slice ha hd.length hc) (.slice ba bd.length bc)) R1 hlt hEs infoInt10 rfl ?_; refine wpList_stay ?_) | fail)
      unfold WpStay
      try simp only [Act.put, List.setIfInBounds_toArray, List.set_cons_succ, List.set_cons_zero]
      clear R1 c0 hEs hlt
      have R1 := R1b.out
      have RX := RXb.out
      have oyh := oh2.out
      have oyb := ob2.out
      have hwo := hw2.out
      clear R1b RXb oh2 ob2 hw2
      generalize wc.setRow (w.heap.size) (evl (vn : Int) nonce (.slice ha hd.length hc) (.slice ba bd.length bc)) = wd at *
      have cS := hide (l_sameEnv (vn : Int) nonce hd bd hn ya yc yb yd ha hc ba bc wd oyh.bys oyb.bys hBB.out.1 hBC.out.1)
      go_wp2_with (first | (refine wpList_load_want rfl 51 _ rfl (gx) rfl 51 (evl (vn : Int) nonce (.slice ya hd.length yc) (.slice yb bd.length yd)) (0, 0) _ RX Tryz.underlying51 rfl (evl_info _ _ hn _ _) ?_) | (refine wpList_load_want rfl 51 _ rfl (w.heap.size) rfl 51 (evl (vn : Int) nonce (.slice ha hd.length hc) (.slice ba bd.length bc)) (0, 0) _ R1 Tryz.underlying51 rfl (evl_info _ _ hn _ _) ?_) | fail)
      refine cS.out.mono ?_
      rintro e_ we ⟨rfl, hb⟩
      replace hwo := Below.after hwo hb
      clear cS hb
      go_wp2_with (fail)
      go_ret
      exact ⟨rfl, hwo⟩
     ·subst hE1
      have hne := neq_fault (.pointer (some ⟨g, 0, none⟩))
      have hvv : vn ≠ v := fun e => fP_some hf hx (hsm.out e)
      have hd2 : ((vn : Int) != (v : Int)) = true := by
       have : (vn : Int) ≠ (v : Int) := by omega
       simpa using this
      clear hf hsm hrd RX oyh oyb hvv
      go_wp2_with (fail)
      go_ret
      exact ⟨rfl, hwo⟩
theorem versions_ev (ver : Int) (nonce : List B) (u v : Value) (e d : List B) (hv : -9223372036854775808 ≤ ver ∧ ver ≤ 9223372036854775807) (hn : nonce.length = 16) (vn : Nat) (hvn : vn < 18446744073709551616) (T : List B) (tv : Value) (w : World) (hE : Ety w) (hU : BysC w u e) (hV : BysC w v d) (hT : BysB w tv T) (b3 : T.length ≤ 140737488351232) : Calls Tryz.prog 7 #[.agg (evl ver nonce u v), .int .u64 (vn : Int), tv] w fun e w' => e = .returned (.bool true) ∧ Below w.heap.size w w' := by
 obtain ⟨ua, uc, rfl⟩ := hU.1.form
 obtain ⟨va, vc, rfl⟩ := hV.1.form
 exact versions_any ver hv.1 hv.2 nonce e d hn ua uc va vc vn hvn T tv w hE hU.1 hV.1 hT hU.2.1 hV.2.1 b3
end Go.Proofs.YtjoohgkgkabbpaaGreatDoor

