import Derived.Test.YtbaefbfejmpliabDoorJrh
import Derived.OwnWalk
import Derived.Deep.Cut
import Derived.Deep.RegionHeld3
namespace Go.Proofs.YtbaefbfejmpliabDoor
set_option maxRecDepth 100000
open Go Go.RowKit Go.Sort
attribute [local go_sem] setCell_drewN alloc_drewN
theorem bfs_ok {i s o : List B} (h : Bool) (li : i.length = 32) (ls : s.length = 32) (lo : o.length = 32) : ∀ f ∈ bfs i s o h, Fok f := by
  intro f hf
  simp only [bfs, List.mem_cons, List.not_mem_nil, or_false] at hf
  rcases hf with rfl | rfl | rfl | rfl
  · exact ⟨by show 0 < _; decide, by show i.length ≤ _; omega, by show (-9223372036854775808 : Int) ≤ 1; decide, by show (1 : Int) ≤ _; decide⟩
  · exact ⟨by show 0 < _; decide, by show s.length ≤ _; omega, by show (-9223372036854775808 : Int) ≤ 2; decide, by show (2 : Int) ≤ _; decide⟩
  · exact ⟨by cases h <;> decide, by show 0 ≤ _; omega, by show (-9223372036854775808 : Int) ≤ 3; decide, by show (3 : Int) ≤ _; decide⟩
  · exact ⟨by show 0 < _; decide, by show o.length ≤ _; omega, by show (-9223372036854775808 : Int) ≤ 4; decide, by show (4 : Int) ≤ _; decide⟩
theorem en1 (n : Nat) (h : n < 128) : (en n).length = 1 := by rw [en_lo h]; rfl
theorem key_len (no : Int) (l : List B) (hl : l.length = 32) (h0 : 0 ≤ no) (h1 : no < 15) : (fby ⟨no, 2, 0, l⟩).length = 34 := by
  have e : fhd ⟨no, 2, 0, l⟩ = 8 * no.toNat + 2 := rfl
  have e2 : fvl ⟨no, 2, 0, l⟩ = itm l := rfl
  rw [fby, List.length_append, e, e2, itm_len, hl, en1 _ (by omega), en1 32 (by decide)]
theorem flag_len (h : Bool) : (fby ⟨3, 0, if h then 1 else 0, []⟩).length = 2 := by
  have e : fhd ⟨3, 0, if h then 1 else 0, []⟩ = 24 := rfl
  have e2 : fvl ⟨3, 0, if h then 1 else 0, []⟩ = en (if h then 1 else 0) := rfl
  rw [fby, List.length_append, e, e2, en1 24 (by decide), en1 _ (by cases h <;> decide)]
theorem bfs_len {i s o : List B} (h : Bool) (li : i.length = 32) (ls : s.length = 32) (lo : o.length = 32) : (ebs (bfs i s o h)).length = 104 := by
  simp only [bfs, ebs, List.length_append, key_len 1 i li (by decide) (by decide), key_len 2 s ls (by decide) (by decide), key_len 4 o lo (by decide) (by decide), flag_len h, List.length_nil]
theorem bfs_ech {i s o : List B} (h : Bool) : ech (bfs i s o h) 0 = 0 := by
  have k1 : ∀ (no last : Int) (l : List B), ¬ (no ≤ last ∨ 536870911 < no) → fck ⟨no, 2, 0, l⟩ last = 0 := fun no last l hn => by
    have a : hck ⟨no, 2, 0, l⟩ last = 0 := by unfold hck; rw [if_neg hn, if_pos (show known 2 from .inr (.inr (.inl rfl)))]
    unfold fck
    rw [if_neg (by simpa using a), if_pos (by unfold fits; simp)]
  have k2 : fck ⟨3, 0, if h then 1 else 0, []⟩ 2 = 0 := by cases h <;> decide
  simp only [bfs, ech, k1 1 0 i (by decide), k1 2 1 s (by decide), k1 4 3 o (by decide), k2]
  simp
theorem bfs_eer {i s o : List B} (h : Bool) (li : i.length = 32) (ls : s.length = 32) (lo : o.length = 32) : eer (bfs i s o h) = 0 := eer_ok.2 ⟨by show 4 ≤ 64; decide, bfs_ech h, by rw [bfs_len h li ls lo]; decide⟩
theorem bfs_out {i s o : List B} (h : Bool) (li : i.length = 32) (ls : s.length = 32) (lo : o.length = 32) : eout (bfs i s o h) = ebs (bfs i s o h) := by unfold eout; rw [if_pos (bfs_eer h li ls lo)]
theorem bfs_dec {i s o : List B} (h : Bool) (li : i.length = 32) (ls : s.length = 32) (lo : o.length = 32) : dec8 bsl (eout (bfs i s o h)) 0 = none ∧ dfs (dwh (eout (bfs i s o h))) = bfs i s o h := by
  obtain ⟨h1, h2, h3⟩ := enc_dec (bfs_eer h li ls lo) (bfs_ok h li ls lo)
  rw [bfs_out h li ls lo]
  refine ⟨?_, h3⟩
  unfold dec8
  rw [if_neg (by simpa using h1), h3]
  have k1 : ∀ (no at_ : Int) (l : List B), l.length = 32 → dsl (.mk no 5 32 32 []) ⟨no, 2, 0, l⟩ at_ = none := fun no at_ l hl => by
    have e : ftF (.mk no 5 32 32 []) ⟨no, 2, 0, l⟩ = 0 := by show wth (l.length : Int) 32 32 = 0; rw [hl]; decide
    have e2 : dsl (.mk no 5 32 32 []) ⟨no, 2, 0, l⟩ at_ = rdE at_ (ftF (.mk no 5 32 32 []) ⟨no, 2, 0, l⟩) := by
      unfold dsl
      rw [if_neg (by show ¬ no ≠ no; simp), if_neg (by show ¬ (2 : Int) ≠ 2; decide)]
    rw [e2, e]
    rfl
  have k2 : ∀ at_ : Int, dsl (.mk 3 4 0 0 []) ⟨3, 0, if h then 1 else 0, []⟩ at_ = none := fun at_ => by cases h <;> rfl
  simp only [bsl, bfs, dcF, k1 1 _ i li, k1 2 _ s ls, k1 4 _ o lo, k2]
theorem onc_len (h : Bool) {o : List B} (lo : o.length = 32) : (onc h o).length = 32 := by cases h; exact z32_len; exact lo
theorem bfs_par {i s o : List B} (h : Bool) (li : i.length = 32) (ls : s.length = 32) (lo : o.length = 32) : par14 (eout (bfs i s (onc h o) h)) = none ∧ pbn (eout (bfs i s (onc h o) h)) = brow (bl i) (bl s) (bl (onc h o)) h := by
  obtain ⟨h1, h2⟩ := bfs_dec h li ls (onc_len h lo)
  refine ⟨?_, ?_⟩
  · unfold par14
    rw [h1, h2]
    cases h
    · exact if_pos (.inr rfl)
    · exact if_pos (.inl rfl)
  · unfold pbn
    rw [h2]
    cases h <;> rfl
set_option maxRecDepth 100000 in
set_option maxHeartbeats 8000000 in
theorem packed_any (i s o : List B) (h : Bool) (li : i.length = 32) (ls : s.length = 32) (lo : o.length = 32) (w : World) : Calls Tryd.prog 3 #[.agg (brow (bl i) (bl s) (bl o) h)] w fun e w' => e = .returned (.bool true) ∧ Below w.heap.size w w' := by
  have RB := hp1_0 w (.cells (brow (bl i) (bl s) (bl o) h) 25)
  have hw : Below w.heap.size w (w.alloc (.cells (brow (bl i) (bl s) (bl o) h) 25)) := (Below.refl _ _).alloc (Nat.le_refl _) _
  go_enter Tryd.func3, Tryd.ntmps3
  go_upto_region 1 with (first | (refine wpList_box rfl 25 _ rfl _ rfl (box_brow _) ?_) | fail)
  try simp only [size_alloc1, Act.put, List.setIfInBounds_toArray, List.set_cons_succ, List.set_cons_zero]
  generalize w.alloc (.cells (brow (bl i) (bl s) (bl o) h) 25) = w1 at *
  go_wp2_with (first | (refine wpList_load_want rfl 25 _ rfl w.heap.size rfl 25 (brow (bl i) (bl s) (bl o) h) (0, 0) _ RB Tryd.underlying25 rfl (info_brow _ _ _ _ (by rw [bl_len, li]) (by rw [bl_len, ls]) (by rw [bl_len, lo])) ?_) | fail)
  refine (a_Pack i s o h li ls lo w1).mono ?_
  rintro e_ w2 ⟨u, rfl, hU, hb_⟩
  have l1_ := lt_of_row RB
  replace RB := keep hb_ RB
  replace hw := Below.after hw hb_
  clear hb_
  obtain ⟨hp1, hp2⟩ := bfs_par h li ls lo
  have hlen : (eout (bfs i s (onc h o) h)).length = 104 := by rw [bfs_out h li ls (onc_len h lo), bfs_len h li ls (onc_len h lo)]
  generalize eout (bfs i s (onc h o) h) = X at *
  have cP := hide (a_Parse X u w2 (hU.bysB (by omega)) (own_cap hU))
  obtain ⟨ua, uc, rfl⟩ := slen_own hU
  rw [hlen] at cP ⊢
  have lp := onc_len h lo
  go_wp2_with (fail)
  refine cP.out.mono ?_
  rintro e_ w3 ⟨hR, hb_⟩
  unfold PrR at hR
  rw [hp1, hp2] at hR
  subst hR
  replace RB := keep hb_ RB
  replace hw := Below.after hw hb_
  have sz3 := hb_.size
  have l2_ := hw.size
  clear hb_ cP hp1 hp2 hlen hU
  have hpo1 : h = true → onc h o = o := fun e => by rw [e]; rfl
  have hpo2 : h = false → onc h o = z32 := fun e => by rw [e]; rfl
  generalize onc h o = p at *
  have rZ := hp1_0 w3 (.cells (brow (zr 32) (zr 32) (zr 32) false) 25)
  have hb5 : Below w3.heap.size w3 ((w3.alloc (.cells (brow (zr 32) (zr 32) (zr 32) false) 25)).setRow w3.heap.size (brow (bl i) (bl s) (bl p) h)) := below_setRow ((Below.refl _ _).alloc (Nat.le_refl _) _) (Nat.le_refl _) (brow (bl i) (bl s) (bl p) h)
  have RP := setRow_heap _ w3.heap.size _ (brow (bl i) (bl s) (bl p) h) _ _ rZ
  have lB3 := lt_of_row RB
  replace RB := keep hb5 RB
  replace hw := Below.after hw hb5
  have A1 := hide RP
  have A2 := hide RB
  have A3 := hide hw
  clear RP RB hw hb5
  go_upto_region 3 with (first | (refine wpList_alloc rfl 25 rfl (brow (zr 32) (zr 32) (zr 32) false) zBnA ?_) | (refine wpList_store_row rfl 25 _ _ rfl w3.heap.size (brow (bl i) (bl s) (bl p) h) rfl rfl 25 _ rZ (info_brow _ _ _ _ (by rw [bl_len, li]) (by rw [bl_len, ls]) (by rw [bl_len, lp])) (by rw [brow_size _ _ _ _ (zr_len 32) (zr_len 32) (zr_len 32), brow_size _ _ _ _ (by rw [bl_len, li]) (by rw [bl_len, ls]) (by rw [bl_len, lp])]) (brow_one _ _ _ _) ?_) | fail)
  clear rZ
  generalize (w3.alloc (.cells (brow (zr 32) (zr 32) (zr 32) false) 25)).setRow w3.heap.size (brow (bl i) (bl s) (bl p) h) = w6 at *
  have RP := A1.out
  have RB := A2.out
  have hw := A3.out
  clear A1 A2 A3
  generalize w3.heap.size = gP at *
  have c_h : w6.cell? ⟨w.heap.size, 96, none⟩ = some (.bool h) := (cell_of_row _ _ _ _ _ _ RB).trans (bn_h _ _ _ _ (by rw [bl_len, li]) (by rw [bl_len, ls]) (by rw [bl_len, lo]))
  cases h with
  | true =>
    obtain rfl : p = o := hpo1 rfl
    have heq := fun W => eq_bn (bl i) (bl s) (bl p) true (bl i) (bl s) (bl p) true (by rw [bl_len, li]) (by rw [bl_len, ls]) (by rw [bl_len, lo]) (by rw [bl_len, li]) (by rw [bl_len, ls]) (by rw [bl_len, lo]) W
    simp only [and_self, decide_true] at heq
    have hi9 := info_brow (bl i) (bl s) (bl p) true (by rw [bl_len, li]) (by rw [bl_len, ls]) (by rw [bl_len, lo])
    clear hpo1 hpo2
    generalize brow (bl i) (bl s) (bl p) true = BB at *
    go_wp2_with (first | (refine wpList_load_want rfl 25 _ rfl gP rfl 25 BB (0, 0) _ RP Tryd.underlying25 rfl hi9 ?_) | (refine wpList_load_want rfl 25 _ rfl w.heap.size rfl 25 BB (0, 0) _ RB Tryd.underlying25 rfl hi9 ?_) | fail)
    go_ret
    exact ⟨rfl, hw⟩
  | false =>
    obtain rfl : p = z32 := hpo2 rfl
    have ez : bl z32 = zr 32 := zr_bl.2 rfl
    rw [ez] at RP
    have heq := fun W => eq_bn (bl i) (bl s) (zr 32) false (bl i) (bl s) (zr 32) false (by rw [bl_len, li]) (by rw [bl_len, ls]) (zr_len 32) (by rw [bl_len, li]) (by rw [bl_len, ls]) (zr_len 32) W
    simp only [and_self, decide_true] at heq
    have hi9 := info_brow (bl i) (bl s) (zr 32) false (by rw [bl_len, li]) (by rw [bl_len, ls]) (zr_len 32)
    have RB2 := setRow_heap w6 w.heap.size _ (brow (bl i) (bl s) (zr 32) false) _ _ RB
    have RP2 := (setRow_other w6 w.heap.size gP (brow (bl i) (bl s) (zr 32) false) (by omega)).trans RP
    replace hw := below_setRow hw (Nat.le_refl w.heap.size) (brow (bl i) (bl s) (zr 32) false)
    have hput := bn_put (bl i) (bl s) (bl o) (zr 32) false (by rw [bl_len, li]) (by rw [bl_len, ls]) (by rw [bl_len, lo]) (zr_len 32)
    have hsz : 64 + (irow .u8 (zr 32)).size ≤ (brow (bl i) (bl s) (bl o) false).size := by rw [brow_size _ _ _ _ (by rw [bl_len, li]) (by rw [bl_len, ls]) (by rw [bl_len, lo]), irow_size, zr_len]; omega
    clear hpo1 hpo2 RP
    generalize brow (bl i) (bl s) (zr 32) false = BB at *
    generalize brow (bl i) (bl s) (bl o) false = BO at *
    replace hw := hide hw
    go_wp2_with (first | (refine wpList_build_want rfl 23 _ rfl [] rfl (irow .u8 (zr 32)) builtZk ?_) | (refine wpList_store_part rfl 23 _ _ rfl w.heap.size 64 (irow .u8 (zr 32)) rfl rfl 25 BO BB RB hsz hput (infoKy _ (zr_len 32)) (irow_one _ _) ?_; refine wpList_stay ?_) | fail)
    unfold WpStay
    try simp only [Act.put, List.setIfInBounds_toArray, List.set_cons_succ, List.set_cons_zero]
    generalize w6.setRow w.heap.size BB = w7 at *
    clear RB c_h
    go_wp2_with (first | (refine wpList_load_want rfl 25 _ rfl gP rfl 25 BB (0, 0) _ RP2 Tryd.underlying25 rfl hi9 ?_) | (refine wpList_load_want rfl 25 _ rfl w.heap.size rfl 25 BB (0, 0) _ RB2 Tryd.underlying25 rfl hi9 ?_) | fail)
    go_ret
    exact ⟨rfl, hw.out⟩
theorem to_bl : ∀ (l : List Int), (∀ z ∈ l, 0 ≤ z ∧ z < 256) → ∃ bs : List B, l = bl bs ∧ bs.length = l.length
  | [], _ => ⟨[], rfl, rfl⟩
  | z :: r, h => by
    obtain ⟨n, hn⟩ := Int.eq_ofNat_of_zero_le (h z (by simp)).1
    have hz := (h z (by simp)).2
    obtain ⟨bs, e1, e2⟩ := to_bl r (fun y hy => h y (by simp [hy]))
    refine ⟨BitVec.ofNat 8 n :: bs, ?_, by simp [e2]⟩
    have e3 : z = bv (BitVec.ofNat 8 n) := by unfold bv; rw [BitVec.toNat_ofNat, hn]; omega
    rw [e1]
    show z :: bl bs = bv _ :: bl bs
    rw [← e3]
theorem packed_int (i s o : List Int) (h : Bool) (hi : K8 i) (hs : K8 s) (ho : K8 o) (w : World) : Calls Tryd.prog 3 #[.agg (brow i s o h)] w fun e w' => e = .returned (.bool true) ∧ Below w.heap.size w w' := by
  obtain ⟨i', rfl, li⟩ := to_bl i hi.2
  obtain ⟨s', rfl, ls⟩ := to_bl s hs.2
  obtain ⟨o', rfl, lo⟩ := to_bl o ho.2
  exact packed_any i' s' o' h (li.trans hi.1) (ls.trans hs.1) (lo.trans ho.1) w
end Go.Proofs.YtbaefbfejmpliabDoor
