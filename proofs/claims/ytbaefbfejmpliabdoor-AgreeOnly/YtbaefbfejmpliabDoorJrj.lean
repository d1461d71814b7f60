import Derived.Test.YtbaefbfejmpliabDoorJri
import Derived.OwnWalk
import Derived.Deep.Cut
import Derived.Deep.RegionHeld3
namespace Go.Proofs.YtbaefbfejmpliabDoor
set_option maxRecDepth 100000
open Go Go.RowKit Go.Sort
attribute [local go_sem] setCell_drewN alloc_drewN
/-- What was taken is written so. -/
theorem only_eq {d : List B} (h : par14 d = none) : ∃ (i s o : List B) (f : Bool), i.length = 32 ∧ s.length = 32 ∧ o.length = 32 ∧ pbn d = brow (bl i) (bl s) (bl o) f ∧ eout (bfs i s (onc f o) f) = d := by
  unfold par14 at h
  cases hd : dec8 bsl d 0 with
  | some x => rw [hd] at h; cases h
  | none =>
    rw [hd] at h
    obtain ⟨h0, i, s, o, fl, hfs, li, ls, lo, hfl⟩ := dec_bsl hd
    simp only at h
    have hen := (dec_enc h0).2
    rw [hfs] at h hen
    have hpb : pbn d = brow (bl i) (bl s) (bl o) (decide (fl = 1)) := by unfold pbn; rw [hfs]; rfl
    refine ⟨i, s, o, decide (fl = 1), li, ls, lo, hpb, ?_⟩
    rcases (by omega : fl = 1 ∨ fl = 0) with rfl | rfl
    · exact hen
    · have ho : o = z32 := by
        by_cases hz : o = z32
        · exact hz
        · rw [if_neg (fun q => q.elim (fun q => by cases q) hz)] at h
          cases h
      subst ho
      exact hen
def k1B : List B := 1#8 :: List.replicate 31 0#8
theorem k1_len : k1B.length = 32 := rfl
theorem built_k1 : Tryd.prog.built 23 [(0, .int .u8 1)] = some (irow .u8 (bl k1B)) := by kernel_rfl
theorem built_b1 : Tryd.prog.built 25 [(3, .bool true), (2, .agg (irow .u8 (bl k1B)))] = some (brow (bl z32) (bl z32) (bl k1B) true) := by kernel_rfl
theorem conv_bys {W : World} {v : Value} {bs : List Int} (h : Bys W v bs) : (convert 26 9 v).run Tryd.prog W = .ok (.string (strOfNums bs)) W := by
  obtain ⟨ao, cap, rfl, _, hc, _⟩ := h
  cases ao with
  | none =>
    have : bs = [] := by
      cases bs with
      | nil => rfl
      | cons x xs => obtain ⟨b, off, e, _⟩ := hc 0 (by simp); cases e
    subst this
    exact run_convert_bytes_nil W 26 5 Tryd.underlying26 Tryd.underlying5 _ _ 9 Tryd.underlying9
  | some ad =>
    rcases Nat.eq_zero_or_pos bs.length with e0 | e0
    · have : bs = [] := List.eq_nil_of_length_eq_zero e0
      subst this
      obtain ⟨b, off, sp⟩ := ad
      rw [run_convert_bytes_string W 26 9 5 _ _ _ Tryd.underlying26 Tryd.underlying5 Tryd.underlying9]
      have := run_bytesToString (P := Tryd.prog) W ⟨b, off, sp⟩ 0 cap [] (by rfl)
      exact this
    · obtain ⟨b, off, e, _⟩ := hc 0 e0
      cases e
      exact run_convert_bytes_arg W 26 5 Tryd.underlying26 Tryd.underlying5 b off bs.length cap bs rfl (fun i hi => by
        obtain ⟨b', off', e, _, h⟩ := hc i hi
        cases e
        exact h) 9 Tryd.underlying9
theorem str_inj {a b : List Int} (ha : ∀ z ∈ a, 0 ≤ z ∧ z < 256) (hb : ∀ z ∈ b, 0 ≤ z ∧ z < 256) (h : strOfNums a = strOfNums b) : a = b := by
  have h1 := congrArg (fun x => x.data.toList) h
  simp only [strOfNums_data] at h1
  have key : ∀ (a b : List Int), (∀ z ∈ a, 0 ≤ z ∧ z < 256) → (∀ z ∈ b, 0 ≤ z ∧ z < 256) → a.map (fun n => UInt8.ofNat n.toNat) = b.map (fun n => UInt8.ofNat n.toNat) → a = b := by
    intro a
    induction a with
    | nil => intro b _ _ h; cases b with
      | nil => rfl
      | cons y ys => simp at h
    | cons x xs ih => intro b ha hb h; cases b with
      | nil => simp at h
      | cons y ys =>
        simp only [List.map_cons, List.cons.injEq] at h
        have hx := ha x (by simp)
        have hy := hb y (by simp)
        have e := congrArg UInt8.toNat h.1
        simp only [UInt8.toNat_ofNat'] at e
        rw [Nat.mod_eq_of_lt (by omega), Nat.mod_eq_of_lt (by omega)] at e
        have exy : x = y := by omega
        rw [exy, ih ys (fun z h => ha z (by simp [h])) (fun z h => hb z (by simp [h])) h.2]
  exact key a b ha hb h1
theorem str_dec {a b : List Int} (ha : ∀ z ∈ a, 0 ≤ z ∧ z < 256) (hb : ∀ z ∈ b, 0 ≤ z ∧ z < 256) : ((strOfNums a).toList == (strOfNums b).toList) = decide (a = b) := by
  by_cases h : a = b
  · subst h; simp
  · rw [decide_eq_false h, beq_eq_false_iff_ne]
    intro e
    rw [ByteArray.toList_eq, ByteArray.toList_eq] at e
    exact h (str_inj ha hb (Go.WideShapes.bytes_inj e))
set_option maxRecDepth 100000 in
set_option maxHeartbeats 4000000 in
theorem l_same (a b : List Int) (w : World) (u v : Value) (hu : Bys w u a) (hv : Bys w v b) : Calls Tryd.prog 7 #[u, v] w fun e w' => e = .returned (.bool (decide (a = b))) ∧ Below w.heap.size w w' := by
  have c1 := conv_bys hu
  have c2 := conv_bys hv
  obtain ⟨ao, cap, rfl, _, _, hza⟩ := hu
  obtain ⟨bo, bcap, rfl, _, _, hzb⟩ := hv
  go_enter Tryd.func7, Tryd.ntmps7
  have hd := str_dec hza hzb
  go_wp2
  go_ret
  exact ⟨rfl, Below.refl _ _⟩
set_option maxRecDepth 100000 in
set_option maxHeartbeats 8000000 in
theorem only_any (d : List B) (b : Value) (w : World) (hB : BysB w b d) (hcap : ∀ a l c, b = .slice a l c → l ≤ c) : Calls Tryd.prog 4 #[b] w fun e w' => e = .returned (.bool true) ∧ Below w.heap.size w w' := by
  go_enter Tryd.func4, Tryd.ntmps4
  go_wp2_with (first | (refine wpList_build_want rfl 23 _ rfl [(0, .int .u8 1)] rfl (irow .u8 (bl k1B)) built_k1 ?_) | (refine wpList_build_want rfl 25 _ rfl [(3, .bool true), (2, .agg (irow .u8 (bl k1B)))] rfl (brow (bl z32) (bl z32) (bl k1B) true) built_b1 ?_) | fail)
  refine (packed_any z32 z32 k1B true z32_len z32_len k1_len w).mono ?_
  rintro e_ w1 ⟨rfl, hw⟩
  replace hB := hB.keep hw
  obtain ⟨ba, bc, rfl⟩ := hB.form
  have cP := hide (a_Parse d _ w1 hB hcap)
  generalize hdl : d.length = dl at *
  replace hdl := hide hdl
  go_wp2_with (fail)
  refine cP.out.mono ?_
  rintro e_ w2 ⟨hR, hb_⟩
  replace hB := hB.keep hb_
  replace hw := Below.after hw hb_
  clear hb_ cP
  unfold PrR at hR
  cases hp : par14 d with
  | some x =>
    rw [hp] at hR
    obtain ⟨g, rfl, hg1, hg2⟩ := hR
    have rZ := hp1_0 w2 (.cells (brow (zr 32) (zr 32) (zr 32) false) 25)
    have hne := neq_fault (.pointer (some ⟨g, 0, none⟩))
    have hi9 := info_brow (zr 32) (zr 32) (zr 32) false (zr_len 32) (zr_len 32) (zr_len 32)
    have heq := fun W => eq_bn (zr 32) (zr 32) (zr 32) false (zr 32) (zr 32) (zr 32) false (zr_len 32) (zr_len 32) (zr_len 32) (zr_len 32) (zr_len 32) (zr_len 32) W
    simp only [and_self, decide_true] at heq
    have hz := zBnA
    have hbz := builtB0
    have hon := brow_one (zr 32) (zr 32) (zr 32) false
    clear hg2 hp hB
    generalize (brow (zr 32) (zr 32) (zr 32) false) = BB at *
    have R3 := setRow_heap (w2.alloc (.cells BB 25)) w2.heap.size _ BB _ _ rZ
    have hw3 := hide (Below.after hw (below_setRow ((Below.refl w2.heap.size w2).alloc (Nat.le_refl _) (.cells BB 25)) (Nat.le_refl w2.heap.size) BB))
    go_wp2_with (first | (refine wpList_alloc rfl 25 rfl BB hz ?_) | (refine wpList_store_row rfl 25 _ _ rfl w2.heap.size BB rfl rfl 25 _ rZ hi9 rfl hon ?_) | (refine wpList_load_want rfl 25 _ rfl w2.heap.size rfl 25 BB (0, 0) _ R3 Tryd.underlying25 rfl hi9 ?_) | (refine wpList_build_want rfl 25 _ rfl [] rfl BB hbz ?_) | fail)
    go_ret
    exact ⟨rfl, hw3.out⟩
  | none =>
    rw [hp] at hR
    obtain ⟨i, s, o, f, li, ls, lo, hpb, hen⟩ := only_eq hp
    rw [hpb] at hR
    subst hR
    have rZ := hp1_0 w2 (.cells (brow (zr 32) (zr 32) (zr 32) false) 25)
    have hnn := neq_nils
    have hz := zBnA
    have hi9 := info_brow (bl i) (bl s) (bl o) f (by rw [bl_len, li]) (by rw [bl_len, ls]) (by rw [bl_len, lo])
    have hon := brow_one (bl i) (bl s) (bl o) f
    have hsz : (brow (bl i) (bl s) (bl o) f).size = (brow (zr 32) (zr 32) (zr 32) false).size := by rw [brow_size _ _ _ _ (zr_len 32) (zr_len 32) (zr_len 32), brow_size _ _ _ _ (by rw [bl_len, li]) (by rw [bl_len, ls]) (by rw [bl_len, lo])]
    have cK := hide (fun W => a_Pack i s o f li ls lo W)
    rw [hen] at cK
    clear hp hpb hen
    generalize (brow (zr 32) (zr 32) (zr 32) false) = BZ at *
    generalize brow (bl i) (bl s) (bl o) f = BB at *
    have R3 := setRow_heap (w2.alloc (.cells BZ 25)) w2.heap.size _ BB _ _ rZ
    have hb3 := below_setRow ((Below.refl w2.heap.size w2).alloc (Nat.le_refl _) (.cells BZ 25)) (Nat.le_refl w2.heap.size) BB
    have hB3 := hide (hB.keep hb3)
    have hw3 := hide (Below.after hw hb3)
    clear hB hw hb3
    go_wp2_with (first | (refine wpList_alloc rfl 25 rfl BZ hz ?_) | (refine wpList_store_row rfl 25 _ _ rfl w2.heap.size BB rfl rfl 25 _ rZ hi9 hsz.symm hon ?_) | (refine wpList_load_want rfl 25 _ rfl w2.heap.size rfl 25 BB (0, 0) _ R3 Tryd.underlying25 rfl hi9 ?_) | fail)
    generalize (w2.alloc (.cells BZ 25)).setRow w2.heap.size BB = w4 at *
    refine (cK.out w4).mono ?_
    rintro e_ w5 ⟨u, rfl, hU, hb_⟩
    have hB5 := hide (hB3.out.keep hb_)
    have hw5 := hide (Below.after hw3.out hb_)
    clear hB3 hw3 hb_ cK
    obtain ⟨ua, uc, rfl⟩ := slen_own hU
    rw [hdl.out] at hU ⊢
    have cX := hide (l_same (bl d) (bl d) w5 _ _ hU.bys hB5.out.1)
    go_wp2_with (fail)
    refine cX.out.mono ?_
    rintro e_ w6 ⟨rfl, hb_⟩
    replace hw5 := hide (Below.after hw5.out hb_)
    clear hb_ cX hB5 hU
    go_wp2_with (fail)
    go_ret
    exact ⟨by simp, hw5.out⟩
end Go.Proofs.YtbaefbfejmpliabDoor
