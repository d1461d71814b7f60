import Derived.Test.YtmflfdedhbnfnaaDoorProg
import Derived.WalkKit
import Derived.WalkSpells
import Derived.WalkLawsBesides
import Derived.Lib.QuietBelow
import Derived.BigQuiet
import Derived.Test.YtmflfdedhbnfnaaDoorS0
import Derived.Test.YtmflfdedhbnfnaaDoorS3
import Derived.Deep.RegionLaw
import Derived.Deep.RegionHeld3
import Derived.OrdersHeld
import Derived.Lib.SlBytesConst
namespace Go.Proofs.YtmflfdedhbnfnaaDoor
set_option maxRecDepth 100000
open Go Go.RowKit Go.Sort
attribute [local go_sem] setCell_drewN alloc_drewN

set_option maxRecDepth 100000 in
set_option maxHeartbeats 4000000 in
theorem r_extract4 (key bs : List Int) (w : World) (v vb : Value) (hK : BysM w v key) (hB : BysM w vb bs) (hbl : bs.length ≤ 140737488355264) : Calls Tryd.prog 47 #[v, vb] w fun e w' => e = .returned (.agg (irow .u8 (hm key bs))) ∧ Below w.heap.size w w' := by
  have r0 := hp1_0 w (.cells (irow .u8 (zr 32)) 23)
  have hw : Below w.heap.size w (w.alloc (.cells (irow .u8 (zr 32)) 23)) := (Below.refl _ _).alloc (Nat.le_refl _) _
  have cS := r_sum4 key bs _ v vb (hK.keep hw) (hB.keep hw) hbl
  have hHl := hm_len key bs
  generalize hm key bs = H at *
  go_enter Tryd.func47, Tryd.ntmps47
  go_wp2_with (first | (refine wpList_alloc rfl 23 rfl (irow .u8 (zr 32)) zkey ?_) | fail)
  refine cS.mono ?_
  rintro e_ w3 ⟨rfl, hb⟩
  replace r0 := keep hb r0
  replace hw := Below.after hw hb
  clear hb cS
  go_wp2_with (first | (refine wpList_store_row rfl 23 _ _ rfl (w.heap.size) (irow .u8 H) rfl rfl 23 _ r0 (infok8 _ hHl) (fit32 _ _ (zr_len 32) hHl) (irow_one _ _) ?_) | fail)
  replace r0 := setRow_heap w3 (w.heap.size) _ (irow .u8 H) _ _ r0
  replace hw := below_setRow hw (Nat.le_refl _) (irow .u8 H)
  generalize w3.setRow (w.heap.size) (irow .u8 H) = w9 at *
  exact bodyPost_ret (v := .agg (irow .u8 H)) (results_cell_row Tryd.results47 _ _ (w.heap.size) _ _ _ _ rfl r0 Tryd.underlying23 rfl (infok8 _ hHl)) rfl ⟨rfl, hw⟩
theorem NB.grown {W W' : World} {v : Value} {bs : List Int} {row : Option Nat} (h : NB W v bs) (hb : W.grownBy W' row) (hne : ∀ a l c, v = .slice (some a) l c → 0 < l → row ≠ some a.block) : NB W' v bs := by
  obtain ⟨⟨ao, cap, rfl, hl, hc, hz⟩, hn⟩ := h
  refine ⟨⟨ao, cap, rfl, hl, fun j hj => ?_, hz⟩, hn⟩
  obtain ⟨b, off, rfl, h1, h2⟩ := hc j hj
  have hn' := hne ⟨b, off, none⟩ _ _ rfl (by omega)
  exact ⟨b, off, rfl, Nat.lt_of_lt_of_le h1 hb.size, hb.cell h2 (by intro e; exact hn' e.symm)⟩
theorem ex1 {f : FuncId} {args : Array Value} {w : World} {v : Value} {B : World → Prop} (h : Calls Tryd.prog f args w fun e w' => e = .returned v ∧ B w') : Calls Tryd.prog f args w fun e w' => ∃ u, e = .returned u ∧ (u = v ∧ B w') := h.mono fun _ _ ⟨h1, h2⟩ => ⟨v, h1, rfl, h2⟩
theorem wrap8 (x : Int) (h0 : 0 ≤ x) (h1 : x < 256) : IntKind.u8.wrap x = x := by
  simp [IntKind.wrap, IntKind.bits, IntKind.signed]
  exact Int.emod_eq_of_lt h0 h1
theorem fin_row {wr W : World} {g : Nat} {old P : Array Value} {t : TypeId} (hb : Below wr.heap.size wr W) (hg : wr.heap.size ≤ g) (r : W.heap[g]? = some (.cells old t (0, 0))) : ∃ Wf, Wf = W.setRow g P ∧ Wf.heap[g]? = some (.cells P t (0, 0)) ∧ Below wr.heap.size wr Wf ∧ wr.heap.size ≤ g := ⟨_, rfl, setRow_heap W g _ P _ _ r, below_setRow hb hg P, hg⟩
theorem own_cap {W : World} {b n : Nat} {T : TypeId} {v : Value} {xs : List Value} (h : W.ownsRow b T 1 v n xs) : ∀ a l c, v = .slice a l c → l ≤ c := by
  intro a l c e
  obtain ⟨_, ⟨rfl, _⟩ | ⟨g, cap, cur, rfl, _, _, h3, _⟩⟩ := h
  · cases e; exact Nat.le_refl _
  · cases e; exact h3
theorem slice_to (ao : Option Addr) (len cap n : Nat) (h : n ≤ cap) (W : World) : (Instr.sliceAt 66 (.slice ao len cap) none (some (.int .i64 (n : Int))) none).run Tryd.prog W = .ok (.slice ao n cap) W := by
  rw [run_sliceAt_slice _ _ _ _ _ _ elem8, run_slice_h W 66 ao len cap elem8 .i64 _ (by omega) (by omega), size8]
  show Result.ok (sliced _ _ _ _ 1) W = _
  rw [Int.toNat_natCast, sliced, Nat.zero_mul]
  by_cases e : cap = 0
  · rw [if_pos e]; rfl
  · rw [if_neg e]
    cases ao <;> rfl
theorem Bys.take {W : World} {ao : Option Addr} {cap n : Nat} {bs : List Int} (h : Bys W (.slice ao bs.length cap) bs) (hn : n ≤ bs.length) : Bys W (.slice ao n cap) (bs.take n) := by
  obtain ⟨ao', cap', e, hl, hc, hz⟩ := h
  cases e
  have hln : (bs.take n).length = n := by rw [List.length_take]; omega
  refine ⟨ao, cap, by rw [hln], by omega, fun j hj => ?_, fun z h => hz z (List.mem_of_mem_take h)⟩
  obtain ⟨b, off, e, h1, h2⟩ := hc j (by omega)
  refine ⟨b, off, e, h1, ?_⟩
  rw [h2, List.getD_eq_getElem?_getD, List.getD_eq_getElem?_getD, List.getElem?_take_of_lt (by omega)]
/-- What the two roads come to. -/
theorem bel2 (w : World) (a b : Obj) : Below w.heap.size w ((w.alloc a).alloc b) := ((Below.refl _ _).alloc (Nat.le_refl _) _).alloc (by simp) _
theorem bel3 (w : World) (a b c : Obj) : Below w.heap.size w (((w.alloc a).alloc b).alloc c) := (((Below.refl _ _).alloc (Nat.le_refl _) _).alloc (by simp) _).alloc (by simp; omega) _
theorem pieces3 {W V : World} {g1 g3 : Nat} {t t3 : TypeId} {v0 v1 : Value} {a b : List Int} {x : Int} (hb : Below W.heap.size W V) (h0 : NB W v0 a) (h1 : NB W v1 b) (r1 : V.heap[g1]? = some (.cells #[.int .u8 x] t (0, 0))) (hx : ∀ z ∈ [x], 0 ≤ z ∧ z < 256) (r3 : V.heap[g3]? = some (.cells #[v0, v1, .slice (some ⟨g1, 0, none⟩) 1 1] t3 (0, 0))) : Pcs V (.slice (some ⟨g3, 0, none⟩) 3 3) [a, b, [x]] :=
  Pcs.three r3 (h0.keep hb) (h1.keep hb) (NB.of_row (l := [x]) r1 (by simp) hx 1 1 rfl)
set_option maxRecDepth 100000 in
set_option maxHeartbeats 4000000 in
theorem r_expand4 (key info : List Int) (n : Nat) (w : World) (vi : Value) (hkl : key.length = 32) (hkz : ∀ z ∈ key, 0 ≤ z ∧ z < 256) (hI : BysM w vi info) (hil : info.length ≤ 140737488355200) (hn : n ≤ 8160) :
    Calls Tryd.prog 33 #[.agg (irow .u8 key), vi, .int .i64 (n : Int)] w fun e w' => ∃ v, e = .returned (.tuple #[v, .int .i64 0]) ∧ NB w' v (xpd key info n) ∧ Below w.heap.size w w' := by
  have r0 := hp1_0 w (.cells (irow .u8 key) 23)
  have hw : Below w.heap.size w (w.alloc (.cells (irow .u8 key) 23)) := (Below.refl _ _).alloc (Nat.le_refl _) _
  have hd1 : decide ((n : Int) < 0) = false := by simp
  have hd2 : decide ((8160 : Int) < (n : Int)) = false := by simp; omega
  obtain ⟨aoi, capi, rfl, _⟩ := id hI.1
  go_enter Tryd.func33, Tryd.ntmps33
  go_wp2_with (first | (refine wpList_box rfl 23 _ rfl _ rfl (bK _) ?_) | fail)
  generalize w.alloc (.cells (irow .u8 key) 23) = w0 at *
  clear hd1 hd2
  have hs0 := hw.size
  have hown0 : w0.ownsRow (w.heap.size + 1) 5 1 (.slice none 0 0) (32 * 0) ((tall key info 0).map (Value.int .u8)) := ⟨rfl, .inl ⟨rfl, rfl⟩⟩
  go_loopw [8, 9, 10] (fun va vl i wr => ∃ k : Nat, k ≤ (n + 31) / 32 ∧ i = .int .i64 ((k : Int) + 1) ∧ wr.ownsRow (w.heap.size + 1) 5 1 va (32 * k) ((tall key info k).map (Value.int .u8)) ∧ NB wr vl (tp key info k) ∧ wr.heap[w.heap.size]? = some (.cells (irow .u8 key) 23 (0, 0)) ∧ Below w.heap.size w wr) (fun _ _ i _ => (n + 31) / 32 + 1 - (intOf i).toNat)
  case atStart => exact ⟨0, by omega, rfl, hown0, nb_nil _, r0, hw⟩
  case round =>
    clear r0 hw hown0 hs0
    obtain ⟨k, hk, rfl, hown, hL, r0, hw⟩ := hrel
    obtain ⟨aoa, capa, rfl⟩ := slen_own hown
    obtain ⟨aol, capl, rfl, hnl⟩ := hL.form
    by_cases hlt : 32 * k < n
    · have hd : decide (((32 * k : Nat) : Int) < (n : Int)) = true := by simp; omega
      have hmod : IntKind.u8.wrap ((k : Int) + 1) = (k : Int) + 1 := wrap8 _ (by omega) (by omega)
      have sk := slice_k w.heap.size
      have hbd : Below wr.heap.size wr wr.drew := below_drN (Below.refl _ _) 1
      go_wp2
      have hzk := zkey
      have hI2 := hI.nb.keep hw
      have hpz := hm_bd key (tp key info k ++ (info ++ [(k : Int) + 1]))
      have hpl := hm_len key (tp key info k ++ (info ++ [(k : Int) + 1]))
      have hinz := bys_bd hI.1
      have htl := tp_le key info k
      have htz := tp_bd key info k
      have ef : [tp key info k, info, [(k : Int) + 1]].flatten = tp key info k ++ (info ++ [(k : Int) + 1]) := by simp
      have efl : (tp key info k ++ (info ++ [(k : Int) + 1])).length ≤ 140737488355264 := by simp; omega
      have efz : ∀ z ∈ tp key info k ++ (info ++ [(k : Int) + 1]), 0 ≤ z ∧ z < 256 := both_bd htz (both_bd hinz (fun z h => by simp at h; omega))
      have h1z : ∀ z ∈ [(k : Int) + 1], 0 ≤ z ∧ z < 256 := fun z h => by simp at h; omega
      have hK8 : ∀ W, Below wr.heap.size wr W → BysM W (.slice (some ⟨w.heap.size, 0, none⟩) 32 32) key := fun W hW => (NB.of_row (keep hW r0) (by omega) hkz 32 32 hkl).m (by omega)
      replace hK8 := hide hK8
      replace h1z := hide h1z
      replace efz := hide efz
      refine wp_region_noPanic ?_
      go_region_law
        ((first
          | (refine step_call 45 _ (by rfl) (by kernel_rfl) (r_joined [tp key info k, info, [(k : Int) + 1]] _ _ (pieces3 (W := wr) (below_drN (bel2 wr _ _) 1) hL hI2 (hp2_0 wr _ _) h1z.out (hp2_1 wr _ _)) (by rw [ef]; omega)) ?_
             rintro v8 w8 ⟨hown8, hb8⟩
             rw [ef] at hown8
             have hM := (NB.of_own hown8 (by omega) efz.out).m (by omega)
             have hb8' : Below wr.heap.size wr w8 := Below.after (below_drN (bel2 wr _ _) 1) hb8
             skip
             clear hb8 hown8)
          | (refine step_call 45 _ (by rfl) (by kernel_rfl) (r_joined [tp key info k, info, [(k : Int) + 1]] _ _ (pieces3 (W := wr) (below_drN (bel3 wr _ _ _) 1) hL hI2 (hp3_1 wr _ _ _) h1z.out (hp3_2 wr _ _ _)) (by rw [ef]; omega)) ?_
             rintro v8 w8 ⟨hown8, hb8⟩
             rw [ef] at hown8
             have hM := (NB.of_own hown8 (by omega) efz.out).m (by omega)
             have hb8' : Below wr.heap.size wr w8 := Below.after (below_drN (bel3 wr _ _ _) 1) hb8
             have rZ : w8.heap[wr.heap.size]? = some (.cells (irow .u8 (zr 32)) 23 (0, 0)) := keep hb8 (hp3_0 wr _ _ _)
             clear hb8 hown8)
          | (refine step_call 45 _ (by rfl) (by kernel_rfl) (r_joined [tp key info k, info, [(k : Int) + 1]] _ _ (pieces3 (W := wr) (below_drN (bel3 wr _ _ _) 1) hL hI2 (hp3_0 wr _ _ _) h1z.out (hp3_2 wr _ _ _)) (by rw [ef]; omega)) ?_
             rintro v8 w8 ⟨hown8, hb8⟩
             rw [ef] at hown8
             have hM := (NB.of_own hown8 (by omega) efz.out).m (by omega)
             have hb8' : Below wr.heap.size wr w8 := Below.after (below_drN (bel3 wr _ _ _) 1) hb8
             have rZ : w8.heap[wr.heap.size + 1]? = some (.cells (irow .u8 (zr 32)) 23 (0, 0)) := keep hb8 (hp3_1 wr _ _ _)
             clear hb8 hown8)
          | (refine step_call 45 _ (by rfl) (by kernel_rfl) (r_joined [tp key info k, info, [(k : Int) + 1]] _ _ (pieces3 (W := wr) (below_drN (bel3 wr _ _ _) 1) hL hI2 (hp3_0 wr _ _ _) h1z.out (hp3_1 wr _ _ _)) (by rw [ef]; omega)) ?_
             rintro v8 w8 ⟨hown8, hb8⟩
             rw [ef] at hown8
             have hM := (NB.of_own hown8 (by omega) efz.out).m (by omega)
             have hb8' : Below wr.heap.size wr w8 := Below.after (below_drN (bel3 wr _ _ _) 1) hb8
             have rZ : w8.heap[wr.heap.size + 1 + 1]? = some (.cells (irow .u8 (zr 32)) 23 (0, 0)) := keep hb8 (hp3_2 wr _ _ _)
             clear hb8 hown8)
          | (refine step_call 30 _ (by rfl) (by kernel_rfl) (ex1 (r_sum4 key (tp key info k ++ (info ++ [(k : Int) + 1])) _ _ _ (hK8.out _ (by first | exact hb8' | exact hb8'.alloc hb8'.size _)) (by first | exact hM | exact hM.keep ((Below.refl _ _).alloc (Nat.le_refl _) _)) efl)) ?_
             rintro v9 w9 ⟨rfl, hb9⟩
             have h89 : Below w8.heap.size w8 w9 := by first | exact hb9 | exact Below.after ((Below.refl _ _).alloc (Nat.le_refl _) _) hb9
             have hsz := (irow_size .u8 (hm key (tp key info k ++ (info ++ [(k : Int) + 1])))).trans hpl
             try (replace rZ := keep h89 rZ)
             try (have rZ : w9.heap[w8.heap.size]? = some (.cells (irow .u8 (zr 32)) 23 (0, 0)) := keep hb9 (hp1_0 w8 _))
             try (have hs0 := storeK rZ (zr_len 32) hpl)
             have hs4 : (storeCells ⟨w9.heap.size, 0, none⟩ (irow .u8 (hm key (tp key info k ++ (info ++ [(k : Int) + 1])))).toList).run Tryd.prog (w9.alloc (.cells #[.int .u8 0, .int .u8 0, .int .u8 0, .int .u8 0, .int .u8 0, .int .u8 0, .int .u8 0, .int .u8 0, .int .u8 0, .int .u8 0, .int .u8 0, .int .u8 0, .int .u8 0, .int .u8 0, .int .u8 0, .int .u8 0, .int .u8 0, .int .u8 0, .int .u8 0, .int .u8 0, .int .u8 0, .int .u8 0, .int .u8 0, .int .u8 0, .int .u8 0, .int .u8 0, .int .u8 0, .int .u8 0, .int .u8 0, .int .u8 0, .int .u8 0, .int .u8 0] 23)) = .ok () ((w9.alloc (.cells #[.int .u8 0, .int .u8 0, .int .u8 0, .int .u8 0, .int .u8 0, .int .u8 0, .int .u8 0, .int .u8 0, .int .u8 0, .int .u8 0, .int .u8 0, .int .u8 0, .int .u8 0, .int .u8 0, .int .u8 0, .int .u8 0, .int .u8 0, .int .u8 0, .int .u8 0, .int .u8 0, .int .u8 0, .int .u8 0, .int .u8 0, .int .u8 0, .int .u8 0, .int .u8 0, .int .u8 0, .int .u8 0, .int .u8 0, .int .u8 0, .int .u8 0, .int .u8 0] 23)).setRow w9.heap.size (irow .u8 (hm key (tp key info k ++ (info ++ [(k : Int) + 1]))))) := storeK (hp1_0 w9 (.cells (irow .u8 (zr 32)) 23)) (zr_len 32) hpl
             have hb9' := Below.after hb8' h89
             have hs8 := hb8'.size
             have hs9 := hb9'.size
             clear hb9 h89 hM)))
      all_goals (refine NoPanic.normal ?_)
      all_goals (first
        | (obtain ⟨wf, ewf, r11, hbf, lw⟩ := fin_row (P := irow .u8 (hm key (tp key info k ++ (info ++ [(k : Int) + 1])))) hb9' (by omega) rZ; rw [← ewf])
        | (obtain ⟨wf, ewf, r11, hbf, lw⟩ := fin_row (P := irow .u8 (hm key (tp key info k ++ (info ++ [(k : Int) + 1])))) (hb9'.alloc hb9'.size _) (by omega) (hp1_0 w9 (.cells #[.int .u8 0, .int .u8 0, .int .u8 0, .int .u8 0, .int .u8 0, .int .u8 0, .int .u8 0, .int .u8 0, .int .u8 0, .int .u8 0, .int .u8 0, .int .u8 0, .int .u8 0, .int .u8 0, .int .u8 0, .int .u8 0, .int .u8 0, .int .u8 0, .int .u8 0, .int .u8 0, .int .u8 0, .int .u8 0, .int .u8 0, .int .u8 0, .int .u8 0, .int .u8 0, .int .u8 0, .int .u8 0, .int .u8 0, .int .u8 0, .int .u8 0, .int .u8 0] 23)); rw [← ewf]))
      all_goals
        replace hown := own_keep hown hbf
        replace r0 := keep hbf r0
        replace hw := Below.after hw hbf
        have sk11 := slice_k
        have up12 : ∀ g, (Value.slice aoa (32 * k) capa).ownBlock = some g → g < wf.heap.size := fun g h => (hown.lt g h).2
        replace up12 := hide up12
        clear hs4 hbf ewf hb9' hs8 hs9 hb8' hsz hK8 h1z hI2 hzk sk
        try clear rZ
        try clear hs0
        go_wp2_with (fail)
        refine (r_joined [hm key (tp key info k ++ (info ++ [(k : Int) + 1]))] _ _ (Pcs.one (hp1_0 wf _) (NB.of_row (keep ((Below.refl _ _).alloc (Nat.le_refl _) _) r11) (by omega) hpz 32 32 hpl)) (by simp; omega)).mono ?_
        rintro e_ w12 ⟨v12, rfl, own12, hb12⟩
        have e12 : [hm key (tp key info k ++ (info ++ [(k : Int) + 1]))].flatten = tp key info (k + 1) := by rw [tp]; simp
        rw [e12] at own12
        have htn := tp_len key info k
        rw [htn] at own12
        replace hb12 := Below.after ((Below.refl _ _).alloc (Nat.le_refl _) _) hb12
        have lo12 : ∀ g, v12.ownBlock = some g → wf.heap.size < g := fun g h => by have := (own12.lt g h).1; rw [size_alloc1] at this; omega
        replace lo12 := hide lo12
        replace hown := own_keep hown hb12
        replace r0 := keep hb12 r0
        replace hw := Below.after hw hb12
        clear hb12 e12 r11 sk11
        have hM12 := NB.of_own own12 (by omega) (tp_bd key info (k + 1))
        obtain ⟨ao12, cap12, rfl⟩ := slen_own own12
        have hB12 := hM12.1
        rw [← htn] at hB12
        have hnone := bys_none3 hB12 (own_nil own12 _ _ _ rfl)
        have hnews := bys_cells hB12
        rw [htn] at hnone
        have l0 := lt_of_row r0
        obtain ⟨i0, hi, hz0, hz1, hz2⟩ := info8
        go_wp2_with (at_builtin; refine wpList_append_own_any _ rfl (.tmp 34) (.tmp 35) 66 rfl (w.heap.size + 1) 5 i0 (.int .u8 0) Tryd.underlying66 hi hz0 hz1 hz2 rfl _ (32 * k) ((tall key info k).map (Value.int .u8)) rfl hown ao12 32 cap12 ((tp key info (k + 1)).map (Value.int .u8)) rfl (by rw [List.length_map, htn]) hnone hnews (ints_one .u8 _) (by unfold maxLen; omega) (by omega) (by omega) ?_)
        intro va' w13 own13 hgr
        have hM13 := hM12.grown hgr (fun a l c e _ h => by
          have h1 := up12.out _ h
          have h2 := lo12.out a.block (by rw [e]; rfl)
          omega)
        have r13 : w13.heap[w.heap.size]? = some (.cells (irow .u8 key) 23 (0, 0)) := (hgr.block _ l0 (by intro e; have := (hown.lt _ e.symm).1; omega)).trans r0
        replace hw := hw.grown hgr hw.size (fun k h => by have := (hown.lt k h).1; omega)
        rw [← List.map_append, show 32 * k + 32 = 32 * (k + 1) by omega, ← tall] at own13
        clear hgr hown r0 hM12 hB12 hnews hnone own12 lo12 up12
        obtain ⟨ao13, cap13, rfl⟩ := slen_own own13
        go_wp2
        refine ⟨⟨k + 1, by omega, by go_num, own13, hM13, r13, hw⟩, ?_⟩
        simp [intOf]; omega
    · have hd : decide (((32 * k : Nat) : Int) < (n : Int)) = false := by simp; omega
      have hcp := own_cap hown _ _ _ rfl
      have sl := slice_to aoa (32 * k) capa n (by omega)
      have hAll := NB.of_own hown (by rw [tall_len]; omega) (tall_bd key info k)
      have hx : xpd key info n = (tall key info k).take n := by rw [xpd, show (n + 31) / 32 = k by omega]
      have hB1 := hAll.1
      rw [← tall_len key info k] at hB1
      have hT := Bys.take (n := n) hB1 (by rw [tall_len]; omega)
      have hnn := own_nil hown _ _ _ rfl
      clear hown hAll hB1
      go_wp2
      go_ret2
      exact ⟨_, rfl, ⟨by rw [hx]; exact hT, fun a l c e ha => by cases e; exact hnn ha⟩, hw⟩

end Go.Proofs.YtmflfdedhbnfnaaDoor

namespace Go.Proofs.YtmflfdedhbnfnaaDoor
set_option maxRecDepth 100000
open Go Go.RowKit Go.Sort
attribute [local go_sem] setCell_drewN alloc_drewN

set_option maxRecDepth 100000 in
set_option maxHeartbeats 4000000 in
theorem r_expand_no (key : List Int) (n : Int) (w : World) (vi : Value) (hn : n < 0 ∨ 8160 < n) :
    Calls Tryd.prog 33 #[.agg (irow .u8 key), vi, .int .i64 n] w fun e w' => ∃ v, e = .returned v ∧ v = .tuple #[.slice none 0 0, .int .i64 (if n < 0 then 1 else 2)] ∧ Below w.heap.size w w' := by
  have hw : Below w.heap.size w (w.alloc (.cells (irow .u8 key) 23)) := (Below.refl _ _).alloc (Nat.le_refl _) _
  rcases hn with hn | hn
  · have hd1 : decide (n < 0) = true := decide_eq_true hn
    rw [if_pos hn]
    go_enter Tryd.func33, Tryd.ntmps33
    go_wp2_with (first | (refine wpList_box rfl 23 _ rfl _ rfl (bK _) ?_) | fail)
    go_ret2
    exact ⟨_, rfl, rfl, hw⟩
  · have hd1 : decide (n < 0) = false := decide_eq_false (by omega)
    have hd2 : decide ((8160 : Int) < n) = true := decide_eq_true hn
    rw [if_neg (show ¬ n < 0 by omega)]
    go_enter Tryd.func33, Tryd.ntmps33
    go_wp2_with (first | (refine wpList_box rfl 23 _ rfl _ rfl (bK _) ?_) | fail)
    go_ret2
    exact ⟨_, rfl, rfl, hw⟩
/-- What an answer of the reference's Expand or Derive is. -/
def RAns (W : World) (v : Value) (key info : List Int) (n : Int) : Prop := (∃ (m : Nat) (u : Value), n = (m : Int) ∧ m ≤ 8160 ∧ v = .tuple #[u, .int .i64 0] ∧ NB W u (xpd key info m)) ∨ ((n < 0 ∨ 8160 < n) ∧ v = .tuple #[.slice none 0 0, .int .i64 (if n < 0 then 1 else 2)])
theorem r_expand_any (key info : List Int) (n : Int) (w : World) (vi : Value) (hkl : key.length = 32) (hkz : ∀ z ∈ key, 0 ≤ z ∧ z < 256) (hI : BysM w vi info) (hil : info.length ≤ 140737488355200) :
    Calls Tryd.prog 33 #[.agg (irow .u8 key), vi, .int .i64 n] w fun e w' => ∃ v, e = .returned v ∧ RAns w' v key info n ∧ Below w.heap.size w w' := by
  by_cases hn : n < 0 ∨ 8160 < n
  · refine (r_expand_no key n w vi hn).mono ?_
    rintro e_ w' ⟨v, rfl, rfl, hb⟩
    exact ⟨_, rfl, .inr ⟨hn, rfl⟩, hb⟩
  · obtain ⟨m, rfl⟩ := Int.eq_ofNat_of_zero_le (show 0 ≤ n by omega)
    refine (r_expand4 key info m w vi hkl hkz hI hil (by omega)).mono ?_
    rintro e_ w' ⟨v, rfl, r, hb⟩
    exact ⟨_, rfl, .inl ⟨m, v, rfl, by omega, rfl, r⟩, hb⟩
set_option maxRecDepth 100000 in
set_option maxHeartbeats 4000000 in
theorem r_derive4 (salt sec info : List Int) (n : Int) (w : World) (vs vc vi : Value) (hA : BysM w vs salt) (hC : BysM w vc sec) (hcl : sec.length ≤ 140737488355200) (hI : BysM w vi info) (hil : info.length ≤ 140737488355200) :
    Calls Tryd.prog 31 #[vs, vc, vi, .int .i64 n] w fun e w' => ∃ v, e = .returned v ∧ RAns w' v (hm salt sec) info n ∧ Below w.heap.size w w' := by
  have cE := r_extract4 salt sec w vs vc hA hC (by omega)
  have cX := fun (W : World) a => r_expand_any (hm salt sec) info n W vi (hm_len _ _) (hm_bd _ _) a hil
  generalize hm salt sec = K at *
  go_enter Tryd.func31, Tryd.ntmps31
  go_wp2_with (fail)
  refine cE.mono ?_
  rintro e_ w1 ⟨rfl, hw⟩
  clear cE
  go_wp2_with (fail)
  refine (cX w1 (hI.keep hw)).mono ?_
  rintro e_ w2 ⟨v, rfl, hX, hb⟩
  clear cX
  replace hw := Below.after hw hb
  obtain ⟨m, u, rfl, hm, rfl, r⟩ | ⟨hn, rfl⟩ := hX
  · go_wp2
    go_ret2
    exact ⟨_, rfl, .inl ⟨m, u, rfl, hm, rfl, r⟩, hw⟩
  · generalize hq : (if n < 0 then (1 : Int) else 2) = q at *
    go_wp2
    go_ret2
    exact ⟨_, rfl, .inr ⟨hn, by rw [hq]; rfl⟩, hw⟩

end Go.Proofs.YtmflfdedhbnfnaaDoor

namespace Go.Proofs.YtmflfdedhbnfnaaDoor
set_option maxRecDepth 100000
open Go Go.RowKit Go.Sort
attribute [local go_sem] setCell_drewN alloc_drewN

section
variable {P : Program} {ops : Array Oper} {Q : Exit → Act → World → Prop} {md : Region.Mode} {S : World → Prop}
/-- The one operation that may come up, where S is kept. -/
theorem wpAnyH_one {k : Nat} {o : Oper} {fuel : Nat} {listed : Array Bool} {a : Act} {w : World} (hr : Region.ready md ops listed = [k]) (hi : ops[k]? = some o) (hw : Region.wanted o (yielded ops a.tmps) = true)
    (h : ∀ K : Act → World → Prop, (∀ a' w', S w' → wpAnyH P md ops Q S fuel (listed.setIfInBounds k true) a' w' → K a' w') → o.wp P a w K Q) : wpAnyH P md ops Q S (fuel + 1) listed a w := by
  refine wpAnyH_all hr (by simp) (fun i hi' => ?_)
  obtain rfl : i = k := by simpa using hi'
  unfold wpOp
  simp only [hi, hw, if_true]
  exact .inl (h _ (fun a' w' hS hn => ⟨hS, hn⟩))
/-- A part of a row, as it is read. -/
theorem run_load_part {o : Oper} {a : Act} {w : World} (ty : TypeId) (x : Operand) (ho : o.op = .load ty x) (g off : Nat) (hx : a.eval x = .pointer (some ⟨g, off, none⟩)) (t : TypeId) (cs : Array Value) (fr : Nat × Nat) (part : Array Value) (d : TypeDesc) (hg : w.heap[g]? = some (.cells cs t fr)) (hp : cs.extract off (off + part.size) = part)
    (hu : P.underlying ty = some d) (hd : d.isRow = true) (hi : (P.info? ty).map (·.size) = some part.size) : (execOp a.eval o).run P w = .ok (.value (.agg part)) w := by
  have hr := World.rangeAt_of_block hg off part.size
  rw [hp] at hr
  have hl := run_loadVar_mid (P := P) w g off ty part.toList d hr hu hd (by simpa using hi)
  unfold execOp
  simp only [ho, hx, Instr.loadAt, Instr.sureAddr, Sem.run_bind, Sem.run_pure, Result.andThen_ok, hl]
/-- Either of two operations may come up. -/
theorem wpAnyH_two {j k : Nat} {oj ok : Oper} {fuel : Nat} {listed : Array Bool} {a : Act} {w : World} (hr : Region.ready md ops listed = [j, k]) (hj : ops[j]? = some oj) (hk : ops[k]? = some ok) (wj : Region.wanted oj (yielded ops a.tmps) = true) (wk : Region.wanted ok (yielded ops a.tmps) = true)
    (h1 : ∀ K : Act → World → Prop, (∀ a' w', S w' → wpAnyH P md ops Q S fuel (listed.setIfInBounds j true) a' w' → K a' w') → oj.wp P a w K Q)
    (h2 : ∀ K : Act → World → Prop, (∀ a' w', S w' → wpAnyH P md ops Q S fuel (listed.setIfInBounds k true) a' w' → K a' w') → ok.wp P a w K Q) : wpAnyH P md ops Q S (fuel + 1) listed a w := by
  refine wpAnyH_all hr (by simp) (fun i hi' => ?_)
  obtain rfl | rfl : i = j ∨ i = k := by simpa using hi'
  · unfold wpOp
    simp only [hj, wj, if_true]
    exact .inl (h1 _ (fun a' w' hS hn => ⟨hS, hn⟩))
  · unfold wpOp
    simp only [hk, wk, if_true]
    exact .inl (h2 _ (fun a' w' hS hn => ⟨hS, hn⟩))
/-- Two results that lie in rows. -/
theorem results_cell2_row {fn : Func} {p q : Tmp} {ty : TypeId} (h : fn.results = #[.cell p ty, .cell q ty]) (tmps : Array Value) (w : World) (g k : Nat) (t u : TypeId) (cs ds : Array Value) (fr gr : Nat × Nat) (d : TypeDesc)
    (hp : tmps.getD p undef = .pointer (some ⟨g, 0, none⟩)) (hq : tmps.getD q undef = .pointer (some ⟨k, 0, none⟩)) (hg : w.heap[g]? = some (.cells cs t fr)) (hk : w.heap[k]? = some (.cells ds u gr))
    (hu : P.underlying ty = some d) (hd : (match d with | .struct _ | .array _ _ => true | _ => false) = true) (hi : (P.info? ty).map (·.size) = some cs.size) (hj : (P.info? ty).map (·.size) = some ds.size) :
    (results fn tmps).run P w = .ok (.tuple #[.agg cs, .agg ds]) w := by
  have hp' : tmps[p]?.getD undef = .pointer (some ⟨g, 0, none⟩) := by simpa using hp
  have hq' : tmps[q]?.getD undef = .pointer (some ⟨k, 0, none⟩) := by simpa using hq
  simp [results, h, hp', hq', asAddr, run_loadVar_row w g t ty cs fr d hg hu hd hi, run_loadVar_row w k u ty ds gr d hk hu hd hj]
end
theorem all_row (cs : Array Value) : cs.extract 0 (0 + cs.size) = cs := by simp
theorem irow_take (l : List Int) (n : Nat) (k : IntKind) (h : n ≤ l.length) : (irow k l).extract 0 (0 + (irow k (l.take n)).size) = irow k (l.take n) := by
  apply Array.ext'
  simp [irow, List.map_take, h]
theorem irow_drop (l : List Int) (n : Nat) (k : IntKind) : (irow k l).extract n (n + (irow k (l.drop n)).size) = irow k (l.drop n) := by
  apply Array.ext'
  simp only [irow, List.extract_toArray, List.extract_eq_take_drop, List.map_drop, List.size_toArray, List.length_drop, List.length_map, Nat.add_sub_cancel_left]
  exact List.take_of_length_le (by simp)
theorem bys_rowF {W : World} {g n : Nat} {l : List Int} {t : TypeId} {fr : Nat × Nat} (hg : W.heap[g]? = some (.cells (irow .u8 l) t fr)) (hl : l.length ≤ 9223372036854775807) (hz : ∀ z ∈ l, 0 ≤ z ∧ z < 256) (hn : l.length = n) {cap : Nat} : Bys W (.slice (some ⟨g, 0, none⟩) n cap) l := by
  subst hn
  refine ⟨_, _, rfl, hl, fun j hj => ⟨g, 0, rfl, lt_of_row hg, ?_⟩, hz⟩
  rw [Nat.zero_add, cell_of_row _ _ _ _ _ _ hg]
  simp [irow, List.getD_eq_getElem?_getD, List.getElem?_eq_getElem hj]
theorem arr_k (g o c : Nat) (W : World) : (Instr.arrayAt 23 (.slice (some ⟨g, o, none⟩) 32 c)).run Tryd.prog W = .ok (.pointer (some ⟨g, o, none⟩)) W := by kernel_rfl
set_option maxRecDepth 100000 in
set_option maxHeartbeats 4000000 in
theorem a_Step (key : List Int) (hkl : key.length = 32) (hkz : ∀ z ∈ key, 0 ≤ z ∧ z < 256) (w : World) (hS : Sta w) (hK : Kon w) : Calls Tryd.prog 8 #[.agg (irow .u8 key)] w fun e w' => e = .returned (.tuple #[.agg (irow .u8 (hm key [2])), .agg (irow .u8 (hm key [1]))]) ∧ Below w.heap.size w w' := by
  have l2 := hm_len key [2]
  have l1 := hm_len key [1]
  have R0 := hp3_0 w (.cells (irow .u8 key) 23) (.cells (irow .u8 (zr 32)) 23) (.cells (irow .u8 (zr 32)) 23)
  have R1 := hp3_1 w (.cells (irow .u8 key) 23) (.cells (irow .u8 (zr 32)) 23) (.cells (irow .u8 (zr 32)) 23)
  have R2 := hp3_2 w (.cells (irow .u8 key) 23) (.cells (irow .u8 (zr 32)) 23) (.cells (irow .u8 (zr 32)) 23)
  have hw : Below w.heap.size w (((w.alloc (.cells (irow .u8 key) 23)).alloc (.cells (irow .u8 (zr 32)) 23)).alloc (.cells (irow .u8 (zr 32)) 23)) := ((((Below.refl _ _).alloc (Nat.le_refl _) _).alloc (by simp) _).alloc (by simp; omega) _)
  have sk := slice_k w.heap.size
  have f0 := hS.below hw
  have f4 := hK.below hw
  go_enter Tryd.func8, Tryd.ntmps8
  go_wp2_with (first | (refine wpList_box rfl 23 _ rfl _ rfl (bK _) ?_) | (refine wpList_alloc rfl 23 rfl (irow .u8 (zr 32)) zkey ?_) | fail)
  try simp only [size_alloc1, Act.put, List.setIfInBounds_toArray, List.set_cons_succ, List.set_cons_zero]
  generalize (((w.alloc (.cells (irow .u8 key) 23)).alloc (.cells (irow .u8 (zr 32)) 23)).alloc (.cells (irow .u8 (zr 32)) 23)) = w0 at *
  have hbd : Below w0.heap.size w0 w0.drew := below_drN (Below.refl _ _) 1
  replace R0 := keep hbd R0
  replace R1 := keep hbd R1
  replace R2 := keep hbd R2
  replace f0 := f0.below hbd
  replace f4 := f4.below hbd
  replace hw := Below.after hw hbd
  clear hbd
  refine wp_region_noPanic ?_
  refine wp_region_held (S := fun _ => True) (by kernel_rfl) ?_
  change wpAnyH _ _ _ _ _ _ _ _ (World.drew _)
  generalize w0.drew = w1 at *
  refine wpAnyH_take (i := 0) (v := ?v1) rfl (by kernel_rfl) (by kernel_rfl) (by kernel_rfl) (fun _ _ _ h => h) (Or.inl ⟨by rfl, ?y1⟩) (trivial) ?r1
  case y1 =>
    intro w_ hS_
    go_simp
    try with_reducible rfl
  simp only [Act.put, List.getElem_toArray, List.getElem_cons_zero, List.setIfInBounds_toArray, List.set_cons_succ, List.set_cons_zero]
  refine wpAnyH_take (i := 3) (v := ?v2) rfl (by kernel_rfl) (by kernel_rfl) (by kernel_rfl) (fun _ _ _ h => h) (Or.inl ⟨by rfl, ?y2⟩) (trivial) ?r2
  case y2 =>
    intro w_ hS_
    go_simp
    try with_reducible rfl
  simp only [Act.put, List.getElem_toArray, List.getElem_cons_succ, List.getElem_cons_zero, List.setIfInBounds_toArray, List.set_cons_succ, List.set_cons_zero]
  refine wpAnyH_two (j := 1) (k := 4) (fuel := 5) (by kernel_rfl) rfl rfl (by kernel_rfl) (by kernel_rfl) (fun K_ hK_ => ?_) (fun K_ hK_ => ?_)
  · refine wp_world_op (.slice (some ⟨w1.heap.size, 0, none⟩) 1 1) (w1.alloc (.cells #[.int .u8 2] 5)) (by kernel_rfl) ?_
    have hb_ : Below w1.heap.size w1 (w1.alloc (.cells #[.int .u8 2] 5)) := (Below.refl _ _).alloc (Nat.le_refl _) _
    have sz_g2 : w.heap.size ≤ w1.heap.size := hw.size
    have lt_R0_g2 := lt_of_row R0
    have lt_R1_g2 := lt_of_row R1
    have lt_R2_g2 := lt_of_row R2
    have rB2 := hp1_0 w1 (.cells #[.int .u8 2] 5)
    replace R0 := keep hb_ R0
    replace R1 := keep hb_ R1
    replace R2 := keep hb_ R2
    replace f0 := f0.below hb_
    replace f4 := f4.below hb_
    replace hw := Below.after hw hb_
    clear hb_
    refine hK_ _ _ (trivial) ?_
    simp only [Act.put, List.getElem_toArray, List.getElem_cons_succ, List.getElem_cons_zero, List.setIfInBounds_toArray, List.set_cons_succ, List.set_cons_zero]
    clear hK_
    generalize w1.alloc (.cells #[.int .u8 2] 5) = q1 at *
    generalize w1.heap.size = g2 at *
    refine wpAnyH_two (j := 2) (k := 4) (fuel := 4) (by kernel_rfl) rfl rfl (by kernel_rfl) (by kernel_rfl) (fun K_ hK_ => ?_) (fun K_ hK_ => ?_)
    · have hB1_ : Bys q1 (.slice (some ⟨w.heap.size, 0, none⟩) 32 32) key := by
        have h := Bys.of_row R0 (by omega) hkz 32
        rw [hkl] at h
        exact h
      have hB2_ : Bys q1 (.slice (some ⟨g2, 0, none⟩) 1 1) [2] := Bys.of_row (l := [2]) rB2 (by decide) (by decide) 1
      refine wp_call_ex (f := 26) (by kernel_rfl) (ex1 (a_macSum key [2] q1 _ _ f0 f4 hB1_ (fun a l c h => by cases h; exact Nat.le_refl _) (by omega) hB2_ (fun a l c h => by cases h; exact Nat.le_refl _) (by decide))) (fun v_ q3 hX_ => ?_)
      obtain ⟨rfl, hb_⟩ := hX_
      replace R0 := keep hb_ R0
      replace R1 := keep hb_ R1
      replace R2 := keep hb_ R2
      replace rB2 := keep hb_ rB2
      replace f0 := f0.below hb_
      replace f4 := f4.below hb_
      replace hw := Below.after hw hb_
      clear hb_
      clear hB1_ hB2_
      refine hK_ _ _ (trivial) ?_
      simp only [Act.put, List.getElem_toArray, List.getElem_cons_succ, List.getElem_cons_zero, List.setIfInBounds_toArray, List.set_cons_succ, List.set_cons_zero]
      clear hK_
      refine wpAnyH_one (k := 4) (fuel := 3) (by kernel_rfl) rfl (by kernel_rfl) (fun K_ hK_ => ?_)
      refine wp_world_op (.slice (some ⟨q3.heap.size, 0, none⟩) 1 1) (q3.alloc (.cells #[.int .u8 1] 5)) (by kernel_rfl) ?_
      have hb_ : Below q3.heap.size q3 (q3.alloc (.cells #[.int .u8 1] 5)) := (Below.refl _ _).alloc (Nat.le_refl _) _
      have sz_g5 : w.heap.size ≤ q3.heap.size := hw.size
      have lt_R0_g5 := lt_of_row R0
      have lt_R1_g5 := lt_of_row R1
      have lt_R2_g5 := lt_of_row R2
      have lt_rB2_g5 := lt_of_row rB2
      have rB1 := hp1_0 q3 (.cells #[.int .u8 1] 5)
      replace R0 := keep hb_ R0
      replace R1 := keep hb_ R1
      replace R2 := keep hb_ R2
      replace rB2 := keep hb_ rB2
      replace f0 := f0.below hb_
      replace f4 := f4.below hb_
      replace hw := Below.after hw hb_
      clear hb_
      refine hK_ _ _ (trivial) ?_
      simp only [Act.put, List.getElem_toArray, List.getElem_cons_succ, List.getElem_cons_zero, List.setIfInBounds_toArray, List.set_cons_succ, List.set_cons_zero]
      clear hK_
      generalize q3.alloc (.cells #[.int .u8 1] 5) = q4 at *
      generalize q3.heap.size = g5 at *
      refine wpAnyH_one (k := 5) (fuel := 2) (by kernel_rfl) rfl (by kernel_rfl) (fun K_ hK_ => ?_)
      have hB1_ : Bys q4 (.slice (some ⟨w.heap.size, 0, none⟩) 32 32) key := by
        have h := Bys.of_row R0 (by omega) hkz 32
        rw [hkl] at h
        exact h
      have hB2_ : Bys q4 (.slice (some ⟨g5, 0, none⟩) 1 1) [1] := Bys.of_row (l := [1]) rB1 (by decide) (by decide) 1
      refine wp_call_ex (f := 26) (by kernel_rfl) (ex1 (a_macSum key [1] q4 _ _ f0 f4 hB1_ (fun a l c h => by cases h; exact Nat.le_refl _) (by omega) hB2_ (fun a l c h => by cases h; exact Nat.le_refl _) (by decide))) (fun v_ q6 hX_ => ?_)
      obtain ⟨rfl, hb_⟩ := hX_
      replace R0 := keep hb_ R0
      replace R1 := keep hb_ R1
      replace R2 := keep hb_ R2
      replace rB2 := keep hb_ rB2
      replace rB1 := keep hb_ rB1
      replace f0 := f0.below hb_
      replace f4 := f4.below hb_
      replace hw := Below.after hw hb_
      clear hb_
      clear hB1_ hB2_
      refine hK_ _ _ (trivial) ?_
      simp only [Act.put, List.getElem_toArray, List.getElem_cons_succ, List.getElem_cons_zero, List.setIfInBounds_toArray, List.set_cons_succ, List.set_cons_zero]
      clear hK_
      refine wpAnyH_one (k := 6) (fuel := 1) (by kernel_rfl) rfl (by kernel_rfl) (fun K_ hK_ => ?_)
      clear rB1 rB2 R0 f0 f4
      refine wp_store_row 23 _ _ rfl (w.heap.size + 1) (irow .u8 (hm key [2])) rfl rfl 23 _ R1 (infok8 _ l2) (fit32 _ _ (zr_len 32) l2) (irow_one _ _) ?_
      replace R2 := (setRow_other q6 (w.heap.size + 1) (w.heap.size + 1 + 1) (irow .u8 (hm key [2])) (by omega)).trans R2
      replace R1 := setRow_heap q6 (w.heap.size + 1) _ (irow .u8 (hm key [2])) _ _ R1
      replace hw := below_setRow hw (show w.heap.size ≤ w.heap.size + 1 by omega) (irow .u8 (hm key [2]))
      refine hK_ _ _ (trivial) ?_
      simp only [Act.put]
      clear hK_
      generalize q6.setRow (w.heap.size + 1) (irow .u8 (hm key [2])) = q7 at *
      refine wpAnyH_one (k := 7) (fuel := 0) (by kernel_rfl) rfl (by kernel_rfl) (fun K_ hK_ => ?_)
      refine wp_store_row 23 _ _ rfl (w.heap.size + 1 + 1) (irow .u8 (hm key [1])) rfl rfl 23 _ R2 (infok8 _ l1) (fit32 _ _ (zr_len 32) l1) (irow_one _ _) ?_
      replace R1 := (setRow_other q7 (w.heap.size + 1 + 1) (w.heap.size + 1) (irow .u8 (hm key [1])) (by omega)).trans R1
      replace R2 := setRow_heap q7 (w.heap.size + 1 + 1) _ (irow .u8 (hm key [1])) _ _ R2
      replace hw := below_setRow hw (show w.heap.size ≤ w.heap.size + 1 + 1 by omega) (irow .u8 (hm key [1]))
      refine hK_ _ _ (trivial) ?_
      simp only [Act.put]
      clear hK_
      generalize q7.setRow (w.heap.size + 1 + 1) (irow .u8 (hm key [1])) = q8 at *
      refine wpAnyH_done (by kernel_rfl) ?_ _
      refine NoPanic.normal ?_
      go_wp2
      exact bodyPost_ret (results_cell2_row Tryd.results8 _ _ (w.heap.size + 1) (w.heap.size + 1 + 1) _ _ _ _ _ _ _ rfl rfl R1 R2 Tryd.underlying23 rfl (infok8 _ l2) (infok8 _ l1)) rfl ⟨rfl, hw⟩
    · refine wp_world_op (.slice (some ⟨q1.heap.size, 0, none⟩) 1 1) (q1.alloc (.cells #[.int .u8 1] 5)) (by kernel_rfl) ?_
      have hb_ : Below q1.heap.size q1 (q1.alloc (.cells #[.int .u8 1] 5)) := (Below.refl _ _).alloc (Nat.le_refl _) _
      have sz_g10 : w.heap.size ≤ q1.heap.size := hw.size
      have lt_R0_g10 := lt_of_row R0
      have lt_R1_g10 := lt_of_row R1
      have lt_R2_g10 := lt_of_row R2
      have lt_rB2_g10 := lt_of_row rB2
      have rB1 := hp1_0 q1 (.cells #[.int .u8 1] 5)
      replace R0 := keep hb_ R0
      replace R1 := keep hb_ R1
      replace R2 := keep hb_ R2
      replace rB2 := keep hb_ rB2
      replace f0 := f0.below hb_
      replace f4 := f4.below hb_
      replace hw := Below.after hw hb_
      clear hb_
      refine hK_ _ _ (trivial) ?_
      simp only [Act.put, List.getElem_toArray, List.getElem_cons_succ, List.getElem_cons_zero, List.setIfInBounds_toArray, List.set_cons_succ, List.set_cons_zero]
      clear hK_
      generalize q1.alloc (.cells #[.int .u8 1] 5) = q9 at *
      generalize q1.heap.size = g10 at *
      refine wpAnyH_one (k := 2) (fuel := 3) (by kernel_rfl) rfl (by kernel_rfl) (fun K_ hK_ => ?_)
      have hB1_ : Bys q9 (.slice (some ⟨w.heap.size, 0, none⟩) 32 32) key := by
        have h := Bys.of_row R0 (by omega) hkz 32
        rw [hkl] at h
        exact h
      have hB2_ : Bys q9 (.slice (some ⟨g2, 0, none⟩) 1 1) [2] := Bys.of_row (l := [2]) rB2 (by decide) (by decide) 1
      refine wp_call_ex (f := 26) (by kernel_rfl) (ex1 (a_macSum key [2] q9 _ _ f0 f4 hB1_ (fun a l c h => by cases h; exact Nat.le_refl _) (by omega) hB2_ (fun a l c h => by cases h; exact Nat.le_refl _) (by decide))) (fun v_ q11 hX_ => ?_)
      obtain ⟨rfl, hb_⟩ := hX_
      replace R0 := keep hb_ R0
      replace R1 := keep hb_ R1
      replace R2 := keep hb_ R2
      replace rB2 := keep hb_ rB2
      replace rB1 := keep hb_ rB1
      replace f0 := f0.below hb_
      replace f4 := f4.below hb_
      replace hw := Below.after hw hb_
      clear hb_
      clear hB1_ hB2_
      refine hK_ _ _ (trivial) ?_
      simp only [Act.put, List.getElem_toArray, List.getElem_cons_succ, List.getElem_cons_zero, List.setIfInBounds_toArray, List.set_cons_succ, List.set_cons_zero]
      clear hK_
      refine wpAnyH_one (k := 5) (fuel := 2) (by kernel_rfl) rfl (by kernel_rfl) (fun K_ hK_ => ?_)
      have hB1_ : Bys q11 (.slice (some ⟨w.heap.size, 0, none⟩) 32 32) key := by
        have h := Bys.of_row R0 (by omega) hkz 32
        rw [hkl] at h
        exact h
      have hB2_ : Bys q11 (.slice (some ⟨g10, 0, none⟩) 1 1) [1] := Bys.of_row (l := [1]) rB1 (by decide) (by decide) 1
      refine wp_call_ex (f := 26) (by kernel_rfl) (ex1 (a_macSum key [1] q11 _ _ f0 f4 hB1_ (fun a l c h => by cases h; exact Nat.le_refl _) (by omega) hB2_ (fun a l c h => by cases h; exact Nat.le_refl _) (by decide))) (fun v_ q12 hX_ => ?_)
      obtain ⟨rfl, hb_⟩ := hX_
      replace R0 := keep hb_ R0
      replace R1 := keep hb_ R1
      replace R2 := keep hb_ R2
      replace rB2 := keep hb_ rB2
      replace rB1 := keep hb_ rB1
      replace f0 := f0.below hb_
      replace f4 := f4.below hb_
      replace hw := Below.after hw hb_
      clear hb_
      clear hB1_ hB2_
      refine hK_ _ _ (trivial) ?_
      simp only [Act.put, List.getElem_toArray, List.getElem_cons_succ, List.getElem_cons_zero, List.setIfInBounds_toArray, List.set_cons_succ, List.set_cons_zero]
      clear hK_
      refine wpAnyH_one (k := 6) (fuel := 1) (by kernel_rfl) rfl (by kernel_rfl) (fun K_ hK_ => ?_)
      clear rB1 rB2 R0 f0 f4
      refine wp_store_row 23 _ _ rfl (w.heap.size + 1) (irow .u8 (hm key [2])) rfl rfl 23 _ R1 (infok8 _ l2) (fit32 _ _ (zr_len 32) l2) (irow_one _ _) ?_
      replace R2 := (setRow_other q12 (w.heap.size + 1) (w.heap.size + 1 + 1) (irow .u8 (hm key [2])) (by omega)).trans R2
      replace R1 := setRow_heap q12 (w.heap.size + 1) _ (irow .u8 (hm key [2])) _ _ R1
      replace hw := below_setRow hw (show w.heap.size ≤ w.heap.size + 1 by omega) (irow .u8 (hm key [2]))
      refine hK_ _ _ (trivial) ?_
      simp only [Act.put]
      clear hK_
      generalize q12.setRow (w.heap.size + 1) (irow .u8 (hm key [2])) = q13 at *
      refine wpAnyH_one (k := 7) (fuel := 0) (by kernel_rfl) rfl (by kernel_rfl) (fun K_ hK_ => ?_)
      refine wp_store_row 23 _ _ rfl (w.heap.size + 1 + 1) (irow .u8 (hm key [1])) rfl rfl 23 _ R2 (infok8 _ l1) (fit32 _ _ (zr_len 32) l1) (irow_one _ _) ?_
      replace R1 := (setRow_other q13 (w.heap.size + 1 + 1) (w.heap.size + 1) (irow .u8 (hm key [1])) (by omega)).trans R1
      replace R2 := setRow_heap q13 (w.heap.size + 1 + 1) _ (irow .u8 (hm key [1])) _ _ R2
      replace hw := below_setRow hw (show w.heap.size ≤ w.heap.size + 1 + 1 by omega) (irow .u8 (hm key [1]))
      refine hK_ _ _ (trivial) ?_
      simp only [Act.put]
      clear hK_
      generalize q13.setRow (w.heap.size + 1 + 1) (irow .u8 (hm key [1])) = q14 at *
      refine wpAnyH_done (by kernel_rfl) ?_ _
      refine NoPanic.normal ?_
      go_wp2
      exact bodyPost_ret (results_cell2_row Tryd.results8 _ _ (w.heap.size + 1) (w.heap.size + 1 + 1) _ _ _ _ _ _ _ rfl rfl R1 R2 Tryd.underlying23 rfl (infok8 _ l2) (infok8 _ l1)) rfl ⟨rfl, hw⟩
  · refine wp_world_op (.slice (some ⟨w1.heap.size, 0, none⟩) 1 1) (w1.alloc (.cells #[.int .u8 1] 5)) (by kernel_rfl) ?_
    have hb_ : Below w1.heap.size w1 (w1.alloc (.cells #[.int .u8 1] 5)) := (Below.refl _ _).alloc (Nat.le_refl _) _
    have sz_g16 : w.heap.size ≤ w1.heap.size := hw.size
    have lt_R0_g16 := lt_of_row R0
    have lt_R1_g16 := lt_of_row R1
    have lt_R2_g16 := lt_of_row R2
    have rB1 := hp1_0 w1 (.cells #[.int .u8 1] 5)
    replace R0 := keep hb_ R0
    replace R1 := keep hb_ R1
    replace R2 := keep hb_ R2
    replace f0 := f0.below hb_
    replace f4 := f4.below hb_
    replace hw := Below.after hw hb_
    clear hb_
    refine hK_ _ _ (trivial) ?_
    simp only [Act.put, List.getElem_toArray, List.getElem_cons_succ, List.getElem_cons_zero, List.setIfInBounds_toArray, List.set_cons_succ, List.set_cons_zero]
    clear hK_
    generalize w1.alloc (.cells #[.int .u8 1] 5) = q15 at *
    generalize w1.heap.size = g16 at *
    refine wpAnyH_one (k := 1) (fuel := 4) (by kernel_rfl) rfl (by kernel_rfl) (fun K_ hK_ => ?_)
    refine wp_world_op (.slice (some ⟨q15.heap.size, 0, none⟩) 1 1) (q15.alloc (.cells #[.int .u8 2] 5)) (by kernel_rfl) ?_
    have hb_ : Below q15.heap.size q15 (q15.alloc (.cells #[.int .u8 2] 5)) := (Below.refl _ _).alloc (Nat.le_refl _) _
    have sz_g18 : w.heap.size ≤ q15.heap.size := hw.size
    have lt_R0_g18 := lt_of_row R0
    have lt_R1_g18 := lt_of_row R1
    have lt_R2_g18 := lt_of_row R2
    have lt_rB1_g18 := lt_of_row rB1
    have rB2 := hp1_0 q15 (.cells #[.int .u8 2] 5)
    replace R0 := keep hb_ R0
    replace R1 := keep hb_ R1
    replace R2 := keep hb_ R2
    replace rB1 := keep hb_ rB1
    replace f0 := f0.below hb_
    replace f4 := f4.below hb_
    replace hw := Below.after hw hb_
    clear hb_
    refine hK_ _ _ (trivial) ?_
    simp only [Act.put, List.getElem_toArray, List.getElem_cons_succ, List.getElem_cons_zero, List.setIfInBounds_toArray, List.set_cons_succ, List.set_cons_zero]
    clear hK_
    generalize q15.alloc (.cells #[.int .u8 2] 5) = q17 at *
    generalize q15.heap.size = g18 at *
    refine wpAnyH_one (k := 2) (fuel := 3) (by kernel_rfl) rfl (by kernel_rfl) (fun K_ hK_ => ?_)
    have hB1_ : Bys q17 (.slice (some ⟨w.heap.size, 0, none⟩) 32 32) key := by
      have h := Bys.of_row R0 (by omega) hkz 32
      rw [hkl] at h
      exact h
    have hB2_ : Bys q17 (.slice (some ⟨g18, 0, none⟩) 1 1) [2] := Bys.of_row (l := [2]) rB2 (by decide) (by decide) 1
    refine wp_call_ex (f := 26) (by kernel_rfl) (ex1 (a_macSum key [2] q17 _ _ f0 f4 hB1_ (fun a l c h => by cases h; exact Nat.le_refl _) (by omega) hB2_ (fun a l c h => by cases h; exact Nat.le_refl _) (by decide))) (fun v_ q19 hX_ => ?_)
    obtain ⟨rfl, hb_⟩ := hX_
    replace R0 := keep hb_ R0
    replace R1 := keep hb_ R1
    replace R2 := keep hb_ R2
    replace rB1 := keep hb_ rB1
    replace rB2 := keep hb_ rB2
    replace f0 := f0.below hb_
    replace f4 := f4.below hb_
    replace hw := Below.after hw hb_
    clear hb_
    clear hB1_ hB2_
    refine hK_ _ _ (trivial) ?_
    simp only [Act.put, List.getElem_toArray, List.getElem_cons_succ, List.getElem_cons_zero, List.setIfInBounds_toArray, List.set_cons_succ, List.set_cons_zero]
    clear hK_
    refine wpAnyH_one (k := 5) (fuel := 2) (by kernel_rfl) rfl (by kernel_rfl) (fun K_ hK_ => ?_)
    have hB1_ : Bys q19 (.slice (some ⟨w.heap.size, 0, none⟩) 32 32) key := by
      have h := Bys.of_row R0 (by omega) hkz 32
      rw [hkl] at h
      exact h
    have hB2_ : Bys q19 (.slice (some ⟨g16, 0, none⟩) 1 1) [1] := Bys.of_row (l := [1]) rB1 (by decide) (by decide) 1
    refine wp_call_ex (f := 26) (by kernel_rfl) (ex1 (a_macSum key [1] q19 _ _ f0 f4 hB1_ (fun a l c h => by cases h; exact Nat.le_refl _) (by omega) hB2_ (fun a l c h => by cases h; exact Nat.le_refl _) (by decide))) (fun v_ q20 hX_ => ?_)
    obtain ⟨rfl, hb_⟩ := hX_
    replace R0 := keep hb_ R0
    replace R1 := keep hb_ R1
    replace R2 := keep hb_ R2
    replace rB1 := keep hb_ rB1
    replace rB2 := keep hb_ rB2
    replace f0 := f0.below hb_
    replace f4 := f4.below hb_
    replace hw := Below.after hw hb_
    clear hb_
    clear hB1_ hB2_
    refine hK_ _ _ (trivial) ?_
    simp only [Act.put, List.getElem_toArray, List.getElem_cons_succ, List.getElem_cons_zero, List.setIfInBounds_toArray, List.set_cons_succ, List.set_cons_zero]
    clear hK_
    refine wpAnyH_one (k := 6) (fuel := 1) (by kernel_rfl) rfl (by kernel_rfl) (fun K_ hK_ => ?_)
    clear rB1 rB2 R0 f0 f4
    refine wp_store_row 23 _ _ rfl (w.heap.size + 1) (irow .u8 (hm key [2])) rfl rfl 23 _ R1 (infok8 _ l2) (fit32 _ _ (zr_len 32) l2) (irow_one _ _) ?_
    replace R2 := (setRow_other q20 (w.heap.size + 1) (w.heap.size + 1 + 1) (irow .u8 (hm key [2])) (by omega)).trans R2
    replace R1 := setRow_heap q20 (w.heap.size + 1) _ (irow .u8 (hm key [2])) _ _ R1
    replace hw := below_setRow hw (show w.heap.size ≤ w.heap.size + 1 by omega) (irow .u8 (hm key [2]))
    refine hK_ _ _ (trivial) ?_
    simp only [Act.put]
    clear hK_
    generalize q20.setRow (w.heap.size + 1) (irow .u8 (hm key [2])) = q21 at *
    refine wpAnyH_one (k := 7) (fuel := 0) (by kernel_rfl) rfl (by kernel_rfl) (fun K_ hK_ => ?_)
    refine wp_store_row 23 _ _ rfl (w.heap.size + 1 + 1) (irow .u8 (hm key [1])) rfl rfl 23 _ R2 (infok8 _ l1) (fit32 _ _ (zr_len 32) l1) (irow_one _ _) ?_
    replace R1 := (setRow_other q21 (w.heap.size + 1 + 1) (w.heap.size + 1) (irow .u8 (hm key [1])) (by omega)).trans R1
    replace R2 := setRow_heap q21 (w.heap.size + 1 + 1) _ (irow .u8 (hm key [1])) _ _ R2
    replace hw := below_setRow hw (show w.heap.size ≤ w.heap.size + 1 + 1 by omega) (irow .u8 (hm key [1]))
    refine hK_ _ _ (trivial) ?_
    simp only [Act.put]
    clear hK_
    generalize q21.setRow (w.heap.size + 1 + 1) (irow .u8 (hm key [1])) = q22 at *
    refine wpAnyH_done (by kernel_rfl) ?_ _
    refine NoPanic.normal ?_
    go_wp2
    exact bodyPost_ret (results_cell2_row Tryd.results8 _ _ (w.heap.size + 1) (w.heap.size + 1 + 1) _ _ _ _ _ _ _ rfl rfl R1 R2 Tryd.underlying23 rfl (infok8 _ l2) (infok8 _ l1)) rfl ⟨rfl, hw⟩
set_option maxRecDepth 100000 in
set_option maxHeartbeats 4000000 in
theorem r_Step (key : List Int) (hkl : key.length = 32) (hkz : ∀ z ∈ key, 0 ≤ z ∧ z < 256) (w : World) : Calls Tryd.prog 9 #[.agg (irow .u8 key)] w fun e w' => e = .returned (.tuple #[.agg (irow .u8 (hm key [2])), .agg (irow .u8 (hm key [1]))]) ∧ Below w.heap.size w w' := by
  have l2 := hm_len key [2]
  have l1 := hm_len key [1]
  have R0 := hp3_0 w (.cells (irow .u8 key) 23) (.cells (irow .u8 (zr 32)) 23) (.cells (irow .u8 (zr 32)) 23)
  have R1 := hp3_1 w (.cells (irow .u8 key) 23) (.cells (irow .u8 (zr 32)) 23) (.cells (irow .u8 (zr 32)) 23)
  have R2 := hp3_2 w (.cells (irow .u8 key) 23) (.cells (irow .u8 (zr 32)) 23) (.cells (irow .u8 (zr 32)) 23)
  have hw : Below w.heap.size w (((w.alloc (.cells (irow .u8 key) 23)).alloc (.cells (irow .u8 (zr 32)) 23)).alloc (.cells (irow .u8 (zr 32)) 23)) := ((((Below.refl _ _).alloc (Nat.le_refl _) _).alloc (by simp) _).alloc (by simp; omega) _)
  have sk := slice_k w.heap.size
  go_enter Tryd.func9, Tryd.ntmps9
  go_wp2_with (first | (refine wpList_box rfl 23 _ rfl _ rfl (bK _) ?_) | (refine wpList_alloc rfl 23 rfl (irow .u8 (zr 32)) zkey ?_) | fail)
  try simp only [size_alloc1, Act.put, List.setIfInBounds_toArray, List.set_cons_succ, List.set_cons_zero]
  generalize (((w.alloc (.cells (irow .u8 key) 23)).alloc (.cells (irow .u8 (zr 32)) 23)).alloc (.cells (irow .u8 (zr 32)) 23)) = w0 at *
  have hbd : Below w0.heap.size w0 w0.drew := below_drN (Below.refl _ _) 1
  replace R0 := keep hbd R0
  replace R1 := keep hbd R1
  replace R2 := keep hbd R2
  replace hw := Below.after hw hbd
  clear hbd
  refine wp_region_noPanic ?_
  refine wp_region_held (S := fun _ => True) (by kernel_rfl) ?_
  change wpAnyH _ _ _ _ _ _ _ _ (World.drew _)
  generalize w0.drew = w1 at *
  refine wpAnyH_take (i := 0) (v := ?v3) rfl (by kernel_rfl) (by kernel_rfl) (by kernel_rfl) (fun _ _ _ h => h) (Or.inl ⟨by rfl, ?y3⟩) (trivial) ?r3
  case y3 =>
    intro w_ hS_
    go_simp
    try with_reducible rfl
  simp only [Act.put, List.getElem_toArray, List.getElem_cons_zero, List.setIfInBounds_toArray, List.set_cons_succ, List.set_cons_zero]
  refine wpAnyH_take (i := 3) (v := ?v4) rfl (by kernel_rfl) (by kernel_rfl) (by kernel_rfl) (fun _ _ _ h => h) (Or.inl ⟨by rfl, ?y4⟩) (trivial) ?r4
  case y4 =>
    intro w_ hS_
    go_simp
    try with_reducible rfl
  simp only [Act.put, List.getElem_toArray, List.getElem_cons_succ, List.getElem_cons_zero, List.setIfInBounds_toArray, List.set_cons_succ, List.set_cons_zero]
  refine wpAnyH_two (j := 1) (k := 4) (fuel := 5) (by kernel_rfl) rfl rfl (by kernel_rfl) (by kernel_rfl) (fun K_ hK_ => ?_) (fun K_ hK_ => ?_)
  · refine wp_world_op (.slice (some ⟨w1.heap.size, 0, none⟩) 1 1) (w1.alloc (.cells #[.int .u8 2] 5)) (by kernel_rfl) ?_
    have hb_ : Below w1.heap.size w1 (w1.alloc (.cells #[.int .u8 2] 5)) := (Below.refl _ _).alloc (Nat.le_refl _) _
    have sz_g24 : w.heap.size ≤ w1.heap.size := hw.size
    have lt_R0_g24 := lt_of_row R0
    have lt_R1_g24 := lt_of_row R1
    have lt_R2_g24 := lt_of_row R2
    have rB2 := hp1_0 w1 (.cells #[.int .u8 2] 5)
    replace R0 := keep hb_ R0
    replace R1 := keep hb_ R1
    replace R2 := keep hb_ R2
    replace hw := Below.after hw hb_
    clear hb_
    refine hK_ _ _ (trivial) ?_
    simp only [Act.put, List.getElem_toArray, List.getElem_cons_succ, List.getElem_cons_zero, List.setIfInBounds_toArray, List.set_cons_succ, List.set_cons_zero]
    clear hK_
    generalize w1.alloc (.cells #[.int .u8 2] 5) = q23 at *
    generalize w1.heap.size = g24 at *
    refine wpAnyH_two (j := 2) (k := 4) (fuel := 4) (by kernel_rfl) rfl rfl (by kernel_rfl) (by kernel_rfl) (fun K_ hK_ => ?_) (fun K_ hK_ => ?_)
    · have hB1_ : Bys q23 (.slice (some ⟨w.heap.size, 0, none⟩) 32 32) key := by
        have h := Bys.of_row R0 (by omega) hkz 32
        rw [hkl] at h
        exact h
      have hB2_ : Bys q23 (.slice (some ⟨g24, 0, none⟩) 1 1) [2] := Bys.of_row (l := [2]) rB2 (by decide) (by decide) 1
      refine wp_call_ex (f := 30) (by kernel_rfl) (ex1 (r_sum4 key [2] q23 _ _ ⟨hB1_, by omega, fun a l c h h2 => by cases h; cases h2⟩ ⟨hB2_, by decide, fun a l c h h2 => by cases h; cases h2⟩ (by decide))) (fun v_ q25 hX_ => ?_)
      obtain ⟨rfl, hb_⟩ := hX_
      replace R0 := keep hb_ R0
      replace R1 := keep hb_ R1
      replace R2 := keep hb_ R2
      replace rB2 := keep hb_ rB2
      replace hw := Below.after hw hb_
      clear hb_
      clear hB1_ hB2_
      refine hK_ _ _ (trivial) ?_
      simp only [Act.put, List.getElem_toArray, List.getElem_cons_succ, List.getElem_cons_zero, List.setIfInBounds_toArray, List.set_cons_succ, List.set_cons_zero]
      clear hK_
      refine wpAnyH_one (k := 4) (fuel := 3) (by kernel_rfl) rfl (by kernel_rfl) (fun K_ hK_ => ?_)
      refine wp_world_op (.slice (some ⟨q25.heap.size, 0, none⟩) 1 1) (q25.alloc (.cells #[.int .u8 1] 5)) (by kernel_rfl) ?_
      have hb_ : Below q25.heap.size q25 (q25.alloc (.cells #[.int .u8 1] 5)) := (Below.refl _ _).alloc (Nat.le_refl _) _
      have sz_g27 : w.heap.size ≤ q25.heap.size := hw.size
      have lt_R0_g27 := lt_of_row R0
      have lt_R1_g27 := lt_of_row R1
      have lt_R2_g27 := lt_of_row R2
      have lt_rB2_g27 := lt_of_row rB2
      have rB1 := hp1_0 q25 (.cells #[.int .u8 1] 5)
      replace R0 := keep hb_ R0
      replace R1 := keep hb_ R1
      replace R2 := keep hb_ R2
      replace rB2 := keep hb_ rB2
      replace hw := Below.after hw hb_
      clear hb_
      refine hK_ _ _ (trivial) ?_
      simp only [Act.put, List.getElem_toArray, List.getElem_cons_succ, List.getElem_cons_zero, List.setIfInBounds_toArray, List.set_cons_succ, List.set_cons_zero]
      clear hK_
      generalize q25.alloc (.cells #[.int .u8 1] 5) = q26 at *
      generalize q25.heap.size = g27 at *
      refine wpAnyH_one (k := 5) (fuel := 2) (by kernel_rfl) rfl (by kernel_rfl) (fun K_ hK_ => ?_)
      have hB1_ : Bys q26 (.slice (some ⟨w.heap.size, 0, none⟩) 32 32) key := by
        have h := Bys.of_row R0 (by omega) hkz 32
        rw [hkl] at h
        exact h
      have hB2_ : Bys q26 (.slice (some ⟨g27, 0, none⟩) 1 1) [1] := Bys.of_row (l := [1]) rB1 (by decide) (by decide) 1
      refine wp_call_ex (f := 30) (by kernel_rfl) (ex1 (r_sum4 key [1] q26 _ _ ⟨hB1_, by omega, fun a l c h h2 => by cases h; cases h2⟩ ⟨hB2_, by decide, fun a l c h h2 => by cases h; cases h2⟩ (by decide))) (fun v_ q28 hX_ => ?_)
      obtain ⟨rfl, hb_⟩ := hX_
      replace R0 := keep hb_ R0
      replace R1 := keep hb_ R1
      replace R2 := keep hb_ R2
      replace rB2 := keep hb_ rB2
      replace rB1 := keep hb_ rB1
      replace hw := Below.after hw hb_
      clear hb_
      clear hB1_ hB2_
      refine hK_ _ _ (trivial) ?_
      simp only [Act.put, List.getElem_toArray, List.getElem_cons_succ, List.getElem_cons_zero, List.setIfInBounds_toArray, List.set_cons_succ, List.set_cons_zero]
      clear hK_
      refine wpAnyH_one (k := 6) (fuel := 1) (by kernel_rfl) rfl (by kernel_rfl) (fun K_ hK_ => ?_)
      clear rB1 rB2 R0
      refine wp_store_row 23 _ _ rfl (w.heap.size + 1) (irow .u8 (hm key [2])) rfl rfl 23 _ R1 (infok8 _ l2) (fit32 _ _ (zr_len 32) l2) (irow_one _ _) ?_
      replace R2 := (setRow_other q28 (w.heap.size + 1) (w.heap.size + 1 + 1) (irow .u8 (hm key [2])) (by omega)).trans R2
      replace R1 := setRow_heap q28 (w.heap.size + 1) _ (irow .u8 (hm key [2])) _ _ R1
      replace hw := below_setRow hw (show w.heap.size ≤ w.heap.size + 1 by omega) (irow .u8 (hm key [2]))
      refine hK_ _ _ (trivial) ?_
      simp only [Act.put]
      clear hK_
      generalize q28.setRow (w.heap.size + 1) (irow .u8 (hm key [2])) = q29 at *
      refine wpAnyH_one (k := 7) (fuel := 0) (by kernel_rfl) rfl (by kernel_rfl) (fun K_ hK_ => ?_)
      refine wp_store_row 23 _ _ rfl (w.heap.size + 1 + 1) (irow .u8 (hm key [1])) rfl rfl 23 _ R2 (infok8 _ l1) (fit32 _ _ (zr_len 32) l1) (irow_one _ _) ?_
      replace R1 := (setRow_other q29 (w.heap.size + 1 + 1) (w.heap.size + 1) (irow .u8 (hm key [1])) (by omega)).trans R1
      replace R2 := setRow_heap q29 (w.heap.size + 1 + 1) _ (irow .u8 (hm key [1])) _ _ R2
      replace hw := below_setRow hw (show w.heap.size ≤ w.heap.size + 1 + 1 by omega) (irow .u8 (hm key [1]))
      refine hK_ _ _ (trivial) ?_
      simp only [Act.put]
      clear hK_
      generalize q29.setRow (w.heap.size + 1 + 1) (irow .u8 (hm key [1])) = q30 at *
      refine wpAnyH_done (by kernel_rfl) ?_ _
      refine NoPanic.normal ?_
      go_wp2
      exact bodyPost_ret (results_cell2_row Tryd.results9 _ _ (w.heap.size + 1) (w.heap.size + 1 + 1) _ _ _ _ _ _ _ rfl rfl R1 R2 Tryd.underlying23 rfl (infok8 _ l2) (infok8 _ l1)) rfl ⟨rfl, hw⟩
    · refine wp_world_op (.slice (some ⟨q23.heap.size, 0, none⟩) 1 1) (q23.alloc (.cells #[.int .u8 1] 5)) (by kernel_rfl) ?_
      have hb_ : Below q23.heap.size q23 (q23.alloc (.cells #[.int .u8 1] 5)) := (Below.refl _ _).alloc (Nat.le_refl _) _
      have sz_g32 : w.heap.size ≤ q23.heap.size := hw.size
      have lt_R0_g32 := lt_of_row R0
      have lt_R1_g32 := lt_of_row R1
      have lt_R2_g32 := lt_of_row R2
      have lt_rB2_g32 := lt_of_row rB2
      have rB1 := hp1_0 q23 (.cells #[.int .u8 1] 5)
      replace R0 := keep hb_ R0
      replace R1 := keep hb_ R1
      replace R2 := keep hb_ R2
      replace rB2 := keep hb_ rB2
      replace hw := Below.after hw hb_
      clear hb_
      refine hK_ _ _ (trivial) ?_
      simp only [Act.put, List.getElem_toArray, List.getElem_cons_succ, List.getElem_cons_zero, List.setIfInBounds_toArray, List.set_cons_succ, List.set_cons_zero]
      clear hK_
      generalize q23.alloc (.cells #[.int .u8 1] 5) = q31 at *
      generalize q23.heap.size = g32 at *
      refine wpAnyH_one (k := 2) (fuel := 3) (by kernel_rfl) rfl (by kernel_rfl) (fun K_ hK_ => ?_)
      have hB1_ : Bys q31 (.slice (some ⟨w.heap.size, 0, none⟩) 32 32) key := by
        have h := Bys.of_row R0 (by omega) hkz 32
        rw [hkl] at h
        exact h
      have hB2_ : Bys q31 (.slice (some ⟨g24, 0, none⟩) 1 1) [2] := Bys.of_row (l := [2]) rB2 (by decide) (by decide) 1
      refine wp_call_ex (f := 30) (by kernel_rfl) (ex1 (r_sum4 key [2] q31 _ _ ⟨hB1_, by omega, fun a l c h h2 => by cases h; cases h2⟩ ⟨hB2_, by decide, fun a l c h h2 => by cases h; cases h2⟩ (by decide))) (fun v_ q33 hX_ => ?_)
      obtain ⟨rfl, hb_⟩ := hX_
      replace R0 := keep hb_ R0
      replace R1 := keep hb_ R1
      replace R2 := keep hb_ R2
      replace rB2 := keep hb_ rB2
      replace rB1 := keep hb_ rB1
      replace hw := Below.after hw hb_
      clear hb_
      clear hB1_ hB2_
      refine hK_ _ _ (trivial) ?_
      simp only [Act.put, List.getElem_toArray, List.getElem_cons_succ, List.getElem_cons_zero, List.setIfInBounds_toArray, List.set_cons_succ, List.set_cons_zero]
      clear hK_
      refine wpAnyH_one (k := 5) (fuel := 2) (by kernel_rfl) rfl (by kernel_rfl) (fun K_ hK_ => ?_)
      have hB1_ : Bys q33 (.slice (some ⟨w.heap.size, 0, none⟩) 32 32) key := by
        have h := Bys.of_row R0 (by omega) hkz 32
        rw [hkl] at h
        exact h
      have hB2_ : Bys q33 (.slice (some ⟨g32, 0, none⟩) 1 1) [1] := Bys.of_row (l := [1]) rB1 (by decide) (by decide) 1
      refine wp_call_ex (f := 30) (by kernel_rfl) (ex1 (r_sum4 key [1] q33 _ _ ⟨hB1_, by omega, fun a l c h h2 => by cases h; cases h2⟩ ⟨hB2_, by decide, fun a l c h h2 => by cases h; cases h2⟩ (by decide))) (fun v_ q34 hX_ => ?_)
      obtain ⟨rfl, hb_⟩ := hX_
      replace R0 := keep hb_ R0
      replace R1 := keep hb_ R1
      replace R2 := keep hb_ R2
      replace rB2 := keep hb_ rB2
      replace rB1 := keep hb_ rB1
      replace hw := Below.after hw hb_
      clear hb_
      clear hB1_ hB2_
      refine hK_ _ _ (trivial) ?_
      simp only [Act.put, List.getElem_toArray, List.getElem_cons_succ, List.getElem_cons_zero, List.setIfInBounds_toArray, List.set_cons_succ, List.set_cons_zero]
      clear hK_
      refine wpAnyH_one (k := 6) (fuel := 1) (by kernel_rfl) rfl (by kernel_rfl) (fun K_ hK_ => ?_)
      clear rB1 rB2 R0
      refine wp_store_row 23 _ _ rfl (w.heap.size + 1) (irow .u8 (hm key [2])) rfl rfl 23 _ R1 (infok8 _ l2) (fit32 _ _ (zr_len 32) l2) (irow_one _ _) ?_
      replace R2 := (setRow_other q34 (w.heap.size + 1) (w.heap.size + 1 + 1) (irow .u8 (hm key [2])) (by omega)).trans R2
      replace R1 := setRow_heap q34 (w.heap.size + 1) _ (irow .u8 (hm key [2])) _ _ R1
      replace hw := below_setRow hw (show w.heap.size ≤ w.heap.size + 1 by omega) (irow .u8 (hm key [2]))
      refine hK_ _ _ (trivial) ?_
      simp only [Act.put]
      clear hK_
      generalize q34.setRow (w.heap.size + 1) (irow .u8 (hm key [2])) = q35 at *
      refine wpAnyH_one (k := 7) (fuel := 0) (by kernel_rfl) rfl (by kernel_rfl) (fun K_ hK_ => ?_)
      refine wp_store_row 23 _ _ rfl (w.heap.size + 1 + 1) (irow .u8 (hm key [1])) rfl rfl 23 _ R2 (infok8 _ l1) (fit32 _ _ (zr_len 32) l1) (irow_one _ _) ?_
      replace R1 := (setRow_other q35 (w.heap.size + 1 + 1) (w.heap.size + 1) (irow .u8 (hm key [1])) (by omega)).trans R1
      replace R2 := setRow_heap q35 (w.heap.size + 1 + 1) _ (irow .u8 (hm key [1])) _ _ R2
      replace hw := below_setRow hw (show w.heap.size ≤ w.heap.size + 1 + 1 by omega) (irow .u8 (hm key [1]))
      refine hK_ _ _ (trivial) ?_
      simp only [Act.put]
      clear hK_
      generalize q35.setRow (w.heap.size + 1 + 1) (irow .u8 (hm key [1])) = q36 at *
      refine wpAnyH_done (by kernel_rfl) ?_ _
      refine NoPanic.normal ?_
      go_wp2
      exact bodyPost_ret (results_cell2_row Tryd.results9 _ _ (w.heap.size + 1) (w.heap.size + 1 + 1) _ _ _ _ _ _ _ rfl rfl R1 R2 Tryd.underlying23 rfl (infok8 _ l2) (infok8 _ l1)) rfl ⟨rfl, hw⟩
  · refine wp_world_op (.slice (some ⟨w1.heap.size, 0, none⟩) 1 1) (w1.alloc (.cells #[.int .u8 1] 5)) (by kernel_rfl) ?_
    have hb_ : Below w1.heap.size w1 (w1.alloc (.cells #[.int .u8 1] 5)) := (Below.refl _ _).alloc (Nat.le_refl _) _
    have sz_g38 : w.heap.size ≤ w1.heap.size := hw.size
    have lt_R0_g38 := lt_of_row R0
    have lt_R1_g38 := lt_of_row R1
    have lt_R2_g38 := lt_of_row R2
    have rB1 := hp1_0 w1 (.cells #[.int .u8 1] 5)
    replace R0 := keep hb_ R0
    replace R1 := keep hb_ R1
    replace R2 := keep hb_ R2
    replace hw := Below.after hw hb_
    clear hb_
    refine hK_ _ _ (trivial) ?_
    simp only [Act.put, List.getElem_toArray, List.getElem_cons_succ, List.getElem_cons_zero, List.setIfInBounds_toArray, List.set_cons_succ, List.set_cons_zero]
    clear hK_
    generalize w1.alloc (.cells #[.int .u8 1] 5) = q37 at *
    generalize w1.heap.size = g38 at *
    refine wpAnyH_one (k := 1) (fuel := 4) (by kernel_rfl) rfl (by kernel_rfl) (fun K_ hK_ => ?_)
    refine wp_world_op (.slice (some ⟨q37.heap.size, 0, none⟩) 1 1) (q37.alloc (.cells #[.int .u8 2] 5)) (by kernel_rfl) ?_
    have hb_ : Below q37.heap.size q37 (q37.alloc (.cells #[.int .u8 2] 5)) := (Below.refl _ _).alloc (Nat.le_refl _) _
    have sz_g40 : w.heap.size ≤ q37.heap.size := hw.size
    have lt_R0_g40 := lt_of_row R0
    have lt_R1_g40 := lt_of_row R1
    have lt_R2_g40 := lt_of_row R2
    have lt_rB1_g40 := lt_of_row rB1
    have rB2 := hp1_0 q37 (.cells #[.int .u8 2] 5)
    replace R0 := keep hb_ R0
    replace R1 := keep hb_ R1
    replace R2 := keep hb_ R2
    replace rB1 := keep hb_ rB1
    replace hw := Below.after hw hb_
    clear hb_
    refine hK_ _ _ (trivial) ?_
    simp only [Act.put, List.getElem_toArray, List.getElem_cons_succ, List.getElem_cons_zero, List.setIfInBounds_toArray, List.set_cons_succ, List.set_cons_zero]
    clear hK_
    generalize q37.alloc (.cells #[.int .u8 2] 5) = q39 at *
    generalize q37.heap.size = g40 at *
    refine wpAnyH_one (k := 2) (fuel := 3) (by kernel_rfl) rfl (by kernel_rfl) (fun K_ hK_ => ?_)
    have hB1_ : Bys q39 (.slice (some ⟨w.heap.size, 0, none⟩) 32 32) key := by
      have h := Bys.of_row R0 (by omega) hkz 32
      rw [hkl] at h
      exact h
    have hB2_ : Bys q39 (.slice (some ⟨g40, 0, none⟩) 1 1) [2] := Bys.of_row (l := [2]) rB2 (by decide) (by decide) 1
    refine wp_call_ex (f := 30) (by kernel_rfl) (ex1 (r_sum4 key [2] q39 _ _ ⟨hB1_, by omega, fun a l c h h2 => by cases h; cases h2⟩ ⟨hB2_, by decide, fun a l c h h2 => by cases h; cases h2⟩ (by decide))) (fun v_ q41 hX_ => ?_)
    obtain ⟨rfl, hb_⟩ := hX_
    replace R0 := keep hb_ R0
    replace R1 := keep hb_ R1
    replace R2 := keep hb_ R2
    replace rB1 := keep hb_ rB1
    replace rB2 := keep hb_ rB2
    replace hw := Below.after hw hb_
    clear hb_
    clear hB1_ hB2_
    refine hK_ _ _ (trivial) ?_
    simp only [Act.put, List.getElem_toArray, List.getElem_cons_succ, List.getElem_cons_zero, List.setIfInBounds_toArray, List.set_cons_succ, List.set_cons_zero]
    clear hK_
    refine wpAnyH_one (k := 5) (fuel := 2) (by kernel_rfl) rfl (by kernel_rfl) (fun K_ hK_ => ?_)
    have hB1_ : Bys q41 (.slice (some ⟨w.heap.size, 0, none⟩) 32 32) key := by
      have h := Bys.of_row R0 (by omega) hkz 32
      rw [hkl] at h
      exact h
    have hB2_ : Bys q41 (.slice (some ⟨g38, 0, none⟩) 1 1) [1] := Bys.of_row (l := [1]) rB1 (by decide) (by decide) 1
    refine wp_call_ex (f := 30) (by kernel_rfl) (ex1 (r_sum4 key [1] q41 _ _ ⟨hB1_, by omega, fun a l c h h2 => by cases h; cases h2⟩ ⟨hB2_, by decide, fun a l c h h2 => by cases h; cases h2⟩ (by decide))) (fun v_ q42 hX_ => ?_)
    obtain ⟨rfl, hb_⟩ := hX_
    replace R0 := keep hb_ R0
    replace R1 := keep hb_ R1
    replace R2 := keep hb_ R2
    replace rB1 := keep hb_ rB1
    replace rB2 := keep hb_ rB2
    replace hw := Below.after hw hb_
    clear hb_
    clear hB1_ hB2_
    refine hK_ _ _ (trivial) ?_
    simp only [Act.put, List.getElem_toArray, List.getElem_cons_succ, List.getElem_cons_zero, List.setIfInBounds_toArray, List.set_cons_succ, List.set_cons_zero]
    clear hK_
    refine wpAnyH_one (k := 6) (fuel := 1) (by kernel_rfl) rfl (by kernel_rfl) (fun K_ hK_ => ?_)
    clear rB1 rB2 R0
    refine wp_store_row 23 _ _ rfl (w.heap.size + 1) (irow .u8 (hm key [2])) rfl rfl 23 _ R1 (infok8 _ l2) (fit32 _ _ (zr_len 32) l2) (irow_one _ _) ?_
    replace R2 := (setRow_other q42 (w.heap.size + 1) (w.heap.size + 1 + 1) (irow .u8 (hm key [2])) (by omega)).trans R2
    replace R1 := setRow_heap q42 (w.heap.size + 1) _ (irow .u8 (hm key [2])) _ _ R1
    replace hw := below_setRow hw (show w.heap.size ≤ w.heap.size + 1 by omega) (irow .u8 (hm key [2]))
    refine hK_ _ _ (trivial) ?_
    simp only [Act.put]
    clear hK_
    generalize q42.setRow (w.heap.size + 1) (irow .u8 (hm key [2])) = q43 at *
    refine wpAnyH_one (k := 7) (fuel := 0) (by kernel_rfl) rfl (by kernel_rfl) (fun K_ hK_ => ?_)
    refine wp_store_row 23 _ _ rfl (w.heap.size + 1 + 1) (irow .u8 (hm key [1])) rfl rfl 23 _ R2 (infok8 _ l1) (fit32 _ _ (zr_len 32) l1) (irow_one _ _) ?_
    replace R1 := (setRow_other q43 (w.heap.size + 1 + 1) (w.heap.size + 1) (irow .u8 (hm key [1])) (by omega)).trans R1
    replace R2 := setRow_heap q43 (w.heap.size + 1 + 1) _ (irow .u8 (hm key [1])) _ _ R2
    replace hw := below_setRow hw (show w.heap.size ≤ w.heap.size + 1 + 1 by omega) (irow .u8 (hm key [1]))
    refine hK_ _ _ (trivial) ?_
    simp only [Act.put]
    clear hK_
    generalize q43.setRow (w.heap.size + 1 + 1) (irow .u8 (hm key [1])) = q44 at *
    refine wpAnyH_done (by kernel_rfl) ?_ _
    refine NoPanic.normal ?_
    go_wp2
    exact bodyPost_ret (results_cell2_row Tryd.results9 _ _ (w.heap.size + 1) (w.heap.size + 1 + 1) _ _ _ _ _ _ _ rfl rfl R1 R2 Tryd.underlying23 rfl (infok8 _ l2) (infok8 _ l1)) rfl ⟨rfl, hw⟩

end Go.Proofs.YtmflfdedhbnfnaaDoor

namespace Go.Proofs.YtmflfdedhbnfnaaDoor
set_option maxRecDepth 100000
open Go Go.RowKit Go.Sort
attribute [local go_sem] setCell_drewN alloc_drewN

/-- Bytes of a constant, turned to bytes. -/
theorem wp_convert {P : Program} {o : Oper} {a : Act} {w : World} {K : Act → World → Prop} {Q : Exit → Act → World → Prop} (t u : TypeId) (x : Operand) (ho : o.op = .convert t u x) (v v' : Value) (w' : World) (hx : a.eval x = v) (hr : (convert t u v).run P w = .ok v' w') (h : K (a.put o.dst v') w') : o.wp P a w K Q := by
  unfold Oper.wp
  simp [execOp, ho, hx, hr, Result.andThen]
  exact h
def rtn : List Int := [112, 97, 119, 108, 32, 114, 111, 111, 116]
def msn : List Int := [112, 97, 119, 108, 32, 109, 101, 115, 115, 97, 103, 101]
theorem rtn_bd : ∀ z ∈ rtn, 0 ≤ z ∧ z < 256 := by decide
theorem msn_bd : ∀ z ∈ msn, 0 ≤ z ∧ z < 256 := by decide
theorem rtn_bys (W : World) : Bys (W.alloc (.cells #[.int .u8 112, .int .u8 97, .int .u8 119, .int .u8 108, .int .u8 32, .int .u8 114, .int .u8 111, .int .u8 111, .int .u8 116] 5 (9, 10))) (.slice (some ⟨W.heap.size, 0, none⟩) 9 9) rtn := bys_rowF (l := rtn) (hp1_0 W _) (by decide) rtn_bd rfl
theorem msn_bys (W : World) : Bys (W.alloc (.cells #[.int .u8 112, .int .u8 97, .int .u8 119, .int .u8 108, .int .u8 32, .int .u8 109, .int .u8 101, .int .u8 115, .int .u8 115, .int .u8 97, .int .u8 103, .int .u8 101] 5 (12, 13))) (.slice (some ⟨W.heap.size, 0, none⟩) 12 12) msn := bys_rowF (l := msn) (hp1_0 W _) (by decide) msn_bd rfl
/-- Root's 96 bytes, Message's 48. -/
def rts (r s : List Int) : List Int := xpd (hm r s) rtn 96
def mss (k : List Int) : List Int := xpd k msn 48
theorem rts_len (r s : List Int) : (rts r s).length = 96 := xpd_len _ _ _
theorem mss_len (k : List Int) : (mss k).length = 48 := xpd_len _ _ _
theorem rts_bd (r s : List Int) : ∀ z ∈ rts r s, 0 ≤ z ∧ z < 256 := xpd_bd _ _ _
theorem mss_bd (k : List Int) : ∀ z ∈ mss k, 0 ≤ z ∧ z < 256 := xpd_bd _ _ _
/-- So many bytes from a place on. -/
def pt (l : List Int) (o n : Nat) : List Int := (l.drop o).take n
theorem pt_len (l : List Int) (o n : Nat) (h : o + n ≤ l.length) : (pt l o n).length = n := by simp [pt]; omega
theorem pt_bd {l : List Int} (h : ∀ z ∈ l, 0 ≤ z ∧ z < 256) (o n : Nat) : ∀ z ∈ pt l o n, 0 ≤ z ∧ z < 256 := fun z hz => h z (List.mem_of_mem_drop (List.mem_of_mem_take hz))
theorem pt_ext (l : List Int) (o n : Nat) (k : IntKind) (h : o + n ≤ l.length) : (irow k l).extract o (o + (irow k (pt l o n)).size) = irow k (pt l o n) := by
  have hs : (irow k (pt l o n)).size = n := by rw [irow_size, pt_len l o n h]
  rw [hs]
  apply Array.ext'
  simp [irow, pt, List.map_take, List.map_drop, List.extract_eq_take_drop]
theorem pt_get (l : List Int) (o n i : Nat) (h : i < n) : (pt l o n).getD i 0 = l.getD (o + i) 0 := by
  simp only [pt, List.getD_eq_getElem?_getD, List.getElem?_take_of_lt h, List.getElem?_drop]
theorem arr_n (g o c : Nat) (W : World) : (Instr.arrayAt 29 (.slice (some ⟨g, o, none⟩) 16 c)).run Tryd.prog W = .ok (.pointer (some ⟨g, o, none⟩)) W := by kernel_rfl
theorem infoN (l : List Int) (hl : l.length = 16) : (Tryd.prog.info? 29).map (·.size) = some (irow .u8 l).size := by
  rw [irow_size, hl]; kernel_rfl
theorem zno (W : World) : (Instr.alloc 29 true (.tuple #[])).run Tryd.prog W = .ok (.pointer (some ⟨W.heap.size, 0, none⟩)) (W.alloc (.cells (irow .u8 (zr 16)) 29)) := by kernel_rfl
theorem fit16 (a b : List Int) (ha : a.length = 16) (hb : b.length = 16) : (irow .u8 a).size = (irow .u8 b).size := by rw [irow_size, irow_size, ha, hb]
/-- Three results that lie in rows; two of two kinds. -/
theorem results_cell3_row {P : Program} {fn : Func} {p q r : Tmp} {ty : TypeId} (h : fn.results = #[.cell p ty, .cell q ty, .cell r ty]) (tmps : Array Value) (w : World) (g k m : Nat) (t u x : TypeId) (cs ds es : Array Value) (fr gr er : Nat × Nat) (d : TypeDesc)
    (hp : tmps.getD p undef = .pointer (some ⟨g, 0, none⟩)) (hq : tmps.getD q undef = .pointer (some ⟨k, 0, none⟩)) (hr : tmps.getD r undef = .pointer (some ⟨m, 0, none⟩)) (hg : w.heap[g]? = some (.cells cs t fr)) (hk : w.heap[k]? = some (.cells ds u gr)) (hm : w.heap[m]? = some (.cells es x er))
    (hu : P.underlying ty = some d) (hd : (match d with | .struct _ | .array _ _ => true | _ => false) = true) (hi : (P.info? ty).map (·.size) = some cs.size) (hj : (P.info? ty).map (·.size) = some ds.size) (hl : (P.info? ty).map (·.size) = some es.size) :
    (results fn tmps).run P w = .ok (.tuple #[.agg cs, .agg ds, .agg es]) w := by
  have hp' : tmps[p]?.getD undef = .pointer (some ⟨g, 0, none⟩) := by simpa using hp
  have hq' : tmps[q]?.getD undef = .pointer (some ⟨k, 0, none⟩) := by simpa using hq
  have hr' : tmps[r]?.getD undef = .pointer (some ⟨m, 0, none⟩) := by simpa using hr
  simp [results, h, hp', hq', hr', asAddr, run_loadVar_row w g t ty cs fr d hg hu hd hi, run_loadVar_row w k u ty ds gr d hk hu hd hj, run_loadVar_row w m x ty es er d hm hu hd hl]
theorem results_cell_cell {P : Program} {fn : Func} {p q : Tmp} {ty tz : TypeId} (h : fn.results = #[.cell p ty, .cell q tz]) (tmps : Array Value) (w : World) (g k : Nat) (t u : TypeId) (cs ds : Array Value) (fr gr : Nat × Nat) (d d2 : TypeDesc)
    (hp : tmps.getD p undef = .pointer (some ⟨g, 0, none⟩)) (hq : tmps.getD q undef = .pointer (some ⟨k, 0, none⟩)) (hg : w.heap[g]? = some (.cells cs t fr)) (hk : w.heap[k]? = some (.cells ds u gr))
    (hu : P.underlying ty = some d) (hd : (match d with | .struct _ | .array _ _ => true | _ => false) = true) (hu2 : P.underlying tz = some d2) (hd2 : (match d2 with | .struct _ | .array _ _ => true | _ => false) = true) (hi : (P.info? ty).map (·.size) = some cs.size) (hj : (P.info? tz).map (·.size) = some ds.size) :
    (results fn tmps).run P w = .ok (.tuple #[.agg cs, .agg ds]) w := by
  have hp' : tmps[p]?.getD undef = .pointer (some ⟨g, 0, none⟩) := by simpa using hp
  have hq' : tmps[q]?.getD undef = .pointer (some ⟨k, 0, none⟩) := by simpa using hq
  simp [results, h, hp', hq', asAddr, run_loadVar_row w g t ty cs fr d hg hu hd hi, run_loadVar_row w k u tz ds gr d2 hk hu2 hd2 hj]
theorem sl_0 (g : Nat) (W : World) : (Instr.sliceAt 66 (.slice (some ⟨g, 0, none⟩) 96 96) none (some (.int .i64 32)) none).run Tryd.prog W = .ok (.slice (some ⟨g, 0, none⟩) 32 96) W := by kernel_rfl
theorem sl_1 (g : Nat) (W : World) : (Instr.sliceAt 66 (.slice (some ⟨g, 0, none⟩) 96 96) (some (.int .i64 32)) (some (.int .i64 64)) none).run Tryd.prog W = .ok (.slice (some ⟨g, 32, none⟩) 32 64) W := by kernel_rfl
theorem sl_2 (g : Nat) (W : World) : (Instr.sliceAt 66 (.slice (some ⟨g, 0, none⟩) 96 96) (some (.int .i64 64)) none none).run Tryd.prog W = .ok (.slice (some ⟨g, 64, none⟩) 32 32) W := by kernel_rfl
theorem sm_0 (g : Nat) (W : World) : (Instr.sliceAt 66 (.slice (some ⟨g, 0, none⟩) 48 48) none (some (.int .i64 32)) none).run Tryd.prog W = .ok (.slice (some ⟨g, 0, none⟩) 32 48) W := by kernel_rfl
theorem sm_1 (g : Nat) (W : World) : (Instr.sliceAt 66 (.slice (some ⟨g, 0, none⟩) 48 48) (some (.int .i64 32)) none none).run Tryd.prog W = .ok (.slice (some ⟨g, 32, none⟩) 16 16) W := by kernel_rfl
set_option maxRecDepth 100000 in
set_option maxHeartbeats 4000000 in
theorem a_Root (root secret : List Int) (hrl : root.length = 32) (hsl : secret.length = 32) (hrz : ∀ z ∈ root, 0 ≤ z ∧ z < 256) (hsz : ∀ z ∈ secret, 0 ≤ z ∧ z < 256) (w : World) (hS : Sta w) (hK : Kon w) : Calls Tryd.prog 10 #[.agg (irow .u8 root), .agg (irow .u8 secret)] w fun e w' => e = .returned (.tuple #[.agg (irow .u8 (pt (rts root secret) 0 32)), .agg (irow .u8 (pt (rts root secret) 32 32)), .agg (irow .u8 (pt (rts root secret) 64 32))]) ∧ Below w.heap.size w w' := by
  have hxl := rts_len root secret
  have l0 : (pt (rts root secret) 0 32).length = 32 := pt_len _ _ _ (by omega)
  have l32 : (pt (rts root secret) 32 32).length = 32 := pt_len _ _ _ (by omega)
  have l64 : (pt (rts root secret) 64 32).length = 32 := pt_len _ _ _ (by omega)
  have x0 := pt_ext (rts root secret) 0 32 .u8 (by omega)
  have x32 := pt_ext (rts root secret) 32 32 .u8 (by omega)
  have x64 := pt_ext (rts root secret) 64 32 .u8 (by omega)
  have hR : Hid (rts root secret = xpd (hm root secret) rtn 96) := hide rfl
  have R0 := hp5_0 w (.cells (irow .u8 root) 23) (.cells (irow .u8 secret) 23) (.cells (irow .u8 (zr 32)) 23) (.cells (irow .u8 (zr 32)) 23) (.cells (irow .u8 (zr 32)) 23)
  have R1 := hp5_1 w (.cells (irow .u8 root) 23) (.cells (irow .u8 secret) 23) (.cells (irow .u8 (zr 32)) 23) (.cells (irow .u8 (zr 32)) 23) (.cells (irow .u8 (zr 32)) 23)
  have R2 := hp5_2 w (.cells (irow .u8 root) 23) (.cells (irow .u8 secret) 23) (.cells (irow .u8 (zr 32)) 23) (.cells (irow .u8 (zr 32)) 23) (.cells (irow .u8 (zr 32)) 23)
  have R3 := hp5_3 w (.cells (irow .u8 root) 23) (.cells (irow .u8 secret) 23) (.cells (irow .u8 (zr 32)) 23) (.cells (irow .u8 (zr 32)) 23) (.cells (irow .u8 (zr 32)) 23)
  have R4 := hp5_4 w (.cells (irow .u8 root) 23) (.cells (irow .u8 secret) 23) (.cells (irow .u8 (zr 32)) 23) (.cells (irow .u8 (zr 32)) 23) (.cells (irow .u8 (zr 32)) 23)
  have hw : Below w.heap.size w (((((w.alloc (.cells (irow .u8 root) 23)).alloc (.cells (irow .u8 secret) 23)).alloc (.cells (irow .u8 (zr 32)) 23)).alloc (.cells (irow .u8 (zr 32)) 23)).alloc (.cells (irow .u8 (zr 32)) 23)) := ((((((Below.refl _ _).alloc (Nat.le_refl _) _).alloc (by simp) _).alloc (by simp; omega) _).alloc (by simp; omega) _).alloc (by simp; omega) _)
  have sk := slice_k w.heap.size
  have sk1 := slice_k (w.heap.size + 1)
  have f0 := hS.below hw
  have f4 := hK.below hw
  go_enter Tryd.func10, Tryd.ntmps10
  go_wp2_with (first | (refine wpList_box rfl 23 _ rfl _ rfl (bK _) ?_) | (refine wpList_alloc rfl 23 rfl (irow .u8 (zr 32)) zkey ?_) | fail)
  try simp only [size_alloc1, Act.put, List.setIfInBounds_toArray, List.set_cons_succ, List.set_cons_zero]
  generalize (((((w.alloc (.cells (irow .u8 root) 23)).alloc (.cells (irow .u8 secret) 23)).alloc (.cells (irow .u8 (zr 32)) 23)).alloc (.cells (irow .u8 (zr 32)) 23)).alloc (.cells (irow .u8 (zr 32)) 23)) = w0 at *
  have hbd : Below w0.heap.size w0 w0.drew := below_drN (Below.refl _ _) 1
  replace R0 := keep hbd R0
  replace R1 := keep hbd R1
  replace R2 := keep hbd R2
  replace R3 := keep hbd R3
  replace R4 := keep hbd R4
  replace f0 := f0.below hbd
  replace f4 := f4.below hbd
  replace hw := Below.after hw hbd
  clear hbd
  refine wp_region_noPanic ?_
  refine wp_region_held (S := fun _ => True) (by kernel_rfl) ?_
  change wpAnyH _ _ _ _ _ _ _ _ (World.drew _)
  generalize w0.drew = w1 at *
  refine wpAnyH_take (i := 0) (v := ?v1020) rfl (by kernel_rfl) (by kernel_rfl) (by kernel_rfl) (fun _ _ _ h => h) (Or.inl ⟨by rfl, ?y1020⟩) (trivial) ?r1020
  case y1020 =>
    intro w_ hS_
    go_simp
    try with_reducible rfl
  simp only [Act.put, List.getElem_toArray, List.getElem_cons_zero, List.setIfInBounds_toArray, List.set_cons_succ, List.set_cons_zero]
  refine wpAnyH_take (i := 1) (v := ?v1021) rfl (by kernel_rfl) (by kernel_rfl) (by kernel_rfl) (fun _ _ _ h => h) (Or.inl ⟨by rfl, ?y1021⟩) (trivial) ?r1021
  case y1021 =>
    intro w_ hS_
    go_simp
    try with_reducible rfl
  simp only [Act.put, List.getElem_toArray, List.getElem_cons_succ, List.getElem_cons_zero, List.setIfInBounds_toArray, List.set_cons_succ, List.set_cons_zero]
  refine wpAnyH_one (k := 2) (fuel := 7) (by kernel_rfl) rfl (by kernel_rfl) (fun K_ hK_ => ?_)
  refine wp_world_op (.slice (some ⟨w1.heap.size, 0, none⟩) 9 9) (w1.alloc (.cells #[.int .u8 112, .int .u8 97, .int .u8 119, .int .u8 108, .int .u8 32, .int .u8 114, .int .u8 111, .int .u8 111, .int .u8 116] 5)) (by kernel_rfl) ?_
  refine hK_ _ _ (trivial) ?_
  simp only [Act.put, List.getElem_toArray, List.getElem_cons_succ, List.getElem_cons_zero, List.setIfInBounds_toArray, List.set_cons_succ, List.set_cons_zero]
  clear hK_
  refine wpAnyH_one (k := 3) (fuel := 6) (by kernel_rfl) rfl (by kernel_rfl) (fun K_ hK_ => ?_)
  refine wp_convert 66 66 _ rfl _ (.slice (some ⟨w1.heap.size, 0, none⟩) 9 9) (w1.alloc (.cells #[.int .u8 112, .int .u8 97, .int .u8 119, .int .u8 108, .int .u8 32, .int .u8 114, .int .u8 111, .int .u8 111, .int .u8 116] 5 (9, 10))) rfl (Go.Lib.run_convert_bytes_const (P := Tryd.prog) w1 66 5 #[.int .u8 112, .int .u8 97, .int .u8 119, .int .u8 108, .int .u8 32, .int .u8 114, .int .u8 111, .int .u8 111, .int .u8 116] 9 9 Tryd.underlying66 Tryd.underlying5) ?_
  have hb_ : Below w1.heap.size w1 (w1.alloc (.cells #[.int .u8 112, .int .u8 97, .int .u8 119, .int .u8 108, .int .u8 32, .int .u8 114, .int .u8 111, .int .u8 111, .int .u8 116] 5 (9, 10))) := (Below.refl _ _).alloc (Nat.le_refl _) _
  have hN := rtn_bys w1
  have sz_g8 : w.heap.size ≤ w1.heap.size := hw.size
  replace R0 := keep hb_ R0
  replace R1 := keep hb_ R1
  replace R2 := keep hb_ R2
  replace R3 := keep hb_ R3
  replace R4 := keep hb_ R4
  replace f0 := f0.below hb_
  replace f4 := f4.below hb_
  replace hw := Below.after hw hb_
  clear hb_
  refine hK_ _ _ (trivial) ?_
  simp only [Act.put, List.getElem_toArray, List.getElem_cons_succ, List.getElem_cons_zero, List.setIfInBounds_toArray, List.set_cons_succ, List.set_cons_zero]
  clear hK_
  generalize w1.alloc (.cells #[.int .u8 112, .int .u8 97, .int .u8 119, .int .u8 108, .int .u8 32, .int .u8 114, .int .u8 111, .int .u8 111, .int .u8 116] 5 (9, 10)) = q7 at *
  generalize w1.heap.size = g8 at *
  refine wpAnyH_one (k := 4) (fuel := 5) (by kernel_rfl) rfl (by kernel_rfl) (fun K_ hK_ => ?_)
  have hB1_ : Bys q7 (.slice (some ⟨w.heap.size, 0, none⟩) 32 32) root := by
    have h := Bys.of_row R0 (by omega) hrz 32
    rw [hrl] at h
    exact h
  have hB2_ : Bys q7 (.slice (some ⟨w.heap.size + 1, 0, none⟩) 32 32) secret := by
    have h := Bys.of_row R1 (by omega) hsz 32
    rw [hsl] at h
    exact h
  have szq := hw.size
  have ltR2 := lt_of_row R2
  have ltR3 := lt_of_row R3
  have ltR4 := lt_of_row R4
  refine wp_call_ex (f := 27) (by kernel_rfl) (a_derive root secret rtn 96 q7 _ _ _ f0 f4 hB1_ (fun a l c h => by cases h; exact Nat.le_refl _) (by omega) hB2_ (fun a l c h => by cases h; exact Nat.le_refl _) (by omega) hN (fun a l c h => by cases h; exact Nat.le_refl _) (by decide)) (fun v_ q9 hX_ => ?_)
  obtain ⟨hX2_, hb_⟩ := hX_
  replace R0 := keep hb_ R0
  replace R1 := keep hb_ R1
  replace R2 := keep hb_ R2
  replace R3 := keep hb_ R3
  replace R4 := keep hb_ R4
  replace f0 := f0.below hb_
  replace f4 := f4.below hb_
  replace hw := Below.after hw hb_
  clear hb_
  clear hB1_ hB2_ hN
  obtain ⟨m_, g, hm_, _, rfl, lg, rg⟩ | ⟨hm_, _⟩ := hX2_
  rotate_left
  · exact absurd hm_ (by decide)
  obtain rfl : m_ = 96 := by omega
  clear hm_
  rw [← hR.out] at rg
  refine hK_ _ _ (trivial) ?_
  simp only [Act.put, List.getElem_toArray, List.getElem_cons_succ, List.getElem_cons_zero, List.setIfInBounds_toArray, List.set_cons_succ, List.set_cons_zero]
  clear hK_
  refine wpAnyH_take (i := 5) (v := ?v1022) rfl (by kernel_rfl) (by kernel_rfl) (by kernel_rfl) (fun _ _ _ h => h) (Or.inl ⟨by rfl, ?y1022⟩) (trivial) ?r1022
  case y1022 =>
    intro w_ hS_
    go_simp
    try with_reducible rfl
  simp only [Act.put, List.getElem_toArray, List.getElem_cons_succ, List.getElem_cons_zero, List.setIfInBounds_toArray, List.set_cons_succ, List.set_cons_zero]
  refine wpAnyH_take (i := 6) (v := ?v1023) rfl (by kernel_rfl) (by kernel_rfl) (by kernel_rfl) (fun _ _ _ h => h) (Or.inl ⟨by rfl, ?y1023⟩) (trivial) ?r1023
  case y1023 =>
    intro w_ hS_
    go_simp
    try with_reducible rfl
  simp only [Act.put, List.getElem_toArray, List.getElem_cons_succ, List.getElem_cons_zero, List.setIfInBounds_toArray, List.set_cons_succ, List.set_cons_zero]
  refine wpAnyH_take (i := 7) (v := ?v1024) rfl (by kernel_rfl) (by kernel_rfl) (by kernel_rfl) (fun _ _ _ h => h) (Or.inl ⟨by rfl, ?y1024⟩) (trivial) ?r1024
  case y1024 =>
    intro w_ hS_
    go_simp
    try with_reducible rfl
  simp only [Act.put, List.getElem_toArray, List.getElem_cons_succ, List.getElem_cons_zero, List.setIfInBounds_toArray, List.set_cons_succ, List.set_cons_zero]
  refine wpAnyH_take (i := 8) (v := ?v1025) rfl (by kernel_rfl) (by kernel_rfl) (by kernel_rfl) (fun _ _ _ h => h) (Or.inl ⟨by rfl, ?y1025⟩) (trivial) ?r1025
  case y1025 =>
    intro w_ hS_
    go_simp
    try with_reducible rfl
  simp only [Act.put, List.getElem_toArray, List.getElem_cons_succ, List.getElem_cons_zero, List.setIfInBounds_toArray, List.set_cons_succ, List.set_cons_zero]
  refine wpAnyH_take (i := 9) (v := ?v1026) rfl (by kernel_rfl) (by kernel_rfl) (by kernel_rfl) (fun _ _ _ h => h) (Or.inl ⟨by rfl, ?y1026⟩) (trivial) ?r1026
  case y1026 =>
    intro w_ hS_
    go_simp
    try with_reducible rfl
  simp only [Act.put, List.getElem_toArray, List.getElem_cons_succ, List.getElem_cons_zero, List.setIfInBounds_toArray, List.set_cons_succ, List.set_cons_zero]
  refine wpAnyH_done (by kernel_rfl) ?_ _
  refine NoPanic.normal ?_
  clear f0 f4 R0 R1
  have ap0 := arr_k g 0 96
  have ap1 := arr_k g 32 64
  have ap2 := arr_k g 64 32
  have s0 := sl_0 g
  have s1 := sl_1 g
  have s2 := sl_2 g
  go_wp2_with (fail)
  have hbd : Below q9.heap.size q9 q9.drew := below_drN (Below.refl _ _) 1
  replace R2 := keep hbd R2
  replace R3 := keep hbd R3
  replace R4 := keep hbd R4
  replace rg := keep hbd rg
  replace hw := Below.after hw hbd
  clear hbd
  refine wp_region_noPanic ?_
  refine wp_region_held (S := fun W => W.heap[g]? = some (.cells (irow .u8 (rts root secret)) 5 (0, 0))) (by kernel_rfl) ?_
  change wpAnyH _ _ _ _ _ _ _ _ (World.drew _)
  generalize q9.drew = wy at *
  refine wpAnyH_take (i := 0) (v := ?v8) rfl (by kernel_rfl) (by kernel_rfl) (by kernel_rfl) (fun _ _ _ h => h) (Or.inl ⟨by rfl, ?y8⟩) (rg) ?r8
  case y8 =>
    intro w_ hS_
    go_simp
    try with_reducible rfl
  simp only [Act.put, List.getElem_toArray, List.getElem_cons_zero, List.setIfInBounds_toArray, List.set_cons_succ, List.set_cons_zero]
  refine wpAnyH_take (i := 1) (v := ?v9) rfl (by kernel_rfl) (by kernel_rfl) (by kernel_rfl) (fun _ _ _ h => h) (Or.inl ⟨by rfl, ?y9⟩) (rg) ?r9
  case y9 =>
    intro w_ hS_
    go_simp
    try with_reducible rfl
  simp only [Act.put, List.getElem_toArray, List.getElem_cons_succ, List.getElem_cons_zero, List.setIfInBounds_toArray, List.set_cons_succ, List.set_cons_zero]
  refine wpAnyH_take (i := 2) (v := ?v10) rfl (by kernel_rfl) (by kernel_rfl) (by kernel_rfl) (fun _ _ _ h => h) (Or.inl ⟨by rfl, ?y10⟩) (rg) ?r10
  case y10 =>
    intro w_ hS_
    go_simp
    try with_reducible rfl
  simp only [Act.put, List.getElem_toArray, List.getElem_cons_succ, List.getElem_cons_zero, List.setIfInBounds_toArray, List.set_cons_succ, List.set_cons_zero]
  refine wpAnyH_take (i := 3) (v := .agg (irow .u8 (pt (rts root secret) 0 32))) rfl (by kernel_rfl) (by kernel_rfl) (by kernel_rfl) (fun _ _ _ h => h) (Or.inl ⟨by rfl, ?y11⟩) (rg) ?r11
  case y11 =>
    intro w_ hS_
    simp only [List.getElem_toArray, List.getElem_cons_succ, List.getElem_cons_zero]
    exact run_load_part 23 _ (by rfl) (g) 0 (by rfl) 5 (irow .u8 (rts root secret)) (0, 0) (irow .u8 (pt (rts root secret) 0 32)) _ (hS_) x0 Tryd.underlying23 rfl (infok8 _ l0)
  simp only [Act.put, List.getElem_toArray, List.getElem_cons_succ, List.getElem_cons_zero, List.setIfInBounds_toArray, List.set_cons_succ, List.set_cons_zero]
  refine wpAnyH_take (i := 4) (v := ?v12) rfl (by kernel_rfl) (by kernel_rfl) (by kernel_rfl) (fun _ _ _ h => h) (Or.inl ⟨by rfl, ?y12⟩) (rg) ?r12
  case y12 =>
    intro w_ hS_
    go_simp
    try with_reducible rfl
  simp only [Act.put, List.getElem_toArray, List.getElem_cons_succ, List.getElem_cons_zero, List.setIfInBounds_toArray, List.set_cons_succ, List.set_cons_zero]
  refine wpAnyH_take (i := 5) (v := ?v13) rfl (by kernel_rfl) (by kernel_rfl) (by kernel_rfl) (fun _ _ _ h => h) (Or.inl ⟨by rfl, ?y13⟩) (rg) ?r13
  case y13 =>
    intro w_ hS_
    go_simp
    try with_reducible rfl
  simp only [Act.put, List.getElem_toArray, List.getElem_cons_succ, List.getElem_cons_zero, List.setIfInBounds_toArray, List.set_cons_succ, List.set_cons_zero]
  refine wpAnyH_take (i := 6) (v := ?v14) rfl (by kernel_rfl) (by kernel_rfl) (by kernel_rfl) (fun _ _ _ h => h) (Or.inl ⟨by rfl, ?y14⟩) (rg) ?r14
  case y14 =>
    intro w_ hS_
    go_simp
    try with_reducible rfl
  simp only [Act.put, List.getElem_toArray, List.getElem_cons_succ, List.getElem_cons_zero, List.setIfInBounds_toArray, List.set_cons_succ, List.set_cons_zero]
  refine wpAnyH_take (i := 7) (v := .agg (irow .u8 (pt (rts root secret) 32 32))) rfl (by kernel_rfl) (by kernel_rfl) (by kernel_rfl) (fun _ _ _ h => h) (Or.inl ⟨by rfl, ?y15⟩) (rg) ?r15
  case y15 =>
    intro w_ hS_
    simp only [List.getElem_toArray, List.getElem_cons_succ, List.getElem_cons_zero]
    exact run_load_part 23 _ (by rfl) (g) 32 (by rfl) 5 (irow .u8 (rts root secret)) (0, 0) (irow .u8 (pt (rts root secret) 32 32)) _ (hS_) x32 Tryd.underlying23 rfl (infok8 _ l32)
  simp only [Act.put, List.getElem_toArray, List.getElem_cons_succ, List.getElem_cons_zero, List.setIfInBounds_toArray, List.set_cons_succ, List.set_cons_zero]
  refine wpAnyH_take (i := 8) (v := ?v16) rfl (by kernel_rfl) (by kernel_rfl) (by kernel_rfl) (fun _ _ _ h => h) (Or.inl ⟨by rfl, ?y16⟩) (rg) ?r16
  case y16 =>
    intro w_ hS_
    go_simp
    try with_reducible rfl
  simp only [Act.put, List.getElem_toArray, List.getElem_cons_succ, List.getElem_cons_zero, List.setIfInBounds_toArray, List.set_cons_succ, List.set_cons_zero]
  refine wpAnyH_take (i := 9) (v := ?v17) rfl (by kernel_rfl) (by kernel_rfl) (by kernel_rfl) (fun _ _ _ h => h) (Or.inl ⟨by rfl, ?y17⟩) (rg) ?r17
  case y17 =>
    intro w_ hS_
    go_simp
    try with_reducible rfl
  simp only [Act.put, List.getElem_toArray, List.getElem_cons_succ, List.getElem_cons_zero, List.setIfInBounds_toArray, List.set_cons_succ, List.set_cons_zero]
  refine wpAnyH_take (i := 10) (v := ?v18) rfl (by kernel_rfl) (by kernel_rfl) (by kernel_rfl) (fun _ _ _ h => h) (Or.inl ⟨by rfl, ?y18⟩) (rg) ?r18
  case y18 =>
    intro w_ hS_
    go_simp
    try with_reducible rfl
  simp only [Act.put, List.getElem_toArray, List.getElem_cons_succ, List.getElem_cons_zero, List.setIfInBounds_toArray, List.set_cons_succ, List.set_cons_zero]
  refine wpAnyH_take (i := 11) (v := .agg (irow .u8 (pt (rts root secret) 64 32))) rfl (by kernel_rfl) (by kernel_rfl) (by kernel_rfl) (fun _ _ _ h => h) (Or.inl ⟨by rfl, ?y19⟩) (rg) ?r19
  case y19 =>
    intro w_ hS_
    simp only [List.getElem_toArray, List.getElem_cons_succ, List.getElem_cons_zero]
    exact run_load_part 23 _ (by rfl) (g) 64 (by rfl) 5 (irow .u8 (rts root secret)) (0, 0) (irow .u8 (pt (rts root secret) 64 32)) _ (hS_) x64 Tryd.underlying23 rfl (infok8 _ l64)
  simp only [Act.put, List.getElem_toArray, List.getElem_cons_succ, List.getElem_cons_zero, List.setIfInBounds_toArray, List.set_cons_succ, List.set_cons_zero]
  refine wpAnyH_one (k := 12) (fuel := 2) (by kernel_rfl) rfl (by kernel_rfl) (fun K_ hK_ => ?_)
  refine wp_store_row 23 _ _ rfl (w.heap.size + 1 + 1) (irow .u8 (pt (rts root secret) 0 32)) rfl rfl 23 _ R2 (infok8 _ l0) (fit32 _ _ (zr_len 32) l0) (irow_one _ _) ?_
  replace R3 := (setRow_other wy (w.heap.size + 1 + 1) (w.heap.size + 1 + 1 + 1) (irow .u8 (pt (rts root secret) 0 32)) (by omega)).trans R3
  replace R4 := (setRow_other wy (w.heap.size + 1 + 1) (w.heap.size + 1 + 1 + 1 + 1) (irow .u8 (pt (rts root secret) 0 32)) (by omega)).trans R4
  replace rg := (setRow_other wy (w.heap.size + 1 + 1) (g) (irow .u8 (pt (rts root secret) 0 32)) (by omega)).trans rg
  replace R2 := setRow_heap wy (w.heap.size + 1 + 1) _ (irow .u8 (pt (rts root secret) 0 32)) _ _ R2
  replace hw := below_setRow hw (show w.heap.size ≤ w.heap.size + 1 + 1 by omega) (irow .u8 (pt (rts root secret) 0 32))
  refine hK_ _ _ (rg) ?_
  simp only [Act.put]
  clear hK_
  generalize wy.setRow (w.heap.size + 1 + 1) (irow .u8 (pt (rts root secret) 0 32)) = q4 at *
  refine wpAnyH_one (k := 13) (fuel := 1) (by kernel_rfl) rfl (by kernel_rfl) (fun K_ hK_ => ?_)
  refine wp_store_row 23 _ _ rfl (w.heap.size + 1 + 1 + 1) (irow .u8 (pt (rts root secret) 32 32)) rfl rfl 23 _ R3 (infok8 _ l32) (fit32 _ _ (zr_len 32) l32) (irow_one _ _) ?_
  replace R2 := (setRow_other q4 (w.heap.size + 1 + 1 + 1) (w.heap.size + 1 + 1) (irow .u8 (pt (rts root secret) 32 32)) (by omega)).trans R2
  replace R4 := (setRow_other q4 (w.heap.size + 1 + 1 + 1) (w.heap.size + 1 + 1 + 1 + 1) (irow .u8 (pt (rts root secret) 32 32)) (by omega)).trans R4
  replace rg := (setRow_other q4 (w.heap.size + 1 + 1 + 1) (g) (irow .u8 (pt (rts root secret) 32 32)) (by omega)).trans rg
  replace R3 := setRow_heap q4 (w.heap.size + 1 + 1 + 1) _ (irow .u8 (pt (rts root secret) 32 32)) _ _ R3
  replace hw := below_setRow hw (show w.heap.size ≤ w.heap.size + 1 + 1 + 1 by omega) (irow .u8 (pt (rts root secret) 32 32))
  refine hK_ _ _ (rg) ?_
  simp only [Act.put]
  clear hK_
  generalize q4.setRow (w.heap.size + 1 + 1 + 1) (irow .u8 (pt (rts root secret) 32 32)) = q5 at *
  refine wpAnyH_one (k := 14) (fuel := 0) (by kernel_rfl) rfl (by kernel_rfl) (fun K_ hK_ => ?_)
  refine wp_store_row 23 _ _ rfl (w.heap.size + 1 + 1 + 1 + 1) (irow .u8 (pt (rts root secret) 64 32)) rfl rfl 23 _ R4 (infok8 _ l64) (fit32 _ _ (zr_len 32) l64) (irow_one _ _) ?_
  replace R2 := (setRow_other q5 (w.heap.size + 1 + 1 + 1 + 1) (w.heap.size + 1 + 1) (irow .u8 (pt (rts root secret) 64 32)) (by omega)).trans R2
  replace R3 := (setRow_other q5 (w.heap.size + 1 + 1 + 1 + 1) (w.heap.size + 1 + 1 + 1) (irow .u8 (pt (rts root secret) 64 32)) (by omega)).trans R3
  replace rg := (setRow_other q5 (w.heap.size + 1 + 1 + 1 + 1) (g) (irow .u8 (pt (rts root secret) 64 32)) (by omega)).trans rg
  replace R4 := setRow_heap q5 (w.heap.size + 1 + 1 + 1 + 1) _ (irow .u8 (pt (rts root secret) 64 32)) _ _ R4
  replace hw := below_setRow hw (show w.heap.size ≤ w.heap.size + 1 + 1 + 1 + 1 by omega) (irow .u8 (pt (rts root secret) 64 32))
  refine hK_ _ _ (rg) ?_
  simp only [Act.put]
  clear hK_
  generalize q5.setRow (w.heap.size + 1 + 1 + 1 + 1) (irow .u8 (pt (rts root secret) 64 32)) = q6 at *
  refine wpAnyH_done (by kernel_rfl) ?_ _
  refine NoPanic.normal ?_
  go_wp2
  exact bodyPost_ret (results_cell3_row Tryd.results10 _ _ (w.heap.size + 1 + 1) (w.heap.size + 1 + 1 + 1) (w.heap.size + 1 + 1 + 1 + 1) _ _ _ _ _ _ _ _ _ _ rfl rfl rfl R2 R3 R4 Tryd.underlying23 rfl (infok8 _ l0) (infok8 _ l32) (infok8 _ l64)) rfl ⟨rfl, hw⟩
set_option maxRecDepth 100000 in
set_option maxHeartbeats 4000000 in
theorem a_Message (key : List Int) (hkl : key.length = 32) (hkz : ∀ z ∈ key, 0 ≤ z ∧ z < 256) (w : World) (hS : Sta w) (hK : Kon w) : Calls Tryd.prog 12 #[.agg (irow .u8 key)] w fun e w' => e = .returned (.tuple #[.agg (irow .u8 (pt (mss key) 0 32)), .agg (irow .u8 (pt (mss key) 32 16))]) ∧ Below w.heap.size w w' := by
  have hxl := mss_len key
  have l0 : (pt (mss key) 0 32).length = 32 := pt_len _ _ _ (by omega)
  have l1 : (pt (mss key) 32 16).length = 16 := pt_len _ _ _ (by omega)
  have x0 := pt_ext (mss key) 0 32 .u8 (by omega)
  have x1 := pt_ext (mss key) 32 16 .u8 (by omega)
  have hR : Hid (mss key = xpd key msn 48) := hide rfl
  have R0 := hp3_0 w (.cells (irow .u8 key) 23) (.cells (irow .u8 (zr 32)) 23) (.cells (irow .u8 (zr 16)) 29)
  have R1 := hp3_1 w (.cells (irow .u8 key) 23) (.cells (irow .u8 (zr 32)) 23) (.cells (irow .u8 (zr 16)) 29)
  have R2 := hp3_2 w (.cells (irow .u8 key) 23) (.cells (irow .u8 (zr 32)) 23) (.cells (irow .u8 (zr 16)) 29)
  have hw : Below w.heap.size w (((w.alloc (.cells (irow .u8 key) 23)).alloc (.cells (irow .u8 (zr 32)) 23)).alloc (.cells (irow .u8 (zr 16)) 29)) := ((((Below.refl _ _).alloc (Nat.le_refl _) _).alloc (by simp) _).alloc (by simp; omega) _)
  have hz0 : (((w.alloc (.cells (irow .u8 key) 23)).alloc (.cells (irow .u8 (zr 32)) 23)).alloc (.cells (irow .u8 (zr 16)) 29)).heap.size = w.heap.size + 1 + 1 + 1 := by rw [size_alloc1, size_alloc1, size_alloc1]
  have cvs : (convert 66 66 (.slice (some ⟨w.heap.size + 1 + 1 + 1, 0, none⟩) 12 12)).run Tryd.prog ((((w.alloc (.cells (irow .u8 key) 23)).alloc (.cells (irow .u8 (zr 32)) 23)).alloc (.cells (irow .u8 (zr 16)) 29)).alloc (.cells #[.int .u8 112, .int .u8 97, .int .u8 119, .int .u8 108, .int .u8 32, .int .u8 109, .int .u8 101, .int .u8 115, .int .u8 115, .int .u8 97, .int .u8 103, .int .u8 101] 5)) = .ok (.slice (some ⟨w.heap.size + 1 + 1 + 1, 0, none⟩) 12 12) ((((w.alloc (.cells (irow .u8 key) 23)).alloc (.cells (irow .u8 (zr 32)) 23)).alloc (.cells (irow .u8 (zr 16)) 29)).alloc (.cells #[.int .u8 112, .int .u8 97, .int .u8 119, .int .u8 108, .int .u8 32, .int .u8 109, .int .u8 101, .int .u8 115, .int .u8 115, .int .u8 97, .int .u8 103, .int .u8 101] 5 (12, 13))) := by
    have h := Go.Lib.run_convert_bytes_const (P := Tryd.prog) (((w.alloc (.cells (irow .u8 key) 23)).alloc (.cells (irow .u8 (zr 32)) 23)).alloc (.cells (irow .u8 (zr 16)) 29)) 66 5 #[.int .u8 112, .int .u8 97, .int .u8 119, .int .u8 108, .int .u8 32, .int .u8 109, .int .u8 101, .int .u8 115, .int .u8 115, .int .u8 97, .int .u8 103, .int .u8 101] 12 12 Tryd.underlying66 Tryd.underlying5
    rw [hz0] at h
    exact h
  go_enter Tryd.func12, Tryd.ntmps12
  go_wp2_with (first | (refine wpList_box rfl 23 _ rfl _ rfl (bK _) ?_) | (refine wpList_alloc rfl 23 rfl (irow .u8 (zr 32)) zkey ?_) | (refine wpList_alloc rfl 29 rfl (irow .u8 (zr 16)) zno ?_) | (refine wpList_load_want rfl 23 _ rfl (w.heap.size) rfl 23 (irow .u8 key) (0, 0) _ R0 Tryd.underlying23 rfl (infok8 _ hkl) ?_) | fail)
  try simp only [size_alloc1, Act.put, List.setIfInBounds_toArray, List.set_cons_succ, List.set_cons_zero]
  clear cvs
  generalize (((w.alloc (.cells (irow .u8 key) 23)).alloc (.cells (irow .u8 (zr 32)) 23)).alloc (.cells (irow .u8 (zr 16)) 29)) = w0 at *
  have hba : Below w0.heap.size w0 (w0.alloc (.cells #[.int .u8 112, .int .u8 97, .int .u8 119, .int .u8 108, .int .u8 32, .int .u8 109, .int .u8 101, .int .u8 115, .int .u8 115, .int .u8 97, .int .u8 103, .int .u8 101] 5 (12, 13))) := (Below.refl _ _).alloc (Nat.le_refl _) _
  have hI := msn_bys w0
  rw [hz0] at hI
  replace R1 := keep hba R1
  replace R2 := keep hba R2
  replace hw := Below.after hw hba
  generalize w0.alloc (.cells #[.int .u8 112, .int .u8 97, .int .u8 119, .int .u8 108, .int .u8 32, .int .u8 109, .int .u8 101, .int .u8 115, .int .u8 115, .int .u8 97, .int .u8 103, .int .u8 101] 5 (12, 13)) = w1 at *
  have cX := a_expand key msn 48 w1 _ (hS.below hw) (hK.below hw) hkl hkz hI (fun a l c h => by cases h; exact Nat.le_refl _) (by decide) (by decide)
  clear hba hI R0 hz0
  refine cX.mono ?_
  rintro e_ w2 ⟨v_, g, rfl, rfl, lg, rg, hb⟩
  replace lg : w1.heap.size ≤ g := lg
  rw [← hR.out] at rg
  have l1_ := lt_of_row R1
  have l2_ := lt_of_row R2
  replace R1 := keep hb R1
  replace R2 := keep hb R2
  replace hw := Below.after hw hb
  clear hb cX
  have ap0 := arr_k g 0 48
  have ap1 := arr_n g 32 16
  have s0 := sm_0 g
  have s1 := sm_1 g
  go_wp2_with (fail)
  have hbd : Below w2.heap.size w2 w2.drew := below_drN (Below.refl _ _) 1
  replace R1 := keep hbd R1
  replace R2 := keep hbd R2
  replace rg := keep hbd rg
  replace hw := Below.after hw hbd
  clear hbd
  refine wp_region_noPanic ?_
  refine wp_region_held (S := fun W => W.heap[g]? = some (.cells (irow .u8 (mss key)) 5 (0, 0))) (by kernel_rfl) ?_
  change wpAnyH _ _ _ _ _ _ _ _ (World.drew _)
  generalize w2.drew = w3 at *
  refine wpAnyH_take (i := 0) (v := ?v1027) rfl (by kernel_rfl) (by kernel_rfl) (by kernel_rfl) (fun _ _ _ h => h) (Or.inl ⟨by rfl, ?y1027⟩) (rg) ?r1027
  case y1027 =>
    intro w_ hS_
    go_simp
    try with_reducible rfl
  simp only [Act.put, List.getElem_toArray, List.getElem_cons_zero, List.setIfInBounds_toArray, List.set_cons_succ, List.set_cons_zero]
  refine wpAnyH_take (i := 1) (v := ?v1028) rfl (by kernel_rfl) (by kernel_rfl) (by kernel_rfl) (fun _ _ _ h => h) (Or.inl ⟨by rfl, ?y1028⟩) (rg) ?r1028
  case y1028 =>
    intro w_ hS_
    go_simp
    try with_reducible rfl
  simp only [Act.put, List.getElem_toArray, List.getElem_cons_succ, List.getElem_cons_zero, List.setIfInBounds_toArray, List.set_cons_succ, List.set_cons_zero]
  refine wpAnyH_take (i := 2) (v := ?v1029) rfl (by kernel_rfl) (by kernel_rfl) (by kernel_rfl) (fun _ _ _ h => h) (Or.inl ⟨by rfl, ?y1029⟩) (rg) ?r1029
  case y1029 =>
    intro w_ hS_
    go_simp
    try with_reducible rfl
  simp only [Act.put, List.getElem_toArray, List.getElem_cons_succ, List.getElem_cons_zero, List.setIfInBounds_toArray, List.set_cons_succ, List.set_cons_zero]
  refine wpAnyH_take (i := 3) (v := .agg (irow .u8 (pt (mss key) 0 32))) rfl (by kernel_rfl) (by kernel_rfl) (by kernel_rfl) (fun _ _ _ h => h) (Or.inl ⟨by rfl, ?y1030⟩) (rg) ?r1030
  case y1030 =>
    intro w_ hS_
    simp only [List.getElem_toArray, List.getElem_cons_succ, List.getElem_cons_zero]
    exact run_load_part 23 _ (by rfl) (g) 0 (by rfl) 5 (irow .u8 (mss key)) (0, 0) (irow .u8 (pt (mss key) 0 32)) _ (hS_) x0 Tryd.underlying23 rfl (infok8 _ l0)
  simp only [Act.put, List.getElem_toArray, List.getElem_cons_succ, List.getElem_cons_zero, List.setIfInBounds_toArray, List.set_cons_succ, List.set_cons_zero]
  refine wpAnyH_take (i := 4) (v := ?v1031) rfl (by kernel_rfl) (by kernel_rfl) (by kernel_rfl) (fun _ _ _ h => h) (Or.inl ⟨by rfl, ?y1031⟩) (rg) ?r1031
  case y1031 =>
    intro w_ hS_
    go_simp
    try with_reducible rfl
  simp only [Act.put, List.getElem_toArray, List.getElem_cons_succ, List.getElem_cons_zero, List.setIfInBounds_toArray, List.set_cons_succ, List.set_cons_zero]
  refine wpAnyH_take (i := 5) (v := ?v1032) rfl (by kernel_rfl) (by kernel_rfl) (by kernel_rfl) (fun _ _ _ h => h) (Or.inl ⟨by rfl, ?y1032⟩) (rg) ?r1032
  case y1032 =>
    intro w_ hS_
    go_simp
    try with_reducible rfl
  simp only [Act.put, List.getElem_toArray, List.getElem_cons_succ, List.getElem_cons_zero, List.setIfInBounds_toArray, List.set_cons_succ, List.set_cons_zero]
  refine wpAnyH_take (i := 6) (v := ?v1033) rfl (by kernel_rfl) (by kernel_rfl) (by kernel_rfl) (fun _ _ _ h => h) (Or.inl ⟨by rfl, ?y1033⟩) (rg) ?r1033
  case y1033 =>
    intro w_ hS_
    go_simp
    try with_reducible rfl
  simp only [Act.put, List.getElem_toArray, List.getElem_cons_succ, List.getElem_cons_zero, List.setIfInBounds_toArray, List.set_cons_succ, List.set_cons_zero]
  refine wpAnyH_take (i := 7) (v := .agg (irow .u8 (pt (mss key) 32 16))) rfl (by kernel_rfl) (by kernel_rfl) (by kernel_rfl) (fun _ _ _ h => h) (Or.inl ⟨by rfl, ?y1034⟩) (rg) ?r1034
  case y1034 =>
    intro w_ hS_
    simp only [List.getElem_toArray, List.getElem_cons_succ, List.getElem_cons_zero]
    exact run_load_part 29 _ (by rfl) (g) 32 (by rfl) 5 (irow .u8 (mss key)) (0, 0) (irow .u8 (pt (mss key) 32 16)) _ (hS_) x1 Tryd.underlying29 rfl (infoN _ l1)
  simp only [Act.put, List.getElem_toArray, List.getElem_cons_succ, List.getElem_cons_zero, List.setIfInBounds_toArray, List.set_cons_succ, List.set_cons_zero]
  refine wpAnyH_one (k := 8) (fuel := 1) (by kernel_rfl) rfl (by kernel_rfl) (fun K_ hK_ => ?_)
  refine wp_store_row 23 _ _ rfl (w.heap.size + 1) (irow .u8 (pt (mss key) 0 32)) rfl rfl 23 _ R1 (infok8 _ l0) (fit32 _ _ (zr_len 32) l0) (irow_one _ _) ?_
  replace R2 := (setRow_other w3 (w.heap.size + 1) (w.heap.size + 1 + 1) (irow .u8 (pt (mss key) 0 32)) (by omega)).trans R2
  replace rg := (setRow_other w3 (w.heap.size + 1) (g) (irow .u8 (pt (mss key) 0 32)) (by omega)).trans rg
  replace R1 := setRow_heap w3 (w.heap.size + 1) _ (irow .u8 (pt (mss key) 0 32)) _ _ R1
  replace hw := below_setRow hw (show w.heap.size ≤ w.heap.size + 1 by omega) (irow .u8 (pt (mss key) 0 32))
  refine hK_ _ _ (rg) ?_
  simp only [Act.put]
  clear hK_
  generalize w3.setRow (w.heap.size + 1) (irow .u8 (pt (mss key) 0 32)) = q10 at *
  refine wpAnyH_one (k := 9) (fuel := 0) (by kernel_rfl) rfl (by kernel_rfl) (fun K_ hK_ => ?_)
  refine wp_store_row 29 _ _ rfl (w.heap.size + 1 + 1) (irow .u8 (pt (mss key) 32 16)) rfl rfl 29 _ R2 (infoN _ l1) (fit16 _ _ (zr_len 16) l1) (irow_one _ _) ?_
  replace R1 := (setRow_other q10 (w.heap.size + 1 + 1) (w.heap.size + 1) (irow .u8 (pt (mss key) 32 16)) (by omega)).trans R1
  replace rg := (setRow_other q10 (w.heap.size + 1 + 1) (g) (irow .u8 (pt (mss key) 32 16)) (by omega)).trans rg
  replace R2 := setRow_heap q10 (w.heap.size + 1 + 1) _ (irow .u8 (pt (mss key) 32 16)) _ _ R2
  replace hw := below_setRow hw (show w.heap.size ≤ w.heap.size + 1 + 1 by omega) (irow .u8 (pt (mss key) 32 16))
  refine hK_ _ _ (rg) ?_
  simp only [Act.put]
  clear hK_
  generalize q10.setRow (w.heap.size + 1 + 1) (irow .u8 (pt (mss key) 32 16)) = q11 at *
  refine wpAnyH_done (by kernel_rfl) ?_ _
  refine NoPanic.normal ?_
  go_wp2
  exact bodyPost_ret (results_cell_cell Tryd.results12 _ _ (w.heap.size + 1) (w.heap.size + 1 + 1) _ _ _ _ _ _ _ _ rfl rfl R1 R2 Tryd.underlying23 rfl Tryd.underlying29 rfl (infok8 _ l0) (infoN _ l1)) rfl ⟨rfl, hw⟩

end Go.Proofs.YtmflfdedhbnfnaaDoor
