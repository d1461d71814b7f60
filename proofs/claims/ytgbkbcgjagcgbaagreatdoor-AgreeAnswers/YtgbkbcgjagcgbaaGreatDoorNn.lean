import Derived.Test.YtgbkbcgjagcgbaaGreatDoorProg
import Derived.WalkKit
import Derived.WalkSpells
import Derived.WalkLawsBesides
import Derived.Lib.QuietBelow
import Derived.BigQuiet
import Derived.Test.YtgbkbcgjagcgbaaGreatDoorKa
import Derived.Test.YtgbkbcgjagcgbaaGreatDoorNm
import Derived.Deep.RegionLaw
import Derived.Deep.RegionHeld3
namespace Go.Proofs.YtgbkbcgjagcgbaaGreatDoor
set_option maxRecDepth 100000
open Go Go.RowKit Go.Sort
attribute [local go_sem] setCell_drewN alloc_drewN
set_option maxRecDepth 100000 in
set_option maxHeartbeats 4000000 in
theorem r_extract4 (key bs : List Int) (w : World) (v vb : Value) (hK : BysM w v key) (hB : BysM w vb bs) (hbl : bs.length ≤ 140737488355264) : Calls Tryz.prog 38 #[v, vb] w fun e w' => e = .returned (.agg (irow .u8 (hm key bs))) ∧ Below w.heap.size w w' := by
 have r0 := hp1_0 w (.cells (irow .u8 (zr 32)) 23)
 have hw : Below w.heap.size w (w.alloc (.cells (irow .u8 (zr 32)) 23)) := (Below.refl _ _).alloc (Nat.le_refl _) _
 have cS := r_sum4 key bs _ v vb (hK.keep hw) (hB.keep hw) hbl
 have hHl := hm_len key bs
 generalize hm key bs = H at *
 go_enter Tryz.func38, Tryz.ntmps38
 go_wp2_with (first | (refine wpList_alloc rfl 23 rfl (irow .u8 (zr 32)) zkey ?_) | fail)
 refine cS.mono ?_
 rintro e_ w3 ⟨rfl, hb⟩
 replace r0 := keep hb r0
 replace hw := Below.after hw hb
 clear hb cS
 go_wp2_with (first | (refine wpList_store_row rfl 23 _ _ rfl (w.heap.size) (irow .u8 H) rfl rfl 23 _ r0 (infok8 _ hHl) (fit32 _ _ (zr_len 32) hHl) (irow_one _ _) ?_) | fail)
 replace r0 := setRow_heap w3 (w.heap.size) _ (irow .u8 H) _ _ r0
 replace hw := below_setRow hw (Nat.le_refl _) (irow .u8 H)
 generalize w3.setRow (w.heap.size) (irow .u8 H) = w9 at *
 exact bodyPost_ret (v := .agg (irow .u8 H)) (results_cell_row Tryz.results38 _ _ (w.heap.size) _ _ _ _ rfl r0 Tryz.underlying23 rfl (infok8 _ hHl)) rfl ⟨rfl, hw⟩
theorem NB.grown {W W' : World} {v : Value} {bs : List Int} {row : Option Nat} (h : NB W v bs) (hb : W.grownBy W' row) (hne : ∀ a l c, v = .slice (some a) l c → 0 < l → row ≠ some a.block) : NB W' v bs := by
 obtain ⟨⟨ao, cap, rfl, hl, hc, hz⟩, hn⟩ := h
 refine ⟨⟨ao, cap, rfl, hl, fun j hj => ?_, hz⟩, hn⟩
 obtain ⟨b, off, rfl, h1, h2⟩ := hc j hj
 have hn' := hne ⟨b, off, none⟩ _ _ rfl (by omega)
 exact ⟨b, off, rfl, Nat.lt_of_lt_of_le h1 hb.size, hb.cell h2 (by intro e; exact hn' e.symm)⟩
theorem ex1 {f : FuncId} {args : Array Value} {w : World} {v : Value} {B : World → Prop} (h : Calls Tryz.prog f args w fun e w' => e = .returned v ∧ B w') : Calls Tryz.prog f args w fun e w' => ∃ u, e = .returned u ∧ (u = v ∧ B w') := h.mono fun _ _ ⟨h1, h2⟩ => ⟨v, h1, rfl, h2⟩
theorem wrap8 (x : Int) (h0 : 0 ≤ x) (h1 : x < 256) : IntKind.u8.wrap x = x := by
 simp [IntKind.wrap, IntKind.bits, IntKind.signed]
 exact Int.emod_eq_of_lt h0 h1
theorem fin_row {wr W : World} {g : Nat} {old P : Array Value} {t : TypeId} (hb : Below wr.heap.size wr W) (hg : wr.heap.size ≤ g) (r : W.heap[g]? = some (.cells old t (0, 0))) : ∃ Wf, Wf = W.setRow g P ∧ Wf.heap[g]? = some (.cells P t (0, 0)) ∧ Below wr.heap.size wr Wf ∧ wr.heap.size ≤ g := ⟨_, rfl, setRow_heap W g _ P _ _ r, below_setRow hb hg P, hg⟩
theorem own_cap {W : World} {b n : Nat} {T : TypeId} {v : Value} {xs : List Value} (h : W.ownsRow b T 1 v n xs) : ∀ a l c, v = .slice a l c → l ≤ c := by
 intro a l c e
 obtain ⟨_, ⟨rfl, _⟩ | ⟨g, cap, cur, rfl, _, _, h3, _⟩⟩ := h
 · cases e; exact Nat.le_refl _
 · cases e; exact h3
theorem slice_to (ao : Option Addr) (len cap n : Nat) (h : n ≤ cap) (W : World) : (Instr.sliceAt 28 (.slice ao len cap) none (some (.int .i64 (n : Int))) none).run Tryz.prog W = .ok (.slice ao n cap) W := by
 rw [run_sliceAt_slice _ _ _ _ _ _ elem8, run_slice_h W 28 ao len cap elem8 .i64 _ (by omega) (by omega), size8]
 show Result.ok (sliced _ _ _ _ 1) W = _
 rw [Int.toNat_natCast, sliced, Nat.zero_mul]
 by_cases e : cap = 0
 · rw [if_pos e]; rfl
 · rw [if_neg e]
   cases ao <;> rfl
theorem Bys.take {W : World} {ao : Option Addr} {cap n : Nat} {bs : List Int} (h : Bys W (.slice ao bs.length cap) bs) (hn : n ≤ bs.length) : Bys W (.slice ao n cap) (bs.take n) := by
 obtain ⟨ao', cap', e, hl, hc, hz⟩ := h
 cases e
 have hln : (bs.take n).length = n := by rw [List.length_take]; omega
 refine ⟨ao, cap, by rw [hln], by omega, fun j hj => ?_, fun z h => hz z (List.mem_of_mem_take h)⟩
 obtain ⟨b, off, e, h1, h2⟩ := hc j (by omega)
 refine ⟨b, off, e, h1, ?_⟩
 rw [h2, List.getD_eq_getElem?_getD, List.getD_eq_getElem?_getD, List.getElem?_take_of_lt (by omega)]
theorem bel2 (w : World) (a b : Obj) : Below w.heap.size w ((w.alloc a).alloc b) := ((Below.refl _ _).alloc (Nat.le_refl _) _).alloc (by simp) _
theorem bel3 (w : World) (a b c : Obj) : Below w.heap.size w (((w.alloc a).alloc b).alloc c) := (((Below.refl _ _).alloc (Nat.le_refl _) _).alloc (by simp) _).alloc (by simp; omega) _
theorem pieces3 {W V : World} {g1 g3 : Nat} {t t3 : TypeId} {v0 v1 : Value} {a b : List Int} {x : Int} (hb : Below W.heap.size W V) (h0 : NB W v0 a) (h1 : NB W v1 b) (r1 : V.heap[g1]? = some (.cells #[.int .u8 x] t (0, 0))) (hx : ∀ z ∈ [x], 0 ≤ z ∧ z < 256) (r3 : V.heap[g3]? = some (.cells #[v0, v1, .slice (some ⟨g1, 0, none⟩) 1 1] t3 (0, 0))) : Pcs V (.slice (some ⟨g3, 0, none⟩) 3 3) [a, b, [x]] :=
 Pcs.three r3 (h0.keep hb) (h1.keep hb) (NB.of_row (l := [x]) r1 (by simp) hx 1 1 rfl)
set_option maxRecDepth 100000 in
set_option maxHeartbeats 4000000 in
theorem r_expand4 (key info : List Int) (n : Nat) (w : World) (vi : Value) (hkl : key.length = 32) (hkz : ∀ z ∈ key, 0 ≤ z ∧ z < 256) (hI : BysM w vi info) (hil : info.length ≤ 140737488355200) (hn : n ≤ 8160) :
   Calls Tryz.prog 37 #[.agg (irow .u8 key), vi, .int .i64 (n : Int)] w fun e w' => ∃ v, e = .returned (.tuple #[v, .int .i64 0]) ∧ NB w' v (xpd key info n) ∧ Below w.heap.size w w' := by
 have r0 := hp1_0 w (.cells (irow .u8 key) 23)
 have hw : Below w.heap.size w (w.alloc (.cells (irow .u8 key) 23)) := (Below.refl _ _).alloc (Nat.le_refl _) _
 have hd1 : decide ((n : Int) < 0) = false := by simp
 have hd2 : decide ((8160 : Int) < (n : Int)) = false := by simp; omega
 obtain ⟨aoi, capi, rfl, _⟩ := id hI.1
 go_enter Tryz.func37, Tryz.ntmps37
 go_wp2_with (first | (refine wpList_box rfl 23 _ rfl _ rfl (bK _) ?_) | fail)
 generalize w.alloc (.cells (irow .u8 key) 23) = w0 at *
 clear hd1 hd2
 have hs0 := hw.size
 have hown0 : w0.ownsRow (w.heap.size + 1) 5 1 (.slice none 0 0) (32 * 0) ((tall key info 0).map (Value.int .u8)) := ⟨rfl, .inl ⟨rfl, rfl⟩⟩
 go_loopw [8, 9, 10] (fun va vl i wr => ∃ k : Nat, k ≤ (n + 31) / 32 ∧ i = .int .i64 ((k : Int) + 1) ∧ wr.ownsRow (w.heap.size + 1) 5 1 va (32 * k) ((tall key info k).map (Value.int .u8)) ∧ NB wr vl (tp key info k) ∧ wr.heap[w.heap.size]? = some (.cells (irow .u8 key) 23 (0, 0)) ∧ Below w.heap.size w wr) (fun _ _ i _ => (n + 31) / 32 + 1 - (intOf i).toNat)
 case atStart => exact ⟨0, by omega, rfl, hown0, nb_nil _, r0, hw⟩
 case round =>
   clear r0 hw hown0 hs0
   obtain ⟨k, hk, rfl, hown, hL, r0, hw⟩ := hrel
   obtain ⟨aoa, capa, rfl⟩ := slen_own hown
   obtain ⟨aol, capl, rfl, hnl⟩ := hL.form
   by_cases hlt : 32 * k < n
   · have hd : decide (((32 * k : Nat) : Int) < (n : Int)) = true := by simp; omega
     have hmod : IntKind.u8.wrap ((k : Int) + 1) = (k : Int) + 1 := wrap8 _ (by omega) (by omega)
     have sk := slice_k w.heap.size
     have hbd : Below wr.heap.size wr wr.drew := below_drN (Below.refl _ _) 1
     go_wp2
     have hzk := zkey
     have hI2 := hI.nb.keep hw
     have hpz := hm_bd key (tp key info k ++ (info ++ [(k : Int) + 1]))
     have hpl := hm_len key (tp key info k ++ (info ++ [(k : Int) + 1]))
     have hinz := bys_bd hI.1
     have htl := tp_le key info k
     have htz := tp_bd key info k
     have ef : [tp key info k, info, [(k : Int) + 1]].flatten = tp key info k ++ (info ++ [(k : Int) + 1]) := by simp
     have efl : (tp key info k ++ (info ++ [(k : Int) + 1])).length ≤ 140737488355264 := by simp; omega
     have efz : ∀ z ∈ tp key info k ++ (info ++ [(k : Int) + 1]), 0 ≤ z ∧ z < 256 := both_bd htz (both_bd hinz (fun z h => by simp at h; omega))
     have h1z : ∀ z ∈ [(k : Int) + 1], 0 ≤ z ∧ z < 256 := fun z h => by simp at h; omega
     have hK8 : ∀ W, Below wr.heap.size wr W → BysM W (.slice (some ⟨w.heap.size, 0, none⟩) 32 32) key := fun W hW => (NB.of_row (keep hW r0) (by omega) hkz 32 32 hkl).m (by omega)
     replace hK8 := hide hK8
     replace h1z := hide h1z
     replace efz := hide efz
     refine wp_region_noPanic ?_
     go_region_law
       ((first
         | (refine step_call 62 _ (by rfl) (by kernel_rfl) (r_joined [tp key info k, info, [(k : Int) + 1]] _ _ (pieces3 (W := wr) (below_drN (bel2 wr _ _) 1) hL hI2 (hp2_0 wr _ _) h1z.out (hp2_1 wr _ _)) (by rw [ef]; omega)) ?_
            rintro v8 w8 ⟨hown8, hb8⟩
            rw [ef] at hown8
            have hM := (NB.of_own hown8 (by omega) efz.out).m (by omega)
            have hb8' : Below wr.heap.size wr w8 := Below.after (below_drN (bel2 wr _ _) 1) hb8
            skip
            clear hb8 hown8)
         | (refine step_call 62 _ (by rfl) (by kernel_rfl) (r_joined [tp key info k, info, [(k : Int) + 1]] _ _ (pieces3 (W := wr) (below_drN (bel3 wr _ _ _) 1) hL hI2 (hp3_1 wr _ _ _) h1z.out (hp3_2 wr _ _ _)) (by rw [ef]; omega)) ?_
            rintro v8 w8 ⟨hown8, hb8⟩
            rw [ef] at hown8
            have hM := (NB.of_own hown8 (by omega) efz.out).m (by omega)
            have hb8' : Below wr.heap.size wr w8 := Below.after (below_drN (bel3 wr _ _ _) 1) hb8
            have rZ : w8.heap[wr.heap.size]? = some (.cells (irow .u8 (zr 32)) 23 (0, 0)) := keep hb8 (hp3_0 wr _ _ _)
            clear hb8 hown8)
         | (refine step_call 62 _ (by rfl) (by kernel_rfl) (r_joined [tp key info k, info, [(k : Int) + 1]] _ _ (pieces3 (W := wr) (below_drN (bel3 wr _ _ _) 1) hL hI2 (hp3_0 wr _ _ _) h1z.out (hp3_2 wr _ _ _)) (by rw [ef]; omega)) ?_
            rintro v8 w8 ⟨hown8, hb8⟩
            rw [ef] at hown8
            have hM := (NB.of_own hown8 (by omega) efz.out).m (by omega)
            have hb8' : Below wr.heap.size wr w8 := Below.after (below_drN (bel3 wr _ _ _) 1) hb8
            have rZ : w8.heap[wr.heap.size + 1]? = some (.cells (irow .u8 (zr 32)) 23 (0, 0)) := keep hb8 (hp3_1 wr _ _ _)
            clear hb8 hown8)
         | (refine step_call 62 _ (by rfl) (by kernel_rfl) (r_joined [tp key info k, info, [(k : Int) + 1]] _ _ (pieces3 (W := wr) (below_drN (bel3 wr _ _ _) 1) hL hI2 (hp3_0 wr _ _ _) h1z.out (hp3_1 wr _ _ _)) (by rw [ef]; omega)) ?_
            rintro v8 w8 ⟨hown8, hb8⟩
            rw [ef] at hown8
            have hM := (NB.of_own hown8 (by omega) efz.out).m (by omega)
            have hb8' : Below wr.heap.size wr w8 := Below.after (below_drN (bel3 wr _ _ _) 1) hb8
            have rZ : w8.heap[wr.heap.size + 1 + 1]? = some (.cells (irow .u8 (zr 32)) 23 (0, 0)) := keep hb8 (hp3_2 wr _ _ _)
            clear hb8 hown8)
         | (refine step_call 61 _ (by rfl) (by kernel_rfl) (ex1 (r_sum4 key (tp key info k ++ (info ++ [(k : Int) + 1])) _ _ _ (hK8.out _ (by first | exact hb8' | exact hb8'.alloc hb8'.size _)) (by first | exact hM | exact hM.keep ((Below.refl _ _).alloc (Nat.le_refl _) _)) efl)) ?_
            rintro v9 w9 ⟨rfl, hb9⟩
            have h89 : Below w8.heap.size w8 w9 := by first | exact hb9 | exact Below.after ((Below.refl _ _).alloc (Nat.le_refl _) _) hb9
            have hsz := (irow_size .u8 (hm key (tp key info k ++ (info ++ [(k : Int) + 1])))).trans hpl
            try (replace rZ := keep h89 rZ)
            try (have rZ : w9.heap[w8.heap.size]? = some (.cells (irow .u8 (zr 32)) 23 (0, 0)) := keep hb9 (hp1_0 w8 _))
            try (have hs0 := storeK rZ (zr_len 32) hpl)
            have hs4 : (storeCells ⟨w9.heap.size, 0, none⟩ (irow .u8 (hm key (tp key info k ++ (info ++ [(k : Int) + 1])))).toList).run Tryz.prog (w9.alloc (.cells #[.int .u8 0, .int .u8 0, .int .u8 0, .int .u8 0, .int .u8 0, .int .u8 0, .int .u8 0, .int .u8 0, .int .u8 0, .int .u8 0, .int .u8 0, .int .u8 0, .int .u8 0, .int .u8 0, .int .u8 0, .int .u8 0, .int .u8 0, .int .u8 0, .int .u8 0, .int .u8 0, .int .u8 0, .int .u8 0, .int .u8 0, .int .u8 0, .int .u8 0, .int .u8 0, .int .u8 0, .int .u8 0, .int .u8 0, .int .u8 0, .int .u8 0, .int .u8 0] 23)) = .ok () ((w9.alloc (.cells #[.int .u8 0, .int .u8 0, .int .u8 0, .int .u8 0, .int .u8 0, .int .u8 0, .int .u8 0, .int .u8 0, .int .u8 0, .int .u8 0, .int .u8 0, .int .u8 0, .int .u8 0, .int .u8 0, .int .u8 0, .int .u8 0, .int .u8 0, .int .u8 0, .int .u8 0, .int .u8 0, .int .u8 0, .int .u8 0, .int .u8 0, .int .u8 0, .int .u8 0, .int .u8 0, .int .u8 0, .int .u8 0, .int .u8 0, .int .u8 0, .int .u8 0, .int .u8 0] 23)).setRow w9.heap.size (irow .u8 (hm key (tp key info k ++ (info ++ [(k : Int) + 1]))))) := storeK (hp1_0 w9 (.cells (irow .u8 (zr 32)) 23)) (zr_len 32) hpl
            have hb9' := Below.after hb8' h89
            have hs8 := hb8'.size
            have hs9 := hb9'.size
            clear hb9 h89 hM)))
     all_goals (refine NoPanic.normal ?_)
     all_goals (first
       | (obtain ⟨wf, ewf, r11, hbf, lw⟩ := fin_row (P := irow .u8 (hm key (tp key info k ++ (info ++ [(k : Int) + 1])))) hb9' (by omega) rZ; rw [← ewf])
       | (obtain ⟨wf, ewf, r11, hbf, lw⟩ := fin_row (P := irow .u8 (hm key (tp key info k ++ (info ++ [(k : Int) + 1])))) (hb9'.alloc hb9'.size _) (by omega) (hp1_0 w9 (.cells #[.int .u8 0, .int .u8 0, .int .u8 0, .int .u8 0, .int .u8 0, .int .u8 0, .int .u8 0, .int .u8 0, .int .u8 0, .int .u8 0, .int .u8 0, .int .u8 0, .int .u8 0, .int .u8 0, .int .u8 0, .int .u8 0, .int .u8 0, .int .u8 0, .int .u8 0, .int .u8 0, .int .u8 0, .int .u8 0, .int .u8 0, .int .u8 0, .int .u8 0, .int .u8 0, .int .u8 0, .int .u8 0, .int .u8 0, .int .u8 0, .int .u8 0, .int .u8 0] 23)); rw [← ewf]))
     all_goals
       replace hown := own_keep hown hbf
       replace r0 := keep hbf r0
       replace hw := Below.after hw hbf
       have sk11 := slice_k
       have up12 : ∀ g, (Value.slice aoa (32 * k) capa).ownBlock = some g → g < wf.heap.size := fun g h => (hown.lt g h).2
       replace up12 := hide up12
       clear hs4 hbf ewf hb9' hs8 hs9 hb8' hsz hK8 h1z hI2 hzk sk
       try clear rZ
       try clear hs0
       go_wp2_with (fail)
       refine (r_joined [hm key (tp key info k ++ (info ++ [(k : Int) + 1]))] _ _ (Pcs.one (hp1_0 wf _) (NB.of_row (keep ((Below.refl _ _).alloc (Nat.le_refl _) _) r11) (by omega) hpz 32 32 hpl)) (by simp; omega)).mono ?_
       rintro e_ w12 ⟨v12, rfl, own12, hb12⟩
       have e12 : [hm key (tp key info k ++ (info ++ [(k : Int) + 1]))].flatten = tp key info (k + 1) := by rw [tp]; simp
       rw [e12] at own12
       have htn := tp_len key info k
       rw [htn] at own12
       replace hb12 := Below.after ((Below.refl _ _).alloc (Nat.le_refl _) _) hb12
       have lo12 : ∀ g, v12.ownBlock = some g → wf.heap.size < g := fun g h => by have := (own12.lt g h).1; rw [size_alloc1] at this; omega
       replace lo12 := hide lo12
       replace hown := own_keep hown hb12
       replace r0 := keep hb12 r0
       replace hw := Below.after hw hb12
       clear hb12 e12 r11 sk11
       have hM12 := NB.of_own own12 (by omega) (tp_bd key info (k + 1))
       obtain ⟨ao12, cap12, rfl⟩ := slen_own own12
       have hB12 := hM12.1
       rw [← htn] at hB12
       have hnone := bys_none3 hB12 (own_nil own12 _ _ _ rfl)
       have hnews := bys_cells hB12
       rw [htn] at hnone
       have l0 := lt_of_row r0
       obtain ⟨i0, hi, hz0, hz1, hz2⟩ := info8
       go_wp2_with (at_builtin; refine wpList_append_own_any _ rfl (.tmp 34) (.tmp 35) 28 rfl (w.heap.size + 1) 5 i0 (.int .u8 0) Tryz.underlying28 hi hz0 hz1 hz2 rfl _ (32 * k) ((tall key info k).map (Value.int .u8)) rfl hown ao12 32 cap12 ((tp key info (k + 1)).map (Value.int .u8)) rfl (by rw [List.length_map, htn]) hnone hnews (ints_one .u8 _) (by unfold maxLen; omega) (by omega) (by omega) ?_)
       intro va' w13 own13 hgr
       have hM13 := hM12.grown hgr (fun a l c e _ h => by
         have h1 := up12.out _ h
         have h2 := lo12.out a.block (by rw [e]; rfl)
         omega)
       have r13 : w13.heap[w.heap.size]? = some (.cells (irow .u8 key) 23 (0, 0)) := (hgr.block _ l0 (by intro e; have := (hown.lt _ e.symm).1; omega)).trans r0
       replace hw := hw.grown hgr hw.size (fun k h => by have := (hown.lt k h).1; omega)
       rw [← List.map_append, show 32 * k + 32 = 32 * (k + 1) by omega, ← tall] at own13
       clear hgr hown r0 hM12 hB12 hnews hnone own12 lo12 up12
       obtain ⟨ao13, cap13, rfl⟩ := slen_own own13
       go_wp2
       refine ⟨⟨k + 1, by omega, by go_num, own13, hM13, r13, hw⟩, ?_⟩
       simp [intOf]; omega
   · have hd : decide (((32 * k : Nat) : Int) < (n : Int)) = false := by simp; omega
     have hcp := own_cap hown _ _ _ rfl
     have sl := slice_to aoa (32 * k) capa n (by omega)
     have hAll := NB.of_own hown (by rw [tall_len]; omega) (tall_bd key info k)
     have hx : xpd key info n = (tall key info k).take n := by rw [xpd, show (n + 31) / 32 = k by omega]
     have hB1 := hAll.1
     rw [← tall_len key info k] at hB1
     have hT := Bys.take (n := n) hB1 (by rw [tall_len]; omega)
     have hnn := own_nil hown _ _ _ rfl
     clear hown hAll hB1
     go_wp2
     go_ret2
     exact ⟨_, rfl, ⟨by rw [hx]; exact hT, fun a l c e ha => by cases e; exact hnn ha⟩, hw⟩
end Go.Proofs.YtgbkbcgjagcgbaaGreatDoor
