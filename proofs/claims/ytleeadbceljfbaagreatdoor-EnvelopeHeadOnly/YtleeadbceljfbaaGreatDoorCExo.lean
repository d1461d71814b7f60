import Derived.Test.YtleeadbceljfbaaGreatDoorCExh
import Derived.Test.YtleeadbceljfbaaGreatDoorCWh
import Derived.OwnWalk
import Derived.Deep.Cut
import Derived.Deep.RegionHeld3
namespace Go.Proofs.YtleeadbceljfbaaGreatDoor
set_option maxRecDepth 100000
open Go Go.RowKit Go.Sort
attribute [local go_sem] setCell_drewN alloc_drewN
theorem bv_beq (x : B) (n : Nat) (hn : n < 256) : (bv x == (n : Int)) = decide (x = BitVec.ofNat 8 n) := by
 by_cases h : x = BitVec.ofNat 8 n
 · subst h
   rw [decide_eq_true rfl]
   have : bv (BitVec.ofNat 8 n) = (n : Int) := by unfold bv; rw [BitVec.toNat_ofNat]; omega
   rw [this]
   simp
 · rw [decide_eq_false h]
   have : bv x ≠ (n : Int) := fun e => h (by
     unfold bv at e
     apply BitVec.eq_of_toNat_eq
     rw [BitVec.toNat_ofNat]
     omega)
   simpa using this
theorem bl_gbE (d : List B) (j : Nat) (hj : j < d.length) : (bl d).getD j 0 = bv (gb d j) := by
 simp [bl, gb, List.getD_eq_getElem?_getD, List.getElem?_eq_getElem hj]
theorem cell_bys {W : World} {a : Option Addr} {n c : Nat} {d : List B} (h : BysB W (.slice a n c) d) (hl : 0 < d.length) : ∃ g o, a = some ⟨g, o, none⟩ ∧ ∀ j, j < d.length → W.cell? ⟨g, o + j, none⟩ = some (.int .u8 (bv (gb d j))) := by
 obtain ⟨⟨ao, cap, e, _, hc, _⟩, _, _⟩ := h
 injection e with e1 e2 e3
 subst e1
 obtain ⟨g, o, rfl, _, _⟩ := hc 0 (by rw [bl_len]; exact hl)
 refine ⟨g, o, rfl, fun j hj => ?_⟩
 obtain ⟨g', o', e', _, h'⟩ := hc j (by rw [bl_len]; exact hj)
 injection e' with e'
 injection e' with e1 e2
 subst e1 e2
 rw [h', bl_gbE d j hj]
set_option maxRecDepth 100000 in
set_option maxHeartbeats 8000000 in
theorem l_headedAs (d : List B) (w : World) (dv : Value) (hD : BysB w dv d) (hn : dec8 hdr d 0 ≠ none) (hcap : ∀ a l c, dv = .slice a l c → l ≤ c) : Calls Tryz.prog 22 #[dv] w fun e w' => e = .returned (.bool false) ∧ Below w.heap.size w w' := by
 obtain ⟨dao, dcap, rfl⟩ := hD.form
 by_cases hl : d.length = 44
 · obtain ⟨g, o, rfl, hc⟩ := cell_bys hD (by omega)
   have c0 : w.cell? ⟨g, o, none⟩ = some (.int .u8 (bv (gb d 0))) := hc 0 (by omega)
   have c1 := hc 1 (by omega)
   have c2 := hc 34 (by omega)
   have c3 := hc 39 (by omega)
   have q0 := bv_beq (gb d 0) 10 (by decide)
   have q1 := bv_beq (gb d 1) 32 (by decide)
   have q2 := bv_beq (gb d 34) 21 (by decide)
   have q3 := bv_beq (gb d 39) 29 (by decide)
   have hf := fun a b c e => hn (hd_form hl a b c e)
   have hcp := hcap _ _ _ rfl
   rw [hl] at hcp ⊢
   clear hD hc hn hl hcap
   generalize hx0 : bv (gb d 0) = x0 at *
   generalize hx1 : bv (gb d 1) = x1 at *
   generalize hx2 : bv (gb d 34) = x2 at *
   generalize hx3 : bv (gb d 39) = x3 at *
   clear hx0 hx1 hx2 hx3
   go_enter Tryz.func22, Tryz.ntmps22
   by_cases h0 : gb d 0 = 10#8
   · replace q0 : (x0 == 10) = true := by rw [show (10 : Int) = ((10 : Nat) : Int) from rfl, q0]; exact decide_eq_true h0
     by_cases h1 : gb d 1 = 32#8
     · replace q1 : (x1 == 32) = true := by rw [show (32 : Int) = ((32 : Nat) : Int) from rfl, q1]; exact decide_eq_true h1
       by_cases h2 : gb d 34 = 21#8
       · replace q2 : (x2 == 21) = true := by rw [show (21 : Int) = ((21 : Nat) : Int) from rfl, q2]; exact decide_eq_true h2
         by_cases h3 : gb d 39 = 29#8
         · exact absurd h3 (hf h0 h1 h2)
         · replace q3 : (x3 == 29) = false := by rw [show (29 : Int) = ((29 : Nat) : Int) from rfl, q3]; exact decide_eq_false h3
           clear hf h0 h1 h2 h3
           go_wp2
           go_ret
           exact ⟨rfl, Below.refl _ _⟩
       · replace q2 : (x2 == 21) = false := by rw [show (21 : Int) = ((21 : Nat) : Int) from rfl, q2]; exact decide_eq_false h2
         clear hf h0 h1 h2 q3 c3
         go_wp2
         go_ret
         exact ⟨rfl, Below.refl _ _⟩
     · replace q1 : (x1 == 32) = false := by rw [show (32 : Int) = ((32 : Nat) : Int) from rfl, q1]; exact decide_eq_false h1
       clear hf h0 h1 q2 q3 c2 c3
       go_wp2
       go_ret
       exact ⟨rfl, Below.refl _ _⟩
   · replace q0 : (x0 == 10) = false := by rw [show (10 : Int) = ((10 : Nat) : Int) from rfl, q0]; exact decide_eq_false h0
     clear hf h0 q1 q2 q3 c1 c2 c3
     go_wp2
     go_ret
     exact ⟨rfl, Below.refl _ _⟩
 · have hb : ((d.length : Int) == 44) = false := by
     have : (d.length : Int) ≠ 44 := by omega
     simpa using this
   clear hD hn hcap
   obtain ⟨n, hn⟩ : ∃ n, d.length = n := ⟨_, rfl⟩
   rw [hn] at hb hl ⊢
   clear hn
   go_enter Tryz.func22, Tryz.ntmps22
   go_wp2
   go_ret
   exact ⟨rfl, Below.refl _ _⟩
set_option maxRecDepth 100000 in
set_option maxHeartbeats 8000000 in
theorem headonly_any (d : List B) (w : World) (dv : Value) (hE : Ety w) (hD : BysB w dv d) (hcap0 : ∀ a l c, dv = .slice a l c → l ≤ c) : Calls Tryz.prog 8 #[dv] w fun e w' => e = .returned (.bool true) ∧ Below w.heap.size w w' := by
 have hDh := hide (fun V (h : Below w.heap.size w V) => hD.keep h)
 have hDl := hD.2.1
 obtain ⟨dao, dcap, rfl⟩ := hD.form
 have hw : Below w.heap.size w w := Below.refl _ _
 clear hD
 have hcap := hide hcap0
 clear hcap0
 go_enter Tryz.func8, Tryz.ntmps8
 have cX := hide (l_lives w hE)
 go_wp2_with (fail)
 refine cX.out.mono ?_
 rintro e_ w1 ⟨rfl, hb⟩
 clear cX
 replace hw := Below.after hw hb
 clear hb
 have cQ := hide (a_ParseHeader d (.slice dao d.length dcap) w1 (hDh.out _ hw) hcap.out)
 go_wp2_with (fail)
 refine cQ.out.mono ?_
 rintro e_ w2 ⟨hP, hb⟩
 replace hw := Below.after hw hb
 clear cQ hb
 unfold PrH at hP
 cases hR : dec8 hdr d 0 with
 | some x =>
   rw [hR] at hP
   obtain ⟨g, rfl, _, _⟩ := hP
   have hnn : dec8 hdr d 0 ≠ none := by rw [hR]; simp
   have hne := neq_fault (.pointer (some ⟨g, 0, none⟩))
   have iH := hide (hrw_info z32 z32_len 0 0)
   have oH := hide (hrw_one z32 0 0)
   have zH := hide (hrw_size z32 z32_len 0 0)
   have eH := hide (fun W : World => eq_hrw z32 z32_len 0 0 W)
   clear hR
   replace hnn := hide hnn
   have z_ := hp1_0 w2 (.cells (hrw z32 0 0) 37)
   go_wp2_with (first | (refine wpList_alloc rfl 37 rfl (hrw z32 0 0) zHdr ?_) | (refine wpList_store_row rfl 37 _ _ rfl w2.heap.size (hrw z32 0 0) rfl rfl 37 _ z_ iH.out (by first | rfl | rw [zH.out, hrw_size _ z32_len]) oH.out ?_; refine wpList_stay ?_) | fail)
   unfold WpStay
   try simp only [Act.put, List.setIfInBounds_toArray, List.set_cons_succ, List.set_cons_zero]
   have R4 := setRow_heap (w2.alloc (.cells (hrw z32 0 0) 37)) w2.heap.size _ (hrw z32 0 0) _ _ z_
   have hb : Below w2.heap.size w2 ((w2.alloc (.cells (hrw z32 0 0) 37)).setRow w2.heap.size (hrw z32 0 0)) := below_setRow ((Below.refl _ _).alloc (Nat.le_refl _) _) (Nat.le_refl _) _
   clear z_
   replace hw := Below.after hw hb
   clear hb
   generalize (w2.alloc (.cells (hrw z32 0 0) 37)).setRow w2.heap.size (hrw z32 0 0) = w4 at *
   generalize w2.heap.size = g4 at *
   have cA := hide (l_headedAs d w4 (.slice dao d.length dcap) (hDh.out _ hw) hnn.out hcap.out)
   go_wp2_with (first | (refine wpList_load_want rfl 37 _ rfl g4 rfl 37 (hrw z32 0 0) (0, 0) _ R4 Tryz.underlying37 rfl iH.out ?_) | (refine wpList_build_want rfl 37 _ rfl [] rfl (hrw z32 0 0) builtH0 ?_) | (refine wpList_eql rfl 37 37 _ _ rfl (hrw z32 0 0) (hrw z32 0 0) rfl rfl (by kernel_rfl) true (eH.out _) ?_) | fail)
   refine cA.out.mono ?_
   rintro e_ w5 ⟨rfl, hb⟩
   replace hw := Below.after hw hb
   clear cA hb R4
   go_wp2_with (fail)
   go_ret
   exact ⟨rfl, hw⟩
 | none =>
   rw [hR] at hP
   obtain ⟨pub, prev, m, hp, h1, h2, e1, e2⟩ := hd_back hR
   simp only at hP
   rw [e1] at hP
   subst hP
   have hnn := neq_nils
   have iH := hide (hrw_info pub hp prev m)
   have oH := hide (hrw_one pub prev m)
   have zH := hide (hrw_size pub hp prev m)
   clear hR e1
   replace e2 := hide e2
   have z_ := hp1_0 w2 (.cells (hrw z32 0 0) 37)
   go_wp2_with (first | (refine wpList_alloc rfl 37 rfl (hrw z32 0 0) zHdr ?_) | (refine wpList_store_row rfl 37 _ _ rfl w2.heap.size (hrw pub prev m) rfl rfl 37 _ z_ iH.out (by first | rfl | rw [zH.out, hrw_size _ z32_len]) oH.out ?_; refine wpList_stay ?_) | fail)
   unfold WpStay
   try simp only [Act.put, List.setIfInBounds_toArray, List.set_cons_succ, List.set_cons_zero]
   have R4 := setRow_heap (w2.alloc (.cells (hrw z32 0 0) 37)) w2.heap.size _ (hrw pub prev m) _ _ z_
   have hb : Below w2.heap.size w2 ((w2.alloc (.cells (hrw z32 0 0) 37)).setRow w2.heap.size (hrw pub prev m)) := below_setRow ((Below.refl _ _).alloc (Nat.le_refl _) _) (Nat.le_refl _) _
   clear z_
   replace hw := Below.after hw hb
   clear hb
   generalize (w2.alloc (.cells (hrw z32 0 0) 37)).setRow w2.heap.size (hrw pub prev m) = w4 at *
   generalize w2.heap.size = g4 at *
   have cP := a_PackHeader pub hp prev m h1 h2 w4
   simp only [hfd_at10] at cP
   rw [e2.out] at cP
   replace cP := hide cP
   go_wp2_with (first | (refine wpList_load_want rfl 37 _ rfl g4 rfl 37 (hrw pub prev m) (0, 0) _ R4 Tryz.underlying37 rfl iH.out ?_) | fail)
   refine cP.out.mono ?_
   rintro e_ w5 ⟨u, rfl, hO, hb⟩
   obtain ⟨ua, uc, rfl⟩ := slen_own hO
   replace hw := Below.after hw hb
   clear cP hb R4
   have dec1 : (decide (d = d)) = true := decide_eq_true rfl
   have cX := hide (sB_same d d w5 _ _ hO.bys (hDh.out _ hw).1)
   rw [dec1] at cX
   go_wp2_with (fail)
   refine cX.out.mono ?_
   rintro e_ w6 ⟨rfl, hb⟩
   replace hw := Below.after hw hb
   clear cX hb hO
   go_wp2_with (fail)
   go_ret
   exact ⟨rfl, hw⟩
end Go.Proofs.YtleeadbceljfbaaGreatDoor

