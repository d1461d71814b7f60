import Derived.Test.YtleeadbceljfbaaGreatDoorCEvw
import Derived.OwnWalk
import Derived.Deep.Cut
import Derived.Deep.RegionHeld3
namespace Go.Proofs.YtleeadbceljfbaaGreatDoor
set_option maxRecDepth 100000
open Go Go.RowKit Go.Sort
attribute [local go_sem] setCell_drewN alloc_drewN
set_option maxRecDepth 100000 in
set_option maxHeartbeats 8000000 in
theorem headed_any (pub : List B) (hp : pub.length = 32) (prev m : Nat) (h1 : prev < 4294967296) (h2 : m < 4294967296) (w : World) (hE : Ety w) : Calls Tryz.prog 7 #[.agg (hrw pub prev m)] w fun e w' => e = .returned (.bool true) ∧ Below w.heap.size w w' := by
 have R1 := hp1_0 w (.cells (hrw pub prev m) 37)
 have hw : Below w.heap.size w (w.alloc (.cells (hrw pub prev m) 37)) := (Below.refl _ _).alloc (Nat.le_refl _) _
 replace hE := hE.keep hw rfl
 have iH := hide (hrw_info pub hp prev m)
 have oH := hide (hrw_one pub prev m)
 have zH := hide (hrw_size pub hp prev m)
 have eH := hide (fun W : World => eq_hrw pub hp prev m W)
 have h44 := hide (hd_len hp h1 h2)
 have hth := hide (hd_there hp h1 h2)
 have n1 := eql_nilE
 go_enter Tryz.func7, Tryz.ntmps7
 go_wp2_with (first | (refine wpList_box rfl 37 _ rfl _ rfl (bHdr _) ?_) | fail)
 refine (l_lives _ hE).mono ?_
 rintro e_ w1 ⟨rfl, hb⟩
 generalize w.alloc (.cells (hrw pub prev m) 37) = w0 at *
 have lw := lt_of_row R1
 replace R1 := keep hb R1
 replace hw := Below.after hw hb
 clear hb hE
 have cP := a_PackHeader pub hp prev m h1 h2 w1
 simp only [hfd_at10] at cP
 obtain ⟨L, hL⟩ : ∃ L, eout (hfd10 pub prev m) = L := ⟨_, rfl⟩
 rw [hL] at cP h44 hth
 replace cP := hide cP
 clear hL
 go_wp2_with (first | (refine wpList_load_want rfl 37 _ rfl w.heap.size rfl 37 (hrw pub prev m) (0, 0) _ R1 Tryz.underlying37 rfl iH.out ?_) | fail)
 refine cP.out.mono ?_
 rintro e_ w2 ⟨u, rfl, hO, hb⟩
 obtain ⟨ua, uc, rfl⟩ : ∃ a c, u = .slice a 44 c := by
   obtain ⟨a, c, e⟩ := slen_own hO
   exact ⟨a, c, by rw [e, h44.out]⟩
 have lw1 := lt_of_row R1
 replace R1 := keep hb R1
 replace hw := Below.after hw hb
 clear cP hb
 have cQ := a_ParseHeader L (.slice ua 44 uc) w2 (hO.bysB (by rw [h44.out]; decide)) (own_cap hO)
 unfold PrH at cQ
 rw [hth.out.1, hth.out.2] at cQ
 replace cQ := hide cQ
 go_wp2_with (fail)
 refine cQ.out.mono ?_
 rintro e_ w3 ⟨rfl, hb⟩
 have lw2 := lt_of_row R1
 replace R1 := keep hb R1
 replace hw := Below.after hw hb
 clear cQ hb hO
 have z_ := hp1_0 w3 (.cells (hrw z32 0 0) 37)
 go_wp2_with (first | (refine wpList_alloc rfl 37 rfl (hrw z32 0 0) zHdr ?_) | (refine wpList_store_row rfl 37 _ _ rfl w3.heap.size (hrw pub prev m) rfl rfl 37 _ z_ iH.out (by rw [zH.out, hrw_size _ z32_len]) oH.out ?_; refine wpList_stay ?_) | fail)
 unfold WpStay
 try simp only [Act.put, List.setIfInBounds_toArray, List.set_cons_succ, List.set_cons_zero]
 have R4 := setRow_heap (w3.alloc (.cells (hrw z32 0 0) 37)) w3.heap.size _ (hrw pub prev m) _ _ z_
 have hb : Below w3.heap.size w3 ((w3.alloc (.cells (hrw z32 0 0) 37)).setRow w3.heap.size (hrw pub prev m)) := below_setRow ((Below.refl _ _).alloc (Nat.le_refl _) _) (Nat.le_refl _) _
 clear z_
 replace R1 := keep hb R1
 replace hw := Below.after hw hb
 clear hb
 generalize (w3.alloc (.cells (hrw z32 0 0) 37)).setRow w3.heap.size (hrw pub prev m) = w4 at *
 generalize w3.heap.size = g4 at *
 go_wp2_with (first | (refine wpList_load_want rfl 37 _ rfl g4 rfl 37 (hrw pub prev m) (0, 0) _ R4 Tryz.underlying37 rfl iH.out ?_) | (refine wpList_load_want rfl 37 _ rfl w.heap.size rfl 37 (hrw pub prev m) (0, 0) _ R1 Tryz.underlying37 rfl iH.out ?_) | (refine wpList_eql rfl 37 37 _ _ rfl (hrw pub prev m) (hrw pub prev m) rfl rfl (by kernel_rfl) true (eH.out _) ?_) | fail)
 go_ret
 exact ⟨rfl, hw⟩
end Go.Proofs.YtleeadbceljfbaaGreatDoor

