import Derived.Test.YtleeadbceljfbaaGreatDoorCExf
import Derived.Test.YtleeadbceljfbaaGreatDoorCExb
import Derived.Test.YtleeadbceljfbaaGreatDoorCExl
import Derived.OwnWalk
import Derived.Deep.Cut
import Derived.Deep.RegionHeld3
namespace Go.Proofs.YtleeadbceljfbaaGreatDoor
set_option maxRecDepth 100000
open Go Go.RowKit Go.Sort
attribute [local go_sem] setCell_drewN alloc_drewN
section
variable {P : Program} {ops : Array Oper} {Q : Exit → Act → World → Prop} {md : Region.Mode} {S : World → Prop}
theorem wpAnyH_three {j k l : Nat} {oj ok ol : Oper} {fuel : Nat} {listed : Array Bool} {a : Act} {w : World} (hr : Region.ready md ops listed = [j, k, l]) (hj : ops[j]? = some oj) (hk : ops[k]? = some ok) (hl : ops[l]? = some ol) (wj : Region.wanted oj (yielded ops a.tmps) = true) (wk : Region.wanted ok (yielded ops a.tmps) = true) (wl : Region.wanted ol (yielded ops a.tmps) = true)
   (h1 : ∀ K : Act → World → Prop, (∀ a' w', S w' → wpAnyH P md ops Q S fuel (listed.setIfInBounds j true) a' w' → K a' w') → oj.wp P a w K Q)
   (h2 : ∀ K : Act → World → Prop, (∀ a' w', S w' → wpAnyH P md ops Q S fuel (listed.setIfInBounds k true) a' w' → K a' w') → ok.wp P a w K Q)
   (h3 : ∀ K : Act → World → Prop, (∀ a' w', S w' → wpAnyH P md ops Q S fuel (listed.setIfInBounds l true) a' w' → K a' w') → ol.wp P a w K Q) : wpAnyH P md ops Q S (fuel + 1) listed a w := by
 refine wpAnyH_all hr (by simp) (fun i hi' => ?_)
 obtain rfl | rfl | rfl : i = j ∨ i = k ∨ i = l := by simpa using hi'
 · unfold wpOp
   simp only [hj, wj, if_true]
   exact .inl (h1 _ (fun a' w' hS hn => ⟨hS, hn⟩))
 · unfold wpOp
   simp only [hk, wk, if_true]
   exact .inl (h2 _ (fun a' w' hS hn => ⟨hS, hn⟩))
 · unfold wpOp
   simp only [hl, wl, if_true]
   exact .inl (h3 _ (fun a' w' hS hn => ⟨hS, hn⟩))
end
theorem len16 (l : List Int) (h : l.length = 16) : ∃ a0 a1 a2 a3 a4 a5 a6 a7 a8 a9 a10 a11 a12 a13 a14 a15, l = [a0, a1, a2, a3, a4, a5, a6, a7, a8, a9, a10, a11, a12, a13, a14, a15] := by
 match l, h with
 | [a0, a1, a2, a3, a4, a5, a6, a7, a8, a9, a10, a11, a12, a13, a14, a15], _ => exact ⟨_, _, _, _, _, _, _, _, _, _, _, _, _, _, _, _, rfl⟩
theorem builtE4l (ver : Int) (l : List Int) (h : l.length = 16) (ha : Option Addr) (hl hc : Nat) (ba : Option Addr) (bn bc : Nat) : Tryz.prog.built 48 [(0, .int .i64 ver), (1, .agg (irow .u8 l)), (2, (.slice ha hl hc)), (3, (.slice ba bn bc))] = some (#[.int .i64 ver] ++ irow .u8 l ++ #[.slice ha hl hc, .slice ba bn bc]) := by
 obtain ⟨a0, a1, a2, a3, a4, a5, a6, a7, a8, a9, a10, a11, a12, a13, a14, a15, rfl⟩ := len16 l h
 kernel_rfl
theorem builtE4 (ver : Int) (nonce : List B) (hn : nonce.length = 16) (ha : Option Addr) (hl hc : Nat) (ba : Option Addr) (bn bc : Nat) : Tryz.prog.built 48 [(0, .int .i64 ver), (1, .agg (irow .u8 (bl nonce))), (2, (.slice ha hl hc)), (3, (.slice ba bn bc))] = some (evl ver nonce (.slice ha hl hc) (.slice ba bn bc)) := builtE4l ver (bl nonce) (by rw [bl_len, hn]) ha hl hc ba bn bc
theorem infoNon (nonce : List B) (hn : nonce.length = 16) : (Tryz.prog.info? 46).map (·.size) = some (irow .u8 (bl nonce)).size := by
 have h : (irow .u8 (bl nonce)).size = 16 := by rw [irow_size, bl_len, hn]
 rw [h]
 exact (by kernel_rfl : (Tryz.prog.info? 46).map (·.size) = some 16)
theorem bNonB (cs : Array Value) (W : World) : (Instr.box 46 (.agg cs)).run Tryz.prog W = .ok (.pointer (some ⟨W.heap.size, 0, none⟩)) (W.alloc (.cells cs 46)) := by kernel_rfl
theorem all_rowL (cs : Array Value) : cs.extract 0 (0 + cs.size) = cs := by simp
theorem bk_pk {v k : Nat} (hk : known10 v = true) (h : k ≤ 1048576) : pk10 v 60 (bkd (dg v) (4 + k) + 16) = none := by
 have h1 := bkd_64 (dg v) (4 + k) (dg_pos v) (dg_le v)
 have h2 := bkd_mono (dg_pos v) (dg_le v) (show 4 + k ≤ 4 + 1048576 by omega)
 have h3 : bkd (dg v) (4 + 1048576) = mo v - 16 := by
   rcases known_lt10 hk with rfl | rfl
   · exact bkd_v1
   · exact bkd_v2
 obtain ⟨b1, g1, l1⟩ := bkd_lst (dg v) (4 + k) (dg_pos v) (dg_le v)
 obtain ⟨b2, g2, l2⟩ := bkd_lst (dg v) (bkd (dg v) (4 + k)) (dg_pos v) (dg_le v)
 have h4 := l2 _ b1 (Nat.le_refl _)
 refine pk_of rfl (by omega) (by omega) ?_
 rw [Nat.add_sub_cancel]
 omega
theorem lno_yes {v k : Nat} (hk : known10 v = true) (h : k ≤ 1048576) : lno v (k : Int) = ((eln (bkd (dg v) (4 + k)) : Nat) : Int) := by
 unfold lno eln
 rw [if_pos (bke_yes hk h), Int.toNat_natCast]
 omega
def fil (f : B) (K i : Nat) : List B := List.replicate i f ++ List.replicate (K - i) 0#8
theorem fil_len (f : B) {K i : Nat} (h : i ≤ K) : (fil f K i).length = K := by simp [fil]; omega
theorem fil_set (f : B) {K i : Nat} (h : i < K) : (bl (fil f K i)).set i (bv f) = bl (fil f K (i + 1)) := by
 unfold fil
 rw [show K - i = (K - (i + 1)) + 1 by omega, List.replicate_succ, List.replicate_succ']
 unfold bl
 simp
theorem zr_fil (f : B) (K : Nat) : zr K = bl (fil f K 0) := by
 simp [zr, bl, fil]
 exact .inr rfl
set_option maxRecDepth 100000 in
set_option maxHeartbeats 8000000 in
theorem lengths_any (ver n m : Int) (h1 : -9223372036854775808 ≤ ver) (h2 : ver ≤ 9223372036854775807) (n1 : -9223372036854775808 ≤ n) (n2 : n ≤ 9223372036854775807) (m1 : -9223372036854775808 ≤ m) (m2 : m ≤ 9223372036854775807) (nonce : List B) (hn : nonce.length = 16) (f : B) (w : World) (hE : Ety w) : Calls Tryz.prog 11 #[.int .i64 ver, .int .i64 n, .int .i64 m, .agg (irow .u8 (bl nonce)), .int .u8 (bv f)] w fun e w' => e = .returned (.bool true) ∧ Below w.heap.size w w' := by
 obtain ⟨v, hv, hv2⟩ := ver_nat ver
 obtain ⟨kn, _⟩ := ver_known ver v hv h1 h2
 have cK := l_known ver
 rw [kn] at cK
 replace cK := hide cK
 clear kn
 have hL := hide (fun W (h : Ety W) => l_lives W h)
 have hE1 := hide (fun V (h : Below w.heap.size w V) => hE.keep h rfl)
 have R1 := hp1_0 w (.cells (irow .u8 (bl nonce)) 46)
 have hw : Below w.heap.size w (w.alloc (.cells (irow .u8 (bl nonce)) 46)) := (Below.refl _ _).alloc (Nat.le_refl _) _
 clear hE
 go_enter Tryz.func11, Tryz.ntmps11
 go_wp2_with (first | (refine wpList_box rfl 46 _ rfl _ rfl (bNonB _) ?_) | fail)
 refine (hL.out _ (hE1.out _ hw)).mono ?_
 rintro e_ w1 ⟨rfl, hb⟩
 generalize w.alloc (.cells (irow .u8 (bl nonce)) 46) = w0 at *
 replace R1 := keep hb R1
 replace hw := Below.after hw hb
 clear hb
 go_wp2_with (fail)
 refine (cK.out w1).mono ?_
 rintro e_ w2 ⟨rfl, hb⟩
 replace R1 := keep hb R1
 replace hw := Below.after hw hb
 clear hb cK
 cases hk : known10 v with
 | false =>
   go_wp2_with (fail)
   refine (hL.out _ (hE1.out _ hw)).mono ?_
   rintro e_ w3 ⟨rfl, hb⟩
   replace hw := Below.after hw hb
   clear hb
   go_wp2_with (fail)
   go_ret
   exact ⟨rfl, hw⟩
 | true =>
   by_cases a1 : n < 0
   · have a1' := decide_eq_true a1
     go_wp2_with (fail)
     refine (hL.out _ (hE1.out _ hw)).mono ?_
     rintro e_ w3 ⟨rfl, hb⟩
     replace hw := Below.after hw hb
     clear hb
     go_wp2_with (fail)
     go_ret
     exact ⟨rfl, hw⟩
   · have a1' := decide_eq_false a1
     by_cases a2 : m < 0
     · have a2' := decide_eq_true a2
       go_wp2_with (fail)
       refine (hL.out _ (hE1.out _ hw)).mono ?_
       rintro e_ w3 ⟨rfl, hb⟩
       replace hw := Below.after hw hb
       clear hb
       go_wp2_with (fail)
       go_ret
       exact ⟨rfl, hw⟩
     · have a2' := decide_eq_false a2
       by_cases a3 : 1048576 < n
       · have a3' := decide_eq_true a3
         go_wp2_with (fail)
         refine (hL.out _ (hE1.out _ hw)).mono ?_
         rintro e_ w3 ⟨rfl, hb⟩
         replace hw := Below.after hw hb
         clear hb
         go_wp2_with (fail)
         go_ret
         exact ⟨rfl, hw⟩
       · have a3' := decide_eq_false a3
         by_cases a4 : 1048576 < m
         · have a4' := decide_eq_true a4
           go_wp2_with (fail)
           refine (hL.out _ (hE1.out _ hw)).mono ?_
           rintro e_ w3 ⟨rfl, hb⟩
           replace hw := Below.after hw hb
           clear hb
           go_wp2_with (fail)
           go_ret
           exact ⟨rfl, hw⟩
         · have a4' := decide_eq_false a4
           obtain ⟨k, rfl⟩ := Int.eq_ofNat_of_zero_le (show 0 ≤ n by omega)
           obtain ⟨j, rfl⟩ := Int.eq_ofNat_of_zero_le (show 0 ≤ m by omega)
           have hk1 : k ≤ 1048576 := by omega
           have hj1 : j ≤ 1048576 := by omega
           obtain ⟨C, hC⟩ : ∃ C, bkd (dg v) (4 + k) = C := ⟨_, rfl⟩
           obtain ⟨D, hD⟩ : ∃ C, bkd (dg v) (4 + j) = C := ⟨_, rfl⟩
           have hp0 := bk_pk hk hk1
           have lC := bkd_bd v (k : Int) (by omega) (by omega)
           rw [Int.toNat_natCast, hC] at lC
           rw [hC] at hp0
           obtain ⟨A, hA⟩ : ∃ A, eln C = A := ⟨_, rfl⟩
           obtain ⟨A2, hA2⟩ : ∃ A, eln D = A := ⟨_, rfl⟩
           have e1 := eln_eq C D
           have e2 := eln_less C D
           rw [hA, hA2] at e1 e2
           have lA : A ≤ 2097300 := by
             rw [← hA]
             have := en_le4 (n := C + 16) (by omega)
             unfold eln
             omega
           have lD := bkd_bd v (j : Int) (by omega) (by omega)
           rw [Int.toNat_natCast, hD] at lD
           have q1 := (a_Length ver v hv hv2 (k : Int))
           have q2 := (a_Length ver v hv hv2 (j : Int))
           have q3 := (a_Bucket ver v hv hv2 (k : Int))
           have q4 := (a_Bucket ver v hv hv2 (j : Int))
           rw [lno_yes hk hk1, bke_yes hk hk1, hC, hA] at q1
           rw [lno_yes hk hj1, bke_yes hk hj1, hD, hA2] at q2
           rw [bko_yes hk hk1, bke_yes hk hk1, hC] at q3
           rw [bko_yes hk hj1, bke_yes hk hj1, hD] at q4
           replace q1 := hide q1
           replace q2 := hide q2
           replace q3 := hide q3
           replace q4 := hide q4
           obtain ⟨K, hKn⟩ : ∃ K, C + 16 = K := ⟨_, rfl⟩
           rw [hKn] at hp0
           have hKl : K ≤ 2097200 := by omega
           have hKi : (C : Int) + 16 = (K : Int) := by omega
           have hpO : Hid (pkO v 60 K = none) := hide (by unfold pkO; rw [if_pos hk]; exact hp0)
           have hp := hide hp0
           have hkn := hide hk
           replace hA := hide hA
           replace hKn := hide hKn
           obtain ⟨x, hx⟩ : ∃ x, ((C : Int) == (D : Int)) = x := ⟨_, rfl⟩
           obtain ⟨y, hy⟩ : ∃ y, decide ((C : Int) < (D : Int)) = y := ⟨_, rfl⟩
           rw [hx] at e1
           rw [hy] at e2
           have hx' : decide ((C : Int) = (D : Int)) = x := by rw [← hx]; rfl
           have e1' : decide ((A : Int) = (A2 : Int)) = x := by rw [← e1]; rfl
           have x1 : decide (A = A2) = x := by rw [← e1']; exact decide_eq_decide.2 (by omega)
           have x2 : decide (C = D) = x := by rw [← hx']; exact decide_eq_decide.2 (by omega)
           have x3 : (A == A2) = x := x1
           have x4 : (C == D) = x := x2
           have y1 : decide (A < A2) = y := by rw [← e2]; exact decide_eq_decide.2 (by omega)
           have y2 : decide (C < D) = y := by rw [← hy]; exact decide_eq_decide.2 (by omega)
           clear hC hD hA2 hp0 hk a1 a2 a3 a4 lD
           have cX := hide (q1.out.at w2)
           go_wp2_with (fail)
           refine cX.out.mono ?_
           rintro e_ w3 ⟨rfl, hb⟩
           replace R1 := keep hb R1
           replace hw := Below.after hw hb
           clear cX hb
           have cX := hide (q2.out.at w3)
           go_wp2_with (fail)
           refine cX.out.mono ?_
           rintro e_ w4 ⟨rfl, hb⟩
           replace R1 := keep hb R1
           replace hw := Below.after hw hb
           clear cX hb
           have cX := hide (q3.out.at w4)
           go_wp2_with (fail)
           refine cX.out.mono ?_
           rintro e_ w5 ⟨rfl, hb⟩
           replace R1 := keep hb R1
           replace hw := Below.after hw hb
           clear cX hb
           have cX := hide (q4.out.at w5)
           go_wp2_with (fail)
           refine cX.out.mono ?_
           rintro e_ w6 ⟨rfl, hb⟩
           replace R1 := keep hb R1
           replace hw := Below.after hw hb
           clear cX hb
           clear q1 q2 q3 q4
           go_upto_region 9 with (fail)
           have hbd : Below w6.heap.size w6 w6.drew := below_drN (Below.refl _ _) 1
           replace R1 := keep hbd R1
           replace hw := Below.after hw hbd
           clear hbd
           refine wp_region_noPanic ?_
           refine wp_region_held (S := fun W : World => W.heap[w.heap.size]? = some (.cells (irow .u8 (bl nonce)) 46 (0, 0))) (by kernel_rfl) ?_
           change wpAnyH _ _ _ _ _ _ _ _ (World.drew _)
           generalize w6.drew = x1 at *
           refine wpAnyH_take (i := 0) (v := ?v1) rfl (by kernel_rfl) (by kernel_rfl) (by kernel_rfl) (fun _ _ _ h => h) (Or.inl ⟨by rfl, ?y1⟩) (R1) ?r1
           case y1 =>
             intro w_ hS_
             go_simp
             try with_reducible rfl
           simp only [Act.put, List.getElem_toArray, List.getElem_cons_zero, List.setIfInBounds_toArray, List.set_cons_succ, List.set_cons_zero]
           refine wpAnyH_take (i := 1) (v := .agg (irow .u8 (bl nonce))) rfl (by kernel_rfl) (by kernel_rfl) (by kernel_rfl) (fun _ _ _ h => h) (Or.inl ⟨by rfl, ?y2⟩) (R1) ?r2
           case y2 =>
             intro w_ hS_
             simp only [List.getElem_toArray, List.getElem_cons_succ, List.getElem_cons_zero]
             exact run_load_part 46 _ rfl (w.heap.size) 0 rfl 46 (irow .u8 (bl nonce)) (0, 0) (irow .u8 (bl nonce)) _ hS_ (all_rowL _) Tryz.underlying46 rfl (infoNon nonce hn)
           simp only [Act.put, List.getElem_toArray, List.getElem_cons_succ, List.getElem_cons_zero, List.setIfInBounds_toArray, List.set_cons_succ, List.set_cons_zero]
           refine wpAnyH_take (i := 3) (v := ?v3) rfl (by kernel_rfl) (by kernel_rfl) (by kernel_rfl) (fun _ _ _ h => h) (Or.inl ⟨by rfl, ?y3⟩) (R1) ?r3
           case y3 =>
             intro w_ hS_
             go_simp
             try with_reducible rfl
           simp only [Act.put, List.getElem_toArray, List.getElem_cons_succ, List.getElem_cons_zero, List.setIfInBounds_toArray, List.set_cons_succ, List.set_cons_zero]
           refine wpAnyH_take (i := 4) (v := .int .i64 (K : Int)) rfl (by kernel_rfl) (by kernel_rfl) (by kernel_rfl) (fun _ _ _ h => h) (Or.inl ⟨by rfl, ?y4⟩) (R1) ?r4
           case y4 =>
             intro w_ hS_
             go_simp
             try rw [hKi]
             first | done | (rw [IntKind.wrap_i64]; omega)
             try with_reducible rfl
           simp only [Act.put, List.getElem_toArray, List.getElem_cons_succ, List.getElem_cons_zero, List.setIfInBounds_toArray, List.set_cons_succ, List.set_cons_zero]
           refine wpAnyH_three (j := 2) (k := 5) (l := 7) (fuel := 4) (by kernel_rfl) rfl rfl rfl (by kernel_rfl) (by kernel_rfl) (by kernel_rfl) (fun K_ hK_ => ?_) (fun K_ hK_ => ?_) (fun K_ hK_ => ?_)
           · have lt_R1_q1 := lt_of_row R1
             refine wp_val_op (.slice (some ⟨x1.heap.size, 0, none⟩) 60 60) (w' := x1.alloc (.cells (irow .u8 (zr 60)) 5)) (hx_make 28 _ _ rfl 60 rfl rfl x1 _ _ (make_lc 60 60 (Nat.le_refl _) (by omega) x1)) ?_
             have RH := hp1_0 x1 (.cells (irow .u8 (zr 60)) 5)
             have sz_q1 : w.heap.size ≤ x1.heap.size := hw.size
             have hb_ : Below x1.heap.size x1 (x1.alloc (.cells (irow .u8 (zr 60)) 5)) := (Below.refl _ _).alloc (Nat.le_refl _) _
             replace R1 := keep hb_ R1
             replace hw := Below.after hw hb_
             clear hb_
             refine hK_ _ _ (R1) ?_
             simp only [Act.put, List.getElem_toArray, List.getElem_cons_succ, List.getElem_cons_zero, List.setIfInBounds_toArray, List.set_cons_succ, List.set_cons_zero]
             clear hK_
             generalize x1.alloc (.cells (irow .u8 (zr 60)) 5) = q1 at *
             generalize x1.heap.size = gh at *
             refine wpAnyH_two (j := 5) (k := 7) (fuel := 3) (by kernel_rfl) rfl rfl (by kernel_rfl) (by kernel_rfl) (fun K_ hK_ => ?_) (fun K_ hK_ => ?_)
             · have lt_R1_q2 := lt_of_row R1
               have lt_RH_q2 := lt_of_row RH
               refine wp_val_op (.slice (some ⟨q1.heap.size, 0, none⟩) K K) (w' := q1.alloc (.cells (irow .u8 (zr K)) 5)) (hx_make 28 _ _ rfl K rfl rfl q1 _ _ (make_lc K K (Nat.le_refl _) (by omega) q1)) ?_
               have RB := hp1_0 q1 (.cells (irow .u8 (zr K)) 5)
               have sz_q2 : w.heap.size ≤ q1.heap.size := hw.size
               have hb_ : Below q1.heap.size q1 (q1.alloc (.cells (irow .u8 (zr K)) 5)) := (Below.refl _ _).alloc (Nat.le_refl _) _
               replace R1 := keep hb_ R1
               replace RH := keep hb_ RH
               replace hw := Below.after hw hb_
               clear hb_
               refine hK_ _ _ (R1) ?_
               simp only [Act.put, List.getElem_toArray, List.getElem_cons_succ, List.getElem_cons_zero, List.setIfInBounds_toArray, List.set_cons_succ, List.set_cons_zero]
               clear hK_
               generalize q1.alloc (.cells (irow .u8 (zr K)) 5) = q2 at *
               generalize q1.heap.size = gb at *
               refine wpAnyH_take (i := 6) (v := .agg (evl ver nonce (.slice (some ⟨gh, 0, none⟩) 60 60) (.slice (some ⟨gb, 0, none⟩) K K))) rfl (by kernel_rfl) (by kernel_rfl) (by kernel_rfl) (fun _ _ _ h => h) (Or.inl ⟨by rfl, ?y5⟩) (R1) ?r5
               case y5 =>
                 intro w_ hS_
                 simp only [List.getElem_toArray, List.getElem_cons_succ, List.getElem_cons_zero]
                 exact run_build_op 48 _ rfl [(0, .int .i64 ver), (1, .agg (irow .u8 (bl nonce))), (2, (.slice (some ⟨gh, 0, none⟩) 60 60)), (3, (.slice (some ⟨gb, 0, none⟩) K K))] rfl _ (builtE4 ver nonce hn _ _ _ _ _ _)
               simp only [Act.put, List.getElem_toArray, List.getElem_cons_succ, List.getElem_cons_zero, List.setIfInBounds_toArray, List.set_cons_succ, List.set_cons_zero]
               refine wpAnyH_one (k := 7) (fuel := 1) (by kernel_rfl) rfl (by kernel_rfl) (fun K_ hK_ => ?_)
               refine wp_world_op (.pointer (some ⟨q2.heap.size, 0, none⟩)) (q2.alloc (.cells (evl 0 n16 (.slice none 0 0) (.slice none 0 0)) 48)) (by kernel_rfl) ?_
               have hb_ : Below q2.heap.size q2 (q2.alloc (.cells (evl 0 n16 (.slice none 0 0) (.slice none 0 0)) 48)) := (Below.refl _ _).alloc (Nat.le_refl _) _
               have sz_g5 : w.heap.size ≤ q2.heap.size := hw.size
               have lt_R1_g5 := lt_of_row R1
               have lt_RH_g5 := lt_of_row RH
               have lt_RB_g5 := lt_of_row RB
               have RX := hp1_0 q2 (.cells (evl 0 n16 (.slice none 0 0) (.slice none 0 0)) 48)
               replace R1 := keep hb_ R1
               replace RH := keep hb_ RH
               replace RB := keep hb_ RB
               replace hw := Below.after hw hb_
               clear hb_
               refine hK_ _ _ (R1) ?_
               simp only [Act.put, List.getElem_toArray, List.getElem_cons_succ, List.getElem_cons_zero, List.setIfInBounds_toArray, List.set_cons_succ, List.set_cons_zero]
               clear hK_
               generalize q2.alloc (.cells (evl 0 n16 (.slice none 0 0) (.slice none 0 0)) 48) = q4 at *
               generalize q2.heap.size = g5 at *
               refine wpAnyH_one (k := 8) (fuel := 0) (by kernel_rfl) rfl (by kernel_rfl) (fun K_ hK_ => ?_)
               refine wp_store_row 48 _ _ rfl (g5) (evl ver nonce (.slice (some ⟨gh, 0, none⟩) 60 60) (.slice (some ⟨gb, 0, none⟩) K K)) rfl rfl 48 _ RX (evl_info _ _ hn _ _) (by rw [evl_size _ _ n16_len, evl_size _ _ hn]) (evl_one _ _ _ _ _ _ _ _) ?_
               replace RH := (setRow_other q4 (g5) (gh) (evl ver nonce (.slice (some ⟨gh, 0, none⟩) 60 60) (.slice (some ⟨gb, 0, none⟩) K K)) (by omega)).trans RH
               replace RB := (setRow_other q4 (g5) (gb) (evl ver nonce (.slice (some ⟨gh, 0, none⟩) 60 60) (.slice (some ⟨gb, 0, none⟩) K K)) (by omega)).trans RB
               replace R1 := (setRow_other q4 (g5) (w.heap.size) (evl ver nonce (.slice (some ⟨gh, 0, none⟩) 60 60) (.slice (some ⟨gb, 0, none⟩) K K)) (by omega)).trans R1
               replace RX := setRow_heap q4 (g5) _ (evl ver nonce (.slice (some ⟨gh, 0, none⟩) 60 60) (.slice (some ⟨gb, 0, none⟩) K K)) _ _ RX
               replace hw := below_setRow hw (show w.heap.size ≤ g5 by omega) (evl ver nonce (.slice (some ⟨gh, 0, none⟩) 60 60) (.slice (some ⟨gb, 0, none⟩) K K))
               refine hK_ _ _ (R1) ?_
               simp only [Act.put, List.getElem_toArray, List.getElem_cons_succ, List.getElem_cons_zero]
               clear hK_
               generalize q4.setRow g5 (evl ver nonce (.slice (some ⟨gh, 0, none⟩) 60 60) (.slice (some ⟨gb, 0, none⟩) K K)) = q6 at *
               refine wpAnyH_done (by kernel_rfl) ?_ _
               refine NoPanic.normal ?_
               rw [zr_z60] at RH
               rw [zr_fil f K] at RB
               have kx : g5 ≠ gb := by omega
               have kh : gh ≠ gb := by omega
               have kb : w.heap.size ≤ gb := by omega
               clear R1
               go_wp2_with (fail)
               go_loopw [20] (fun u wr => ∃ i : Nat, i ≤ K ∧ u = .int .i64 (i : Int) ∧ wr.heap[gb]? = some (.cells (irow .u8 (bl (fil f K i))) 5 (0, 0)) ∧ wr.heap[g5]? = some (.cells (evl ver nonce (.slice (some ⟨gh, 0, none⟩) 60 60) (.slice (some ⟨gb, 0, none⟩) K K)) 48 (0, 0)) ∧ wr.heap[gh]? = some (.cells (irow .u8 (bl z60)) 5 (0, 0)) ∧ Below w.heap.size w wr) (fun u _ => K - (intOf u).toNat)
               case atStart => exact ⟨0, by omega, rfl, RB, RX, RH, hw⟩
               case round =>
                 clear RB RX RH hw
                 obtain ⟨i, hi, rfl, RB, RX, RH, hw⟩ := hrel
                 have c18 : wr.cell? ⟨g5, 18, none⟩ = some (.slice (some ⟨gb, 0, none⟩) K K) := by rw [cell_of_row _ _ _ _ _ _ RX]; exact evl_b _ _ hn _ _
                 by_cases hlt : i < K
                 · have hd : decide ((i : Int) < (K : Int)) = true := decide_eq_true (by omega)
                   have cf := row_frozen RB i
                   have cc := irow_cell RB (j := i) (by rw [bl_len, fil_len f hi]; exact hlt)
                   have r2 := irow_set RB i (bv f)
                   rw [fil_set f hlt] at r2
                   have hw2 := hide (hw.setCell (show w.heap.size ≤ (⟨gb, i, none⟩ : Addr).block from kb) (.int .u8 (bv f)))
                   have x2 := hide (heap_other (v := .int .u8 (bv f)) (j := i) RX kx)
                   have h2 := hide (heap_other (v := .int .u8 (bv f)) (j := i) RH kh)
                   replace r2 := hide r2
                   clear RB RX RH hw
                   generalize (bl (fil f K i)).getD i 0 = z at *
                   go_wp2_with (fail)
                   refine ⟨⟨i + 1, by omega, by go_num, r2.out, x2.out, h2.out, hw2.out⟩, ?_⟩
                   simp [intOf]; omega
                 · obtain rfl : i = K := by omega
                   have hd : decide ((i : Int) < (i : Int)) = false := decide_eq_false (by omega)
                   obtain ⟨bd, hbd⟩ : ∃ bd, fil f i i = bd := ⟨_, rfl⟩
                   have lb : bd.length = i := by rw [← hbd]; exact fil_len f (Nat.le_refl _)
                   rw [hbd] at RB
                   have cP := hide (a_PackE ver v hv h1 h2 nonce hn (some ⟨gh, 0, none⟩) 60 60 (some ⟨gb, 0, none⟩) i i z60 bd wr (hE1.out _ hw) (row_bysB RH rfl (by decide) 60) (row_bysB RB lb (by omega) i) rfl lb (by decide) (by omega))
                   rw [hpO.out] at cP
                   clear RB RH hbd
                   have lb' := hide lb
                   clear lb
                   go_wp2_with (first | (refine wpList_load_want rfl 48 _ rfl g5 rfl 48 (evl ver nonce (.slice (some ⟨gh, 0, none⟩) 60 60) (.slice (some ⟨gb, 0, none⟩) i i)) (0, 0) _ RX Tryz.underlying48 rfl (evl_info _ _ hn _ _) ?_) | fail)
                   refine cP.out.mono ?_
                   rintro e_ y1 ⟨⟨u, rfl, hU⟩, hb⟩
                   replace hw := Below.after hw hb
                   have hle := (there10 hkn.out hn (show pk10 v z60.length bd.length = none by rw [lb'.out]; exact hp.out)).2.2.2.1
                   rw [lb'.out] at hle
                   obtain ⟨L, hL⟩ : ∃ L, eout (efs v nonce z60 bd) = L := ⟨_, rfl⟩
                   rw [hL] at hU hle
                   obtain ⟨ua, uc, rfl⟩ := slen_own hU
                   have hA' : L.length = A := by rw [hle, ← hA.out]; unfold eln; rw [← hKn.out]
                   rw [hA']
                   have n1 := eql_nilE
                   clear cP hb hU hL hle hA' RX c18 hd
                   go_wp2_with (fail)
                   go_ret
                   exact ⟨rfl, hw⟩
             · refine wp_world_op (.pointer (some ⟨q1.heap.size, 0, none⟩)) (q1.alloc (.cells (evl 0 n16 (.slice none 0 0) (.slice none 0 0)) 48)) (by kernel_rfl) ?_
               have hb_ : Below q1.heap.size q1 (q1.alloc (.cells (evl 0 n16 (.slice none 0 0) (.slice none 0 0)) 48)) := (Below.refl _ _).alloc (Nat.le_refl _) _
               have sz_g9 : w.heap.size ≤ q1.heap.size := hw.size
               have lt_R1_g9 := lt_of_row R1
               have lt_RH_g9 := lt_of_row RH
               have RX := hp1_0 q1 (.cells (evl 0 n16 (.slice none 0 0) (.slice none 0 0)) 48)
               replace R1 := keep hb_ R1
               replace RH := keep hb_ RH
               replace hw := Below.after hw hb_
               clear hb_
               refine hK_ _ _ (R1) ?_
               simp only [Act.put, List.getElem_toArray, List.getElem_cons_succ, List.getElem_cons_zero, List.setIfInBounds_toArray, List.set_cons_succ, List.set_cons_zero]
               clear hK_
               generalize q1.alloc (.cells (evl 0 n16 (.slice none 0 0) (.slice none 0 0)) 48) = q8 at *
               generalize q1.heap.size = g9 at *
               refine wpAnyH_one (k := 5) (fuel := 2) (by kernel_rfl) rfl (by kernel_rfl) (fun K_ hK_ => ?_)
               have lt_R1_q10 := lt_of_row R1
               have lt_RH_q10 := lt_of_row RH
               have lt_RX_q10 := lt_of_row RX
               refine wp_val_op (.slice (some ⟨q8.heap.size, 0, none⟩) K K) (w' := q8.alloc (.cells (irow .u8 (zr K)) 5)) (hx_make 28 _ _ rfl K rfl rfl q8 _ _ (make_lc K K (Nat.le_refl _) (by omega) q8)) ?_
               have RB := hp1_0 q8 (.cells (irow .u8 (zr K)) 5)
               have sz_q10 : w.heap.size ≤ q8.heap.size := hw.size
               have hb_ : Below q8.heap.size q8 (q8.alloc (.cells (irow .u8 (zr K)) 5)) := (Below.refl _ _).alloc (Nat.le_refl _) _
               replace R1 := keep hb_ R1
               replace RH := keep hb_ RH
               replace RX := keep hb_ RX
               replace hw := Below.after hw hb_
               clear hb_
               refine hK_ _ _ (R1) ?_
               simp only [Act.put, List.getElem_toArray, List.getElem_cons_succ, List.getElem_cons_zero, List.setIfInBounds_toArray, List.set_cons_succ, List.set_cons_zero]
               clear hK_
               generalize q8.alloc (.cells (irow .u8 (zr K)) 5) = q10 at *
               generalize q8.heap.size = gb at *
               refine wpAnyH_take (i := 6) (v := .agg (evl ver nonce (.slice (some ⟨gh, 0, none⟩) 60 60) (.slice (some ⟨gb, 0, none⟩) K K))) rfl (by kernel_rfl) (by kernel_rfl) (by kernel_rfl) (fun _ _ _ h => h) (Or.inl ⟨by rfl, ?y6⟩) (R1) ?r6
               case y6 =>
                 intro w_ hS_
                 simp only [List.getElem_toArray, List.getElem_cons_succ, List.getElem_cons_zero]
                 exact run_build_op 48 _ rfl [(0, .int .i64 ver), (1, .agg (irow .u8 (bl nonce))), (2, (.slice (some ⟨gh, 0, none⟩) 60 60)), (3, (.slice (some ⟨gb, 0, none⟩) K K))] rfl _ (builtE4 ver nonce hn _ _ _ _ _ _)
               simp only [Act.put, List.getElem_toArray, List.getElem_cons_succ, List.getElem_cons_zero, List.setIfInBounds_toArray, List.set_cons_succ, List.set_cons_zero]
               refine wpAnyH_one (k := 8) (fuel := 0) (by kernel_rfl) rfl (by kernel_rfl) (fun K_ hK_ => ?_)
               refine wp_store_row 48 _ _ rfl (g9) (evl ver nonce (.slice (some ⟨gh, 0, none⟩) 60 60) (.slice (some ⟨gb, 0, none⟩) K K)) rfl rfl 48 _ RX (evl_info _ _ hn _ _) (by rw [evl_size _ _ n16_len, evl_size _ _ hn]) (evl_one _ _ _ _ _ _ _ _) ?_
               replace RH := (setRow_other q10 (g9) (gh) (evl ver nonce (.slice (some ⟨gh, 0, none⟩) 60 60) (.slice (some ⟨gb, 0, none⟩) K K)) (by omega)).trans RH
               replace RB := (setRow_other q10 (g9) (gb) (evl ver nonce (.slice (some ⟨gh, 0, none⟩) 60 60) (.slice (some ⟨gb, 0, none⟩) K K)) (by omega)).trans RB
               replace R1 := (setRow_other q10 (g9) (w.heap.size) (evl ver nonce (.slice (some ⟨gh, 0, none⟩) 60 60) (.slice (some ⟨gb, 0, none⟩) K K)) (by omega)).trans R1
               replace RX := setRow_heap q10 (g9) _ (evl ver nonce (.slice (some ⟨gh, 0, none⟩) 60 60) (.slice (some ⟨gb, 0, none⟩) K K)) _ _ RX
               replace hw := below_setRow hw (show w.heap.size ≤ g9 by omega) (evl ver nonce (.slice (some ⟨gh, 0, none⟩) 60 60) (.slice (some ⟨gb, 0, none⟩) K K))
               refine hK_ _ _ (R1) ?_
               simp only [Act.put, List.getElem_toArray, List.getElem_cons_succ, List.getElem_cons_zero]
               clear hK_
               generalize q10.setRow g9 (evl ver nonce (.slice (some ⟨gh, 0, none⟩) 60 60) (.slice (some ⟨gb, 0, none⟩) K K)) = q11 at *
               refine wpAnyH_done (by kernel_rfl) ?_ _
               refine NoPanic.normal ?_
               rw [zr_z60] at RH
               rw [zr_fil f K] at RB
               have kx : g9 ≠ gb := by omega
               have kh : gh ≠ gb := by omega
               have kb : w.heap.size ≤ gb := by omega
               clear R1
               go_wp2_with (fail)
               go_loopw [20] (fun u wr => ∃ i : Nat, i ≤ K ∧ u = .int .i64 (i : Int) ∧ wr.heap[gb]? = some (.cells (irow .u8 (bl (fil f K i))) 5 (0, 0)) ∧ wr.heap[g9]? = some (.cells (evl ver nonce (.slice (some ⟨gh, 0, none⟩) 60 60) (.slice (some ⟨gb, 0, none⟩) K K)) 48 (0, 0)) ∧ wr.heap[gh]? = some (.cells (irow .u8 (bl z60)) 5 (0, 0)) ∧ Below w.heap.size w wr) (fun u _ => K - (intOf u).toNat)
               case atStart => exact ⟨0, by omega, rfl, RB, RX, RH, hw⟩
               case round =>
                 clear RB RX RH hw
                 obtain ⟨i, hi, rfl, RB, RX, RH, hw⟩ := hrel
                 have c18 : wr.cell? ⟨g9, 18, none⟩ = some (.slice (some ⟨gb, 0, none⟩) K K) := by rw [cell_of_row _ _ _ _ _ _ RX]; exact evl_b _ _ hn _ _
                 by_cases hlt : i < K
                 · have hd : decide ((i : Int) < (K : Int)) = true := decide_eq_true (by omega)
                   have cf := row_frozen RB i
                   have cc := irow_cell RB (j := i) (by rw [bl_len, fil_len f hi]; exact hlt)
                   have r2 := irow_set RB i (bv f)
                   rw [fil_set f hlt] at r2
                   have hw2 := hide (hw.setCell (show w.heap.size ≤ (⟨gb, i, none⟩ : Addr).block from kb) (.int .u8 (bv f)))
                   have x2 := hide (heap_other (v := .int .u8 (bv f)) (j := i) RX kx)
                   have h2 := hide (heap_other (v := .int .u8 (bv f)) (j := i) RH kh)
                   replace r2 := hide r2
                   clear RB RX RH hw
                   generalize (bl (fil f K i)).getD i 0 = z at *
                   go_wp2_with (fail)
                   refine ⟨⟨i + 1, by omega, by go_num, r2.out, x2.out, h2.out, hw2.out⟩, ?_⟩
                   simp [intOf]; omega
                 · obtain rfl : i = K := by omega
                   have hd : decide ((i : Int) < (i : Int)) = false := decide_eq_false (by omega)
                   obtain ⟨bd, hbd⟩ : ∃ bd, fil f i i = bd := ⟨_, rfl⟩
                   have lb : bd.length = i := by rw [← hbd]; exact fil_len f (Nat.le_refl _)
                   rw [hbd] at RB
                   have cP := hide (a_PackE ver v hv h1 h2 nonce hn (some ⟨gh, 0, none⟩) 60 60 (some ⟨gb, 0, none⟩) i i z60 bd wr (hE1.out _ hw) (row_bysB RH rfl (by decide) 60) (row_bysB RB lb (by omega) i) rfl lb (by decide) (by omega))
                   rw [hpO.out] at cP
                   clear RB RH hbd
                   have lb' := hide lb
                   clear lb
                   go_wp2_with (first | (refine wpList_load_want rfl 48 _ rfl g9 rfl 48 (evl ver nonce (.slice (some ⟨gh, 0, none⟩) 60 60) (.slice (some ⟨gb, 0, none⟩) i i)) (0, 0) _ RX Tryz.underlying48 rfl (evl_info _ _ hn _ _) ?_) | fail)
                   refine cP.out.mono ?_
                   rintro e_ y1 ⟨⟨u, rfl, hU⟩, hb⟩
                   replace hw := Below.after hw hb
                   have hle := (there10 hkn.out hn (show pk10 v z60.length bd.length = none by rw [lb'.out]; exact hp.out)).2.2.2.1
                   rw [lb'.out] at hle
                   obtain ⟨L, hL⟩ : ∃ L, eout (efs v nonce z60 bd) = L := ⟨_, rfl⟩
                   rw [hL] at hU hle
                   obtain ⟨ua, uc, rfl⟩ := slen_own hU
                   have hA' : L.length = A := by rw [hle, ← hA.out]; unfold eln; rw [← hKn.out]
                   rw [hA']
                   have n1 := eql_nilE
                   clear cP hb hU hL hle hA' RX c18 hd
                   go_wp2_with (fail)
                   go_ret
                   exact ⟨rfl, hw⟩
           · have lt_R1_q12 := lt_of_row R1
             refine wp_val_op (.slice (some ⟨x1.heap.size, 0, none⟩) K K) (w' := x1.alloc (.cells (irow .u8 (zr K)) 5)) (hx_make 28 _ _ rfl K rfl rfl x1 _ _ (make_lc K K (Nat.le_refl _) (by omega) x1)) ?_
             have RB := hp1_0 x1 (.cells (irow .u8 (zr K)) 5)
             have sz_q12 : w.heap.size ≤ x1.heap.size := hw.size
             have hb_ : Below x1.heap.size x1 (x1.alloc (.cells (irow .u8 (zr K)) 5)) := (Below.refl _ _).alloc (Nat.le_refl _) _
             replace R1 := keep hb_ R1
             replace hw := Below.after hw hb_
             clear hb_
             refine hK_ _ _ (R1) ?_
             simp only [Act.put, List.getElem_toArray, List.getElem_cons_succ, List.getElem_cons_zero, List.setIfInBounds_toArray, List.set_cons_succ, List.set_cons_zero]
             clear hK_
             generalize x1.alloc (.cells (irow .u8 (zr K)) 5) = q12 at *
             generalize x1.heap.size = gb at *
             refine wpAnyH_two (j := 2) (k := 7) (fuel := 3) (by kernel_rfl) rfl rfl (by kernel_rfl) (by kernel_rfl) (fun K_ hK_ => ?_) (fun K_ hK_ => ?_)
             · have lt_R1_q13 := lt_of_row R1
               have lt_RB_q13 := lt_of_row RB
               refine wp_val_op (.slice (some ⟨q12.heap.size, 0, none⟩) 60 60) (w' := q12.alloc (.cells (irow .u8 (zr 60)) 5)) (hx_make 28 _ _ rfl 60 rfl rfl q12 _ _ (make_lc 60 60 (Nat.le_refl _) (by omega) q12)) ?_
               have RH := hp1_0 q12 (.cells (irow .u8 (zr 60)) 5)
               have sz_q13 : w.heap.size ≤ q12.heap.size := hw.size
               have hb_ : Below q12.heap.size q12 (q12.alloc (.cells (irow .u8 (zr 60)) 5)) := (Below.refl _ _).alloc (Nat.le_refl _) _
               replace R1 := keep hb_ R1
               replace RB := keep hb_ RB
               replace hw := Below.after hw hb_
               clear hb_
               refine hK_ _ _ (R1) ?_
               simp only [Act.put, List.getElem_toArray, List.getElem_cons_succ, List.getElem_cons_zero, List.setIfInBounds_toArray, List.set_cons_succ, List.set_cons_zero]
               clear hK_
               generalize q12.alloc (.cells (irow .u8 (zr 60)) 5) = q13 at *
               generalize q12.heap.size = gh at *
               refine wpAnyH_take (i := 6) (v := .agg (evl ver nonce (.slice (some ⟨gh, 0, none⟩) 60 60) (.slice (some ⟨gb, 0, none⟩) K K))) rfl (by kernel_rfl) (by kernel_rfl) (by kernel_rfl) (fun _ _ _ h => h) (Or.inl ⟨by rfl, ?y7⟩) (R1) ?r7
               case y7 =>
                 intro w_ hS_
                 simp only [List.getElem_toArray, List.getElem_cons_succ, List.getElem_cons_zero]
                 exact run_build_op 48 _ rfl [(0, .int .i64 ver), (1, .agg (irow .u8 (bl nonce))), (2, (.slice (some ⟨gh, 0, none⟩) 60 60)), (3, (.slice (some ⟨gb, 0, none⟩) K K))] rfl _ (builtE4 ver nonce hn _ _ _ _ _ _)
               simp only [Act.put, List.getElem_toArray, List.getElem_cons_succ, List.getElem_cons_zero, List.setIfInBounds_toArray, List.set_cons_succ, List.set_cons_zero]
               refine wpAnyH_one (k := 7) (fuel := 1) (by kernel_rfl) rfl (by kernel_rfl) (fun K_ hK_ => ?_)
               refine wp_world_op (.pointer (some ⟨q13.heap.size, 0, none⟩)) (q13.alloc (.cells (evl 0 n16 (.slice none 0 0) (.slice none 0 0)) 48)) (by kernel_rfl) ?_
               have hb_ : Below q13.heap.size q13 (q13.alloc (.cells (evl 0 n16 (.slice none 0 0) (.slice none 0 0)) 48)) := (Below.refl _ _).alloc (Nat.le_refl _) _
               have sz_g16 : w.heap.size ≤ q13.heap.size := hw.size
               have lt_R1_g16 := lt_of_row R1
               have lt_RB_g16 := lt_of_row RB
               have lt_RH_g16 := lt_of_row RH
               have RX := hp1_0 q13 (.cells (evl 0 n16 (.slice none 0 0) (.slice none 0 0)) 48)
               replace R1 := keep hb_ R1
               replace RB := keep hb_ RB
               replace RH := keep hb_ RH
               replace hw := Below.after hw hb_
               clear hb_
               refine hK_ _ _ (R1) ?_
               simp only [Act.put, List.getElem_toArray, List.getElem_cons_succ, List.getElem_cons_zero, List.setIfInBounds_toArray, List.set_cons_succ, List.set_cons_zero]
               clear hK_
               generalize q13.alloc (.cells (evl 0 n16 (.slice none 0 0) (.slice none 0 0)) 48) = q15 at *
               generalize q13.heap.size = g16 at *
               refine wpAnyH_one (k := 8) (fuel := 0) (by kernel_rfl) rfl (by kernel_rfl) (fun K_ hK_ => ?_)
               refine wp_store_row 48 _ _ rfl (g16) (evl ver nonce (.slice (some ⟨gh, 0, none⟩) 60 60) (.slice (some ⟨gb, 0, none⟩) K K)) rfl rfl 48 _ RX (evl_info _ _ hn _ _) (by rw [evl_size _ _ n16_len, evl_size _ _ hn]) (evl_one _ _ _ _ _ _ _ _) ?_
               replace RH := (setRow_other q15 (g16) (gh) (evl ver nonce (.slice (some ⟨gh, 0, none⟩) 60 60) (.slice (some ⟨gb, 0, none⟩) K K)) (by omega)).trans RH
               replace RB := (setRow_other q15 (g16) (gb) (evl ver nonce (.slice (some ⟨gh, 0, none⟩) 60 60) (.slice (some ⟨gb, 0, none⟩) K K)) (by omega)).trans RB
               replace R1 := (setRow_other q15 (g16) (w.heap.size) (evl ver nonce (.slice (some ⟨gh, 0, none⟩) 60 60) (.slice (some ⟨gb, 0, none⟩) K K)) (by omega)).trans R1
               replace RX := setRow_heap q15 (g16) _ (evl ver nonce (.slice (some ⟨gh, 0, none⟩) 60 60) (.slice (some ⟨gb, 0, none⟩) K K)) _ _ RX
               replace hw := below_setRow hw (show w.heap.size ≤ g16 by omega) (evl ver nonce (.slice (some ⟨gh, 0, none⟩) 60 60) (.slice (some ⟨gb, 0, none⟩) K K))
               refine hK_ _ _ (R1) ?_
               simp only [Act.put, List.getElem_toArray, List.getElem_cons_succ, List.getElem_cons_zero]
               clear hK_
               generalize q15.setRow g16 (evl ver nonce (.slice (some ⟨gh, 0, none⟩) 60 60) (.slice (some ⟨gb, 0, none⟩) K K)) = q17 at *
               refine wpAnyH_done (by kernel_rfl) ?_ _
               refine NoPanic.normal ?_
               rw [zr_z60] at RH
               rw [zr_fil f K] at RB
               have kx : g16 ≠ gb := by omega
               have kh : gh ≠ gb := by omega
               have kb : w.heap.size ≤ gb := by omega
               clear R1
               go_wp2_with (fail)
               go_loopw [20] (fun u wr => ∃ i : Nat, i ≤ K ∧ u = .int .i64 (i : Int) ∧ wr.heap[gb]? = some (.cells (irow .u8 (bl (fil f K i))) 5 (0, 0)) ∧ wr.heap[g16]? = some (.cells (evl ver nonce (.slice (some ⟨gh, 0, none⟩) 60 60) (.slice (some ⟨gb, 0, none⟩) K K)) 48 (0, 0)) ∧ wr.heap[gh]? = some (.cells (irow .u8 (bl z60)) 5 (0, 0)) ∧ Below w.heap.size w wr) (fun u _ => K - (intOf u).toNat)
               case atStart => exact ⟨0, by omega, rfl, RB, RX, RH, hw⟩
               case round =>
                 clear RB RX RH hw
                 obtain ⟨i, hi, rfl, RB, RX, RH, hw⟩ := hrel
                 have c18 : wr.cell? ⟨g16, 18, none⟩ = some (.slice (some ⟨gb, 0, none⟩) K K) := by rw [cell_of_row _ _ _ _ _ _ RX]; exact evl_b _ _ hn _ _
                 by_cases hlt : i < K
                 · have hd : decide ((i : Int) < (K : Int)) = true := decide_eq_true (by omega)
                   have cf := row_frozen RB i
                   have cc := irow_cell RB (j := i) (by rw [bl_len, fil_len f hi]; exact hlt)
                   have r2 := irow_set RB i (bv f)
                   rw [fil_set f hlt] at r2
                   have hw2 := hide (hw.setCell (show w.heap.size ≤ (⟨gb, i, none⟩ : Addr).block from kb) (.int .u8 (bv f)))
                   have x2 := hide (heap_other (v := .int .u8 (bv f)) (j := i) RX kx)
                   have h2 := hide (heap_other (v := .int .u8 (bv f)) (j := i) RH kh)
                   replace r2 := hide r2
                   clear RB RX RH hw
                   generalize (bl (fil f K i)).getD i 0 = z at *
                   go_wp2_with (fail)
                   refine ⟨⟨i + 1, by omega, by go_num, r2.out, x2.out, h2.out, hw2.out⟩, ?_⟩
                   simp [intOf]; omega
                 · obtain rfl : i = K := by omega
                   have hd : decide ((i : Int) < (i : Int)) = false := decide_eq_false (by omega)
                   obtain ⟨bd, hbd⟩ : ∃ bd, fil f i i = bd := ⟨_, rfl⟩
                   have lb : bd.length = i := by rw [← hbd]; exact fil_len f (Nat.le_refl _)
                   rw [hbd] at RB
                   have cP := hide (a_PackE ver v hv h1 h2 nonce hn (some ⟨gh, 0, none⟩) 60 60 (some ⟨gb, 0, none⟩) i i z60 bd wr (hE1.out _ hw) (row_bysB RH rfl (by decide) 60) (row_bysB RB lb (by omega) i) rfl lb (by decide) (by omega))
                   rw [hpO.out] at cP
                   clear RB RH hbd
                   have lb' := hide lb
                   clear lb
                   go_wp2_with (first | (refine wpList_load_want rfl 48 _ rfl g16 rfl 48 (evl ver nonce (.slice (some ⟨gh, 0, none⟩) 60 60) (.slice (some ⟨gb, 0, none⟩) i i)) (0, 0) _ RX Tryz.underlying48 rfl (evl_info _ _ hn _ _) ?_) | fail)
                   refine cP.out.mono ?_
                   rintro e_ y1 ⟨⟨u, rfl, hU⟩, hb⟩
                   replace hw := Below.after hw hb
                   have hle := (there10 hkn.out hn (show pk10 v z60.length bd.length = none by rw [lb'.out]; exact hp.out)).2.2.2.1
                   rw [lb'.out] at hle
                   obtain ⟨L, hL⟩ : ∃ L, eout (efs v nonce z60 bd) = L := ⟨_, rfl⟩
                   rw [hL] at hU hle
                   obtain ⟨ua, uc, rfl⟩ := slen_own hU
                   have hA' : L.length = A := by rw [hle, ← hA.out]; unfold eln; rw [← hKn.out]
                   rw [hA']
                   have n1 := eql_nilE
                   clear cP hb hU hL hle hA' RX c18 hd
                   go_wp2_with (fail)
                   go_ret
                   exact ⟨rfl, hw⟩
             · refine wp_world_op (.pointer (some ⟨q12.heap.size, 0, none⟩)) (q12.alloc (.cells (evl 0 n16 (.slice none 0 0) (.slice none 0 0)) 48)) (by kernel_rfl) ?_
               have hb_ : Below q12.heap.size q12 (q12.alloc (.cells (evl 0 n16 (.slice none 0 0) (.slice none 0 0)) 48)) := (Below.refl _ _).alloc (Nat.le_refl _) _
               have sz_g20 : w.heap.size ≤ q12.heap.size := hw.size
               have lt_R1_g20 := lt_of_row R1
               have lt_RB_g20 := lt_of_row RB
               have RX := hp1_0 q12 (.cells (evl 0 n16 (.slice none 0 0) (.slice none 0 0)) 48)
               replace R1 := keep hb_ R1
               replace RB := keep hb_ RB
               replace hw := Below.after hw hb_
               clear hb_
               refine hK_ _ _ (R1) ?_
               simp only [Act.put, List.getElem_toArray, List.getElem_cons_succ, List.getElem_cons_zero, List.setIfInBounds_toArray, List.set_cons_succ, List.set_cons_zero]
               clear hK_
               generalize q12.alloc (.cells (evl 0 n16 (.slice none 0 0) (.slice none 0 0)) 48) = q19 at *
               generalize q12.heap.size = g20 at *
               refine wpAnyH_one (k := 2) (fuel := 2) (by kernel_rfl) rfl (by kernel_rfl) (fun K_ hK_ => ?_)
               have lt_R1_q21 := lt_of_row R1
               have lt_RB_q21 := lt_of_row RB
               have lt_RX_q21 := lt_of_row RX
               refine wp_val_op (.slice (some ⟨q19.heap.size, 0, none⟩) 60 60) (w' := q19.alloc (.cells (irow .u8 (zr 60)) 5)) (hx_make 28 _ _ rfl 60 rfl rfl q19 _ _ (make_lc 60 60 (Nat.le_refl _) (by omega) q19)) ?_
               have RH := hp1_0 q19 (.cells (irow .u8 (zr 60)) 5)
               have sz_q21 : w.heap.size ≤ q19.heap.size := hw.size
               have hb_ : Below q19.heap.size q19 (q19.alloc (.cells (irow .u8 (zr 60)) 5)) := (Below.refl _ _).alloc (Nat.le_refl _) _
               replace R1 := keep hb_ R1
               replace RB := keep hb_ RB
               replace RX := keep hb_ RX
               replace hw := Below.after hw hb_
               clear hb_
               refine hK_ _ _ (R1) ?_
               simp only [Act.put, List.getElem_toArray, List.getElem_cons_succ, List.getElem_cons_zero, List.setIfInBounds_toArray, List.set_cons_succ, List.set_cons_zero]
               clear hK_
               generalize q19.alloc (.cells (irow .u8 (zr 60)) 5) = q21 at *
               generalize q19.heap.size = gh at *
               refine wpAnyH_take (i := 6) (v := .agg (evl ver nonce (.slice (some ⟨gh, 0, none⟩) 60 60) (.slice (some ⟨gb, 0, none⟩) K K))) rfl (by kernel_rfl) (by kernel_rfl) (by kernel_rfl) (fun _ _ _ h => h) (Or.inl ⟨by rfl, ?y8⟩) (R1) ?r8
               case y8 =>
                 intro w_ hS_
                 simp only [List.getElem_toArray, List.getElem_cons_succ, List.getElem_cons_zero]
                 exact run_build_op 48 _ rfl [(0, .int .i64 ver), (1, .agg (irow .u8 (bl nonce))), (2, (.slice (some ⟨gh, 0, none⟩) 60 60)), (3, (.slice (some ⟨gb, 0, none⟩) K K))] rfl _ (builtE4 ver nonce hn _ _ _ _ _ _)
               simp only [Act.put, List.getElem_toArray, List.getElem_cons_succ, List.getElem_cons_zero, List.setIfInBounds_toArray, List.set_cons_succ, List.set_cons_zero]
               refine wpAnyH_one (k := 8) (fuel := 0) (by kernel_rfl) rfl (by kernel_rfl) (fun K_ hK_ => ?_)
               refine wp_store_row 48 _ _ rfl (g20) (evl ver nonce (.slice (some ⟨gh, 0, none⟩) 60 60) (.slice (some ⟨gb, 0, none⟩) K K)) rfl rfl 48 _ RX (evl_info _ _ hn _ _) (by rw [evl_size _ _ n16_len, evl_size _ _ hn]) (evl_one _ _ _ _ _ _ _ _) ?_
               replace RH := (setRow_other q21 (g20) (gh) (evl ver nonce (.slice (some ⟨gh, 0, none⟩) 60 60) (.slice (some ⟨gb, 0, none⟩) K K)) (by omega)).trans RH
               replace RB := (setRow_other q21 (g20) (gb) (evl ver nonce (.slice (some ⟨gh, 0, none⟩) 60 60) (.slice (some ⟨gb, 0, none⟩) K K)) (by omega)).trans RB
               replace R1 := (setRow_other q21 (g20) (w.heap.size) (evl ver nonce (.slice (some ⟨gh, 0, none⟩) 60 60) (.slice (some ⟨gb, 0, none⟩) K K)) (by omega)).trans R1
               replace RX := setRow_heap q21 (g20) _ (evl ver nonce (.slice (some ⟨gh, 0, none⟩) 60 60) (.slice (some ⟨gb, 0, none⟩) K K)) _ _ RX
               replace hw := below_setRow hw (show w.heap.size ≤ g20 by omega) (evl ver nonce (.slice (some ⟨gh, 0, none⟩) 60 60) (.slice (some ⟨gb, 0, none⟩) K K))
               refine hK_ _ _ (R1) ?_
               simp only [Act.put, List.getElem_toArray, List.getElem_cons_succ, List.getElem_cons_zero]
               clear hK_
               generalize q21.setRow g20 (evl ver nonce (.slice (some ⟨gh, 0, none⟩) 60 60) (.slice (some ⟨gb, 0, none⟩) K K)) = q22 at *
               refine wpAnyH_done (by kernel_rfl) ?_ _
               refine NoPanic.normal ?_
               rw [zr_z60] at RH
               rw [zr_fil f K] at RB
               have kx : g20 ≠ gb := by omega
               have kh : gh ≠ gb := by omega
               have kb : w.heap.size ≤ gb := by omega
               clear R1
               go_wp2_with (fail)
               go_loopw [20] (fun u wr => ∃ i : Nat, i ≤ K ∧ u = .int .i64 (i : Int) ∧ wr.heap[gb]? = some (.cells (irow .u8 (bl (fil f K i))) 5 (0, 0)) ∧ wr.heap[g20]? = some (.cells (evl ver nonce (.slice (some ⟨gh, 0, none⟩) 60 60) (.slice (some ⟨gb, 0, none⟩) K K)) 48 (0, 0)) ∧ wr.heap[gh]? = some (.cells (irow .u8 (bl z60)) 5 (0, 0)) ∧ Below w.heap.size w wr) (fun u _ => K - (intOf u).toNat)
               case atStart => exact ⟨0, by omega, rfl, RB, RX, RH, hw⟩
               case round =>
                 clear RB RX RH hw
                 obtain ⟨i, hi, rfl, RB, RX, RH, hw⟩ := hrel
                 have c18 : wr.cell? ⟨g20, 18, none⟩ = some (.slice (some ⟨gb, 0, none⟩) K K) := by rw [cell_of_row _ _ _ _ _ _ RX]; exact evl_b _ _ hn _ _
                 by_cases hlt : i < K
                 · have hd : decide ((i : Int) < (K : Int)) = true := decide_eq_true (by omega)
                   have cf := row_frozen RB i
                   have cc := irow_cell RB (j := i) (by rw [bl_len, fil_len f hi]; exact hlt)
                   have r2 := irow_set RB i (bv f)
                   rw [fil_set f hlt] at r2
                   have hw2 := hide (hw.setCell (show w.heap.size ≤ (⟨gb, i, none⟩ : Addr).block from kb) (.int .u8 (bv f)))
                   have x2 := hide (heap_other (v := .int .u8 (bv f)) (j := i) RX kx)
                   have h2 := hide (heap_other (v := .int .u8 (bv f)) (j := i) RH kh)
                   replace r2 := hide r2
                   clear RB RX RH hw
                   generalize (bl (fil f K i)).getD i 0 = z at *
                   go_wp2_with (fail)
                   refine ⟨⟨i + 1, by omega, by go_num, r2.out, x2.out, h2.out, hw2.out⟩, ?_⟩
                   simp [intOf]; omega
                 · obtain rfl : i = K := by omega
                   have hd : decide ((i : Int) < (i : Int)) = false := decide_eq_false (by omega)
                   obtain ⟨bd, hbd⟩ : ∃ bd, fil f i i = bd := ⟨_, rfl⟩
                   have lb : bd.length = i := by rw [← hbd]; exact fil_len f (Nat.le_refl _)
                   rw [hbd] at RB
                   have cP := hide (a_PackE ver v hv h1 h2 nonce hn (some ⟨gh, 0, none⟩) 60 60 (some ⟨gb, 0, none⟩) i i z60 bd wr (hE1.out _ hw) (row_bysB RH rfl (by decide) 60) (row_bysB RB lb (by omega) i) rfl lb (by decide) (by omega))
                   rw [hpO.out] at cP
                   clear RB RH hbd
                   have lb' := hide lb
                   clear lb
                   go_wp2_with (first | (refine wpList_load_want rfl 48 _ rfl g20 rfl 48 (evl ver nonce (.slice (some ⟨gh, 0, none⟩) 60 60) (.slice (some ⟨gb, 0, none⟩) i i)) (0, 0) _ RX Tryz.underlying48 rfl (evl_info _ _ hn _ _) ?_) | fail)
                   refine cP.out.mono ?_
                   rintro e_ y1 ⟨⟨u, rfl, hU⟩, hb⟩
                   replace hw := Below.after hw hb
                   have hle := (there10 hkn.out hn (show pk10 v z60.length bd.length = none by rw [lb'.out]; exact hp.out)).2.2.2.1
                   rw [lb'.out] at hle
                   obtain ⟨L, hL⟩ : ∃ L, eout (efs v nonce z60 bd) = L := ⟨_, rfl⟩
                   rw [hL] at hU hle
                   obtain ⟨ua, uc, rfl⟩ := slen_own hU
                   have hA' : L.length = A := by rw [hle, ← hA.out]; unfold eln; rw [← hKn.out]
                   rw [hA']
                   have n1 := eql_nilE
                   clear cP hb hU hL hle hA' RX c18 hd
                   go_wp2_with (fail)
                   go_ret
                   exact ⟨rfl, hw⟩
           · refine wp_world_op (.pointer (some ⟨x1.heap.size, 0, none⟩)) (x1.alloc (.cells (evl 0 n16 (.slice none 0 0) (.slice none 0 0)) 48)) (by kernel_rfl) ?_
             have hb_ : Below x1.heap.size x1 (x1.alloc (.cells (evl 0 n16 (.slice none 0 0) (.slice none 0 0)) 48)) := (Below.refl _ _).alloc (Nat.le_refl _) _
             have sz_g25 : w.heap.size ≤ x1.heap.size := hw.size
             have lt_R1_g25 := lt_of_row R1
             have RX := hp1_0 x1 (.cells (evl 0 n16 (.slice none 0 0) (.slice none 0 0)) 48)
             replace R1 := keep hb_ R1
             replace hw := Below.after hw hb_
             clear hb_
             refine hK_ _ _ (R1) ?_
             simp only [Act.put, List.getElem_toArray, List.getElem_cons_succ, List.getElem_cons_zero, List.setIfInBounds_toArray, List.set_cons_succ, List.set_cons_zero]
             clear hK_
             generalize x1.alloc (.cells (evl 0 n16 (.slice none 0 0) (.slice none 0 0)) 48) = q24 at *
             generalize x1.heap.size = g25 at *
             refine wpAnyH_two (j := 2) (k := 5) (fuel := 3) (by kernel_rfl) rfl rfl (by kernel_rfl) (by kernel_rfl) (fun K_ hK_ => ?_) (fun K_ hK_ => ?_)
             · have lt_R1_q26 := lt_of_row R1
               have lt_RX_q26 := lt_of_row RX
               refine wp_val_op (.slice (some ⟨q24.heap.size, 0, none⟩) 60 60) (w' := q24.alloc (.cells (irow .u8 (zr 60)) 5)) (hx_make 28 _ _ rfl 60 rfl rfl q24 _ _ (make_lc 60 60 (Nat.le_refl _) (by omega) q24)) ?_
               have RH := hp1_0 q24 (.cells (irow .u8 (zr 60)) 5)
               have sz_q26 : w.heap.size ≤ q24.heap.size := hw.size
               have hb_ : Below q24.heap.size q24 (q24.alloc (.cells (irow .u8 (zr 60)) 5)) := (Below.refl _ _).alloc (Nat.le_refl _) _
               replace R1 := keep hb_ R1
               replace RX := keep hb_ RX
               replace hw := Below.after hw hb_
               clear hb_
               refine hK_ _ _ (R1) ?_
               simp only [Act.put, List.getElem_toArray, List.getElem_cons_succ, List.getElem_cons_zero, List.setIfInBounds_toArray, List.set_cons_succ, List.set_cons_zero]
               clear hK_
               generalize q24.alloc (.cells (irow .u8 (zr 60)) 5) = q26 at *
               generalize q24.heap.size = gh at *
               refine wpAnyH_one (k := 5) (fuel := 2) (by kernel_rfl) rfl (by kernel_rfl) (fun K_ hK_ => ?_)
               have lt_R1_q27 := lt_of_row R1
               have lt_RX_q27 := lt_of_row RX
               have lt_RH_q27 := lt_of_row RH
               refine wp_val_op (.slice (some ⟨q26.heap.size, 0, none⟩) K K) (w' := q26.alloc (.cells (irow .u8 (zr K)) 5)) (hx_make 28 _ _ rfl K rfl rfl q26 _ _ (make_lc K K (Nat.le_refl _) (by omega) q26)) ?_
               have RB := hp1_0 q26 (.cells (irow .u8 (zr K)) 5)
               have sz_q27 : w.heap.size ≤ q26.heap.size := hw.size
               have hb_ : Below q26.heap.size q26 (q26.alloc (.cells (irow .u8 (zr K)) 5)) := (Below.refl _ _).alloc (Nat.le_refl _) _
               replace R1 := keep hb_ R1
               replace RX := keep hb_ RX
               replace RH := keep hb_ RH
               replace hw := Below.after hw hb_
               clear hb_
               refine hK_ _ _ (R1) ?_
               simp only [Act.put, List.getElem_toArray, List.getElem_cons_succ, List.getElem_cons_zero, List.setIfInBounds_toArray, List.set_cons_succ, List.set_cons_zero]
               clear hK_
               generalize q26.alloc (.cells (irow .u8 (zr K)) 5) = q27 at *
               generalize q26.heap.size = gb at *
               refine wpAnyH_take (i := 6) (v := .agg (evl ver nonce (.slice (some ⟨gh, 0, none⟩) 60 60) (.slice (some ⟨gb, 0, none⟩) K K))) rfl (by kernel_rfl) (by kernel_rfl) (by kernel_rfl) (fun _ _ _ h => h) (Or.inl ⟨by rfl, ?y9⟩) (R1) ?r9
               case y9 =>
                 intro w_ hS_
                 simp only [List.getElem_toArray, List.getElem_cons_succ, List.getElem_cons_zero]
                 exact run_build_op 48 _ rfl [(0, .int .i64 ver), (1, .agg (irow .u8 (bl nonce))), (2, (.slice (some ⟨gh, 0, none⟩) 60 60)), (3, (.slice (some ⟨gb, 0, none⟩) K K))] rfl _ (builtE4 ver nonce hn _ _ _ _ _ _)
               simp only [Act.put, List.getElem_toArray, List.getElem_cons_succ, List.getElem_cons_zero, List.setIfInBounds_toArray, List.set_cons_succ, List.set_cons_zero]
               refine wpAnyH_one (k := 8) (fuel := 0) (by kernel_rfl) rfl (by kernel_rfl) (fun K_ hK_ => ?_)
               refine wp_store_row 48 _ _ rfl (g25) (evl ver nonce (.slice (some ⟨gh, 0, none⟩) 60 60) (.slice (some ⟨gb, 0, none⟩) K K)) rfl rfl 48 _ RX (evl_info _ _ hn _ _) (by rw [evl_size _ _ n16_len, evl_size _ _ hn]) (evl_one _ _ _ _ _ _ _ _) ?_
               replace RH := (setRow_other q27 (g25) (gh) (evl ver nonce (.slice (some ⟨gh, 0, none⟩) 60 60) (.slice (some ⟨gb, 0, none⟩) K K)) (by omega)).trans RH
               replace RB := (setRow_other q27 (g25) (gb) (evl ver nonce (.slice (some ⟨gh, 0, none⟩) 60 60) (.slice (some ⟨gb, 0, none⟩) K K)) (by omega)).trans RB
               replace R1 := (setRow_other q27 (g25) (w.heap.size) (evl ver nonce (.slice (some ⟨gh, 0, none⟩) 60 60) (.slice (some ⟨gb, 0, none⟩) K K)) (by omega)).trans R1
               replace RX := setRow_heap q27 (g25) _ (evl ver nonce (.slice (some ⟨gh, 0, none⟩) 60 60) (.slice (some ⟨gb, 0, none⟩) K K)) _ _ RX
               replace hw := below_setRow hw (show w.heap.size ≤ g25 by omega) (evl ver nonce (.slice (some ⟨gh, 0, none⟩) 60 60) (.slice (some ⟨gb, 0, none⟩) K K))
               refine hK_ _ _ (R1) ?_
               simp only [Act.put, List.getElem_toArray, List.getElem_cons_succ, List.getElem_cons_zero]
               clear hK_
               generalize q27.setRow g25 (evl ver nonce (.slice (some ⟨gh, 0, none⟩) 60 60) (.slice (some ⟨gb, 0, none⟩) K K)) = q28 at *
               refine wpAnyH_done (by kernel_rfl) ?_ _
               refine NoPanic.normal ?_
               rw [zr_z60] at RH
               rw [zr_fil f K] at RB
               have kx : g25 ≠ gb := by omega
               have kh : gh ≠ gb := by omega
               have kb : w.heap.size ≤ gb := by omega
               clear R1
               go_wp2_with (fail)
               go_loopw [20] (fun u wr => ∃ i : Nat, i ≤ K ∧ u = .int .i64 (i : Int) ∧ wr.heap[gb]? = some (.cells (irow .u8 (bl (fil f K i))) 5 (0, 0)) ∧ wr.heap[g25]? = some (.cells (evl ver nonce (.slice (some ⟨gh, 0, none⟩) 60 60) (.slice (some ⟨gb, 0, none⟩) K K)) 48 (0, 0)) ∧ wr.heap[gh]? = some (.cells (irow .u8 (bl z60)) 5 (0, 0)) ∧ Below w.heap.size w wr) (fun u _ => K - (intOf u).toNat)
               case atStart => exact ⟨0, by omega, rfl, RB, RX, RH, hw⟩
               case round =>
                 clear RB RX RH hw
                 obtain ⟨i, hi, rfl, RB, RX, RH, hw⟩ := hrel
                 have c18 : wr.cell? ⟨g25, 18, none⟩ = some (.slice (some ⟨gb, 0, none⟩) K K) := by rw [cell_of_row _ _ _ _ _ _ RX]; exact evl_b _ _ hn _ _
                 by_cases hlt : i < K
                 · have hd : decide ((i : Int) < (K : Int)) = true := decide_eq_true (by omega)
                   have cf := row_frozen RB i
                   have cc := irow_cell RB (j := i) (by rw [bl_len, fil_len f hi]; exact hlt)
                   have r2 := irow_set RB i (bv f)
                   rw [fil_set f hlt] at r2
                   have hw2 := hide (hw.setCell (show w.heap.size ≤ (⟨gb, i, none⟩ : Addr).block from kb) (.int .u8 (bv f)))
                   have x2 := hide (heap_other (v := .int .u8 (bv f)) (j := i) RX kx)
                   have h2 := hide (heap_other (v := .int .u8 (bv f)) (j := i) RH kh)
                   replace r2 := hide r2
                   clear RB RX RH hw
                   generalize (bl (fil f K i)).getD i 0 = z at *
                   go_wp2_with (fail)
                   refine ⟨⟨i + 1, by omega, by go_num, r2.out, x2.out, h2.out, hw2.out⟩, ?_⟩
                   simp [intOf]; omega
                 · obtain rfl : i = K := by omega
                   have hd : decide ((i : Int) < (i : Int)) = false := decide_eq_false (by omega)
                   obtain ⟨bd, hbd⟩ : ∃ bd, fil f i i = bd := ⟨_, rfl⟩
                   have lb : bd.length = i := by rw [← hbd]; exact fil_len f (Nat.le_refl _)
                   rw [hbd] at RB
                   have cP := hide (a_PackE ver v hv h1 h2 nonce hn (some ⟨gh, 0, none⟩) 60 60 (some ⟨gb, 0, none⟩) i i z60 bd wr (hE1.out _ hw) (row_bysB RH rfl (by decide) 60) (row_bysB RB lb (by omega) i) rfl lb (by decide) (by omega))
                   rw [hpO.out] at cP
                   clear RB RH hbd
                   have lb' := hide lb
                   clear lb
                   go_wp2_with (first | (refine wpList_load_want rfl 48 _ rfl g25 rfl 48 (evl ver nonce (.slice (some ⟨gh, 0, none⟩) 60 60) (.slice (some ⟨gb, 0, none⟩) i i)) (0, 0) _ RX Tryz.underlying48 rfl (evl_info _ _ hn _ _) ?_) | fail)
                   refine cP.out.mono ?_
                   rintro e_ y1 ⟨⟨u, rfl, hU⟩, hb⟩
                   replace hw := Below.after hw hb
                   have hle := (there10 hkn.out hn (show pk10 v z60.length bd.length = none by rw [lb'.out]; exact hp.out)).2.2.2.1
                   rw [lb'.out] at hle
                   obtain ⟨L, hL⟩ : ∃ L, eout (efs v nonce z60 bd) = L := ⟨_, rfl⟩
                   rw [hL] at hU hle
                   obtain ⟨ua, uc, rfl⟩ := slen_own hU
                   have hA' : L.length = A := by rw [hle, ← hA.out]; unfold eln; rw [← hKn.out]
                   rw [hA']
                   have n1 := eql_nilE
                   clear cP hb hU hL hle hA' RX c18 hd
                   go_wp2_with (fail)
                   go_ret
                   exact ⟨rfl, hw⟩
             · have lt_R1_q29 := lt_of_row R1
               have lt_RX_q29 := lt_of_row RX
               refine wp_val_op (.slice (some ⟨q24.heap.size, 0, none⟩) K K) (w' := q24.alloc (.cells (irow .u8 (zr K)) 5)) (hx_make 28 _ _ rfl K rfl rfl q24 _ _ (make_lc K K (Nat.le_refl _) (by omega) q24)) ?_
               have RB := hp1_0 q24 (.cells (irow .u8 (zr K)) 5)
               have sz_q29 : w.heap.size ≤ q24.heap.size := hw.size
               have hb_ : Below q24.heap.size q24 (q24.alloc (.cells (irow .u8 (zr K)) 5)) := (Below.refl _ _).alloc (Nat.le_refl _) _
               replace R1 := keep hb_ R1
               replace RX := keep hb_ RX
               replace hw := Below.after hw hb_
               clear hb_
               refine hK_ _ _ (R1) ?_
               simp only [Act.put, List.getElem_toArray, List.getElem_cons_succ, List.getElem_cons_zero, List.setIfInBounds_toArray, List.set_cons_succ, List.set_cons_zero]
               clear hK_
               generalize q24.alloc (.cells (irow .u8 (zr K)) 5) = q29 at *
               generalize q24.heap.size = gb at *
               refine wpAnyH_one (k := 2) (fuel := 2) (by kernel_rfl) rfl (by kernel_rfl) (fun K_ hK_ => ?_)
               have lt_R1_q30 := lt_of_row R1
               have lt_RX_q30 := lt_of_row RX
               have lt_RB_q30 := lt_of_row RB
               refine wp_val_op (.slice (some ⟨q29.heap.size, 0, none⟩) 60 60) (w' := q29.alloc (.cells (irow .u8 (zr 60)) 5)) (hx_make 28 _ _ rfl 60 rfl rfl q29 _ _ (make_lc 60 60 (Nat.le_refl _) (by omega) q29)) ?_
               have RH := hp1_0 q29 (.cells (irow .u8 (zr 60)) 5)
               have sz_q30 : w.heap.size ≤ q29.heap.size := hw.size
               have hb_ : Below q29.heap.size q29 (q29.alloc (.cells (irow .u8 (zr 60)) 5)) := (Below.refl _ _).alloc (Nat.le_refl _) _
               replace R1 := keep hb_ R1
               replace RX := keep hb_ RX
               replace RB := keep hb_ RB
               replace hw := Below.after hw hb_
               clear hb_
               refine hK_ _ _ (R1) ?_
               simp only [Act.put, List.getElem_toArray, List.getElem_cons_succ, List.getElem_cons_zero, List.setIfInBounds_toArray, List.set_cons_succ, List.set_cons_zero]
               clear hK_
               generalize q29.alloc (.cells (irow .u8 (zr 60)) 5) = q30 at *
               generalize q29.heap.size = gh at *
               refine wpAnyH_take (i := 6) (v := .agg (evl ver nonce (.slice (some ⟨gh, 0, none⟩) 60 60) (.slice (some ⟨gb, 0, none⟩) K K))) rfl (by kernel_rfl) (by kernel_rfl) (by kernel_rfl) (fun _ _ _ h => h) (Or.inl ⟨by rfl, ?y10⟩) (R1) ?r10
               case y10 =>
                 intro w_ hS_
                 simp only [List.getElem_toArray, List.getElem_cons_succ, List.getElem_cons_zero]
                 exact run_build_op 48 _ rfl [(0, .int .i64 ver), (1, .agg (irow .u8 (bl nonce))), (2, (.slice (some ⟨gh, 0, none⟩) 60 60)), (3, (.slice (some ⟨gb, 0, none⟩) K K))] rfl _ (builtE4 ver nonce hn _ _ _ _ _ _)
               simp only [Act.put, List.getElem_toArray, List.getElem_cons_succ, List.getElem_cons_zero, List.setIfInBounds_toArray, List.set_cons_succ, List.set_cons_zero]
               refine wpAnyH_one (k := 8) (fuel := 0) (by kernel_rfl) rfl (by kernel_rfl) (fun K_ hK_ => ?_)
               refine wp_store_row 48 _ _ rfl (g25) (evl ver nonce (.slice (some ⟨gh, 0, none⟩) 60 60) (.slice (some ⟨gb, 0, none⟩) K K)) rfl rfl 48 _ RX (evl_info _ _ hn _ _) (by rw [evl_size _ _ n16_len, evl_size _ _ hn]) (evl_one _ _ _ _ _ _ _ _) ?_
               replace RH := (setRow_other q30 (g25) (gh) (evl ver nonce (.slice (some ⟨gh, 0, none⟩) 60 60) (.slice (some ⟨gb, 0, none⟩) K K)) (by omega)).trans RH
               replace RB := (setRow_other q30 (g25) (gb) (evl ver nonce (.slice (some ⟨gh, 0, none⟩) 60 60) (.slice (some ⟨gb, 0, none⟩) K K)) (by omega)).trans RB
               replace R1 := (setRow_other q30 (g25) (w.heap.size) (evl ver nonce (.slice (some ⟨gh, 0, none⟩) 60 60) (.slice (some ⟨gb, 0, none⟩) K K)) (by omega)).trans R1
               replace RX := setRow_heap q30 (g25) _ (evl ver nonce (.slice (some ⟨gh, 0, none⟩) 60 60) (.slice (some ⟨gb, 0, none⟩) K K)) _ _ RX
               replace hw := below_setRow hw (show w.heap.size ≤ g25 by omega) (evl ver nonce (.slice (some ⟨gh, 0, none⟩) 60 60) (.slice (some ⟨gb, 0, none⟩) K K))
               refine hK_ _ _ (R1) ?_
               simp only [Act.put, List.getElem_toArray, List.getElem_cons_succ, List.getElem_cons_zero]
               clear hK_
               generalize q30.setRow g25 (evl ver nonce (.slice (some ⟨gh, 0, none⟩) 60 60) (.slice (some ⟨gb, 0, none⟩) K K)) = q31 at *
               refine wpAnyH_done (by kernel_rfl) ?_ _
               refine NoPanic.normal ?_
               rw [zr_z60] at RH
               rw [zr_fil f K] at RB
               have kx : g25 ≠ gb := by omega
               have kh : gh ≠ gb := by omega
               have kb : w.heap.size ≤ gb := by omega
               clear R1
               go_wp2_with (fail)
               go_loopw [20] (fun u wr => ∃ i : Nat, i ≤ K ∧ u = .int .i64 (i : Int) ∧ wr.heap[gb]? = some (.cells (irow .u8 (bl (fil f K i))) 5 (0, 0)) ∧ wr.heap[g25]? = some (.cells (evl ver nonce (.slice (some ⟨gh, 0, none⟩) 60 60) (.slice (some ⟨gb, 0, none⟩) K K)) 48 (0, 0)) ∧ wr.heap[gh]? = some (.cells (irow .u8 (bl z60)) 5 (0, 0)) ∧ Below w.heap.size w wr) (fun u _ => K - (intOf u).toNat)
               case atStart => exact ⟨0, by omega, rfl, RB, RX, RH, hw⟩
               case round =>
                 clear RB RX RH hw
                 obtain ⟨i, hi, rfl, RB, RX, RH, hw⟩ := hrel
                 have c18 : wr.cell? ⟨g25, 18, none⟩ = some (.slice (some ⟨gb, 0, none⟩) K K) := by rw [cell_of_row _ _ _ _ _ _ RX]; exact evl_b _ _ hn _ _
                 by_cases hlt : i < K
                 · have hd : decide ((i : Int) < (K : Int)) = true := decide_eq_true (by omega)
                   have cf := row_frozen RB i
                   have cc := irow_cell RB (j := i) (by rw [bl_len, fil_len f hi]; exact hlt)
                   have r2 := irow_set RB i (bv f)
                   rw [fil_set f hlt] at r2
                   have hw2 := hide (hw.setCell (show w.heap.size ≤ (⟨gb, i, none⟩ : Addr).block from kb) (.int .u8 (bv f)))
                   have x2 := hide (heap_other (v := .int .u8 (bv f)) (j := i) RX kx)
                   have h2 := hide (heap_other (v := .int .u8 (bv f)) (j := i) RH kh)
                   replace r2 := hide r2
                   clear RB RX RH hw
                   generalize (bl (fil f K i)).getD i 0 = z at *
                   go_wp2_with (fail)
                   refine ⟨⟨i + 1, by omega, by go_num, r2.out, x2.out, h2.out, hw2.out⟩, ?_⟩
                   simp [intOf]; omega
                 · obtain rfl : i = K := by omega
                   have hd : decide ((i : Int) < (i : Int)) = false := decide_eq_false (by omega)
                   obtain ⟨bd, hbd⟩ : ∃ bd, fil f i i = bd := ⟨_, rfl⟩
                   have lb : bd.length = i := by rw [← hbd]; exact fil_len f (Nat.le_refl _)
                   rw [hbd] at RB
                   have cP := hide (a_PackE ver v hv h1 h2 nonce hn (some ⟨gh, 0, none⟩) 60 60 (some ⟨gb, 0, none⟩) i i z60 bd wr (hE1.out _ hw) (row_bysB RH rfl (by decide) 60) (row_bysB RB lb (by omega) i) rfl lb (by decide) (by omega))
                   rw [hpO.out] at cP
                   clear RB RH hbd
                   have lb' := hide lb
                   clear lb
                   go_wp2_with (first | (refine wpList_load_want rfl 48 _ rfl g25 rfl 48 (evl ver nonce (.slice (some ⟨gh, 0, none⟩) 60 60) (.slice (some ⟨gb, 0, none⟩) i i)) (0, 0) _ RX Tryz.underlying48 rfl (evl_info _ _ hn _ _) ?_) | fail)
                   refine cP.out.mono ?_
                   rintro e_ y1 ⟨⟨u, rfl, hU⟩, hb⟩
                   replace hw := Below.after hw hb
                   have hle := (there10 hkn.out hn (show pk10 v z60.length bd.length = none by rw [lb'.out]; exact hp.out)).2.2.2.1
                   rw [lb'.out] at hle
                   obtain ⟨L, hL⟩ : ∃ L, eout (efs v nonce z60 bd) = L := ⟨_, rfl⟩
                   rw [hL] at hU hle
                   obtain ⟨ua, uc, rfl⟩ := slen_own hU
                   have hA' : L.length = A := by rw [hle, ← hA.out]; unfold eln; rw [← hKn.out]
                   rw [hA']
                   have n1 := eql_nilE
                   clear cP hb hU hL hle hA' RX c18 hd
                   go_wp2_with (fail)
                   go_ret
                   exact ⟨rfl, hw⟩
end Go.Proofs.YtleeadbceljfbaaGreatDoor

