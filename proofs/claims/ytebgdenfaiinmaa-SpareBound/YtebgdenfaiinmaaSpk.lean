import Derived.Test.YtebgdenfaiinmaaProg
import Derived.WalkKit
import Derived.WalkSpells
import Derived.WalkLawsBesides
import Derived.Lib.QuietBelow
import Derived.BigQuiet
import Derived.OrdersHeld
import Derived.Deep.RegionHeld3
import Derived.OwnWalk
import Derived.Test.YtebgdenfaiinmaaKit
import Derived.Test.YtebgdenfaiinmaaSpj
namespace Go.Proofs.Ytebgdenfaiinmaa
open Go Go.RowKit Go.Sort Go.ChangeMaps Go.MapKept
attribute [local go_sem] setCell_drewN alloc_drewN

theorem spl_row {W : World} {g : Nat} {l : List Sr} (h : W.heap[g]? = some (.cells (sps l).toArray 60 (0, 0))) (ho : AllOk l) (hl : l.length ≤ 2069668946341) : SpL W (.slice (some ⟨g, 0, none⟩) l.length l.length) l := by
  refine ⟨_, l.length, rfl, hl, Nat.le_refl _, (fun e => by cases e), ho, fun i hi => ⟨g, 0, rfl, lt_of_row h, ?_⟩⟩
  intro j x hx
  rw [cell_of_row _ _ _ _ _ _ h, Nat.zero_add, List.getElem?_toArray]
  exact flat_mem (fun s hs => srl_len (ho s hs)) hi j x hx
theorem run_bsl2_op {P : Program} {o : Oper} {a : Act} {w w' : World} {v : Value} (t : TypeId) (x y : Operand) (ho : o.op = .buildSlice t 2 #[(0, x), (1, y)]) (u1 u2 : Value) (hx : a.eval x = u1) (hy : a.eval y = u2) (hr : (Instr.buildSlice t 2 #[(0, u1), (1, u2)]).run P w = .ok v w') : (execOp a.eval o).run P w = .ok (.value v) w' := by
  simp [execOp, ho, hx, hy, hr, Result.andThen]
theorem wpList_bsl2 {P : Program} {ops : Array Oper} {Q : Exit → Act → World → Prop} {w w' : World} {rest : List Oper} {o : Oper} {a : Act} {v : Value} (hw : Region.wanted o (yielded ops a.tmps) = true) (t : TypeId) (x y : Operand) (ho : o.op = .buildSlice t 2 #[(0, x), (1, y)]) (u1 u2 : Value) (hx : a.eval x = u1) (hy : a.eval y = u2) (hr : (Instr.buildSlice t 2 #[(0, u1), (1, u2)]).run P w = .ok v w') (h : wpList P ops Q rest (a.put o.dst v) w') : wpList P ops Q (o :: rest) a w :=
  BigFrame.wpList_want hw fun _ hK => wp_world_op _ _ (run_bsl2_op t x y ho u1 u2 hx hy hr) (hK _ _ h)
theorem wpList_bsl1 {P : Program} {ops : Array Oper} {Q : Exit → Act → World → Prop} {w w' : World} {rest : List Oper} {o : Oper} {a : Act} {v : Value} (hw : Region.wanted o (yielded ops a.tmps) = true) (t : TypeId) (x : Operand) (ho : o.op = .buildSlice t 1 #[(0, x)]) (u1 : Value) (hx : a.eval x = u1) (hr : (Instr.buildSlice t 1 #[(0, u1)]).run P w = .ok v w') (h : wpList P ops Q rest (a.put o.dst v) w') : wpList P ops Q (o :: rest) a w :=
  BigFrame.wpList_want hw fun _ hK => wp_world_op _ _ (run_bsl_op t x ho hx hr) (hK _ _ h)
theorem wpList_buildw {P : Program} {ops : Array Oper} {Q : Exit → Act → World → Prop} {w : World} {rest : List Oper} {o : Oper} {a : Act} (hw : Region.wanted o (yielded ops a.tmps) = true) (t : TypeId) (parts : Array (Nat × Operand)) (ho : o.op = .build t parts) (vals : List (Nat × Value)) (hv : parts.toList.map (fun (i, x) => (i, a.eval x)) = vals) (cells : Array Value) (hb : P.built t vals = some cells) (h : wpList P ops Q rest (a.put o.dst (.agg cells)) w) : wpList P ops Q (o :: rest) a w :=
  BigFrame.wpList_want hw fun _ hK => wp_world_op _ _ (run_build_op t parts ho vals hv cells hb) (hK _ _ h)
theorem run_bsl2 (W : World) : (Instr.buildSlice 38 2 #[(0, .agg (srow (spo 1 1 5))), (1, .agg (srow (spo 2 1 6)))]).run Try.prog W = .ok (.slice (some ⟨W.heap.size, 0, none⟩) 2 2) (W.alloc (.cells (sps [(spo 1 1 5), (spo 2 1 6)]).toArray 60)) := by kernel_rfl
theorem lv1 : pe [] [(spo 1 1 5), (spo 2 1 6)] 2 = 0 := by decide +kernel
theorem lv1m : mts [] [(spo 1 1 5), (spo 2 1 6)] = false := by decide +kernel
theorem lv2 : pe [(spo 1 1 5), (spo 2 1 6)] [(spo 3 1 7)] 2 = 120 := by decide +kernel
theorem lv3 : pe [(spo 1 1 5), (spo 2 1 6)] [(spo 1 1 7)] 2 = 121 := by decide +kernel
theorem lv4 : fky [(spo 1 1 5), (spo 2 1 6)] (2 :: zr 31, 1) = 6 :: zr 31 := by decide +kernel
theorem lv5 : (fnd [(spo 1 1 5), (spo 2 1 6)] (2 :: zr 31, 1)).isSome = true := by decide +kernel
theorem lv6 : fky [(spo 1 1 5), (spo 2 1 6)] (2 :: zr 31, 2) = zr 32 := by decide +kernel
theorem lv7 : (fnd [(spo 1 1 5), (spo 2 1 6)] (2 :: zr 31, 2)).isSome = false := by decide +kernel
theorem ok2_ : AllOk [(spo 1 1 5), (spo 2 1 6)] := AllOk.app (l := [(spo 1 1 5)]) (AllOk.one (spo_ok _ _ _)) (AllOk.one (spo_ok _ _ _))
set_option maxRecDepth 100000 in
set_option maxHeartbeats 4000000 in
theorem lives_aux (A B C D : Sr) (okq : AllOk [A, B]) (okc : C.ok) (okd : D.ok) (K2 K6 : List Int) (l2 : K2.length = 32) (l6 : K6.length = 32) (cA : ∀ W, Calls Try.prog 46 #[.int .u8 1, .int .u32 1, .int .u8 5] W fun e w' => e = .returned (.agg (srow A)) ∧ Below W.heap.size W w') (cB : ∀ W, Calls Try.prog 46 #[.int .u8 2, .int .u32 1, .int .u8 6] W fun e w' => e = .returned (.agg (srow B)) ∧ Below W.heap.size W w') (cC : ∀ W, Calls Try.prog 46 #[.int .u8 3, .int .u32 1, .int .u8 7] W fun e w' => e = .returned (.agg (srow C)) ∧ Below W.heap.size W w') (cD : ∀ W, Calls Try.prog 46 #[.int .u8 1, .int .u32 1, .int .u8 7] W fun e w' => e = .returned (.agg (srow D)) ∧ Below W.heap.size W w')
    (b2 : Try.prog.built 40 [(0, .int .u8 2)] = some (irow .u8 K2)) (b6 : Try.prog.built 40 [(0, .int .u8 6)] = some (irow .u8 K6))
    (h2b : Hid (∀ W, (Instr.buildSlice 38 2 #[(0, .agg (srow A)), (1, .agg (srow B))]).run Try.prog W = .ok (.slice (some ⟨W.heap.size, 0, none⟩) 2 2) (W.alloc (.cells (sps [A, B]).toArray 60))))
    (h3b : Hid (∀ W, (Instr.buildSlice 38 1 #[(0, .agg (srow C))]).run Try.prog W = .ok (.slice (some ⟨W.heap.size, 0, none⟩) 1 1) (W.alloc (.cells (srow C) 60))))
    (h4b : Hid (∀ W, (Instr.buildSlice 38 1 #[(0, .agg (srow D))]).run Try.prog W = .ok (.slice (some ⟨W.heap.size, 0, none⟩) 1 1) (W.alloc (.cells (srow D) 60))))
    (h1 : Hid (mts [] [A, B] = false)) (h4 : Hid (fky [A, B] (K2, 1) = K6)) (h5 : Hid ((fnd [A, B] (K2, 1)).isSome = true)) (h6 : Hid (fky [A, B] (K2, 2) = zr 32)) (h7 : Hid ((fnd [A, B] (K2, 2)).isSome = false)) (h8 : Hid (pe [A, B] [C] 2 = 120)) (h9 : Hid (pe [A, B] [D] 2 = 121)) (w : World) : Calls Try.prog 17 #[] w fun e w' => e = .returned (.bool true) ∧ Below w.heap.size w w' := by
  go_enter Try.func17, Try.ntmps17
  go_wp2_with (fail)
  refine (a_New 2 (by decide) (by decide) w).mono ?_
  rintro e_ w1 ⟨g, b, rfl, hS, hw⟩
  go_wp2_with (fail)
  refine (cA w1).mono ?_
  rintro e_ w2 ⟨rfl, hb⟩
  replace hS := hS.keep hb
  replace hw := Below.after hw hb
  clear hb
  go_wp2_with (fail)
  refine (cB w2).mono ?_
  rintro e_ w3 ⟨rfl, hb⟩
  replace hS := hS.keep hb
  replace hw := Below.after hw hb
  clear hb
  have hlo3 : ∀ k, own3 g b (.slice none 0 0) k → k < w3.heap.size := fun k hk => (hS.low k hk).2
  go_wp2_with (first | (refine wpList_bsl2 rfl 38 _ _ rfl (.agg (srow A)) (.agg (srow B)) rfl rfl (h2b.out w3) ?_) | fail)
  have hb4 : Below w3.heap.size w3 (w3.alloc (.cells (sps [A, B]).toArray 60)) := (Below.refl _ _).alloc (Nat.le_refl _) _
  have hq := spl_row (hp1_0 w3 (.cells (sps [A, B]).toArray 60)) okq (by simp)
  replace hS := hS.keep hb4
  replace hw := Below.after hw hb4
  clear hb4
  have hnl : ¬ own3 g b (.slice none 0 0) w3.heap.size := fun h => by have := hlo3 _ h; omega
  have hqb : ∀ V, Fr (own3 g b (.slice none 0 0)) (w3.alloc (.cells (sps [A, B]).toArray 60)) V → SpL V (.slice (some ⟨w3.heap.size, 0, none⟩) 2 2) [A, B] := fun V hV => hq.keepN hV.size (fun b1 o1 e h1 => hV.block b1 h1 (fun h2 => by cases e; exact hnl h2))
  generalize w3.alloc (.cells (sps [A, B]).toArray 60) = w4 at *
  refine (a_Put_go w.heap.size g b _ 2 [] [A, B] _ w4 hS hw.size hqb h1.out (by simp)).mono ?_
  rintro e_ w5 ⟨v, rfl, hS2, hf, _⟩
  replace hw := Below.trans hw (hS.below hf hw.size)
  rw [List.nil_append] at hS2
  clear hS hf hq hqb hnl hlo3
  have c1 := a_Find w.heap.size g b v 2 [A, B] K2 l2 1 w5 hS2
  rw [h4.out, h5.out] at c1
  go_wp2_with (first | (refine wpList_build_as rfl 40 _ rfl [(0, .int .u8 2)] rfl (irow .u8 K2) b2 ?_) | fail)
  refine (c1).mono ?_
  rintro e_ w6 ⟨rfl, hb⟩
  replace hS2 := hS2.keep hb
  replace hw := Below.after hw hb
  clear hb
  clear c1
  have z_ := hp1_0 w6 (.cells (irow .u8 (zr 32)) 40)
  go_wp2_with (first | (refine wpList_alloc rfl 40 rfl (irow .u8 (zr 32)) zkey ?_) | (refine wpList_store_row rfl 40 _ _ rfl (w6.heap.size) (irow .u8 K6) rfl rfl 40 _ z_ (infok8 _ l6) (fit32 _ _ (zr_len 32) l6) (irow_one _ _) ?_; refine wpList_stay ?_) | fail)
  unfold WpStay
  try simp only [Act.put, List.setIfInBounds_toArray, List.set_cons_succ, List.set_cons_zero]
  have R3 := setRow_heap (w6.alloc (.cells (irow .u8 (zr 32)) 40)) w6.heap.size _ (irow .u8 K6) _ _ z_
  have hb_ : Below w6.heap.size w6 ((w6.alloc (.cells (irow .u8 (zr 32)) 40)).setRow w6.heap.size (irow .u8 K6)) := below_setRow ((Below.refl _ _).alloc (Nat.le_refl _) _) (Nat.le_refl _) _
  have sz_g3 := hb_.size
  replace hS2 := hS2.keep hb_
  replace hw := Below.after hw hb_
  clear hb_ z_
  generalize ((w6.alloc (.cells (irow .u8 (zr 32)) 40)).setRow w6.heap.size (irow .u8 K6)) = w7 at *
  generalize w6.heap.size = g3 at *
  have c2 := a_Find w.heap.size g b v 2 [A, B] K2 l2 2 w7 hS2
  rw [h6.out, h7.out] at c2
  go_wp2_with (first | (refine wpList_build_as rfl 40 _ rfl [(0, .int .u8 2)] rfl (irow .u8 K2) b2 ?_) | fail)
  refine (c2).mono ?_
  rintro e_ w8 ⟨rfl, hb⟩
  replace R3 := keep hb R3
  replace hS2 := hS2.keep hb
  replace hw := Below.after hw hb
  clear hb
  clear c2
  have z_ := hp1_0 w8 (.cells (irow .u8 (zr 32)) 40)
  go_wp2_with (first | (refine wpList_alloc rfl 40 rfl (irow .u8 (zr 32)) zkey ?_) | (refine wpList_store_row rfl 40 _ _ rfl (w8.heap.size) (irow .u8 (zr 32)) rfl rfl 40 _ z_ (infok8 _ (zr_len 32)) rfl (irow_one _ _) ?_; refine wpList_stay ?_) | fail)
  unfold WpStay
  try simp only [Act.put, List.setIfInBounds_toArray, List.set_cons_succ, List.set_cons_zero]
  have R5 := setRow_heap (w8.alloc (.cells (irow .u8 (zr 32)) 40)) w8.heap.size _ (irow .u8 (zr 32)) _ _ z_
  have hb_ : Below w8.heap.size w8 ((w8.alloc (.cells (irow .u8 (zr 32)) 40)).setRow w8.heap.size (irow .u8 (zr 32))) := below_setRow ((Below.refl _ _).alloc (Nat.le_refl _) _) (Nat.le_refl _) _
  have sz_g5 := hb_.size
  have lt_R3_g5 := lt_of_row R3
  replace R3 := keep hb_ R3
  replace hS2 := hS2.keep hb_
  replace hw := Below.after hw hb_
  clear hb_ z_
  generalize ((w8.alloc (.cells (irow .u8 (zr 32)) 40)).setRow w8.heap.size (irow .u8 (zr 32))) = w9 at *
  generalize w8.heap.size = g5 at *
  have ek : ∀ W, (Op.equalIn 10000 40 (.agg (irow .u8 K6)) (.agg (irow .u8 K6))).run Try.prog W = .ok true W := fun W => by rw [eq_key 9998 _ _ l6 l6 W]; simp
  go_wp2_with (first | (refine wpList_build_as rfl 40 _ rfl [(0, .int .u8 2)] rfl (irow .u8 K2) b2 ?_) | (refine wpList_load_want rfl 40 _ rfl (g3) rfl 40 (irow .u8 K6) (0, 0) _ R3 Try.underlying40 rfl (infok8 _ l6) ?_) | (refine wpList_buildw rfl 40 _ rfl [(0, .int .u8 6)] rfl (irow .u8 K6) b6 ?_) | (refine wpList_eql rfl 40 40 _ _ rfl (irow .u8 K6) (irow .u8 K6) rfl rfl egK _ (ek _) ?_) | fail)
  have cL := a_Len w.heap.size g b v 2 [A, B] w9 hS2
  refine cL.mono ?_
  rintro e_ w10 ⟨rfl, h10_⟩
  subst w10
  clear cL
  have e2_ : (([A, B].length : Nat) : Int) = 2 := rfl
  rw [e2_]
  go_wp2_with (fail)
  have cR := a_Room w.heap.size g b v 2 [A, B] w9 hS2
  rw [e2_] at cR
  refine (cR).mono ?_
  rintro e_ w11 ⟨rfl, hb⟩
  replace R3 := keep hb R3
  replace R5 := keep hb R5
  replace hS2 := hS2.keep hb
  replace hw := Below.after hw hb
  clear hb
  clear cR
  go_wp2_with (fail)
  refine (cC w11).mono ?_
  rintro e_ w12 ⟨rfl, hb⟩
  replace hS2 := hS2.keep hb
  replace hw := Below.after hw hb
  clear hb

  go_wp2_with (first | (refine wpList_bsl1 rfl 38 _ rfl (.agg (srow C)) rfl (h3b.out w12) ?_) | fail)
  have hq := spl_one w12 C okc
  have hb4 : Below w12.heap.size w12 (w12.alloc (.cells (srow C) 60)) := (Below.refl _ _).alloc (Nat.le_refl _) _
  replace hS2 := hS2.keep hb4
  replace hw := Below.after hw hb4
  clear hb4
  generalize w12.alloc (.cells (srow C) 60) = w13 at *
  refine (a_Put_no w.heap.size g b v 2 [A, B] [C] _ w13 hS2 hq 120 h8.out (by decide)).mono ?_
  rintro e_ w14 ⟨rfl, hb⟩
  replace hS2 := hS2.keep hb
  replace hw := Below.after hw hb
  clear hb
  clear hq
  go_wp2_with (fail)
  refine (cD w14).mono ?_
  rintro e_ w15 ⟨rfl, hb⟩
  replace hS2 := hS2.keep hb
  replace hw := Below.after hw hb
  clear hb

  go_wp2_with (first | (refine wpList_bsl1 rfl 38 _ rfl (.agg (srow D)) rfl (h4b.out w15) ?_) | fail)
  have hq := spl_one w15 D okd
  have hb4 : Below w15.heap.size w15 (w15.alloc (.cells (srow D) 60)) := (Below.refl _ _).alloc (Nat.le_refl _) _
  replace hS2 := hS2.keep hb4
  replace hw := Below.after hw hb4
  clear hb4
  generalize w15.alloc (.cells (srow D) 60) = w16 at *
  refine (a_Put_no w.heap.size g b v 2 [A, B] [D] _ w16 hS2 hq 121 h9.out (by decide)).mono ?_
  rintro e_ w17 ⟨rfl, hb⟩
  replace hS2 := hS2.keep hb
  replace hw := Below.after hw hb
  clear hb
  clear hq
  go_wp2_with (fail)
  go_ret
  exact ⟨rfl, hw⟩
theorem l_lives (w : World) : Calls Try.prog 17 #[] w fun e w' => e = .returned (.bool true) ∧ Below w.heap.size w w' :=
  lives_aux (spo 1 1 5) (spo 2 1 6) (spo 3 1 7) (spo 1 1 7) ok2_ (spo_ok _ _ _) (spo_ok _ _ _) (2 :: zr 31) (6 :: zr 31) rfl rfl (l_spareOf 1 1 5) (l_spareOf 2 1 6) (l_spareOf 3 1 7) (l_spareOf 1 1 7) (bk1 2) (bk1 6) (hide run_bsl2) (hide (run_bslS _ (spo_ok _ _ _))) (hide (run_bslS _ (spo_ok _ _ _))) (hide lv1m) (hide lv4) (hide lv5) (hide lv6) (hide lv7) (hide lv2) (hide lv3) w

end Go.Proofs.Ytebgdenfaiinmaa
