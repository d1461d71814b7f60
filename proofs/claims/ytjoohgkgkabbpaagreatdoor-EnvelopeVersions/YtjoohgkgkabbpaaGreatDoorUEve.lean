import Derived.Test.YtjoohgkgkabbpaaGreatDoorUEvp
import Derived.Test.YtjoohgkgkabbpaaGreatDoorUJre
import Derived.OwnWalk
import Derived.Deep.Cut
import Derived.Deep.RegionHeld3
namespace Go.Proofs.YtjoohgkgkabbpaaGreatDoor
set_option maxRecDepth 100000
open Go Go.RowKit Go.Sort
attribute [local go_sem] setCell_drewN alloc_drewN
def n16 : List B := List.replicate 16 0#8
theorem n16_len : n16.length = 16 := rfl
theorem zEnv (W : World) : (Instr.alloc 51 true (.tuple #[])).run Tryz.prog W = .ok (.pointer (some ⟨W.heap.size, 0, none⟩)) (W.alloc (.cells (evl 0 n16 (.slice none 0 0) (.slice none 0 0)) 51)) := by kernel_rfl
theorem builtE0 : Tryz.prog.built 51 [] = some (evl 0 n16 (.slice none 0 0) (.slice none 0 0)) := by kernel_rfl
theorem builtE3 (v : Int) (ha : Option Addr) (hl hc : Nat) (ba : Option Addr) (bn bc : Nat) : Tryz.prog.built 51 [(0, .int .i64 v), (2, (.slice ha hl hc)), (3, (.slice ba bn bc))] = some (evl v n16 (.slice ha hl hc) (.slice ba bn bc)) := by kernel_rfl
theorem evl_copy (v : Int) (nonce : List B) (hn : nonce.length = 16) (hv bv : Value) : ((evl v n16 hv bv).toList.take 1 ++ (bl nonce).map (Value.int .u8) ++ (evl v n16 hv bv).toList.drop (1 + ((bl nonce).map (Value.int .u8)).length)).toArray = evl v nonce hv bv := by
 have e : (evl v n16 hv bv).toList.drop 17 = [hv, bv] := by simp [evl, irow, bl, n16]
 have e1 : (evl v n16 hv bv).toList.take 1 = [.int .i64 v] := by simp [evl]
 rw [List.length_map, bl_len, hn, e, e1]
 simp [evl, irow]
theorem results_c3 {P : Program} {fn : Func} {p q r : Tmp} {ty : TypeId} (h : fn.results = #[.cell p ty, .tmp q, .tmp r]) (tmps : Array Value) (w : World) (g : Nat) (t : TypeId) (cs : Array Value) (fr : Nat × Nat) (d : TypeDesc)
 (hp : tmps.getD p undef = .pointer (some ⟨g, 0, none⟩)) (hg : w.heap[g]? = some (.cells cs t fr))
 (hu : P.underlying ty = some d) (hd : (match d with | .struct _ | .array _ _ => true | _ => false) = true) (hi : (P.info? ty).map (·.size) = some cs.size) :
 (results fn tmps).run P w = .ok (.tuple #[.agg cs, tmps.getD q undef, tmps.getD r undef]) w := by
 have hp' : tmps[p]?.getD undef = .pointer (some ⟨g, 0, none⟩) := by simpa using hp
 simp [results, h, hp', asAddr, run_loadVar_row w g t ty cs fr d hg hu hd hi]
set_option maxRecDepth 100000 in
set_option maxHeartbeats 8000000 in
theorem a_envelopeOf1 (nonce : List B) (hn : nonce.length = 16) (ha : Option Addr) (hl hc : Nat) (ba : Option Addr) (bn bc pb pc g1 c1 : Nat) (u0 : Value) (w : World) (hpb : pb < w.heap.size) (hg1 : g1 < w.heap.size) (hr : w.rangeAt pb 0 [.int .u64 1, u0, .slice none 0 0, .int .u64 0, .slice (some ⟨g1, 0, none⟩) 16 c1, .slice none 0 0, .int .u64 0, (.slice ha hl hc), .slice none 0 0, .int .u64 0, (.slice ba bn bc), .slice none 0 0]) (hr1 : w.rangeAt g1 0 ((bl nonce).map (Value.int .u8))) : Calls Tryz.prog 50 #[.agg #[.int .u64 0, .slice none 0 0, .slice (some ⟨pb, 0, none⟩) 4 pc]] w fun e w' => e = .returned (.agg (evl 1 nonce (.slice ha hl hc) (.slice ba bn bc))) ∧ Below w.heap.size w w' := by
 have R0 := hp2_0 w (.cells #[.int .u64 0, .slice none 0 0, .slice (some ⟨pb, 0, none⟩) 4 pc] 78) (.cells (evl 0 n16 (.slice none 0 0) (.slice none 0 0)) 51)
 have R1 := hp2_1 w (.cells #[.int .u64 0, .slice none 0 0, .slice (some ⟨pb, 0, none⟩) 4 pc] 78) (.cells (evl 0 n16 (.slice none 0 0) (.slice none 0 0)) 51)
 have hw : Below w.heap.size w ((w.alloc (.cells #[.int .u64 0, .slice none 0 0, .slice (some ⟨pb, 0, none⟩) 4 pc] 78)).alloc (.cells (evl 0 n16 (.slice none 0 0) (.slice none 0 0)) 51)) := ((Below.refl _ _).alloc (Nat.le_refl _) _).alloc (by simp) _
 replace hr := rangeS_keep2 hr hw hpb
 replace hr1 := rangeS_keep2 hr1 hw hg1
 go_enter Tryz.func50, Tryz.ntmps50
 go_upto_region 1 with (first | (refine wpList_alloc rfl 51 rfl (evl 0 n16 (.slice none 0 0) (.slice none 0 0)) zEnv ?_) | fail)
 try simp only [size_alloc1, Act.put, List.setIfInBounds_toArray, List.set_cons_succ, List.set_cons_zero]
 generalize (w.alloc (.cells #[.int .u64 0, .slice none 0 0, .slice (some ⟨pb, 0, none⟩) 4 pc] 78)).alloc (.cells (evl 0 n16 (.slice none 0 0) (.slice none 0 0)) 51) = w6 at *
 have lR := lt_of_row R1
 have hbd : Below w6.heap.size w6 w6.drew := below_drN (Below.refl _ _) 1
 replace R0 := keep hbd R0
 replace R1 := keep hbd R1
 replace hw := Below.after hw hbd
 have HS : (fun W : World => W.heap[w.heap.size]? = some (.cells #[.int .u64 0, .slice none 0 0, .slice (some ⟨pb, 0, none⟩) 4 pc] 78 (0, 0)) ∧ W.rangeAt pb 0 [.int .u64 1, u0, .slice none 0 0, .int .u64 0, .slice (some ⟨g1, 0, none⟩) 16 c1, .slice none 0 0, .int .u64 0, (.slice ha hl hc), .slice none 0 0, .int .u64 0, (.slice ba bn bc), .slice none 0 0] ∧ W.rangeAt g1 0 ((bl nonce).map (Value.int .u8))) w6.drew := ⟨R0, hr, hr1⟩
 have szd := hbd.size
 clear hbd R0 hr hr1
 refine wp_region_held (S := fun W : World => W.heap[w.heap.size]? = some (.cells #[.int .u64 0, .slice none 0 0, .slice (some ⟨pb, 0, none⟩) 4 pc] 78 (0, 0)) ∧ W.rangeAt pb 0 [.int .u64 1, u0, .slice none 0 0, .int .u64 0, .slice (some ⟨g1, 0, none⟩) 16 c1, .slice none 0 0, .int .u64 0, (.slice ha hl hc), .slice none 0 0, .int .u64 0, (.slice ba bn bc), .slice none 0 0] ∧ W.rangeAt g1 0 ((bl nonce).map (Value.int .u8))) (by kernel_rfl) ?_
 change wpAnyH _ _ _ _ _ _ _ _ (World.drew _)
 generalize w6.drew = w7 at *
 refine wpAnyH_take (i := 0) (v := ?vb40) rfl (by kernel_rfl) (by kernel_rfl) (by kernel_rfl) (fun _ _ _ h => h) (Or.inl ⟨by rfl, ?yb40⟩) HS ?rb40
 case yb40 =>
  intro w_ hS_
  go_simp
  try with_reducible rfl
 simp only [Act.put, List.getElem_toArray, List.getElem_cons_zero, List.setIfInBounds_toArray, List.set_cons_succ, List.set_cons_zero]
 refine wpAnyH_take (i := 1) (v := .slice (some ⟨pb, 0, none⟩) 4 pc) rfl (by kernel_rfl) (by kernel_rfl) (by kernel_rfl) (fun _ _ _ h => h) (Or.inl ⟨by rfl, ?yb41⟩) HS ?rb41
 case yb41 =>
  intro w_ hS_
  have c_ := cell_of_row _ _ 2 _ _ _ hS_.1
  go_simp
  try with_reducible rfl
 simp only [Act.put, List.getElem_toArray, List.getElem_cons_succ, List.getElem_cons_zero, List.setIfInBounds_toArray, List.set_cons_succ, List.set_cons_zero]
 refine wpAnyH_take (i := 2) (v := ?vb42) rfl (by kernel_rfl) (by kernel_rfl) (by kernel_rfl) (fun _ _ _ h => h) (Or.inl ⟨by rfl, ?yb42⟩) HS ?rb42
 case yb42 =>
  intro w_ hS_
  go_simp
  try with_reducible rfl
 simp only [Act.put, List.getElem_toArray, List.getElem_cons_succ, List.getElem_cons_zero, List.setIfInBounds_toArray, List.set_cons_succ, List.set_cons_zero]
 refine wpAnyH_take (i := 3) (v := ?vb43) rfl (by kernel_rfl) (by kernel_rfl) (by kernel_rfl) (fun _ _ _ h => h) (Or.inl ⟨by rfl, ?yb43⟩) HS ?rb43
 case yb43 =>
  intro w_ hS_
  go_simp
  try with_reducible rfl
 simp only [Act.put, List.getElem_toArray, List.getElem_cons_succ, List.getElem_cons_zero, List.setIfInBounds_toArray, List.set_cons_succ, List.set_cons_zero]
 refine wpAnyH_take (i := 4) (v := .int .u64 1) rfl (by kernel_rfl) (by kernel_rfl) (by kernel_rfl) (fun _ _ _ h => h) (Or.inl ⟨by rfl, ?yb44⟩) HS ?rb44
 case yb44 =>
  intro w_ hS_
  have c_ : w_.cell? ⟨pb, 0, none⟩ = some (.int .u64 1) := hS_.2.1 0 _ rfl
  go_simp
  try with_reducible rfl
 simp only [Act.put, List.getElem_toArray, List.getElem_cons_succ, List.getElem_cons_zero, List.setIfInBounds_toArray, List.set_cons_succ, List.set_cons_zero]
 refine wpAnyH_take (i := 5) (v := .int .i64 1) rfl (by kernel_rfl) (by kernel_rfl) (by kernel_rfl) (fun _ _ _ h => h) (Or.inl ⟨by rfl, ?yb45⟩) HS ?rb45
 case yb45 =>
  intro w_ hS_
  go_simp
  rfl
 simp only [Act.put, List.getElem_toArray, List.getElem_cons_succ, List.getElem_cons_zero, List.setIfInBounds_toArray, List.set_cons_succ, List.set_cons_zero]
 refine wpAnyH_take (i := 6) (v := ?vb46) rfl (by kernel_rfl) (by kernel_rfl) (by kernel_rfl) (fun _ _ _ h => h) (Or.inl ⟨by rfl, ?yb46⟩) HS ?rb46
 case yb46 =>
  intro w_ hS_
  go_simp
  try with_reducible rfl
 simp only [Act.put, List.getElem_toArray, List.getElem_cons_succ, List.getElem_cons_zero, List.setIfInBounds_toArray, List.set_cons_succ, List.set_cons_zero]
 refine wpAnyH_take (i := 7) (v := .slice (some ⟨pb, 0, none⟩) 4 pc) rfl (by kernel_rfl) (by kernel_rfl) (by kernel_rfl) (fun _ _ _ h => h) (Or.inl ⟨by rfl, ?yb47⟩) HS ?rb47
 case yb47 =>
  intro w_ hS_
  have c_ := cell_of_row _ _ 2 _ _ _ hS_.1
  go_simp
  try with_reducible rfl
 simp only [Act.put, List.getElem_toArray, List.getElem_cons_succ, List.getElem_cons_zero, List.setIfInBounds_toArray, List.set_cons_succ, List.set_cons_zero]
 refine wpAnyH_take (i := 8) (v := ?vb48) rfl (by kernel_rfl) (by kernel_rfl) (by kernel_rfl) (fun _ _ _ h => h) (Or.inl ⟨by rfl, ?yb48⟩) HS ?rb48
 case yb48 =>
  intro w_ hS_
  go_simp
  try with_reducible rfl
 simp only [Act.put, List.getElem_toArray, List.getElem_cons_succ, List.getElem_cons_zero, List.setIfInBounds_toArray, List.set_cons_succ, List.set_cons_zero]
 refine wpAnyH_take (i := 9) (v := ?vb49) rfl (by kernel_rfl) (by kernel_rfl) (by kernel_rfl) (fun _ _ _ h => h) (Or.inl ⟨by rfl, ?yb49⟩) HS ?rb49
 case yb49 =>
  intro w_ hS_
  go_simp
  try with_reducible rfl
 simp only [Act.put, List.getElem_toArray, List.getElem_cons_succ, List.getElem_cons_zero, List.setIfInBounds_toArray, List.set_cons_succ, List.set_cons_zero]
 refine wpAnyH_take (i := 10) (v := .slice ha hl hc) rfl (by kernel_rfl) (by kernel_rfl) (by kernel_rfl) (fun _ _ _ h => h) (Or.inl ⟨by rfl, ?yb50⟩) HS ?rb50
 case yb50 =>
  intro w_ hS_
  have c_ : w_.cell? ⟨pb, 7, none⟩ = some (.slice ha hl hc) := hS_.2.1 7 _ rfl
  go_simp
  try with_reducible rfl
 simp only [Act.put, List.getElem_toArray, List.getElem_cons_succ, List.getElem_cons_zero, List.setIfInBounds_toArray, List.set_cons_succ, List.set_cons_zero]
 refine wpAnyH_take (i := 11) (v := ?vb51) rfl (by kernel_rfl) (by kernel_rfl) (by kernel_rfl) (fun _ _ _ h => h) (Or.inl ⟨by rfl, ?yb51⟩) HS ?rb51
 case yb51 =>
  intro w_ hS_
  go_simp
  try with_reducible rfl
 simp only [Act.put, List.getElem_toArray, List.getElem_cons_succ, List.getElem_cons_zero, List.setIfInBounds_toArray, List.set_cons_succ, List.set_cons_zero]
 refine wpAnyH_take (i := 12) (v := .slice (some ⟨pb, 0, none⟩) 4 pc) rfl (by kernel_rfl) (by kernel_rfl) (by kernel_rfl) (fun _ _ _ h => h) (Or.inl ⟨by rfl, ?yb52⟩) HS ?rb52
 case yb52 =>
  intro w_ hS_
  have c_ := cell_of_row _ _ 2 _ _ _ hS_.1
  go_simp
  try with_reducible rfl
 simp only [Act.put, List.getElem_toArray, List.getElem_cons_succ, List.getElem_cons_zero, List.setIfInBounds_toArray, List.set_cons_succ, List.set_cons_zero]
 refine wpAnyH_take (i := 13) (v := ?vb53) rfl (by kernel_rfl) (by kernel_rfl) (by kernel_rfl) (fun _ _ _ h => h) (Or.inl ⟨by rfl, ?yb53⟩) HS ?rb53
 case yb53 =>
  intro w_ hS_
  go_simp
  try with_reducible rfl
 simp only [Act.put, List.getElem_toArray, List.getElem_cons_succ, List.getElem_cons_zero, List.setIfInBounds_toArray, List.set_cons_succ, List.set_cons_zero]
 refine wpAnyH_take (i := 14) (v := ?vb54) rfl (by kernel_rfl) (by kernel_rfl) (by kernel_rfl) (fun _ _ _ h => h) (Or.inl ⟨by rfl, ?yb54⟩) HS ?rb54
 case yb54 =>
  intro w_ hS_
  go_simp
  try with_reducible rfl
 simp only [Act.put, List.getElem_toArray, List.getElem_cons_succ, List.getElem_cons_zero, List.setIfInBounds_toArray, List.set_cons_succ, List.set_cons_zero]
 refine wpAnyH_take (i := 15) (v := .slice ba bn bc) rfl (by kernel_rfl) (by kernel_rfl) (by kernel_rfl) (fun _ _ _ h => h) (Or.inl ⟨by rfl, ?yb55⟩) HS ?rb55
 case yb55 =>
  intro w_ hS_
  have c_ : w_.cell? ⟨pb, 10, none⟩ = some (.slice ba bn bc) := hS_.2.1 10 _ rfl
  go_simp
  try with_reducible rfl
 simp only [Act.put, List.getElem_toArray, List.getElem_cons_succ, List.getElem_cons_zero, List.setIfInBounds_toArray, List.set_cons_succ, List.set_cons_zero]
 refine wpAnyH_take (i := 16) (v := .agg (evl 1 n16 (.slice ha hl hc) (.slice ba bn bc))) rfl (by kernel_rfl) (by kernel_rfl) (by kernel_rfl) (fun _ _ _ h => h) (Or.inl ⟨by rfl, ?yb56⟩) HS ?rb56
 case yb56 =>
  intro w_ hS_
  simp only [List.getElem_toArray, List.getElem_cons_succ, List.getElem_cons_zero]
  exact run_build_op 51 _ rfl [(0, .int .i64 1), (2, (.slice ha hl hc)), (3, (.slice ba bn bc))] rfl _ (builtE3 1 ha hl hc ba bn bc)
 simp only [Act.put, List.getElem_toArray, List.getElem_cons_succ, List.getElem_cons_zero, List.setIfInBounds_toArray, List.set_cons_succ, List.set_cons_zero]
 refine wpAnyH_one (k := 17) (fuel := 1) (by kernel_rfl) rfl (by kernel_rfl) (fun K_ hK => ?_)
 refine wp_val_op (.pointer (some ⟨w7.heap.size, 0, none⟩)) (w' := w7.alloc (.cells (evl 0 n16 (.slice none 0 0) (.slice none 0 0)) 51)) (by kernel_rfl) ?_
 have RB := hp1_0 w7 (.cells (evl 0 n16 (.slice none 0 0) (.slice none 0 0)) 51)
 have l1_ := lt_of_row R1
 have hb_ : Below w7.heap.size w7 (w7.alloc (.cells (evl 0 n16 (.slice none 0 0) (.slice none 0 0)) 51)) := (Below.refl _ _).alloc (Nat.le_refl _) _
 have HS' : (fun W : World => W.heap[w.heap.size]? = some (.cells #[.int .u64 0, .slice none 0 0, .slice (some ⟨pb, 0, none⟩) 4 pc] 78 (0, 0)) ∧ W.rangeAt pb 0 [.int .u64 1, u0, .slice none 0 0, .int .u64 0, .slice (some ⟨g1, 0, none⟩) 16 c1, .slice none 0 0, .int .u64 0, (.slice ha hl hc), .slice none 0 0, .int .u64 0, (.slice ba bn bc), .slice none 0 0] ∧ W.rangeAt g1 0 ((bl nonce).map (Value.int .u8))) _ := ⟨keep hb_ HS.1, rangeS_keep2 HS.2.1 hb_ (by omega), rangeS_keep2 HS.2.2 hb_ (by omega)⟩
 replace HS := HS'
 clear HS'
 replace R1 := keep hb_ R1
 replace hw := Below.after hw hb_
 clear hb_
 refine hK _ _ HS ?_
 simp only [Act.put, List.getElem_toArray, List.getElem_cons_succ, List.getElem_cons_zero, List.setIfInBounds_toArray, List.set_cons_succ, List.set_cons_zero]
 clear hK
 generalize w7.alloc (.cells (evl 0 n16 (.slice none 0 0) (.slice none 0 0)) 51) = w8 at *
 generalize w7.heap.size = gB at *
 refine wpAnyH_one (k := 18) (fuel := 0) (by kernel_rfl) rfl (by kernel_rfl) (fun K_ hK => ?_)
 refine wp_store_row 51 _ _ rfl gB (evl 1 n16 (.slice ha hl hc) (.slice ba bn bc)) rfl rfl 51 _ RB (evl_info _ _ n16_len _ _) (by rw [evl_size _ _ n16_len, evl_size _ _ n16_len]) (evl_one _ _ _ _ _ _ _ _) ?_
 have HS' : (fun W : World => W.heap[w.heap.size]? = some (.cells #[.int .u64 0, .slice none 0 0, .slice (some ⟨pb, 0, none⟩) 4 pc] 78 (0, 0)) ∧ W.rangeAt pb 0 [.int .u64 1, u0, .slice none 0 0, .int .u64 0, .slice (some ⟨g1, 0, none⟩) 16 c1, .slice none 0 0, .int .u64 0, (.slice ha hl hc), .slice none 0 0, .int .u64 0, (.slice ba bn bc), .slice none 0 0] ∧ W.rangeAt g1 0 ((bl nonce).map (Value.int .u8))) (w8.setRow gB (evl 1 n16 (.slice ha hl hc) (.slice ba bn bc))) := ⟨(setRow_other w8 gB (w.heap.size) (evl 1 n16 (.slice ha hl hc) (.slice ba bn bc)) (by omega)).trans HS.1, mv_range HS.2.1 (setRow_other w8 gB pb (evl 1 n16 (.slice ha hl hc) (.slice ba bn bc)) (by omega)), mv_range HS.2.2 (setRow_other w8 gB g1 (evl 1 n16 (.slice ha hl hc) (.slice ba bn bc)) (by omega))⟩
 replace R1 := (setRow_other w8 gB (w.heap.size + 1) (evl 1 n16 (.slice ha hl hc) (.slice ba bn bc)) (by omega)).trans R1
 replace RB := setRow_heap w8 gB _ (evl 1 n16 (.slice ha hl hc) (.slice ba bn bc)) _ _ RB
 replace hw := below_setRow hw (show w.heap.size ≤ gB by omega) (evl 1 n16 (.slice ha hl hc) (.slice ba bn bc))
 refine hK _ _ HS' ?_
 simp only [Act.put]
 clear hK HS
 generalize w8.setRow gB (evl 1 n16 (.slice ha hl hc) (.slice ba bn bc)) = w9 at *
 refine wpAnyH_done (by kernel_rfl) ?_ _
 go_upto_region 2 with (fail)
 have hbd : Below w9.heap.size w9 w9.drew := below_drN (Below.refl _ _) 1
 have HS : (fun W : World => W.heap[w.heap.size]? = some (.cells #[.int .u64 0, .slice none 0 0, .slice (some ⟨pb, 0, none⟩) 4 pc] 78 (0, 0)) ∧ W.rangeAt pb 0 [.int .u64 1, u0, .slice none 0 0, .int .u64 0, .slice (some ⟨g1, 0, none⟩) 16 c1, .slice none 0 0, .int .u64 0, (.slice ha hl hc), .slice none 0 0, .int .u64 0, (.slice ba bn bc), .slice none 0 0] ∧ W.rangeAt g1 0 ((bl nonce).map (Value.int .u8))) w9.drew := HS'
 replace R1 := keep hbd R1
 replace RB := keep hbd RB
 replace hw := Below.after hw hbd
 have sk := slice_n16 gB 1
 clear hbd HS'
 refine wp_region_held (S := fun W : World => W.heap[w.heap.size]? = some (.cells #[.int .u64 0, .slice none 0 0, .slice (some ⟨pb, 0, none⟩) 4 pc] 78 (0, 0)) ∧ W.rangeAt pb 0 [.int .u64 1, u0, .slice none 0 0, .int .u64 0, .slice (some ⟨g1, 0, none⟩) 16 c1, .slice none 0 0, .int .u64 0, (.slice ha hl hc), .slice none 0 0, .int .u64 0, (.slice ba bn bc), .slice none 0 0] ∧ W.rangeAt g1 0 ((bl nonce).map (Value.int .u8))) (by kernel_rfl) ?_
 change wpAnyH _ _ _ _ _ _ _ _ (World.drew _)
 generalize w9.drew = w10 at *
 refine wpAnyH_take (i := 0) (v := ?vb57) rfl (by kernel_rfl) (by kernel_rfl) (by kernel_rfl) (fun _ _ _ h => h) (Or.inl ⟨by rfl, ?yb57⟩) HS ?rb57
 case yb57 =>
  intro w_ hS_
  go_simp
  try with_reducible rfl
 simp only [Act.put, List.getElem_toArray, List.getElem_cons_zero, List.setIfInBounds_toArray]
 refine wpAnyH_take (i := 1) (v := .slice (some ⟨gB, 1, none⟩) 16 16) rfl (by kernel_rfl) (by kernel_rfl) (by kernel_rfl) (fun _ _ _ h => h) (Or.inl ⟨by rfl, ?yb58⟩) HS ?rb58
 case yb58 =>
  intro w_ hS_
  go_simp
  try with_reducible rfl
 simp only [Act.put, List.getElem_toArray, List.getElem_cons_succ, List.getElem_cons_zero, List.setIfInBounds_toArray, List.set_cons_succ, List.set_cons_zero]
 refine wpAnyH_take (i := 2) (v := ?vb59) rfl (by kernel_rfl) (by kernel_rfl) (by kernel_rfl) (fun _ _ _ h => h) (Or.inl ⟨by rfl, ?yb59⟩) HS ?rb59
 case yb59 =>
  intro w_ hS_
  go_simp
  try with_reducible rfl
 simp only [Act.put, List.getElem_toArray, List.getElem_cons_succ, List.getElem_cons_zero, List.setIfInBounds_toArray, List.set_cons_succ, List.set_cons_zero]
 refine wpAnyH_take (i := 3) (v := .slice (some ⟨pb, 0, none⟩) 4 pc) rfl (by kernel_rfl) (by kernel_rfl) (by kernel_rfl) (fun _ _ _ h => h) (Or.inl ⟨by rfl, ?yb60⟩) HS ?rb60
 case yb60 =>
  intro w_ hS_
  have c_ := cell_of_row _ _ 2 _ _ _ hS_.1
  go_simp
  try with_reducible rfl
 simp only [Act.put, List.getElem_toArray, List.getElem_cons_succ, List.getElem_cons_zero, List.setIfInBounds_toArray, List.set_cons_succ, List.set_cons_zero]
 refine wpAnyH_take (i := 4) (v := ?vb61) rfl (by kernel_rfl) (by kernel_rfl) (by kernel_rfl) (fun _ _ _ h => h) (Or.inl ⟨by rfl, ?yb61⟩) HS ?rb61
 case yb61 =>
  intro w_ hS_
  go_simp
  try with_reducible rfl
 simp only [Act.put, List.getElem_toArray, List.getElem_cons_succ, List.getElem_cons_zero, List.setIfInBounds_toArray, List.set_cons_succ, List.set_cons_zero]
 refine wpAnyH_take (i := 5) (v := ?vb62) rfl (by kernel_rfl) (by kernel_rfl) (by kernel_rfl) (fun _ _ _ h => h) (Or.inl ⟨by rfl, ?yb62⟩) HS ?rb62
 case yb62 =>
  intro w_ hS_
  go_simp
  try with_reducible rfl
 simp only [Act.put, List.getElem_toArray, List.getElem_cons_succ, List.getElem_cons_zero, List.setIfInBounds_toArray, List.set_cons_succ, List.set_cons_zero]
 refine wpAnyH_take (i := 6) (v := .slice (some ⟨g1, 0, none⟩) 16 c1) rfl (by kernel_rfl) (by kernel_rfl) (by kernel_rfl) (fun _ _ _ h => h) (Or.inl ⟨by rfl, ?yb63⟩) HS ?rb63
 case yb63 =>
  intro w_ hS_
  have c_ : w_.cell? ⟨pb, 4, none⟩ = some (.slice (some ⟨g1, 0, none⟩) 16 c1) := hS_.2.1 4 _ rfl
  go_simp
  try with_reducible rfl
 simp only [Act.put, List.getElem_toArray, List.getElem_cons_succ, List.getElem_cons_zero, List.setIfInBounds_toArray, List.set_cons_succ, List.set_cons_zero]
 refine wpAnyH_one (k := 7) (fuel := 0) (by kernel_rfl) rfl (by kernel_rfl) (fun K_ hK => ?_)
 refine wp_copyR _ _ 22 22 rfl 5 Tryz.underlying22 (by kernel_rfl) gB 1 16 16 ⟨g1, 0, none⟩ 16 c1 rfl rfl (evl 1 n16 (.slice ha hl hc) (.slice ba bn bc)) 51 RB ((bl nonce).map (Value.int .u8)) (by rw [List.length_map, bl_len, hn]; rfl) (fun j v hv => by rw [addr_add]; exact HS.2.2 j v hv) (by rw [List.length_map, bl_len, hn, evl_size _ _ n16_len]; decide) (fun v hv => by obtain ⟨x, _, rfl⟩ := List.mem_map.1 hv; rfl) ?_
 rw [evl_copy 1 nonce hn]
 have HS' : (fun W : World => W.heap[w.heap.size]? = some (.cells #[.int .u64 0, .slice none 0 0, .slice (some ⟨pb, 0, none⟩) 4 pc] 78 (0, 0)) ∧ W.rangeAt pb 0 [.int .u64 1, u0, .slice none 0 0, .int .u64 0, .slice (some ⟨g1, 0, none⟩) 16 c1, .slice none 0 0, .int .u64 0, (.slice ha hl hc), .slice none 0 0, .int .u64 0, (.slice ba bn bc), .slice none 0 0] ∧ W.rangeAt g1 0 ((bl nonce).map (Value.int .u8))) (w10.setRow gB (evl 1 nonce (.slice ha hl hc) (.slice ba bn bc))) := ⟨(setRow_other w10 gB (w.heap.size) (evl 1 nonce (.slice ha hl hc) (.slice ba bn bc)) (by omega)).trans HS.1, mv_range HS.2.1 (setRow_other w10 gB pb (evl 1 nonce (.slice ha hl hc) (.slice ba bn bc)) (by omega)), mv_range HS.2.2 (setRow_other w10 gB g1 (evl 1 nonce (.slice ha hl hc) (.slice ba bn bc)) (by omega))⟩
 replace R1 := (setRow_other w10 gB (w.heap.size + 1) (evl 1 nonce (.slice ha hl hc) (.slice ba bn bc)) (by omega)).trans R1
 replace RB := setRow_heap w10 gB _ (evl 1 nonce (.slice ha hl hc) (.slice ba bn bc)) _ _ RB
 replace hw := below_setRow hw (show w.heap.size ≤ gB by omega) (evl 1 nonce (.slice ha hl hc) (.slice ba bn bc))
 refine hK _ _ HS' ?_
 simp only [Act.put, List.getElem_toArray, List.getElem_cons_succ, List.getElem_cons_zero, List.setIfInBounds_toArray, List.set_cons_succ, List.set_cons_zero]
 clear hK HS HS'
 generalize w10.setRow gB (evl 1 nonce (.slice ha hl hc) (.slice ba bn bc)) = w11 at *
 refine wpAnyH_done (by kernel_rfl) ?_ _
 have RF := hide (setRow_heap w11 (w.heap.size + 1) _ (evl 1 nonce (.slice ha hl hc) (.slice ba bn bc)) _ _ R1)
 have hwF := hide (below_setRow hw (show w.heap.size ≤ w.heap.size + 1 by omega) (evl 1 nonce (.slice ha hl hc) (.slice ba bn bc)))
 clear hw
 go_wp2_with (first | (refine wpList_load_want rfl 51 _ rfl gB rfl 51 (evl 1 nonce (.slice ha hl hc) (.slice ba bn bc)) (0, 0) _ RB Tryz.underlying51 rfl (evl_info _ _ hn _ _) ?_) | (refine wpList_store_row rfl 51 _ _ rfl (w.heap.size + 1) (evl 1 nonce (.slice ha hl hc) (.slice ba bn bc)) rfl rfl 51 _ R1 (evl_info _ _ hn _ _) (by rw [evl_size _ _ n16_len, evl_size _ _ hn]) (evl_one _ _ _ _ _ _ _ _) ?_) | fail)
 exact bodyPost_ret (v := .agg (evl 1 nonce (.slice ha hl hc) (.slice ba bn bc))) (results_cell_row Tryz.results50 _ _ (w.heap.size + 1) _ _ _ _ rfl RF.out Tryz.underlying51 rfl (evl_info _ _ hn _ _)) rfl ⟨rfl, hwF.out⟩
set_option maxRecDepth 100000 in
set_option maxHeartbeats 8000000 in
theorem a_envelopeOf2 (nonce : List B) (hn : nonce.length = 16) (ha : Option Addr) (hl hc : Nat) (ba : Option Addr) (bn bc pb pc g1 c1 : Nat) (u0 : Value) (w : World) (hpb : pb < w.heap.size) (hg1 : g1 < w.heap.size) (hr : w.rangeAt pb 0 [.int .u64 2, u0, .slice none 0 0, .int .u64 0, .slice (some ⟨g1, 0, none⟩) 16 c1, .slice none 0 0, .int .u64 0, (.slice ha hl hc), .slice none 0 0, .int .u64 0, (.slice ba bn bc), .slice none 0 0]) (hr1 : w.rangeAt g1 0 ((bl nonce).map (Value.int .u8))) : Calls Tryz.prog 50 #[.agg #[.int .u64 0, .slice none 0 0, .slice (some ⟨pb, 0, none⟩) 4 pc]] w fun e w' => e = .returned (.agg (evl 2 nonce (.slice ha hl hc) (.slice ba bn bc))) ∧ Below w.heap.size w w' := by
 have R0 := hp2_0 w (.cells #[.int .u64 0, .slice none 0 0, .slice (some ⟨pb, 0, none⟩) 4 pc] 78) (.cells (evl 0 n16 (.slice none 0 0) (.slice none 0 0)) 51)
 have R1 := hp2_1 w (.cells #[.int .u64 0, .slice none 0 0, .slice (some ⟨pb, 0, none⟩) 4 pc] 78) (.cells (evl 0 n16 (.slice none 0 0) (.slice none 0 0)) 51)
 have hw : Below w.heap.size w ((w.alloc (.cells #[.int .u64 0, .slice none 0 0, .slice (some ⟨pb, 0, none⟩) 4 pc] 78)).alloc (.cells (evl 0 n16 (.slice none 0 0) (.slice none 0 0)) 51)) := ((Below.refl _ _).alloc (Nat.le_refl _) _).alloc (by simp) _
 replace hr := rangeS_keep2 hr hw hpb
 replace hr1 := rangeS_keep2 hr1 hw hg1
 go_enter Tryz.func50, Tryz.ntmps50
 go_upto_region 1 with (first | (refine wpList_alloc rfl 51 rfl (evl 0 n16 (.slice none 0 0) (.slice none 0 0)) zEnv ?_) | fail)
 try simp only [size_alloc1, Act.put, List.setIfInBounds_toArray, List.set_cons_succ, List.set_cons_zero]
 generalize (w.alloc (.cells #[.int .u64 0, .slice none 0 0, .slice (some ⟨pb, 0, none⟩) 4 pc] 78)).alloc (.cells (evl 0 n16 (.slice none 0 0) (.slice none 0 0)) 51) = w6 at *
 have lR := lt_of_row R1
 have hbd : Below w6.heap.size w6 w6.drew := below_drN (Below.refl _ _) 1
 replace R0 := keep hbd R0
 replace R1 := keep hbd R1
 replace hw := Below.after hw hbd
 have HS : (fun W : World => W.heap[w.heap.size]? = some (.cells #[.int .u64 0, .slice none 0 0, .slice (some ⟨pb, 0, none⟩) 4 pc] 78 (0, 0)) ∧ W.rangeAt pb 0 [.int .u64 2, u0, .slice none 0 0, .int .u64 0, .slice (some ⟨g1, 0, none⟩) 16 c1, .slice none 0 0, .int .u64 0, (.slice ha hl hc), .slice none 0 0, .int .u64 0, (.slice ba bn bc), .slice none 0 0] ∧ W.rangeAt g1 0 ((bl nonce).map (Value.int .u8))) w6.drew := ⟨R0, hr, hr1⟩
 have szd := hbd.size
 clear hbd R0 hr hr1
 refine wp_region_held (S := fun W : World => W.heap[w.heap.size]? = some (.cells #[.int .u64 0, .slice none 0 0, .slice (some ⟨pb, 0, none⟩) 4 pc] 78 (0, 0)) ∧ W.rangeAt pb 0 [.int .u64 2, u0, .slice none 0 0, .int .u64 0, .slice (some ⟨g1, 0, none⟩) 16 c1, .slice none 0 0, .int .u64 0, (.slice ha hl hc), .slice none 0 0, .int .u64 0, (.slice ba bn bc), .slice none 0 0] ∧ W.rangeAt g1 0 ((bl nonce).map (Value.int .u8))) (by kernel_rfl) ?_
 change wpAnyH _ _ _ _ _ _ _ _ (World.drew _)
 generalize w6.drew = w7 at *
 refine wpAnyH_take (i := 0) (v := ?vc64) rfl (by kernel_rfl) (by kernel_rfl) (by kernel_rfl) (fun _ _ _ h => h) (Or.inl ⟨by rfl, ?yc64⟩) HS ?rc64
 case yc64 =>
  intro w_ hS_
  go_simp
  try with_reducible rfl
 simp only [Act.put, List.getElem_toArray, List.getElem_cons_zero, List.setIfInBounds_toArray, List.set_cons_succ, List.set_cons_zero]
 refine wpAnyH_take (i := 1) (v := .slice (some ⟨pb, 0, none⟩) 4 pc) rfl (by kernel_rfl) (by kernel_rfl) (by kernel_rfl) (fun _ _ _ h => h) (Or.inl ⟨by rfl, ?yc65⟩) HS ?rc65
 case yc65 =>
  intro w_ hS_
  have c_ := cell_of_row _ _ 2 _ _ _ hS_.1
  go_simp
  try with_reducible rfl
 simp only [Act.put, List.getElem_toArray, List.getElem_cons_succ, List.getElem_cons_zero, List.setIfInBounds_toArray, List.set_cons_succ, List.set_cons_zero]
 refine wpAnyH_take (i := 2) (v := ?vc66) rfl (by kernel_rfl) (by kernel_rfl) (by kernel_rfl) (fun _ _ _ h => h) (Or.inl ⟨by rfl, ?yc66⟩) HS ?rc66
 case yc66 =>
  intro w_ hS_
  go_simp
  try with_reducible rfl
 simp only [Act.put, List.getElem_toArray, List.getElem_cons_succ, List.getElem_cons_zero, List.setIfInBounds_toArray, List.set_cons_succ, List.set_cons_zero]
 refine wpAnyH_take (i := 3) (v := ?vc67) rfl (by kernel_rfl) (by kernel_rfl) (by kernel_rfl) (fun _ _ _ h => h) (Or.inl ⟨by rfl, ?yc67⟩) HS ?rc67
 case yc67 =>
  intro w_ hS_
  go_simp
  try with_reducible rfl
 simp only [Act.put, List.getElem_toArray, List.getElem_cons_succ, List.getElem_cons_zero, List.setIfInBounds_toArray, List.set_cons_succ, List.set_cons_zero]
 refine wpAnyH_take (i := 4) (v := .int .u64 2) rfl (by kernel_rfl) (by kernel_rfl) (by kernel_rfl) (fun _ _ _ h => h) (Or.inl ⟨by rfl, ?yc68⟩) HS ?rc68
 case yc68 =>
  intro w_ hS_
  have c_ : w_.cell? ⟨pb, 0, none⟩ = some (.int .u64 2) := hS_.2.1 0 _ rfl
  go_simp
  try with_reducible rfl
 simp only [Act.put, List.getElem_toArray, List.getElem_cons_succ, List.getElem_cons_zero, List.setIfInBounds_toArray, List.set_cons_succ, List.set_cons_zero]
 refine wpAnyH_take (i := 5) (v := .int .i64 2) rfl (by kernel_rfl) (by kernel_rfl) (by kernel_rfl) (fun _ _ _ h => h) (Or.inl ⟨by rfl, ?yc69⟩) HS ?rc69
 case yc69 =>
  intro w_ hS_
  go_simp
  rfl
 simp only [Act.put, List.getElem_toArray, List.getElem_cons_succ, List.getElem_cons_zero, List.setIfInBounds_toArray, List.set_cons_succ, List.set_cons_zero]
 refine wpAnyH_take (i := 6) (v := ?vc70) rfl (by kernel_rfl) (by kernel_rfl) (by kernel_rfl) (fun _ _ _ h => h) (Or.inl ⟨by rfl, ?yc70⟩) HS ?rc70
 case yc70 =>
  intro w_ hS_
  go_simp
  try with_reducible rfl
 simp only [Act.put, List.getElem_toArray, List.getElem_cons_succ, List.getElem_cons_zero, List.setIfInBounds_toArray, List.set_cons_succ, List.set_cons_zero]
 refine wpAnyH_take (i := 7) (v := .slice (some ⟨pb, 0, none⟩) 4 pc) rfl (by kernel_rfl) (by kernel_rfl) (by kernel_rfl) (fun _ _ _ h => h) (Or.inl ⟨by rfl, ?yc71⟩) HS ?rc71
 case yc71 =>
  intro w_ hS_
  have c_ := cell_of_row _ _ 2 _ _ _ hS_.1
  go_simp
  try with_reducible rfl
 simp only [Act.put, List.getElem_toArray, List.getElem_cons_succ, List.getElem_cons_zero, List.setIfInBounds_toArray, List.set_cons_succ, List.set_cons_zero]
 refine wpAnyH_take (i := 8) (v := ?vc72) rfl (by kernel_rfl) (by kernel_rfl) (by kernel_rfl) (fun _ _ _ h => h) (Or.inl ⟨by rfl, ?yc72⟩) HS ?rc72
 case yc72 =>
  intro w_ hS_
  go_simp
  try with_reducible rfl
 simp only [Act.put, List.getElem_toArray, List.getElem_cons_succ, List.getElem_cons_zero, List.setIfInBounds_toArray, List.set_cons_succ, List.set_cons_zero]
 refine wpAnyH_take (i := 9) (v := ?vc73) rfl (by kernel_rfl) (by kernel_rfl) (by kernel_rfl) (fun _ _ _ h => h) (Or.inl ⟨by rfl, ?yc73⟩) HS ?rc73
 case yc73 =>
  intro w_ hS_
  go_simp
  try with_reducible rfl
 simp only [Act.put, List.getElem_toArray, List.getElem_cons_succ, List.getElem_cons_zero, List.setIfInBounds_toArray, List.set_cons_succ, List.set_cons_zero]
 refine wpAnyH_take (i := 10) (v := .slice ha hl hc) rfl (by kernel_rfl) (by kernel_rfl) (by kernel_rfl) (fun _ _ _ h => h) (Or.inl ⟨by rfl, ?yc74⟩) HS ?rc74
 case yc74 =>
  intro w_ hS_
  have c_ : w_.cell? ⟨pb, 7, none⟩ = some (.slice ha hl hc) := hS_.2.1 7 _ rfl
  go_simp
  try with_reducible rfl
 simp only [Act.put, List.getElem_toArray, List.getElem_cons_succ, List.getElem_cons_zero, List.setIfInBounds_toArray, List.set_cons_succ, List.set_cons_zero]
 refine wpAnyH_take (i := 11) (v := ?vc75) rfl (by kernel_rfl) (by kernel_rfl) (by kernel_rfl) (fun _ _ _ h => h) (Or.inl ⟨by rfl, ?yc75⟩) HS ?rc75
 case yc75 =>
  intro w_ hS_
  go_simp
  try with_reducible rfl
 simp only [Act.put, List.getElem_toArray, List.getElem_cons_succ, List.getElem_cons_zero, List.setIfInBounds_toArray, List.set_cons_succ, List.set_cons_zero]
 refine wpAnyH_take (i := 12) (v := .slice (some ⟨pb, 0, none⟩) 4 pc) rfl (by kernel_rfl) (by kernel_rfl) (by kernel_rfl) (fun _ _ _ h => h) (Or.inl ⟨by rfl, ?yc76⟩) HS ?rc76
 case yc76 =>
  intro w_ hS_
  have c_ := cell_of_row _ _ 2 _ _ _ hS_.1
  go_simp
  try with_reducible rfl
 simp only [Act.put, List.getElem_toArray, List.getElem_cons_succ, List.getElem_cons_zero, List.setIfInBounds_toArray, List.set_cons_succ, List.set_cons_zero]
 refine wpAnyH_take (i := 13) (v := ?vc77) rfl (by kernel_rfl) (by kernel_rfl) (by kernel_rfl) (fun _ _ _ h => h) (Or.inl ⟨by rfl, ?yc77⟩) HS ?rc77
 case yc77 =>
  intro w_ hS_
  go_simp
  try with_reducible rfl
 simp only [Act.put, List.getElem_toArray, List.getElem_cons_succ, List.getElem_cons_zero, List.setIfInBounds_toArray, List.set_cons_succ, List.set_cons_zero]
 refine wpAnyH_take (i := 14) (v := ?vc78) rfl (by kernel_rfl) (by kernel_rfl) (by kernel_rfl) (fun _ _ _ h => h) (Or.inl ⟨by rfl, ?yc78⟩) HS ?rc78
 case yc78 =>
  intro w_ hS_
  go_simp
  try with_reducible rfl
 simp only [Act.put, List.getElem_toArray, List.getElem_cons_succ, List.getElem_cons_zero, List.setIfInBounds_toArray, List.set_cons_succ, List.set_cons_zero]
 refine wpAnyH_take (i := 15) (v := .slice ba bn bc) rfl (by kernel_rfl) (by kernel_rfl) (by kernel_rfl) (fun _ _ _ h => h) (Or.inl ⟨by rfl, ?yc79⟩) HS ?rc79
 case yc79 =>
  intro w_ hS_
  have c_ : w_.cell? ⟨pb, 10, none⟩ = some (.slice ba bn bc) := hS_.2.1 10 _ rfl
  go_simp
  try with_reducible rfl
 simp only [Act.put, List.getElem_toArray, List.getElem_cons_succ, List.getElem_cons_zero, List.setIfInBounds_toArray, List.set_cons_succ, List.set_cons_zero]
 refine wpAnyH_take (i := 16) (v := .agg (evl 2 n16 (.slice ha hl hc) (.slice ba bn bc))) rfl (by kernel_rfl) (by kernel_rfl) (by kernel_rfl) (fun _ _ _ h => h) (Or.inl ⟨by rfl, ?yc80⟩) HS ?rc80
 case yc80 =>
  intro w_ hS_
  simp only [List.getElem_toArray, List.getElem_cons_succ, List.getElem_cons_zero]
  exact run_build_op 51 _ rfl [(0, .int .i64 2), (2, (.slice ha hl hc)), (3, (.slice ba bn bc))] rfl _ (builtE3 2 ha hl hc ba bn bc)
 simp only [Act.put, List.getElem_toArray, List.getElem_cons_succ, List.getElem_cons_zero, List.setIfInBounds_toArray, List.set_cons_succ, List.set_cons_zero]
 refine wpAnyH_one (k := 17) (fuel := 1) (by kernel_rfl) rfl (by kernel_rfl) (fun K_ hK => ?_)
 refine wp_val_op (.pointer (some ⟨w7.heap.size, 0, none⟩)) (w' := w7.alloc (.cells (evl 0 n16 (.slice none 0 0) (.slice none 0 0)) 51)) (by kernel_rfl) ?_
 have RB := hp1_0 w7 (.cells (evl 0 n16 (.slice none 0 0) (.slice none 0 0)) 51)
 have l1_ := lt_of_row R1
 have hb_ : Below w7.heap.size w7 (w7.alloc (.cells (evl 0 n16 (.slice none 0 0) (.slice none 0 0)) 51)) := (Below.refl _ _).alloc (Nat.le_refl _) _
 have HS' : (fun W : World => W.heap[w.heap.size]? = some (.cells #[.int .u64 0, .slice none 0 0, .slice (some ⟨pb, 0, none⟩) 4 pc] 78 (0, 0)) ∧ W.rangeAt pb 0 [.int .u64 2, u0, .slice none 0 0, .int .u64 0, .slice (some ⟨g1, 0, none⟩) 16 c1, .slice none 0 0, .int .u64 0, (.slice ha hl hc), .slice none 0 0, .int .u64 0, (.slice ba bn bc), .slice none 0 0] ∧ W.rangeAt g1 0 ((bl nonce).map (Value.int .u8))) _ := ⟨keep hb_ HS.1, rangeS_keep2 HS.2.1 hb_ (by omega), rangeS_keep2 HS.2.2 hb_ (by omega)⟩
 replace HS := HS'
 clear HS'
 replace R1 := keep hb_ R1
 replace hw := Below.after hw hb_
 clear hb_
 refine hK _ _ HS ?_
 simp only [Act.put, List.getElem_toArray, List.getElem_cons_succ, List.getElem_cons_zero, List.setIfInBounds_toArray, List.set_cons_succ, List.set_cons_zero]
 clear hK
 generalize w7.alloc (.cells (evl 0 n16 (.slice none 0 0) (.slice none 0 0)) 51) = w8 at *
 generalize w7.heap.size = gB at *
 refine wpAnyH_one (k := 18) (fuel := 0) (by kernel_rfl) rfl (by kernel_rfl) (fun K_ hK => ?_)
 refine wp_store_row 51 _ _ rfl gB (evl 2 n16 (.slice ha hl hc) (.slice ba bn bc)) rfl rfl 51 _ RB (evl_info _ _ n16_len _ _) (by rw [evl_size _ _ n16_len, evl_size _ _ n16_len]) (evl_one _ _ _ _ _ _ _ _) ?_
 have HS' : (fun W : World => W.heap[w.heap.size]? = some (.cells #[.int .u64 0, .slice none 0 0, .slice (some ⟨pb, 0, none⟩) 4 pc] 78 (0, 0)) ∧ W.rangeAt pb 0 [.int .u64 2, u0, .slice none 0 0, .int .u64 0, .slice (some ⟨g1, 0, none⟩) 16 c1, .slice none 0 0, .int .u64 0, (.slice ha hl hc), .slice none 0 0, .int .u64 0, (.slice ba bn bc), .slice none 0 0] ∧ W.rangeAt g1 0 ((bl nonce).map (Value.int .u8))) (w8.setRow gB (evl 2 n16 (.slice ha hl hc) (.slice ba bn bc))) := ⟨(setRow_other w8 gB (w.heap.size) (evl 2 n16 (.slice ha hl hc) (.slice ba bn bc)) (by omega)).trans HS.1, mv_range HS.2.1 (setRow_other w8 gB pb (evl 2 n16 (.slice ha hl hc) (.slice ba bn bc)) (by omega)), mv_range HS.2.2 (setRow_other w8 gB g1 (evl 2 n16 (.slice ha hl hc) (.slice ba bn bc)) (by omega))⟩
 replace R1 := (setRow_other w8 gB (w.heap.size + 1) (evl 2 n16 (.slice ha hl hc) (.slice ba bn bc)) (by omega)).trans R1
 replace RB := setRow_heap w8 gB _ (evl 2 n16 (.slice ha hl hc) (.slice ba bn bc)) _ _ RB
 replace hw := below_setRow hw (show w.heap.size ≤ gB by omega) (evl 2 n16 (.slice ha hl hc) (.slice ba bn bc))
 refine hK _ _ HS' ?_
 simp only [Act.put]
 clear hK HS
 generalize w8.setRow gB (evl 2 n16 (.slice ha hl hc) (.slice ba bn bc)) = w9 at *
 refine wpAnyH_done (by kernel_rfl) ?_ _
 go_upto_region 2 with (fail)
 have hbd : Below w9.heap.size w9 w9.drew := below_drN (Below.refl _ _) 1
 have HS : (fun W : World => W.heap[w.heap.size]? = some (.cells #[.int .u64 0, .slice none 0 0, .slice (some ⟨pb, 0, none⟩) 4 pc] 78 (0, 0)) ∧ W.rangeAt pb 0 [.int .u64 2, u0, .slice none 0 0, .int .u64 0, .slice (some ⟨g1, 0, none⟩) 16 c1, .slice none 0 0, .int .u64 0, (.slice ha hl hc), .slice none 0 0, .int .u64 0, (.slice ba bn bc), .slice none 0 0] ∧ W.rangeAt g1 0 ((bl nonce).map (Value.int .u8))) w9.drew := HS'
 replace R1 := keep hbd R1
 replace RB := keep hbd RB
 replace hw := Below.after hw hbd
 have sk := slice_n16 gB 1
 clear hbd HS'
 refine wp_region_held (S := fun W : World => W.heap[w.heap.size]? = some (.cells #[.int .u64 0, .slice none 0 0, .slice (some ⟨pb, 0, none⟩) 4 pc] 78 (0, 0)) ∧ W.rangeAt pb 0 [.int .u64 2, u0, .slice none 0 0, .int .u64 0, .slice (some ⟨g1, 0, none⟩) 16 c1, .slice none 0 0, .int .u64 0, (.slice ha hl hc), .slice none 0 0, .int .u64 0, (.slice ba bn bc), .slice none 0 0] ∧ W.rangeAt g1 0 ((bl nonce).map (Value.int .u8))) (by kernel_rfl) ?_
 change wpAnyH _ _ _ _ _ _ _ _ (World.drew _)
 generalize w9.drew = w10 at *
 refine wpAnyH_take (i := 0) (v := ?vc81) rfl (by kernel_rfl) (by kernel_rfl) (by kernel_rfl) (fun _ _ _ h => h) (Or.inl ⟨by rfl, ?yc81⟩) HS ?rc81
 case yc81 =>
  intro w_ hS_
  go_simp
  try with_reducible rfl
 simp only [Act.put, List.getElem_toArray, List.getElem_cons_zero, List.setIfInBounds_toArray]
 refine wpAnyH_take (i := 1) (v := .slice (some ⟨gB, 1, none⟩) 16 16) rfl (by kernel_rfl) (by kernel_rfl) (by kernel_rfl) (fun _ _ _ h => h) (Or.inl ⟨by rfl, ?yc82⟩) HS ?rc82
 case yc82 =>
  intro w_ hS_
  go_simp
  try with_reducible rfl
 simp only [Act.put, List.getElem_toArray, List.getElem_cons_succ, List.getElem_cons_zero, List.setIfInBounds_toArray, List.set_cons_succ, List.set_cons_zero]
 refine wpAnyH_take (i := 2) (v := ?vc83) rfl (by kernel_rfl) (by kernel_rfl) (by kernel_rfl) (fun _ _ _ h => h) (Or.inl ⟨by rfl, ?yc83⟩) HS ?rc83
 case yc83 =>
  intro w_ hS_
  go_simp
  try with_reducible rfl
 simp only [Act.put, List.getElem_toArray, List.getElem_cons_succ, List.getElem_cons_zero, List.setIfInBounds_toArray, List.set_cons_succ, List.set_cons_zero]
 refine wpAnyH_take (i := 3) (v := .slice (some ⟨pb, 0, none⟩) 4 pc) rfl (by kernel_rfl) (by kernel_rfl) (by kernel_rfl) (fun _ _ _ h => h) (Or.inl ⟨by rfl, ?yc84⟩) HS ?rc84
 case yc84 =>
  intro w_ hS_
  have c_ := cell_of_row _ _ 2 _ _ _ hS_.1
  go_simp
  try with_reducible rfl
 simp only [Act.put, List.getElem_toArray, List.getElem_cons_succ, List.getElem_cons_zero, List.setIfInBounds_toArray, List.set_cons_succ, List.set_cons_zero]
 refine wpAnyH_take (i := 4) (v := ?vc85) rfl (by kernel_rfl) (by kernel_rfl) (by kernel_rfl) (fun _ _ _ h => h) (Or.inl ⟨by rfl, ?yc85⟩) HS ?rc85
 case yc85 =>
  intro w_ hS_
  go_simp
  try with_reducible rfl
 simp only [Act.put, List.getElem_toArray, List.getElem_cons_succ, List.getElem_cons_zero, List.setIfInBounds_toArray, List.set_cons_succ, List.set_cons_zero]
 refine wpAnyH_take (i := 5) (v := ?vc86) rfl (by kernel_rfl) (by kernel_rfl) (by kernel_rfl) (fun _ _ _ h => h) (Or.inl ⟨by rfl, ?yc86⟩) HS ?rc86
 case yc86 =>
  intro w_ hS_
  go_simp
  try with_reducible rfl
 simp only [Act.put, List.getElem_toArray, List.getElem_cons_succ, List.getElem_cons_zero, List.setIfInBounds_toArray, List.set_cons_succ, List.set_cons_zero]
 refine wpAnyH_take (i := 6) (v := .slice (some ⟨g1, 0, none⟩) 16 c1) rfl (by kernel_rfl) (by kernel_rfl) (by kernel_rfl) (fun _ _ _ h => h) (Or.inl ⟨by rfl, ?yc87⟩) HS ?rc87
 case yc87 =>
  intro w_ hS_
  have c_ : w_.cell? ⟨pb, 4, none⟩ = some (.slice (some ⟨g1, 0, none⟩) 16 c1) := hS_.2.1 4 _ rfl
  go_simp
  try with_reducible rfl
 simp only [Act.put, List.getElem_toArray, List.getElem_cons_succ, List.getElem_cons_zero, List.setIfInBounds_toArray, List.set_cons_succ, List.set_cons_zero]
 refine wpAnyH_one (k := 7) (fuel := 0) (by kernel_rfl) rfl (by kernel_rfl) (fun K_ hK => ?_)
 refine wp_copyR _ _ 22 22 rfl 5 Tryz.underlying22 (by kernel_rfl) gB 1 16 16 ⟨g1, 0, none⟩ 16 c1 rfl rfl (evl 2 n16 (.slice ha hl hc) (.slice ba bn bc)) 51 RB ((bl nonce).map (Value.int .u8)) (by rw [List.length_map, bl_len, hn]; rfl) (fun j v hv => by rw [addr_add]; exact HS.2.2 j v hv) (by rw [List.length_map, bl_len, hn, evl_size _ _ n16_len]; decide) (fun v hv => by obtain ⟨x, _, rfl⟩ := List.mem_map.1 hv; rfl) ?_
 rw [evl_copy 2 nonce hn]
 have HS' : (fun W : World => W.heap[w.heap.size]? = some (.cells #[.int .u64 0, .slice none 0 0, .slice (some ⟨pb, 0, none⟩) 4 pc] 78 (0, 0)) ∧ W.rangeAt pb 0 [.int .u64 2, u0, .slice none 0 0, .int .u64 0, .slice (some ⟨g1, 0, none⟩) 16 c1, .slice none 0 0, .int .u64 0, (.slice ha hl hc), .slice none 0 0, .int .u64 0, (.slice ba bn bc), .slice none 0 0] ∧ W.rangeAt g1 0 ((bl nonce).map (Value.int .u8))) (w10.setRow gB (evl 2 nonce (.slice ha hl hc) (.slice ba bn bc))) := ⟨(setRow_other w10 gB (w.heap.size) (evl 2 nonce (.slice ha hl hc) (.slice ba bn bc)) (by omega)).trans HS.1, mv_range HS.2.1 (setRow_other w10 gB pb (evl 2 nonce (.slice ha hl hc) (.slice ba bn bc)) (by omega)), mv_range HS.2.2 (setRow_other w10 gB g1 (evl 2 nonce (.slice ha hl hc) (.slice ba bn bc)) (by omega))⟩
 replace R1 := (setRow_other w10 gB (w.heap.size + 1) (evl 2 nonce (.slice ha hl hc) (.slice ba bn bc)) (by omega)).trans R1
 replace RB := setRow_heap w10 gB _ (evl 2 nonce (.slice ha hl hc) (.slice ba bn bc)) _ _ RB
 replace hw := below_setRow hw (show w.heap.size ≤ gB by omega) (evl 2 nonce (.slice ha hl hc) (.slice ba bn bc))
 refine hK _ _ HS' ?_
 simp only [Act.put, List.getElem_toArray, List.getElem_cons_succ, List.getElem_cons_zero, List.setIfInBounds_toArray, List.set_cons_succ, List.set_cons_zero]
 clear hK HS HS'
 generalize w10.setRow gB (evl 2 nonce (.slice ha hl hc) (.slice ba bn bc)) = w11 at *
 refine wpAnyH_done (by kernel_rfl) ?_ _
 have RF := hide (setRow_heap w11 (w.heap.size + 1) _ (evl 2 nonce (.slice ha hl hc) (.slice ba bn bc)) _ _ R1)
 have hwF := hide (below_setRow hw (show w.heap.size ≤ w.heap.size + 1 by omega) (evl 2 nonce (.slice ha hl hc) (.slice ba bn bc)))
 clear hw
 go_wp2_with (first | (refine wpList_load_want rfl 51 _ rfl gB rfl 51 (evl 2 nonce (.slice ha hl hc) (.slice ba bn bc)) (0, 0) _ RB Tryz.underlying51 rfl (evl_info _ _ hn _ _) ?_) | (refine wpList_store_row rfl 51 _ _ rfl (w.heap.size + 1) (evl 2 nonce (.slice ha hl hc) (.slice ba bn bc)) rfl rfl 51 _ R1 (evl_info _ _ hn _ _) (by rw [evl_size _ _ n16_len, evl_size _ _ hn]) (evl_one _ _ _ _ _ _ _ _) ?_) | fail)
 exact bodyPost_ret (v := .agg (evl 2 nonce (.slice ha hl hc) (.slice ba bn bc))) (results_cell_row Tryz.results50 _ _ (w.heap.size + 1) _ _ _ _ rfl RF.out Tryz.underlying51 rfl (evl_info _ _ hn _ _)) rfl ⟨rfl, hwF.out⟩
theorem bytes_field {no : Int} {l m : Nat} {f : Fd} {at_ : Int} (h : dsl (.mk no 5 l m []) f at_ = none) (hf : fits f) : ∃ x : List B, f = ⟨no, 2, 0, x⟩ ∧ l ≤ x.length ∧ x.length ≤ m := by
 obtain ⟨h1, h2, h3⟩ := dsl_none h
 obtain ⟨fno, fty, fnum, fdat⟩ := f
 have e1 : fno = no := h1
 have e2 : fty = 2 := h2
 subst e1 e2
 have e3 := wth_zero (show wth (fdat.length : Int) (l : Int) (m : Int) = 0 from h3)
 have e4 : fnum = 0 := by
  unfold fits at hf
  simpa using hf
 subst e4
 exact ⟨fdat, rfl, by omega, by omega⟩
theorem just_field {no : Int} {v : Nat} {f : Fd} {at_ : Int} (h : dsl (.mk no 1 v v []) f at_ = none) (hf : fits f) : f = ⟨no, 0, v, []⟩ := by
 obtain ⟨h1, h2, h3⟩ := dsl_none h
 obtain ⟨fno, fty, fnum, fdat⟩ := f
 have e1 : fno = no := h1
 have e2 : fty = 0 := h2
 subst e1 e2
 have e3 := wth_zero (show wth (fnum : Int) (v : Int) (v : Int) = 0 from h3)
 have e4 : fdat = [] := by
  unfold fits at hf
  simp at hf
  exact hf
 subst e4
 have e5 : fnum = v := by omega
 subst e5
 rfl
theorem dec_esl {v : Nat} {d : List B} (h : dec8 (esl v) d 0 = none) : der (dwh d) = 0 ∧ ∃ (nonce hd bd : List B), dfs (dwh d) = efs v nonce hd bd ∧ nonce.length = 16 ∧ hd.length = 60 ∧ 80 ≤ bd.length ∧ bd.length ≤ mo v := by
 unfold dec8 at h
 by_cases hd : der (dwh d) = 0
 ·rw [if_neg (by simpa using hd)] at h
  have hft : ∀ f ∈ dfs (dwh d), fits f := fun f hf => (ech_all _ 0 (by decide) (eer_ok.1 (dec_enc hd).1).2.1 f hf).2.2.2
  refine ⟨hd, ?_⟩
  generalize dfs (dwh d) = fs at *
  unfold esl at h
  match fs, h, hft with
  | [], h, _ => cases h
  | [f1], h, _ => cases (dcF_cons h).2
  | [f1, f2], h, _ => cases (dcF_cons (dcF_cons h).2).2
  | [f1, f2, f3], h, _ => cases (dcF_cons (dcF_cons (dcF_cons h).2).2).2
  | f1 :: f2 :: f3 :: f4 :: f5 :: r, h, _ => cases (dcF_cons (dcF_cons (dcF_cons (dcF_cons h).2).2).2).2
  | [f1, f2, f3, f4], h, hft =>
   obtain ⟨a1, h⟩ := dcF_cons h
   obtain ⟨a2, h⟩ := dcF_cons h
   obtain ⟨a3, h⟩ := dcF_cons h
   obtain ⟨a4, h⟩ := dcF_cons h
   obtain rfl := just_field a1 (hft _ (by simp))
   obtain ⟨x, rfl, x1, x2⟩ := bytes_field a2 (hft _ (by simp))
   obtain ⟨y, rfl, y1, y2⟩ := bytes_field a3 (hft _ (by simp))
   obtain ⟨z, rfl, z1, z2⟩ := bytes_field a4 (hft _ (by simp))
   exact ⟨x, y, z, rfl, by omega, by omega, z1, z2⟩
 ·rw [if_pos hd] at h; cases h
theorem own_form_row {W : World} {b : Nat} {e : TypeId} {sz : Nat} {v : Value} {n : Nat} {xs : List Value} (h : W.ownsRow b e sz v n xs) : ∃ ao cap, v = .slice ao n cap := by
 obtain ⟨_, ⟨rfl, rfl⟩ | ⟨g, cap, cur, rfl, _⟩⟩ := h
 ·exact ⟨_, _, rfl⟩
 ·exact ⟨_, _, rfl⟩
def riV (d : List B) : Nat := (gf (dfs (dwh d)) 0).num
def riE (d : List B) : Int := if der (dwh d) ≠ 0 then der (dwh d) else if (dfs (dwh d)).length = 0 ∨ (gf (dfs (dwh d)) 0).no ≠ 1 then 81 else if (gf (dfs (dwh d)) 0).ty ≠ 0 then 82 else if known10 (riV d) then 0 else 100
def riA (d : List B) : Int := if der (dwh d) ≠ 0 then dpl (dwh d) else 0
def riR (d : List B) : Array Value := if riE d = 0 then #[.int .u64 (riV d : Int), bkf (riV d)] else #[.int .u64 0, .nilFunc]
set_option maxRecDepth 100000 in
set_option maxHeartbeats 8000000 in
theorem a_rulesIn (d : List B) (b : Value) (w : World) (hB : BysB w b d) (hcap : ∀ a l c, b = .slice a l c → l ≤ c) : Calls Tryz.prog 49 #[b] w fun e w' => e = .returned (.tuple #[.agg (riR d), .int .i64 (riA d), .int .i64 (riE d)]) ∧ Below w.heap.size w w' := by
 have oZR : (#[Value.int IntKind.u64 0, Value.nilFunc] : Array Value).all (·.oneCell') = true := by simp [Value.oneCell']
 have R0 := hp1_0 w (.cells #[.int .u64 0, .nilFunc] 94)
 have hw : Below w.heap.size w (w.alloc (.cells #[.int .u64 0, .nilFunc] 94)) := (Below.refl _ _).alloc (Nat.le_refl _) _
 have cD := hide (a_decode d (w.alloc (.cells #[.int .u64 0, .nilFunc] 94)) b (hB.keep hw) hcap)
 clear hB hcap
 go_enter Tryz.func49, Tryz.ntmps49
 go_wp2_with (fail)
 refine cD.out.mono ?_
 rintro e_ w1 ⟨u, us, rfl, hF, hb_⟩
 generalize w.alloc (.cells #[.int .u64 0, .nilFunc] 94) = w0 at *
 have lw := lt_of_row R0
 replace R0 := keep hb_ R0
 replace hw := Below.after hw hb_
 have sz1 := hb_.size
 clear hb_ cD
 obtain ⟨E, hE⟩ : ∃ E, der (dwh d) = E := ⟨_, rfl⟩
 obtain ⟨P, hP⟩ : ∃ P, dpl (dwh d) = P := ⟨_, rfl⟩
 obtain ⟨ao, cap, rfl⟩ := own_form_row hF.1
 rw [hE, hP]
 by_cases h0 : E = 0
 ·have hr2 : Hid (riA d = 0) := hide (by unfold riA; rw [hE, if_neg (by simpa using h0)])
  subst h0
  by_cases h1 : (dfs (dwh d)).length = 0
  ·have hr3 : Hid (riE d = 81) := hide (by unfold riE; rw [hE, if_neg (by simp), if_pos (.inl h1)])
   have hr1 : Hid (riR d = #[.int .u64 0, .nilFunc]) := hide (by unfold riR; rw [hr3.out]; rfl)
   rw [h1]
   clear h1 hF hE hP
   have RF := hide (setRow_heap w1 w.heap.size _ #[.int .u64 0, .nilFunc] _ _ R0)
   have hwF := hide (below_setRow (g := w.heap.size) hw (Nat.le_refl _) #[.int .u64 0, .nilFunc])
   clear hw
   go_wp2_with (first | (refine wpList_store_row rfl 94 _ _ rfl w.heap.size #[.int .u64 0, .nilFunc] rfl rfl 94 _ R0 infoR rfl oZR ?_) | fail)
   refine bodyPost_ret (results_c3 Tryz.results49 _ _ w.heap.size _ _ _ _ rfl RF.out Tryz.underlying94 rfl infoR) rfl ⟨?_, hwF.out⟩
   rw [hr1.out, hr2.out, hr3.out]
   rfl
  ·obtain ⟨g, c2, e2, hg1, hg2, hrg⟩ := hF.at (i := 0) (by omega)
   obtain ⟨n, hn⟩ : ∃ n, (dfs (dwh d)).length = n := ⟨_, rfl⟩
   rw [hn] at e2 h1 ⊢
   injection e2 with e3 e4 e5
   subst e3
   have h1' : 0 < n := by omega
   obtain ⟨no, hno⟩ : ∃ x, (gf (dfs (dwh d)) 0).no = x := ⟨_, rfl⟩
   obtain ⟨ty, hty⟩ : ∃ x, (gf (dfs (dwh d)) 0).ty = x := ⟨_, rfl⟩
   obtain ⟨v, hv⟩ : ∃ x, (gf (dfs (dwh d)) 0).num = x := ⟨_, rfl⟩
   have hV : riV d = v := hv
   have k0 : w1.cell? ⟨g, 0, none⟩ = some (.int .i64 no) := by rw [← hno]; exact hrg 0 _ rfl
   have k1 : w1.cell? ⟨g, 1, none⟩ = some (.int .i64 ty) := by rw [← hty]; exact hrg 1 _ rfl
   have k2 : w1.cell? ⟨g, 2, none⟩ = some (.int .u64 (v : Int)) := by rw [← hv]; exact hrg 2 _ rfl
   have hv2 : v < 18446744073709551616 := by rw [← hv]; exact (dfs_oks d 0 (by omega)).1
   clear hrg hF hg1 hg2 e4 e5
   replace hn := hide hn
   by_cases h2 : no = 1
   ·subst h2
    by_cases h3 : ty = 0
    ·subst h3
     cases hk : known10 v with
     | false =>
      have hr3 : Hid (riE d = 100) := hide (by unfold riE; rw [hE, if_neg (by simp), if_neg (by rw [hn.out, hno]; simp; omega), if_neg (by rw [hty]; simp), hV, hk]; rfl)
      have hr1 : Hid (riR d = #[.int .u64 0, .nilFunc]) := hide (by unfold riR; rw [hr3.out]; rfl)
      have bk : bkf v = .nilFunc := by
       unfold known10 at hk
       unfold bkf
       simp at hk
       rw [if_neg hk.1, if_neg hk.2]
      have cR : Hid (Gives 40 #[.int .u64 (v : Int)] (.tuple #[.agg #[.int .u64 (v : Int), .nilFunc], .bool false])) := hide (fun W => by
       have := a_rulesOf v hv2 W
       rw [bk, hk] at this
       exact this)
      have oF : (#[Value.int IntKind.u64 (v : Int), Value.nilFunc] : Array Value).all (·.oneCell') = true := by simp [Value.oneCell']
      clear hno hty hv hE hP hV bk hk hv2
      go_wp2_with (fail)
      refine (cR.out _).mono ?_
      rintro e_ w2 ⟨rfl, hb_⟩
      have lw2 := lt_of_row R0
      replace R0 := keep hb_ R0
      replace hw := Below.after hw hb_
      have sz2 := hb_.size
      clear hb_ cR k0 k1 k2
      have z_ := hp1_0 w2 (.cells #[.int .u64 0, .nilFunc] 94)
      go_wp2_with (first | (refine wpList_store_row rfl 94 _ _ rfl w2.heap.size #[.int .u64 (v : Int), .nilFunc] rfl rfl 94 _ z_ infoR rfl oF ?_; refine wpList_stay ?_) | fail)
      unfold WpStay
      try simp only [Act.put, List.setIfInBounds_toArray, List.set_cons_succ, List.set_cons_zero]
      have RU := setRow_heap (w2.alloc (.cells #[.int .u64 0, .nilFunc] 94)) w2.heap.size _ #[.int .u64 (v : Int), .nilFunc] _ _ z_
      have hb_ : Below w2.heap.size w2 ((w2.alloc (.cells #[.int .u64 0, .nilFunc] 94)).setRow w2.heap.size #[.int .u64 (v : Int), .nilFunc]) := below_setRow ((Below.refl _ _).alloc (Nat.le_refl _) _) (Nat.le_refl _) _
      clear z_
      replace R0 := keep hb_ R0
      replace hw := Below.after hw hb_
      clear hb_
      generalize (w2.alloc (.cells #[.int .u64 0, .nilFunc] 94)).setRow w2.heap.size #[.int .u64 (v : Int), .nilFunc] = w3 at *
      generalize w2.heap.size = gU at *
      have RF := hide (setRow_heap w3 w.heap.size _ #[.int .u64 0, .nilFunc] _ _ R0)
      have hwF := hide (below_setRow (g := w.heap.size) hw (Nat.le_refl _) #[.int .u64 0, .nilFunc])
      clear hw
      go_wp2_with (first | (refine wpList_store_row rfl 94 _ _ rfl w.heap.size #[.int .u64 0, .nilFunc] rfl rfl 94 _ R0 infoR rfl oZR ?_) | fail)
      refine bodyPost_ret (results_c3 Tryz.results49 _ _ w.heap.size _ _ _ _ rfl RF.out Tryz.underlying94 rfl infoR) rfl ⟨?_, hwF.out⟩
      rw [hr1.out, hr2.out, hr3.out]
      rfl
     | true =>
      have hr3 : Hid (riE d = 0) := hide (by unfold riE; rw [hE, if_neg (by simp), if_neg (by rw [hn.out, hno]; simp; omega), if_neg (by rw [hty]; simp), hV, hk]; rfl)
      have hr1 : Hid (riR d = #[.int .u64 (v : Int), bkf v]) := hide (by unfold riR; rw [if_pos hr3.out, hV])
      have hk2 : v = 1 ∨ v = 2 := by unfold known10 at hk; simpa using hk
      clear hno hty hv hE hP hV hk hv2
      rcases hk2 with rfl | rfl
      ·have hr1' : Hid (riR d = #[.int .u64 1, .func (.func 71) #[] #[]]) := hr1
       have cR : Hid (Gives 40 #[.int .u64 1] (.tuple #[.agg #[.int .u64 1, .func (.func 71) #[] #[]], .bool true])) := hide (fun W => a_rulesOf 1 (by decide) W)
       have oF := oneFx 1 71
       clear hr1
       replace k2 : w1.cell? ⟨g, 2, none⟩ = some (.int .u64 1) := k2
       go_wp2_with (fail)
       refine (cR.out _).mono ?_
       rintro e_ w2 ⟨rfl, hb_⟩
       have lw2 := lt_of_row R0
       replace R0 := keep hb_ R0
       replace hw := Below.after hw hb_
       have sz2 := hb_.size
       clear hb_ cR k0 k1 k2
       have z_ := hp1_0 w2 (.cells #[.int .u64 0, .nilFunc] 94)
       go_wp2_with (first | (refine wpList_store_row rfl 94 _ _ rfl w2.heap.size #[.int .u64 1, .func (.func 71) #[] #[]] rfl rfl 94 _ z_ infoR rfl oF ?_; refine wpList_stay ?_) | fail)
       unfold WpStay
       try simp only [Act.put, List.setIfInBounds_toArray, List.set_cons_succ, List.set_cons_zero]
       have RU := setRow_heap (w2.alloc (.cells #[.int .u64 0, .nilFunc] 94)) w2.heap.size _ #[.int .u64 1, .func (.func 71) #[] #[]] _ _ z_
       have hb_ : Below w2.heap.size w2 ((w2.alloc (.cells #[.int .u64 0, .nilFunc] 94)).setRow w2.heap.size #[.int .u64 1, .func (.func 71) #[] #[]]) := below_setRow ((Below.refl _ _).alloc (Nat.le_refl _) _) (Nat.le_refl _) _
       clear z_
       replace R0 := keep hb_ R0
       replace hw := Below.after hw hb_
       clear hb_
       generalize (w2.alloc (.cells #[.int .u64 0, .nilFunc] 94)).setRow w2.heap.size #[.int .u64 1, .func (.func 71) #[] #[]] = w3 at *
       generalize w2.heap.size = gU at *
       have RF := hide (setRow_heap w3 w.heap.size _ #[.int .u64 1, .func (.func 71) #[] #[]] _ _ R0)
       have hwF := hide (below_setRow (g := w.heap.size) hw (Nat.le_refl _) #[.int .u64 1, .func (.func 71) #[] #[]])
       clear hw
       go_wp2_with (first | (refine wpList_load_want rfl 94 _ rfl gU rfl 94 #[.int .u64 1, .func (.func 71) #[] #[]] (0, 0) _ RU Tryz.underlying94 rfl infoR ?_) | (refine wpList_store_row rfl 94 _ _ rfl w.heap.size #[.int .u64 1, .func (.func 71) #[] #[]] rfl rfl 94 _ R0 infoR rfl oF ?_) | fail)
       refine bodyPost_ret (results_c3 Tryz.results49 _ _ w.heap.size _ _ _ _ rfl RF.out Tryz.underlying94 rfl infoR) rfl ⟨?_, hwF.out⟩
       rw [hr1'.out, hr2.out, hr3.out]
       rfl
      ·have hr1' : Hid (riR d = #[.int .u64 2, .func (.func 72) #[] #[]]) := hr1
       have cR : Hid (Gives 40 #[.int .u64 2] (.tuple #[.agg #[.int .u64 2, .func (.func 72) #[] #[]], .bool true])) := hide (fun W => a_rulesOf 2 (by decide) W)
       have oF := oneFx 2 72
       clear hr1
       replace k2 : w1.cell? ⟨g, 2, none⟩ = some (.int .u64 2) := k2
       go_wp2_with (fail)
       refine (cR.out _).mono ?_
       rintro e_ w2 ⟨rfl, hb_⟩
       have lw2 := lt_of_row R0
       replace R0 := keep hb_ R0
       replace hw := Below.after hw hb_
       have sz2 := hb_.size
       clear hb_ cR k0 k1 k2
       have z_ := hp1_0 w2 (.cells #[.int .u64 0, .nilFunc] 94)
       go_wp2_with (first | (refine wpList_store_row rfl 94 _ _ rfl w2.heap.size #[.int .u64 2, .func (.func 72) #[] #[]] rfl rfl 94 _ z_ infoR rfl oF ?_; refine wpList_stay ?_) | fail)
       unfold WpStay
       try simp only [Act.put, List.setIfInBounds_toArray, List.set_cons_succ, List.set_cons_zero]
       have RU := setRow_heap (w2.alloc (.cells #[.int .u64 0, .nilFunc] 94)) w2.heap.size _ #[.int .u64 2, .func (.func 72) #[] #[]] _ _ z_
       have hb_ : Below w2.heap.size w2 ((w2.alloc (.cells #[.int .u64 0, .nilFunc] 94)).setRow w2.heap.size #[.int .u64 2, .func (.func 72) #[] #[]]) := below_setRow ((Below.refl _ _).alloc (Nat.le_refl _) _) (Nat.le_refl _) _
       clear z_
       replace R0 := keep hb_ R0
       replace hw := Below.after hw hb_
       clear hb_
       generalize (w2.alloc (.cells #[.int .u64 0, .nilFunc] 94)).setRow w2.heap.size #[.int .u64 2, .func (.func 72) #[] #[]] = w3 at *
       generalize w2.heap.size = gU at *
       have RF := hide (setRow_heap w3 w.heap.size _ #[.int .u64 2, .func (.func 72) #[] #[]] _ _ R0)
       have hwF := hide (below_setRow (g := w.heap.size) hw (Nat.le_refl _) #[.int .u64 2, .func (.func 72) #[] #[]])
       clear hw
       go_wp2_with (first | (refine wpList_load_want rfl 94 _ rfl gU rfl 94 #[.int .u64 2, .func (.func 72) #[] #[]] (0, 0) _ RU Tryz.underlying94 rfl infoR ?_) | (refine wpList_store_row rfl 94 _ _ rfl w.heap.size #[.int .u64 2, .func (.func 72) #[] #[]] rfl rfl 94 _ R0 infoR rfl oF ?_) | fail)
       refine bodyPost_ret (results_c3 Tryz.results49 _ _ w.heap.size _ _ _ _ rfl RF.out Tryz.underlying94 rfl infoR) rfl ⟨?_, hwF.out⟩
       rw [hr1'.out, hr2.out, hr3.out]
       rfl
    ·have hr3 : Hid (riE d = 82) := hide (by unfold riE; rw [hE, if_neg (by simp), if_neg (by rw [hn.out, hno]; simp; omega), if_pos (by rw [hty]; exact h3)])
     have hr1 : Hid (riR d = #[.int .u64 0, .nilFunc]) := hide (by unfold riR; rw [hr3.out]; rfl)
     have h3' : (ty != 0) = true := by simpa using h3
     clear hno hty hv hE hP h3 hV
     have RF := hide (setRow_heap w1 w.heap.size _ #[.int .u64 0, .nilFunc] _ _ R0)
     have hwF := hide (below_setRow (g := w.heap.size) hw (Nat.le_refl _) #[.int .u64 0, .nilFunc])
     clear hw
     go_wp2_with (first | (refine wpList_store_row rfl 94 _ _ rfl w.heap.size #[.int .u64 0, .nilFunc] rfl rfl 94 _ R0 infoR rfl oZR ?_) | fail)
     refine bodyPost_ret (results_c3 Tryz.results49 _ _ w.heap.size _ _ _ _ rfl RF.out Tryz.underlying94 rfl infoR) rfl ⟨?_, hwF.out⟩
     rw [hr1.out, hr2.out, hr3.out]
     rfl
   ·have hr3 : Hid (riE d = 81) := hide (by unfold riE; rw [hE, if_neg (by simp), if_pos (.inr (by rw [hno]; exact h2))])
    have hr1 : Hid (riR d = #[.int .u64 0, .nilFunc]) := hide (by unfold riR; rw [hr3.out]; rfl)
    have h2' : (no != 1) = true := by simpa using h2
    clear hno hty hv hE hP h2 hV
    have RF := hide (setRow_heap w1 w.heap.size _ #[.int .u64 0, .nilFunc] _ _ R0)
    have hwF := hide (below_setRow (g := w.heap.size) hw (Nat.le_refl _) #[.int .u64 0, .nilFunc])
    clear hw
    go_wp2_with (first | (refine wpList_store_row rfl 94 _ _ rfl w.heap.size #[.int .u64 0, .nilFunc] rfl rfl 94 _ R0 infoR rfl oZR ?_) | fail)
    refine bodyPost_ret (results_c3 Tryz.results49 _ _ w.heap.size _ _ _ _ rfl RF.out Tryz.underlying94 rfl infoR) rfl ⟨?_, hwF.out⟩
    rw [hr1.out, hr2.out, hr3.out]
    rfl
 ·have hr2 : Hid (riA d = P) := hide (by unfold riA; rw [hE, if_pos h0, hP])
  have hr3 : Hid (riE d = E) := hide (by unfold riE; rw [hE, if_pos h0])
  have hr1 : Hid (riR d = #[.int .u64 0, .nilFunc]) := hide (by unfold riR; rw [hr3.out, if_neg h0])
  have h0' : (E != 0) = true := by simpa using h0
  clear h0 hF hE hP
  have RF := hide (setRow_heap w1 w.heap.size _ #[.int .u64 0, .nilFunc] _ _ R0)
  have hwF := hide (below_setRow (g := w.heap.size) hw (Nat.le_refl _) #[.int .u64 0, .nilFunc])
  clear hw
  go_wp2_with (first | (refine wpList_store_row rfl 94 _ _ rfl w.heap.size #[.int .u64 0, .nilFunc] rfl rfl 94 _ R0 infoR rfl oZR ?_) | fail)
  refine bodyPost_ret (results_c3 Tryz.results49 _ _ w.heap.size _ _ _ _ rfl RF.out Tryz.underlying94 rfl infoR) rfl ⟨?_, hwF.out⟩
  rw [hr1.out, hr2.out, hr3.out]
  rfl
def paF (d : List B) : Option Flt3 := if riE d ≠ 0 then some ⟨0, riA d, riE d⟩ else match dec8 (esl (riV d)) d 0 with
 | some x => some x
 | none => if bkd (dg (riV d)) ((gf (dfs (dwh d)) 3).dat.length - 16) = (gf (dfs (dwh d)) 3).dat.length - 16 then none else some ⟨0, 82, 102⟩
def PrE (base : Nat) (d : List B) (e : Ending) (w' : World) : Prop := match paF d with
 | none => ∃ ha hc ba bc, e = .returned (.tuple #[.agg (evl (riV d : Int) (gf (dfs (dwh d)) 1).dat (.slice ha (gf (dfs (dwh d)) 2).dat.length hc) (.slice ba (gf (dfs (dwh d)) 3).dat.length bc)), .nilIface]) ∧ Own w' base (.slice ha (gf (dfs (dwh d)) 2).dat.length hc) (gf (dfs (dwh d)) 2).dat ∧ Own w' base (.slice ba (gf (dfs (dwh d)) 3).dat.length bc) (gf (dfs (dwh d)) 3).dat ∧ ∀ k, (Value.slice ha (gf (dfs (dwh d)) 2).dat.length hc).ownBlock = some k → (Value.slice ba (gf (dfs (dwh d)) 3).dat.length bc).ownBlock ≠ some k
 | some x => ∃ g, e = .returned (.tuple #[.agg (evl 0 n16 (.slice none 0 0) (.slice none 0 0)), .iface 87 (.pointer (some ⟨g, 0, none⟩))]) ∧ base ≤ g ∧ w'.heap[g]? = some (.cells (frw x) 35 (0, 0))
theorem riE_known {d : List B} (h : riE d = 0) : known10 (riV d) = true := by
 unfold riE at h
 split at h
 ·contradiction
 ·split at h
  ·cases h
  ·split at h
   ·cases h
   ·split at h
    ·assumption
    ·cases h
theorem riR_info (d : List B) : (Tryz.prog.info? 94).map (·.size) = some (riR d).size := by
 unfold riR
 split <;> exact infoR
theorem riR_size (d : List B) : (riR d).size = 2 := by
 unfold riR
 split <;> rfl
theorem riR_one (d : List B) : (riR d).all (·.oneCell') = true := by
 unfold riR
 split
 ·unfold bkf
  split
  ·simp [Value.oneCell']
  ·split <;> simp [Value.oneCell']
 ·simp [Value.oneCell']
theorem own_setRow {W : World} {b g : Nat} {v : Value} {l : List B} (h : Own W b v l) (hg : g < b) (cs : Array Value) : Own (W.setRow g cs) b v l := by
 unfold Own at *
 refine own_move_row h (fun j o hj ho => ?_)
 rw [setRow_other W g j cs (by omega)]
 exact ho
set_option maxRecDepth 100000 in
set_option maxHeartbeats 8000000 in
theorem a_ParseE (d : List B) (b : Value) (w : World) (hB : BysB w b d) (hcap : ∀ a l c, b = .slice a l c → l ≤ c) : Calls Tryz.prog 22 #[b] w fun e w' => PrE w.heap.size d e w' ∧ Below w.heap.size w w' := by
 have R0 := hp1_0 w (.cells (evl 0 n16 (.slice none 0 0) (.slice none 0 0)) 51)
 have hw : Below w.heap.size w (w.alloc (.cells (evl 0 n16 (.slice none 0 0) (.slice none 0 0)) 51)) := (Below.refl _ _).alloc (Nat.le_refl _) _
 replace hB := hB.keep hw
 have cR := hide (a_rulesIn d b (w.alloc (.cells (evl 0 n16 (.slice none 0 0) (.slice none 0 0)) 51)) hB hcap)
 obtain ⟨bao, bcp, rfl⟩ := hB.form
 go_enter Tryz.func22, Tryz.ntmps22
 go_wp2_with (first | (refine wpList_alloc rfl 51 rfl (evl 0 n16 (.slice none 0 0) (.slice none 0 0)) zEnv ?_) | fail)
 refine cR.out.mono ?_
 rintro e_ w1 ⟨rfl, hb_⟩
 generalize w.alloc (.cells (evl 0 n16 (.slice none 0 0) (.slice none 0 0)) 51) = w0 at *
 have lw := lt_of_row R0
 replace R0 := keep hb_ R0
 replace hB := hB.keep hb_
 replace hw := Below.after hw hb_
 have sz1 := hb_.size
 clear hb_ cR
 have z_ := hp1_0 w1 (.cells #[.int .u64 0, .nilFunc] 94)
 go_wp2_with (first | (refine wpList_store_row rfl 94 _ _ rfl w1.heap.size (riR d) rfl rfl 94 _ z_ (riR_info d) (by rw [riR_size]; rfl) (riR_one d) ?_; refine wpList_stay ?_) | fail)
 unfold WpStay
 try simp only [Act.put, List.setIfInBounds_toArray, List.set_cons_succ, List.set_cons_zero]
 have RU := setRow_heap (w1.alloc (.cells #[.int .u64 0, .nilFunc] 94)) w1.heap.size _ (riR d) _ _ z_
 have hb_ : Below w1.heap.size w1 ((w1.alloc (.cells #[.int .u64 0, .nilFunc] 94)).setRow w1.heap.size (riR d)) := below_setRow ((Below.refl _ _).alloc (Nat.le_refl _) _) (Nat.le_refl _) _
 clear z_
 have lw1 := lt_of_row R0
 replace R0 := keep hb_ R0
 replace hB := hB.keep hb_
 replace hw := Below.after hw hb_
 clear hb_
 generalize (w1.alloc (.cells #[.int .u64 0, .nilFunc] 94)).setRow w1.heap.size (riR d) = x1 at *
 generalize w1.heap.size = gU at *
 by_cases hE0 : riE d = 0
 ·have hkn := riE_known hE0
  have hlow : w.heap.size ≤ x1.heap.size := hw.size
  rw [hE0]
  obtain ⟨A, hA⟩ : ∃ A, riA d = A := ⟨_, rfl⟩
  rw [hA]
  clear hA
  have hV : riV d = 1 ∨ riV d = 2 := by unfold known10 at hkn; simpa using hkn
  clear hkn
  rcases hV with hV | hV
  ·have hV1 : Hid (riV d = 1) := hide hV
   rw [show riR d = #[.int .u64 1, .func (.func 71) #[] #[]] by unfold riR; rw [if_pos hE0, hV]; rfl] at RU ⊢
   clear hV
   replace hE0 := hide hE0
   go_wp2_with (first | (refine wpList_load_want rfl 94 _ rfl gU rfl 94 #[.int .u64 1, .func (.func 71) #[] #[]] (0, 0) _ RU Tryz.underlying94 rfl infoR ?_) | fail)
   refine (a_codecE1 x1).mono ?_
   rintro e_ x2 ⟨⟨q, rfl, hq1, hC⟩, hb_⟩
   have l0_ := lt_of_row R0
   have lU_ := lt_of_row RU
   replace R0 := keep hb_ R0
   replace RU := keep hb_ RU
   replace hB := hB.keep hb_
   replace hw := Below.after hw hb_
   have szc := hb_.size
   clear hb_
   have cDe := hide (a_DecodeF esl1_flat d (.slice bao d.length bcp) x2 hC hB (fun a l c h => hcap a l c h))
   clear hC
   go_wp2_with (fail)
   refine cDe.out.mono ?_
   rintro e_ w3 ⟨hD, hb_⟩
   have sz2 := hw.size
   have l0b := lt_of_row R0
   have lUb := lt_of_row RU
   replace R0 := keep hb_ R0
   replace RU := keep hb_ RU
   replace hw := Below.after hw hb_
   have sz3 := hb_.size
   clear hb_ cDe hB hcap
   obtain ⟨R, hR⟩ : ∃ R, dec8 (esl 1) d 0 = R := ⟨_, rfl⟩
   unfold Dcr at hD
   rw [hR] at hD
   cases R with
   | some x =>
    obtain ⟨g, rfl, hg1, hg2⟩ := hD
    have hpf : Hid (paF d = some x) := hide (by unfold paF; rw [if_neg (by rw [hE0.out]; simp), hV1.out, hR])
    clear hR
    have rZ := hp1_0 w3 (.cells #[.int .u64 0, .slice none 0 0, .slice none 0 0] 78)
    have hne := neq_fault (.pointer (some ⟨g, 0, none⟩))
    have hone : (#[Value.int .u64 0, .slice none 0 0, .slice none 0 0] : Array Value).all (·.oneCell') = true := by simp [Value.oneCell']
    have hb5 : Below w3.heap.size w3 ((w3.alloc (.cells #[.int .u64 0, .slice none 0 0, .slice none 0 0] 78)).setRow w3.heap.size #[.int .u64 0, .slice none 0 0, .slice none 0 0]) := below_setRow ((Below.refl _ _).alloc (Nat.le_refl _) _) (Nat.le_refl _) #[.int .u64 0, .slice none 0 0, .slice none 0 0]
    have R05 := keep hb5 R0
    have hg5 := keep hb5 hg2
    replace hw := Below.after hw hb5
    have RF := hide (setRow_heap _ w.heap.size _ (evl 0 n16 (.slice none 0 0) (.slice none 0 0)) _ _ R05)
    have hwF := hide (below_setRow (g := w.heap.size) hw (Nat.le_refl _) (evl 0 n16 (.slice none 0 0) (.slice none 0 0)))
    have hgF := hide ((setRow_other _ w.heap.size g (evl 0 n16 (.slice none 0 0) (.slice none 0 0)) (by omega)).trans hg5)
    clear hw hb5 hg5 hg2
    go_wp2_with (first | (refine wpList_store_row rfl 78 _ _ rfl w3.heap.size #[.int .u64 0, .slice none 0 0, .slice none 0 0] rfl rfl 78 _ rZ infoV rfl hone ?_) | (refine wpList_build_want rfl 51 _ rfl [] rfl (evl 0 n16 (.slice none 0 0) (.slice none 0 0)) builtE0 ?_) | (refine wpList_store_row rfl 51 _ _ rfl w.heap.size (evl 0 n16 (.slice none 0 0) (.slice none 0 0)) rfl rfl 51 _ R05 (evl_info _ _ n16_len _ _) rfl (evl_one _ _ _ _ _ _ _ _) ?_) | fail)
    refine bodyPost_ret (results_row_slot Tryz.results22 _ _ w.heap.size _ _ _ _ _ rfl RF.out rfl Tryz.underlying51 rfl (evl_info _ _ n16_len _ _)) rfl ⟨?_, hwF.out⟩
    unfold PrE
    rw [hpf.out]
    exact ⟨g, rfl, by omega, hgF.out⟩
   | none =>
    obtain ⟨pv, fv, us, rfl, hO, hF⟩ := hD
    obtain ⟨hd0, nonce, hd, bd, hfs, hn, h60, h80, hmo⟩ := dec_esl hR
    rw [hfs] at hO hF
    obtain ⟨k, hk⟩ : ∃ k, bd.length = k + 16 := ⟨bd.length - 16, by omega⟩
    have hkb : k ≤ 1152921504606846000 := by have := (show mo 1 = 2097168 from rfl); omega
    obtain ⟨pb, pc, rfl, hpb1, hpb2, hra⟩ := own_rangeR hO (by simp [efs])
    have hu : us.length = 4 := hF.2.1
    obtain ⟨g1, c1, e1, hc1, hgb1, hgl1, hr1⟩ := own_range (hF.2.2.1 1 (by omega)) (by show 0 < nonce.length; omega)
    have oH : Own w3 x2.heap.size (gv us 2) hd := hF.2.2.1 2 (by omega)
    have oB : Own w3 x2.heap.size (gv us 3) bd := hF.2.2.1 3 (by omega)
    have hdis := hF.2.2.2.2 2 3 (by omega) (by omega)
    obtain ⟨ha, hc, eH⟩ := slen_own oH
    obtain ⟨ba, bc, eB⟩ := slen_own oB
    rw [hk] at eB
    rw [eH] at oH
    rw [eB] at oB
    rw [eH, eB] at hdis
    have hvr : vrk (efs 1 nonce hd bd) us 4 = [.int .u64 1, gv us 0, .slice none 0 0, .int .u64 0, .slice (some ⟨g1, 0, none⟩) 16 c1, .slice none 0 0, .int .u64 0, .slice ha hd.length hc, .slice none 0 0, .int .u64 0, .slice ba (k + 16) bc, .slice none 0 0] := by
     have q1 : gv us 1 = .slice (some ⟨g1, 0, none⟩) 16 c1 := by rw [e1]; show Value.slice _ nonce.length _ = _; rw [hn]
     rw [← q1, ← eH, ← eB]
     rfl
    have hra' : w3.rangeAt pb 0 [.int .u64 1, gv us 0, .slice none 0 0, .int .u64 0, .slice (some ⟨g1, 0, none⟩) 16 c1, .slice none 0 0, .int .u64 0, .slice ha hd.length hc, .slice none 0 0, .int .u64 0, .slice ba (k + 16) bc, .slice none 0 0] := by rw [← hvr]; exact hra
    replace hra := hra'
    replace hr1 : w3.rangeAt g1 0 ((bl nonce).map (Value.int .u8)) := hr1
    have hpf : Hid (paF d = if bkd (dg 1) k = k then none else some ⟨0, 82, 102⟩) := hide (by
     unfold paF
     rw [if_neg (by rw [hE0.out]; simp), hV1.out, hR]
     simp only
     rw [hfs, show (gf (efs 1 nonce hd bd) 3).dat = bd from rfl, hk, Nat.add_sub_cancel])
    replace hfs := hide hfs
    replace hk := hide hk
    clear hra' hvr e1 hO hF hd0 hu hc1 eH eB hR h80 hmo h60
    generalize gv us 0 = u0 at *
    have rZ := hp1_0 w3 (.cells #[.int .u64 0, .slice none 0 0, .slice none 0 0] 78)
    have hnn := neq_nils
    have hone : (#[Value.int .u64 0, .slice none 0 0, .slice (some ⟨pb, 0, none⟩) 4 pc] : Array Value).all (·.oneCell') = true := by simp [Value.oneCell']
    have hb5 : Below w3.heap.size w3 ((w3.alloc (.cells #[.int .u64 0, .slice none 0 0, .slice none 0 0] 78)).setRow w3.heap.size #[.int .u64 0, .slice none 0 0, .slice (some ⟨pb, 0, none⟩) 4 pc]) := below_setRow ((Below.refl _ _).alloc (Nat.le_refl _) _) (Nat.le_refl _) #[.int .u64 0, .slice none 0 0, .slice (some ⟨pb, 0, none⟩) 4 pc]
    have rV := setRow_heap _ w3.heap.size _ #[.int .u64 0, .slice none 0 0, .slice (some ⟨pb, 0, none⟩) 4 pc] _ _ rZ
    have l03 := lt_of_row R0
    have lU3 := lt_of_row RU
    replace R0 := keep hb5 R0
    replace RU := keep hb5 RU
    replace oH := oH.keep hb5
    replace oB := oB.keep hb5
    replace hw := Below.after hw hb5
    replace hra := rangeS_keep2 hra hb5 hpb2
    replace hr1 := rangeS_keep2 hr1 hb5 hgl1
    have lV3 := lt_of_row rV
    clear hb5
    have A1 := hide R0
    have A2 := hide hw
    have A3 := hide hra
    have A4 := hide hr1
    have A5 := hide RU
    have A6 := hide oH
    have A9 := hide oB
    have A8 := hide lV3
    clear R0 hw hra hr1 RU oH oB lV3
    go_wp2_with (first | (refine wpList_store_row rfl 78 _ _ rfl w3.heap.size #[.int .u64 0, .slice none 0 0, .slice (some ⟨pb, 0, none⟩) 4 pc] rfl rfl 78 _ rZ infoV rfl hone ?_) | (refine wpList_load_want rfl 78 _ rfl w3.heap.size rfl 78 #[.int .u64 0, .slice none 0 0, .slice (some ⟨pb, 0, none⟩) 4 pc] (0, 0) _ rV Tryz.underlying78 rfl infoV ?_) | fail)
    clear rZ
    have R0 := A1.out
    have hw := A2.out
    have hra := A3.out
    have hr1 := A4.out
    have RU := A5.out
    have oH := A6.out
    have oB := A9.out
    have lV6 := A8.out
    clear A1 A2 A3 A4 A5 A6 A8 A9
    generalize (w3.alloc (.cells #[.int .u64 0, .slice none 0 0, .slice none 0 0] 78)).setRow w3.heap.size #[.int .u64 0, .slice none 0 0, .slice (some ⟨pb, 0, none⟩) 4 pc] = w6 at *
    refine (a_envelopeOf1 nonce hn ha hd.length hc ba (k + 16) bc pb pc g1 c1 u0 w6 (by omega) (by omega) hra hr1).mono ?_
    rintro e_ w7 ⟨rfl, hb_⟩
    have l06 := lt_of_row R0
    have lU6 := lt_of_row RU
    replace R0 := keep hb_ R0
    replace RU := keep hb_ RU
    replace oH := oH.keep hb_
    replace oB := oB.keep hb_
    replace hw := Below.after hw hb_
    have sz7 := hb_.size
    clear hb_ hra hr1 rV hone
    have z_ := hp1_0 w7 (.cells (evl 0 n16 (.slice none 0 0) (.slice none 0 0)) 51)
    go_wp2_with (first | (refine wpList_alloc rfl 51 rfl (evl 0 n16 (.slice none 0 0) (.slice none 0 0)) zEnv ?_) | (refine wpList_store_row rfl 51 _ _ rfl w7.heap.size (evl 1 nonce (.slice ha hd.length hc) (.slice ba (k + 16) bc)) rfl rfl 51 _ z_ (evl_info _ _ hn _ _) (by rw [evl_size _ _ n16_len, evl_size _ _ hn]) (evl_one _ _ _ _ _ _ _ _) ?_; refine wpList_stay ?_) | fail)
    unfold WpStay
    try simp only [Act.put, List.setIfInBounds_toArray, List.set_cons_succ, List.set_cons_zero]
    have RO := setRow_heap (w7.alloc (.cells (evl 0 n16 (.slice none 0 0) (.slice none 0 0)) 51)) w7.heap.size _ (evl 1 nonce (.slice ha hd.length hc) (.slice ba (k + 16) bc)) _ _ z_
    have hb_ : Below w7.heap.size w7 ((w7.alloc (.cells (evl 0 n16 (.slice none 0 0) (.slice none 0 0)) 51)).setRow w7.heap.size (evl 1 nonce (.slice ha hd.length hc) (.slice ba (k + 16) bc))) := below_setRow ((Below.refl _ _).alloc (Nat.le_refl _) _) (Nat.le_refl _) _
    clear z_
    have l07 := lt_of_row R0
    have lU7 := lt_of_row RU
    replace R0 := keep hb_ R0
    replace RU := keep hb_ RU
    replace oH := oH.keep hb_
    replace oB := oB.keep hb_
    replace hw := Below.after hw hb_
    clear hb_
    generalize (w7.alloc (.cells (evl 0 n16 (.slice none 0 0) (.slice none 0 0)) 51)).setRow w7.heap.size (evl 1 nonce (.slice ha hd.length hc) (.slice ba (k + 16) bc)) = w8 at *
    generalize w7.heap.size = gO at *
    have c18 : w8.cell? ⟨gO, 18, none⟩ = some (.slice ba (k + 16) bc) := by rw [cell_of_row _ _ _ _ _ _ RO]; exact evl_b _ _ hn _ _
    go_wp2_with (first | (refine wpList_load_want rfl 94 _ rfl gU rfl 94 #[.int .u64 1, .func (.func 71) #[] #[]] (0, 0) _ RU Tryz.underlying94 rfl infoR ?_) | fail)
    refine (a_fits1 k hkb ba bc w8).mono ?_
    rintro e_ w9 ⟨rfl, hb_⟩
    have l08 := lt_of_row R0
    replace R0 := keep hb_ R0
    replace RO := keep hb_ RO
    replace oH := oH.keep hb_
    replace oB := oB.keep hb_
    replace hw := Below.after hw hb_
    clear hb_ c18 RU
    by_cases hkk : k = bkd (dg 1) k
    ·rw [decide_eq_true hkk]
     rw [if_pos hkk.symm] at hpf
     replace hkk := hide hkk
     have RF := hide (setRow_heap w9 w.heap.size _ (evl 1 nonce (.slice ha hd.length hc) (.slice ba (k + 16) bc)) _ _ R0)
     have hwF := hide (below_setRow (g := w.heap.size) hw (Nat.le_refl _) (evl 1 nonce (.slice ha hd.length hc) (.slice ba (k + 16) bc)))
     have pH := hide (own_down (own_setRow (g := w.heap.size) oH (by omega) (evl 1 nonce (.slice ha hd.length hc) (.slice ba (k + 16) bc))) (Nat.le_trans hlow szc))
     have pB := hide (own_down (own_setRow (g := w.heap.size) oB (by omega) (evl 1 nonce (.slice ha hd.length hc) (.slice ba (k + 16) bc))) (Nat.le_trans hlow szc))
     clear hw oH oB
     go_wp2_with (first | (refine wpList_load_want rfl 51 _ rfl gO rfl 51 (evl 1 nonce (.slice ha hd.length hc) (.slice ba (k + 16) bc)) (0, 0) _ RO Tryz.underlying51 rfl (evl_info _ _ hn _ _) ?_) | (refine wpList_store_row rfl 51 _ _ rfl w.heap.size (evl 1 nonce (.slice ha hd.length hc) (.slice ba (k + 16) bc)) rfl rfl 51 _ R0 (evl_info _ _ hn _ _) (by rw [evl_size _ _ n16_len, evl_size _ _ hn]) (evl_one _ _ _ _ _ _ _ _) ?_) | fail)
     refine bodyPost_ret (results_row_slot Tryz.results22 _ _ w.heap.size _ _ _ _ _ rfl RF.out rfl Tryz.underlying51 rfl (evl_info _ _ hn _ _)) rfl ⟨?_, hwF.out⟩
     unfold PrE
     rw [hpf.out, hV1.out, hfs.out]
     show ∃ ha hc ba bc, _ = Ending.returned (.tuple #[.agg (evl 1 nonce (.slice ha hd.length hc) (.slice ba bd.length bc)), .nilIface]) ∧ Own _ _ (.slice ha hd.length hc) hd ∧ Own _ _ (.slice ba bd.length bc) bd ∧ ∀ k, (Value.slice ha hd.length hc).ownBlock = some k → (Value.slice ba bd.length bc).ownBlock ≠ some k
     rw [hk.out]
     exact ⟨ha, hc, ba, bc, rfl, pH.out, pB.out, hdis⟩
    ·rw [decide_eq_false hkk]
     rw [if_neg (fun h => hkk h.symm)] at hpf
     replace hkk := hide hkk
     clear oH oB RO
     have rF := hp1_0 w9 (.cells (frw ⟨0, 82, 102⟩) 35)
     have hbF : Below w9.heap.size w9 (w9.alloc (.cells (frw ⟨0, 82, 102⟩) 35)) := (Below.refl _ _).alloc (Nat.le_refl _) _
     have l10 := lt_of_row R0
     have szF := hw.size
     have R02 := keep hbF R0
     replace hw := Below.after hw hbF
     have RF := hide (setRow_heap _ w.heap.size _ (evl 0 n16 (.slice none 0 0) (.slice none 0 0)) _ _ R02)
     have hwF := hide (below_setRow (g := w.heap.size) hw (Nat.le_refl _) (evl 0 n16 (.slice none 0 0) (.slice none 0 0)))
     have hgF := hide ((setRow_other _ w.heap.size w9.heap.size (evl 0 n16 (.slice none 0 0) (.slice none 0 0)) (by omega)).trans rF)
     clear hw hbF rF
     unfold frw at *
     go_wp2_with (first | (refine wpList_build_want rfl 51 _ rfl [] rfl (evl 0 n16 (.slice none 0 0) (.slice none 0 0)) builtE0 ?_) | (refine wpList_store_row rfl 51 _ _ rfl w.heap.size (evl 0 n16 (.slice none 0 0) (.slice none 0 0)) rfl rfl 51 _ R02 (evl_info _ _ n16_len _ _) rfl (evl_one _ _ _ _ _ _ _ _) ?_) | fail)
     refine bodyPost_ret (results_row_slot Tryz.results22 _ _ w.heap.size _ _ _ _ _ rfl RF.out rfl Tryz.underlying51 rfl (evl_info _ _ n16_len _ _)) rfl ⟨?_, hwF.out⟩
     unfold PrE
     rw [hpf.out]
     exact ⟨_, rfl, szF, hgF.out⟩
  ·have hV1 : Hid (riV d = 2) := hide hV
   rw [show riR d = #[.int .u64 2, .func (.func 72) #[] #[]] by unfold riR; rw [if_pos hE0, hV]; rfl] at RU ⊢
   clear hV
   replace hE0 := hide hE0
   go_wp2_with (first | (refine wpList_load_want rfl 94 _ rfl gU rfl 94 #[.int .u64 2, .func (.func 72) #[] #[]] (0, 0) _ RU Tryz.underlying94 rfl infoR ?_) | fail)
   refine (a_codecE2 x1).mono ?_
   rintro e_ x2 ⟨⟨q, rfl, hq1, hC⟩, hb_⟩
   have l0_ := lt_of_row R0
   have lU_ := lt_of_row RU
   replace R0 := keep hb_ R0
   replace RU := keep hb_ RU
   replace hB := hB.keep hb_
   replace hw := Below.after hw hb_
   have szc := hb_.size
   clear hb_
   have cDe := hide (a_DecodeF esl2_flat d (.slice bao d.length bcp) x2 hC hB (fun a l c h => hcap a l c h))
   clear hC
   go_wp2_with (fail)
   refine cDe.out.mono ?_
   rintro e_ w3 ⟨hD, hb_⟩
   have sz2 := hw.size
   have l0b := lt_of_row R0
   have lUb := lt_of_row RU
   replace R0 := keep hb_ R0
   replace RU := keep hb_ RU
   replace hw := Below.after hw hb_
   have sz3 := hb_.size
   clear hb_ cDe hB hcap
   obtain ⟨R, hR⟩ : ∃ R, dec8 (esl 2) d 0 = R := ⟨_, rfl⟩
   unfold Dcr at hD
   rw [hR] at hD
   cases R with
   | some x =>
    obtain ⟨g, rfl, hg1, hg2⟩ := hD
    have hpf : Hid (paF d = some x) := hide (by unfold paF; rw [if_neg (by rw [hE0.out]; simp), hV1.out, hR])
    clear hR
    have rZ := hp1_0 w3 (.cells #[.int .u64 0, .slice none 0 0, .slice none 0 0] 78)
    have hne := neq_fault (.pointer (some ⟨g, 0, none⟩))
    have hone : (#[Value.int .u64 0, .slice none 0 0, .slice none 0 0] : Array Value).all (·.oneCell') = true := by simp [Value.oneCell']
    have hb5 : Below w3.heap.size w3 ((w3.alloc (.cells #[.int .u64 0, .slice none 0 0, .slice none 0 0] 78)).setRow w3.heap.size #[.int .u64 0, .slice none 0 0, .slice none 0 0]) := below_setRow ((Below.refl _ _).alloc (Nat.le_refl _) _) (Nat.le_refl _) #[.int .u64 0, .slice none 0 0, .slice none 0 0]
    have R05 := keep hb5 R0
    have hg5 := keep hb5 hg2
    replace hw := Below.after hw hb5
    have RF := hide (setRow_heap _ w.heap.size _ (evl 0 n16 (.slice none 0 0) (.slice none 0 0)) _ _ R05)
    have hwF := hide (below_setRow (g := w.heap.size) hw (Nat.le_refl _) (evl 0 n16 (.slice none 0 0) (.slice none 0 0)))
    have hgF := hide ((setRow_other _ w.heap.size g (evl 0 n16 (.slice none 0 0) (.slice none 0 0)) (by omega)).trans hg5)
    clear hw hb5 hg5 hg2
    go_wp2_with (first | (refine wpList_store_row rfl 78 _ _ rfl w3.heap.size #[.int .u64 0, .slice none 0 0, .slice none 0 0] rfl rfl 78 _ rZ infoV rfl hone ?_) | (refine wpList_build_want rfl 51 _ rfl [] rfl (evl 0 n16 (.slice none 0 0) (.slice none 0 0)) builtE0 ?_) | (refine wpList_store_row rfl 51 _ _ rfl w.heap.size (evl 0 n16 (.slice none 0 0) (.slice none 0 0)) rfl rfl 51 _ R05 (evl_info _ _ n16_len _ _) rfl (evl_one _ _ _ _ _ _ _ _) ?_) | fail)
    refine bodyPost_ret (results_row_slot Tryz.results22 _ _ w.heap.size _ _ _ _ _ rfl RF.out rfl Tryz.underlying51 rfl (evl_info _ _ n16_len _ _)) rfl ⟨?_, hwF.out⟩
    unfold PrE
    rw [hpf.out]
    exact ⟨g, rfl, by omega, hgF.out⟩
   | none =>
    obtain ⟨pv, fv, us, rfl, hO, hF⟩ := hD
    obtain ⟨hd0, nonce, hd, bd, hfs, hn, h60, h80, hmo⟩ := dec_esl hR
    rw [hfs] at hO hF
    obtain ⟨k, hk⟩ : ∃ k, bd.length = k + 16 := ⟨bd.length - 16, by omega⟩
    have hkb : k ≤ 1152921504606846000 := by have := (show mo 2 = 1179664 from rfl); omega
    obtain ⟨pb, pc, rfl, hpb1, hpb2, hra⟩ := own_rangeR hO (by simp [efs])
    have hu : us.length = 4 := hF.2.1
    obtain ⟨g1, c1, e1, hc1, hgb1, hgl1, hr1⟩ := own_range (hF.2.2.1 1 (by omega)) (by show 0 < nonce.length; omega)
    have oH : Own w3 x2.heap.size (gv us 2) hd := hF.2.2.1 2 (by omega)
    have oB : Own w3 x2.heap.size (gv us 3) bd := hF.2.2.1 3 (by omega)
    have hdis := hF.2.2.2.2 2 3 (by omega) (by omega)
    obtain ⟨ha, hc, eH⟩ := slen_own oH
    obtain ⟨ba, bc, eB⟩ := slen_own oB
    rw [hk] at eB
    rw [eH] at oH
    rw [eB] at oB
    rw [eH, eB] at hdis
    have hvr : vrk (efs 2 nonce hd bd) us 4 = [.int .u64 2, gv us 0, .slice none 0 0, .int .u64 0, .slice (some ⟨g1, 0, none⟩) 16 c1, .slice none 0 0, .int .u64 0, .slice ha hd.length hc, .slice none 0 0, .int .u64 0, .slice ba (k + 16) bc, .slice none 0 0] := by
     have q1 : gv us 1 = .slice (some ⟨g1, 0, none⟩) 16 c1 := by rw [e1]; show Value.slice _ nonce.length _ = _; rw [hn]
     rw [← q1, ← eH, ← eB]
     rfl
    have hra' : w3.rangeAt pb 0 [.int .u64 2, gv us 0, .slice none 0 0, .int .u64 0, .slice (some ⟨g1, 0, none⟩) 16 c1, .slice none 0 0, .int .u64 0, .slice ha hd.length hc, .slice none 0 0, .int .u64 0, .slice ba (k + 16) bc, .slice none 0 0] := by rw [← hvr]; exact hra
    replace hra := hra'
    replace hr1 : w3.rangeAt g1 0 ((bl nonce).map (Value.int .u8)) := hr1
    have hpf : Hid (paF d = if bkd (dg 2) k = k then none else some ⟨0, 82, 102⟩) := hide (by
     unfold paF
     rw [if_neg (by rw [hE0.out]; simp), hV1.out, hR]
     simp only
     rw [hfs, show (gf (efs 2 nonce hd bd) 3).dat = bd from rfl, hk, Nat.add_sub_cancel])
    replace hfs := hide hfs
    replace hk := hide hk
    clear hra' hvr e1 hO hF hd0 hu hc1 eH eB hR h80 hmo h60
    generalize gv us 0 = u0 at *
    have rZ := hp1_0 w3 (.cells #[.int .u64 0, .slice none 0 0, .slice none 0 0] 78)
    have hnn := neq_nils
    have hone : (#[Value.int .u64 0, .slice none 0 0, .slice (some ⟨pb, 0, none⟩) 4 pc] : Array Value).all (·.oneCell') = true := by simp [Value.oneCell']
    have hb5 : Below w3.heap.size w3 ((w3.alloc (.cells #[.int .u64 0, .slice none 0 0, .slice none 0 0] 78)).setRow w3.heap.size #[.int .u64 0, .slice none 0 0, .slice (some ⟨pb, 0, none⟩) 4 pc]) := below_setRow ((Below.refl _ _).alloc (Nat.le_refl _) _) (Nat.le_refl _) #[.int .u64 0, .slice none 0 0, .slice (some ⟨pb, 0, none⟩) 4 pc]
    have rV := setRow_heap _ w3.heap.size _ #[.int .u64 0, .slice none 0 0, .slice (some ⟨pb, 0, none⟩) 4 pc] _ _ rZ
    have l03 := lt_of_row R0
    have lU3 := lt_of_row RU
    replace R0 := keep hb5 R0
    replace RU := keep hb5 RU
    replace oH := oH.keep hb5
    replace oB := oB.keep hb5
    replace hw := Below.after hw hb5
    replace hra := rangeS_keep2 hra hb5 hpb2
    replace hr1 := rangeS_keep2 hr1 hb5 hgl1
    have lV3 := lt_of_row rV
    clear hb5
    have A1 := hide R0
    have A2 := hide hw
    have A3 := hide hra
    have A4 := hide hr1
    have A5 := hide RU
    have A6 := hide oH
    have A9 := hide oB
    have A8 := hide lV3
    clear R0 hw hra hr1 RU oH oB lV3
    go_wp2_with (first | (refine wpList_store_row rfl 78 _ _ rfl w3.heap.size #[.int .u64 0, .slice none 0 0, .slice (some ⟨pb, 0, none⟩) 4 pc] rfl rfl 78 _ rZ infoV rfl hone ?_) | (refine wpList_load_want rfl 78 _ rfl w3.heap.size rfl 78 #[.int .u64 0, .slice none 0 0, .slice (some ⟨pb, 0, none⟩) 4 pc] (0, 0) _ rV Tryz.underlying78 rfl infoV ?_) | fail)
    clear rZ
    have R0 := A1.out
    have hw := A2.out
    have hra := A3.out
    have hr1 := A4.out
    have RU := A5.out
    have oH := A6.out
    have oB := A9.out
    have lV6 := A8.out
    clear A1 A2 A3 A4 A5 A6 A8 A9
    generalize (w3.alloc (.cells #[.int .u64 0, .slice none 0 0, .slice none 0 0] 78)).setRow w3.heap.size #[.int .u64 0, .slice none 0 0, .slice (some ⟨pb, 0, none⟩) 4 pc] = w6 at *
    refine (a_envelopeOf2 nonce hn ha hd.length hc ba (k + 16) bc pb pc g1 c1 u0 w6 (by omega) (by omega) hra hr1).mono ?_
    rintro e_ w7 ⟨rfl, hb_⟩
    have l06 := lt_of_row R0
    have lU6 := lt_of_row RU
    replace R0 := keep hb_ R0
    replace RU := keep hb_ RU
    replace oH := oH.keep hb_
    replace oB := oB.keep hb_
    replace hw := Below.after hw hb_
    have sz7 := hb_.size
    clear hb_ hra hr1 rV hone
    have z_ := hp1_0 w7 (.cells (evl 0 n16 (.slice none 0 0) (.slice none 0 0)) 51)
    go_wp2_with (first | (refine wpList_alloc rfl 51 rfl (evl 0 n16 (.slice none 0 0) (.slice none 0 0)) zEnv ?_) | (refine wpList_store_row rfl 51 _ _ rfl w7.heap.size (evl 2 nonce (.slice ha hd.length hc) (.slice ba (k + 16) bc)) rfl rfl 51 _ z_ (evl_info _ _ hn _ _) (by rw [evl_size _ _ n16_len, evl_size _ _ hn]) (evl_one _ _ _ _ _ _ _ _) ?_; refine wpList_stay ?_) | fail)
    unfold WpStay
    try simp only [Act.put, List.setIfInBounds_toArray, List.set_cons_succ, List.set_cons_zero]
    have RO := setRow_heap (w7.alloc (.cells (evl 0 n16 (.slice none 0 0) (.slice none 0 0)) 51)) w7.heap.size _ (evl 2 nonce (.slice ha hd.length hc) (.slice ba (k + 16) bc)) _ _ z_
    have hb_ : Below w7.heap.size w7 ((w7.alloc (.cells (evl 0 n16 (.slice none 0 0) (.slice none 0 0)) 51)).setRow w7.heap.size (evl 2 nonce (.slice ha hd.length hc) (.slice ba (k + 16) bc))) := below_setRow ((Below.refl _ _).alloc (Nat.le_refl _) _) (Nat.le_refl _) _
    clear z_
    have l07 := lt_of_row R0
    have lU7 := lt_of_row RU
    replace R0 := keep hb_ R0
    replace RU := keep hb_ RU
    replace oH := oH.keep hb_
    replace oB := oB.keep hb_
    replace hw := Below.after hw hb_
    clear hb_
    generalize (w7.alloc (.cells (evl 0 n16 (.slice none 0 0) (.slice none 0 0)) 51)).setRow w7.heap.size (evl 2 nonce (.slice ha hd.length hc) (.slice ba (k + 16) bc)) = w8 at *
    generalize w7.heap.size = gO at *
    have c18 : w8.cell? ⟨gO, 18, none⟩ = some (.slice ba (k + 16) bc) := by rw [cell_of_row _ _ _ _ _ _ RO]; exact evl_b _ _ hn _ _
    go_wp2_with (first | (refine wpList_load_want rfl 94 _ rfl gU rfl 94 #[.int .u64 2, .func (.func 72) #[] #[]] (0, 0) _ RU Tryz.underlying94 rfl infoR ?_) | fail)
    refine (a_fits2 k hkb ba bc w8).mono ?_
    rintro e_ w9 ⟨rfl, hb_⟩
    have l08 := lt_of_row R0
    replace R0 := keep hb_ R0
    replace RO := keep hb_ RO
    replace oH := oH.keep hb_
    replace oB := oB.keep hb_
    replace hw := Below.after hw hb_
    clear hb_ c18 RU
    by_cases hkk : k = bkd (dg 2) k
    ·rw [decide_eq_true hkk]
     rw [if_pos hkk.symm] at hpf
     replace hkk := hide hkk
     have RF := hide (setRow_heap w9 w.heap.size _ (evl 2 nonce (.slice ha hd.length hc) (.slice ba (k + 16) bc)) _ _ R0)
     have hwF := hide (below_setRow (g := w.heap.size) hw (Nat.le_refl _) (evl 2 nonce (.slice ha hd.length hc) (.slice ba (k + 16) bc)))
     have pH := hide (own_down (own_setRow (g := w.heap.size) oH (by omega) (evl 2 nonce (.slice ha hd.length hc) (.slice ba (k + 16) bc))) (Nat.le_trans hlow szc))
     have pB := hide (own_down (own_setRow (g := w.heap.size) oB (by omega) (evl 2 nonce (.slice ha hd.length hc) (.slice ba (k + 16) bc))) (Nat.le_trans hlow szc))
     clear hw oH oB
     go_wp2_with (first | (refine wpList_load_want rfl 51 _ rfl gO rfl 51 (evl 2 nonce (.slice ha hd.length hc) (.slice ba (k + 16) bc)) (0, 0) _ RO Tryz.underlying51 rfl (evl_info _ _ hn _ _) ?_) | (refine wpList_store_row rfl 51 _ _ rfl w.heap.size (evl 2 nonce (.slice ha hd.length hc) (.slice ba (k + 16) bc)) rfl rfl 51 _ R0 (evl_info _ _ hn _ _) (by rw [evl_size _ _ n16_len, evl_size _ _ hn]) (evl_one _ _ _ _ _ _ _ _) ?_) | fail)
     refine bodyPost_ret (results_row_slot Tryz.results22 _ _ w.heap.size _ _ _ _ _ rfl RF.out rfl Tryz.underlying51 rfl (evl_info _ _ hn _ _)) rfl ⟨?_, hwF.out⟩
     unfold PrE
     rw [hpf.out, hV1.out, hfs.out]
     show ∃ ha hc ba bc, _ = Ending.returned (.tuple #[.agg (evl 2 nonce (.slice ha hd.length hc) (.slice ba bd.length bc)), .nilIface]) ∧ Own _ _ (.slice ha hd.length hc) hd ∧ Own _ _ (.slice ba bd.length bc) bd ∧ ∀ k, (Value.slice ha hd.length hc).ownBlock = some k → (Value.slice ba bd.length bc).ownBlock ≠ some k
     rw [hk.out]
     exact ⟨ha, hc, ba, bc, rfl, pH.out, pB.out, hdis⟩
    ·rw [decide_eq_false hkk]
     rw [if_neg (fun h => hkk h.symm)] at hpf
     replace hkk := hide hkk
     clear oH oB RO
     have rF := hp1_0 w9 (.cells (frw ⟨0, 82, 102⟩) 35)
     have hbF : Below w9.heap.size w9 (w9.alloc (.cells (frw ⟨0, 82, 102⟩) 35)) := (Below.refl _ _).alloc (Nat.le_refl _) _
     have l10 := lt_of_row R0
     have szF := hw.size
     have R02 := keep hbF R0
     replace hw := Below.after hw hbF
     have RF := hide (setRow_heap _ w.heap.size _ (evl 0 n16 (.slice none 0 0) (.slice none 0 0)) _ _ R02)
     have hwF := hide (below_setRow (g := w.heap.size) hw (Nat.le_refl _) (evl 0 n16 (.slice none 0 0) (.slice none 0 0)))
     have hgF := hide ((setRow_other _ w.heap.size w9.heap.size (evl 0 n16 (.slice none 0 0) (.slice none 0 0)) (by omega)).trans rF)
     clear hw hbF rF
     unfold frw at *
     go_wp2_with (first | (refine wpList_build_want rfl 51 _ rfl [] rfl (evl 0 n16 (.slice none 0 0) (.slice none 0 0)) builtE0 ?_) | (refine wpList_store_row rfl 51 _ _ rfl w.heap.size (evl 0 n16 (.slice none 0 0) (.slice none 0 0)) rfl rfl 51 _ R02 (evl_info _ _ n16_len _ _) rfl (evl_one _ _ _ _ _ _ _ _) ?_) | fail)
     refine bodyPost_ret (results_row_slot Tryz.results22 _ _ w.heap.size _ _ _ _ _ rfl RF.out rfl Tryz.underlying51 rfl (evl_info _ _ n16_len _ _)) rfl ⟨?_, hwF.out⟩
     unfold PrE
     rw [hpf.out]
     exact ⟨_, rfl, szF, hgF.out⟩
 ·have hpf : Hid (paF d = some ⟨0, riA d, riE d⟩) := hide (by unfold paF; rw [if_pos hE0])
  obtain ⟨E, hE⟩ : ∃ E, riE d = E := ⟨_, rfl⟩
  obtain ⟨A, hA⟩ : ∃ A, riA d = A := ⟨_, rfl⟩
  rw [hE, hA] at hpf
  rw [hE, hA]
  rw [hE] at hE0
  have hE1 : (E != 0) = true := by simpa using hE0
  clear hE hA RU hE0
  have rF := hp1_0 x1 (.cells (frw ⟨0, A, E⟩) 35)
  have hbF : Below x1.heap.size x1 (x1.alloc (.cells (frw ⟨0, A, E⟩) 35)) := (Below.refl _ _).alloc (Nat.le_refl _) _
  have l10 := lt_of_row R0
  have szF := hw.size
  have R02 := keep hbF R0
  replace hw := Below.after hw hbF
  have RF := hide (setRow_heap _ w.heap.size _ (evl 0 n16 (.slice none 0 0) (.slice none 0 0)) _ _ R02)
  have hwF := hide (below_setRow (g := w.heap.size) hw (Nat.le_refl _) (evl 0 n16 (.slice none 0 0) (.slice none 0 0)))
  have hgF := hide ((setRow_other _ w.heap.size x1.heap.size (evl 0 n16 (.slice none 0 0) (.slice none 0 0)) (by omega)).trans rF)
  clear hw hbF rF
  unfold frw at *
  go_wp2_with (first | (refine wpList_build_want rfl 51 _ rfl [] rfl (evl 0 n16 (.slice none 0 0) (.slice none 0 0)) builtE0 ?_) | (refine wpList_store_row rfl 51 _ _ rfl w.heap.size (evl 0 n16 (.slice none 0 0) (.slice none 0 0)) rfl rfl 51 _ R02 (evl_info _ _ n16_len _ _) rfl (evl_one _ _ _ _ _ _ _ _) ?_) | fail)
  refine bodyPost_ret (results_row_slot Tryz.results22 _ _ w.heap.size _ _ _ _ _ rfl RF.out rfl Tryz.underlying51 rfl (evl_info _ _ n16_len _ _)) rfl ⟨?_, hwF.out⟩
  unfold PrE
  rw [hpf.out]
  exact ⟨_, rfl, szF, hgF.out⟩
end Go.Proofs.YtjoohgkgkabbpaaGreatDoor

